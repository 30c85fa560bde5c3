/-
  What the functions that the statement reaches return: part 20 (V7).
-/
import Derived.Deep.RegionHeld3
import Derived.Test.YtkmlbjlaahcahaaGreatDoorVa19
namespace Go.Proofs.YtkmlbjlaahcahaaGreatDoor
set_option maxRecDepth 100000
open Go.RowKit WMath
set_option linter.unusedSimpArgs false
set_option linter.unusedVariables false
theorem gen_abacusref08_Value_7 {X : Act → World → Prop} {R : World → Nat → Prop} {t0 t1 t2 t3 t4 t5 t6 t8 t9 t10 t11 t12 t13 t14 t15 t16 t17 t18 t19 t20 t21 t22 t23 t24 t25 t26 t27 t28 t29 t30 t31 t32 : Value} {d : List Deferred} {W : World} {G : Nat}
    (key : ∀ w5 g, R w5 g → X ⟨#[t0, t1, t2, t3, t4, t5, t6, .pointer (some ⟨g, 0, none⟩), t8, t9, t10, t11, t12, t13, t14, t15, t16, t17, t18, t19, t20, t21, t22, t23, t24, t25, t26, t27, t28, t29, t30, t31, t32], d⟩ w5) (r : R W G) : X ⟨#[t0, t1, t2, t3, t4, t5, t6, .pointer (some ⟨G, 0, none⟩), t8, t9, t10, t11, t12, t13, t14, t15, t16, t17, t18, t19, t20, t21, t22, t23, t24, t25, t26, t27, t28, t29, t30, t31, t32], d⟩ W := key W G r

set_option maxRecDepth 100000 in
set_option maxHeartbeats 1000000 in
theorem rvalue_inf (f : Int) (x y c s rr : Nat) (X : Int) (w : World)
    (KU : Box (∀ w, Calls Tryz.prog 40 #[.int .u8 f, .agg #[.int .u64 (x : Nat), .int .u64 (y : Nat)]] w fun r w' => r = .returned (.agg (pt c s X rr)) ∧ Below w.heap.size w w'))
    (hc : c = 8 ∨ c = 9 ∨ c = 0 ∨ c = 7) : Calls Tryz.prog 10 #[.int .u8 f, .agg #[.int .u64 (x : Nat), .int .u64 (y : Nat)]] w fun r w' => r = .returned (.tuple #[.agg #[.bool false, .string ⟨#[]⟩, .string ⟨#[]⟩, .int .i64 0], .int .i64 80]) ∧ Below w.heap.size w w' := by
  have hp1 := ptf
  have hp3 := ptz
  have hp4 := st_p0
  have hp5 : ∀ (c s : Nat) (x : Int) (r : Nat), ((pt c s x r).size = 14) = True := fun _ _ _ _ => eq_true rfl
  rcases hc with rfl | rfl | rfl | rfl
  · obtain ⟨Rb_0, Rz_0, B0⟩ := opn2 w (Obj.cells #[.int .u64 (x : Nat), .int .u64 (y : Nat)] 25) (Obj.cells #[.bool false, .string ⟨#[]⟩, .string ⟨#[]⟩, .int .i64 0] 28)
    go_enter Tryz.func10, Tryz.ntmps10
    go_wp2_with fail
    refine (KU.out _).mono ?_
    rintro r w1 ⟨rfl, b1⟩
    have B1 : Below w.heap.size w w1 := btr B0 b1
    have Rb_1 := heap_of b1 _ _ _ Rb_0
    have Rz_1 := heap_of b1 _ _ _ Rz_0
    clear b1 B0 Rb_0 Rz_0
    obtain ⟨cb_1_0, cb_1_1⟩ := cells2s Rb_1
    obtain ⟨cz_1_0, cz_1_1, cz_1_2, cz_1_3⟩ := cells4s Rz_1
    have S2 := box B1.size
    have Lb_2 : Box (w.heap.size < w1.heap.size) := box (Array.getElem?_eq_some_iff.1 Rb_1).1
    have Lz_2 : Box (w.heap.size + 1 < w1.heap.size) := box (Array.getElem?_eq_some_iff.1 Rz_1).1
    have Rp_2 := heap_alloc_last w1 (Obj.cells (pt 8 s X rr) 55)
    have B2 := btr B1 (bal w1 (Obj.cells (pt 8 s X rr) 55))
    have Rb_2 := heap_of (bal w1 (Obj.cells (pt 8 s X rr) 55)) _ _ _ Rb_1
    have Rz_2 := heap_of (bal w1 (Obj.cells (pt 8 s X rr) 55)) _ _ _ Rz_1
    clear B1 Rb_1 cb_1_0 cb_1_1 Rz_1 cz_1_0 cz_1_1 cz_1_2 cz_1_3
    obtain ⟨cb_2_0, cb_2_1⟩ := cells2s Rb_2
    obtain ⟨cz_2_0, cz_2_1, cz_2_2, cz_2_3⟩ := cells4s Rz_2
    obtain ⟨cp_2_0, cp_2_1, cp_2_2, cp_2_3, cp_2_4, cp_2_5, cp_2_6, cp_2_7, cp_2_8, cp_2_9, cp_2_10, cp_2_11, cp_2_12, cp_2_13⟩ := pt_cells Rp_2
    have q0 := fz (k := 0) Rz_2
    have q1 := fz (k := 1) Rz_2
    have q2 := fz (k := 2) Rz_2
    have q3 := fz (k := 3) Rz_2
    obtain ⟨E0, E1, E2, E3⟩ := set4_cells Rz_2 rfl (.bool false) (.string ⟨#[]⟩) (.string ⟨#[]⟩) (.int .i64 0)
    go_wp2
    exact bodyPost_ret (v := .tuple #[.agg #[.bool false, .string ⟨#[]⟩, .string ⟨#[]⟩, .int .i64 0], .int .i64 80]) (by simp [results, Tryz.results10, go_sem, E0, E1, E2, E3]) rfl ⟨rfl, set4_below B2 (by first | exact Nat.le_refl _ | omega) _ _ _ _⟩
  · obtain ⟨Rb_0, Rz_0, B0⟩ := opn2 w (Obj.cells #[.int .u64 (x : Nat), .int .u64 (y : Nat)] 25) (Obj.cells #[.bool false, .string ⟨#[]⟩, .string ⟨#[]⟩, .int .i64 0] 28)
    go_enter Tryz.func10, Tryz.ntmps10
    go_wp2_with fail
    refine (KU.out _).mono ?_
    rintro r w1 ⟨rfl, b1⟩
    have B1 : Below w.heap.size w w1 := btr B0 b1
    have Rb_1 := heap_of b1 _ _ _ Rb_0
    have Rz_1 := heap_of b1 _ _ _ Rz_0
    clear b1 B0 Rb_0 Rz_0
    obtain ⟨cb_1_0, cb_1_1⟩ := cells2s Rb_1
    obtain ⟨cz_1_0, cz_1_1, cz_1_2, cz_1_3⟩ := cells4s Rz_1
    have S2 := box B1.size
    have Lb_2 : Box (w.heap.size < w1.heap.size) := box (Array.getElem?_eq_some_iff.1 Rb_1).1
    have Lz_2 : Box (w.heap.size + 1 < w1.heap.size) := box (Array.getElem?_eq_some_iff.1 Rz_1).1
    have Rp_2 := heap_alloc_last w1 (Obj.cells (pt 9 s X rr) 55)
    have B2 := btr B1 (bal w1 (Obj.cells (pt 9 s X rr) 55))
    have Rb_2 := heap_of (bal w1 (Obj.cells (pt 9 s X rr) 55)) _ _ _ Rb_1
    have Rz_2 := heap_of (bal w1 (Obj.cells (pt 9 s X rr) 55)) _ _ _ Rz_1
    clear B1 Rb_1 cb_1_0 cb_1_1 Rz_1 cz_1_0 cz_1_1 cz_1_2 cz_1_3
    obtain ⟨cb_2_0, cb_2_1⟩ := cells2s Rb_2
    obtain ⟨cz_2_0, cz_2_1, cz_2_2, cz_2_3⟩ := cells4s Rz_2
    obtain ⟨cp_2_0, cp_2_1, cp_2_2, cp_2_3, cp_2_4, cp_2_5, cp_2_6, cp_2_7, cp_2_8, cp_2_9, cp_2_10, cp_2_11, cp_2_12, cp_2_13⟩ := pt_cells Rp_2
    have q0 := fz (k := 0) Rz_2
    have q1 := fz (k := 1) Rz_2
    have q2 := fz (k := 2) Rz_2
    have q3 := fz (k := 3) Rz_2
    obtain ⟨E0, E1, E2, E3⟩ := set4_cells Rz_2 rfl (.bool false) (.string ⟨#[]⟩) (.string ⟨#[]⟩) (.int .i64 0)
    go_wp2
    exact bodyPost_ret (v := .tuple #[.agg #[.bool false, .string ⟨#[]⟩, .string ⟨#[]⟩, .int .i64 0], .int .i64 80]) (by simp [results, Tryz.results10, go_sem, E0, E1, E2, E3]) rfl ⟨rfl, set4_below B2 (by first | exact Nat.le_refl _ | omega) _ _ _ _⟩
  · obtain ⟨Rb_0, Rz_0, B0⟩ := opn2 w (Obj.cells #[.int .u64 (x : Nat), .int .u64 (y : Nat)] 25) (Obj.cells #[.bool false, .string ⟨#[]⟩, .string ⟨#[]⟩, .int .i64 0] 28)
    go_enter Tryz.func10, Tryz.ntmps10
    go_wp2_with fail
    refine (KU.out _).mono ?_
    rintro r w1 ⟨rfl, b1⟩
    have B1 : Below w.heap.size w w1 := btr B0 b1
    have Rb_1 := heap_of b1 _ _ _ Rb_0
    have Rz_1 := heap_of b1 _ _ _ Rz_0
    clear b1 B0 Rb_0 Rz_0
    obtain ⟨cb_1_0, cb_1_1⟩ := cells2s Rb_1
    obtain ⟨cz_1_0, cz_1_1, cz_1_2, cz_1_3⟩ := cells4s Rz_1
    have S2 := box B1.size
    have Lb_2 : Box (w.heap.size < w1.heap.size) := box (Array.getElem?_eq_some_iff.1 Rb_1).1
    have Lz_2 : Box (w.heap.size + 1 < w1.heap.size) := box (Array.getElem?_eq_some_iff.1 Rz_1).1
    have Rp_2 := heap_alloc_last w1 (Obj.cells (pt 0 s X rr) 55)
    have B2 := btr B1 (bal w1 (Obj.cells (pt 0 s X rr) 55))
    have Rb_2 := heap_of (bal w1 (Obj.cells (pt 0 s X rr) 55)) _ _ _ Rb_1
    have Rz_2 := heap_of (bal w1 (Obj.cells (pt 0 s X rr) 55)) _ _ _ Rz_1
    clear B1 Rb_1 cb_1_0 cb_1_1 Rz_1 cz_1_0 cz_1_1 cz_1_2 cz_1_3
    obtain ⟨cb_2_0, cb_2_1⟩ := cells2s Rb_2
    obtain ⟨cz_2_0, cz_2_1, cz_2_2, cz_2_3⟩ := cells4s Rz_2
    obtain ⟨cp_2_0, cp_2_1, cp_2_2, cp_2_3, cp_2_4, cp_2_5, cp_2_6, cp_2_7, cp_2_8, cp_2_9, cp_2_10, cp_2_11, cp_2_12, cp_2_13⟩ := pt_cells Rp_2
    have q0 := fz (k := 0) Rz_2
    have q1 := fz (k := 1) Rz_2
    have q2 := fz (k := 2) Rz_2
    have q3 := fz (k := 3) Rz_2
    obtain ⟨E0, E1, E2, E3⟩ := set4_cells Rz_2 rfl (.bool false) (.string ⟨#[]⟩) (.string ⟨#[]⟩) (.int .i64 0)
    go_wp2
    exact bodyPost_ret (v := .tuple #[.agg #[.bool false, .string ⟨#[]⟩, .string ⟨#[]⟩, .int .i64 0], .int .i64 80]) (by simp [results, Tryz.results10, go_sem, E0, E1, E2, E3]) rfl ⟨rfl, set4_below B2 (by first | exact Nat.le_refl _ | omega) _ _ _ _⟩
  · obtain ⟨Rb_0, Rz_0, B0⟩ := opn2 w (Obj.cells #[.int .u64 (x : Nat), .int .u64 (y : Nat)] 25) (Obj.cells #[.bool false, .string ⟨#[]⟩, .string ⟨#[]⟩, .int .i64 0] 28)
    go_enter Tryz.func10, Tryz.ntmps10
    go_wp2_with fail
    refine (KU.out _).mono ?_
    rintro r w1 ⟨rfl, b1⟩
    have B1 : Below w.heap.size w w1 := btr B0 b1
    have Rb_1 := heap_of b1 _ _ _ Rb_0
    have Rz_1 := heap_of b1 _ _ _ Rz_0
    clear b1 B0 Rb_0 Rz_0
    obtain ⟨cb_1_0, cb_1_1⟩ := cells2s Rb_1
    obtain ⟨cz_1_0, cz_1_1, cz_1_2, cz_1_3⟩ := cells4s Rz_1
    have S2 := box B1.size
    have Lb_2 : Box (w.heap.size < w1.heap.size) := box (Array.getElem?_eq_some_iff.1 Rb_1).1
    have Lz_2 : Box (w.heap.size + 1 < w1.heap.size) := box (Array.getElem?_eq_some_iff.1 Rz_1).1
    have Rp_2 := heap_alloc_last w1 (Obj.cells (pt 7 s X rr) 55)
    have B2 := btr B1 (bal w1 (Obj.cells (pt 7 s X rr) 55))
    have Rb_2 := heap_of (bal w1 (Obj.cells (pt 7 s X rr) 55)) _ _ _ Rb_1
    have Rz_2 := heap_of (bal w1 (Obj.cells (pt 7 s X rr) 55)) _ _ _ Rz_1
    clear B1 Rb_1 cb_1_0 cb_1_1 Rz_1 cz_1_0 cz_1_1 cz_1_2 cz_1_3
    obtain ⟨cb_2_0, cb_2_1⟩ := cells2s Rb_2
    obtain ⟨cz_2_0, cz_2_1, cz_2_2, cz_2_3⟩ := cells4s Rz_2
    obtain ⟨cp_2_0, cp_2_1, cp_2_2, cp_2_3, cp_2_4, cp_2_5, cp_2_6, cp_2_7, cp_2_8, cp_2_9, cp_2_10, cp_2_11, cp_2_12, cp_2_13⟩ := pt_cells Rp_2
    have q0 := fz (k := 0) Rz_2
    have q1 := fz (k := 1) Rz_2
    have q2 := fz (k := 2) Rz_2
    have q3 := fz (k := 3) Rz_2
    obtain ⟨E0, E1, E2, E3⟩ := set4_cells Rz_2 rfl (.bool false) (.string ⟨#[]⟩) (.string ⟨#[]⟩) (.int .i64 0)
    go_wp2
    exact bodyPost_ret (v := .tuple #[.agg #[.bool false, .string ⟨#[]⟩, .string ⟨#[]⟩, .int .i64 0], .int .i64 80]) (by simp [results, Tryz.results10, go_sem, E0, E1, E2, E3]) rfl ⟨rfl, set4_below B2 (by first | exact Nat.le_refl _ | omega) _ _ _ _⟩
set_option maxRecDepth 100000 in
set_option maxHeartbeats 2000000 in
theorem rvalue_yes (f : Int) (x y c s rr : Nat) (X : Int) (neg : Bool) (sg : ByteArray) (rb : Bool) (u v : ByteArray) (re err : Int) (w : World)
    (KU : Box (∀ w, Calls Tryz.prog 40 #[.int .u8 f, .agg #[.int .u64 (x : Nat), .int .u64 (y : Nat)]] w fun r w' => r = .returned (.agg (pt c s X rr)) ∧ Below w.heap.size w w'))
    (KS : Box (∀ w, Calls Tryz.prog 42 #[.int .u8 f, .agg #[.int .u64 (x : Nat), .int .u64 (y : Nat)]] w fun r w' => r = .returned (.bool neg) ∧ Below w.heap.size w w'))
    (KN : Box (∀ w, Calls Tryz.prog 43 #[.agg (cw 6 s)] w fun r w' => r = .returned (.string sg) ∧ Below w.heap.size w w'))
    (KM : Box (∀ w, Calls Tryz.prog 41 #[.bool neg, .string sg, .string ⟨#[1]⟩, .int .i64 X] w fun r w' => r = .returned (.tuple #[.agg #[.bool rb, .string u, .string v, .int .i64 re], .int .i64 err]) ∧ Below w.heap.size w w'))
    (h8 : ((c : Int) == 8) = false) (h9 : ((c : Int) == 9) = false) (h0 : ((c : Int) == 0) = false) (h7 : ((c : Int) == 7) = false) : Calls Tryz.prog 10 #[.int .u8 f, .agg #[.int .u64 (x : Nat), .int .u64 (y : Nat)]] w fun r w' => r = .returned (.tuple #[.agg #[.bool rb, .string u, .string v, .int .i64 re], .int .i64 0]) ∧ Below w.heap.size w w' := by
  have hat := cw_at 6
  have hz := cw6z
  have hff := cw6f
  have hs0 := st0
  have hcs : ∀ x, ((cw 6 x).size = 6) = True := fun x => eq_true (cw_size 6 x)
  have hp1 := ptf
  have hp3 := ptz
  have hp4 := st_p0
  have hp5 : ∀ (c s : Nat) (x : Int) (r : Nat), ((pt c s x r).size = 14) = True := fun _ _ _ _ => eq_true rfl
  obtain ⟨Rb_0, Rz_0, B0⟩ := opn2 w (Obj.cells #[.int .u64 (x : Nat), .int .u64 (y : Nat)] 25) (Obj.cells #[.bool false, .string ⟨#[]⟩, .string ⟨#[]⟩, .int .i64 0] 28)
  go_enter Tryz.func10, Tryz.ntmps10
  go_wp2_with fail
  refine (KU.out _).mono ?_
  rintro r w1 ⟨rfl, b1⟩
  have B1 : Below w.heap.size w w1 := btr B0 b1
  have Rb_1 := heap_of b1 _ _ _ Rb_0
  have Rz_1 := heap_of b1 _ _ _ Rz_0
  clear b1 B0 Rb_0 Rz_0
  obtain ⟨cb_1_0, cb_1_1⟩ := cells2s Rb_1
  obtain ⟨cz_1_0, cz_1_1, cz_1_2, cz_1_3⟩ := cells4s Rz_1
  have S2 := box B1.size
  have Lb_2 : Box (w.heap.size < w1.heap.size) := box (Array.getElem?_eq_some_iff.1 Rb_1).1
  have Lz_2 : Box (w.heap.size + 1 < w1.heap.size) := box (Array.getElem?_eq_some_iff.1 Rz_1).1
  have Rp_2 := heap_alloc_last w1 (Obj.cells (pt c s X rr) 55)
  have B2 := btr B1 (bal w1 (Obj.cells (pt c s X rr) 55))
  have Rb_2 := heap_of (bal w1 (Obj.cells (pt c s X rr) 55)) _ _ _ Rb_1
  have Rz_2 := heap_of (bal w1 (Obj.cells (pt c s X rr) 55)) _ _ _ Rz_1
  clear B1 Rb_1 cb_1_0 cb_1_1 Rz_1 cz_1_0 cz_1_1 cz_1_2 cz_1_3
  obtain ⟨cb_2_0, cb_2_1⟩ := cells2s Rb_2
  obtain ⟨cz_2_0, cz_2_1, cz_2_2, cz_2_3⟩ := cells4s Rz_2
  obtain ⟨cp_2_0, cp_2_1, cp_2_2, cp_2_3, cp_2_4, cp_2_5, cp_2_6, cp_2_7, cp_2_8, cp_2_9, cp_2_10, cp_2_11, cp_2_12, cp_2_13⟩ := pt_cells Rp_2
  go_wp2_with fail
  have sS : Box (∀ W W1 : World, (Below w.heap.size w W ∧ W.heap[w.heap.size]? = some (Obj.cells #[.int .u64 (x : Nat), .int .u64 (y : Nat)] 25) ∧ W.heap[w.heap.size + 1]? = some (Obj.cells #[.bool false, .string ⟨#[]⟩, .string ⟨#[]⟩, .int .i64 0] 28) ∧ W.heap[w1.heap.size]? = some (Obj.cells (pt c s X rr) 55) ∧ W.cell? ⟨w.heap.size, 0, none⟩ = some (.int .u64 (x : Nat)) ∧ W.cell? ⟨w.heap.size, 1, none⟩ = some (.int .u64 (y : Nat)) ∧ W.cell? ⟨w.heap.size + 1, 0, none⟩ = some (.bool false) ∧ W.cell? ⟨w.heap.size + 1, 1, none⟩ = some (.string ⟨#[]⟩) ∧ W.cell? ⟨w.heap.size + 1, 2, none⟩ = some (.string ⟨#[]⟩) ∧ W.cell? ⟨w.heap.size + 1, 3, none⟩ = some (.int .i64 0) ∧ W.cell? ⟨w1.heap.size, 0, none⟩ = some (.int .u8 (c : Nat)) ∧ W.cell? ⟨w1.heap.size, 1, none⟩ = some (.int .u64 ((wd s 0 : Nat) : Int)) ∧ W.cell? ⟨w1.heap.size, 2, none⟩ = some (.int .u64 ((wd s 1 : Nat) : Int)) ∧ W.cell? ⟨w1.heap.size, 3, none⟩ = some (.int .u64 ((wd s 2 : Nat) : Int)) ∧ W.cell? ⟨w1.heap.size, 4, none⟩ = some (.int .u64 ((wd s 3 : Nat) : Int)) ∧ W.cell? ⟨w1.heap.size, 5, none⟩ = some (.int .u64 ((wd s 4 : Nat) : Int)) ∧ W.cell? ⟨w1.heap.size, 6, none⟩ = some (.int .u64 ((wd s 5 : Nat) : Int)) ∧ W.cell? ⟨w1.heap.size, 7, none⟩ = some (.int .i64 X) ∧ W.cell? ⟨w1.heap.size, 8, none⟩ = some (.int .u64 ((wd rr 0 : Nat) : Int)) ∧ W.cell? ⟨w1.heap.size, 9, none⟩ = some (.int .u64 ((wd rr 1 : Nat) : Int)) ∧ W.cell? ⟨w1.heap.size, 10, none⟩ = some (.int .u64 ((wd rr 2 : Nat) : Int)) ∧ W.cell? ⟨w1.heap.size, 11, none⟩ = some (.int .u64 ((wd rr 3 : Nat) : Int)) ∧ W.cell? ⟨w1.heap.size, 12, none⟩ = some (.int .u64 ((wd rr 4 : Nat) : Int)) ∧ W.cell? ⟨w1.heap.size, 13, none⟩ = some (.int .u64 ((wd rr 5 : Nat) : Int))) → Below W.heap.size W W1 → (Below w.heap.size w W1 ∧ W1.heap[w.heap.size]? = some (Obj.cells #[.int .u64 (x : Nat), .int .u64 (y : Nat)] 25) ∧ W1.heap[w.heap.size + 1]? = some (Obj.cells #[.bool false, .string ⟨#[]⟩, .string ⟨#[]⟩, .int .i64 0] 28) ∧ W1.heap[w1.heap.size]? = some (Obj.cells (pt c s X rr) 55) ∧ W1.cell? ⟨w.heap.size, 0, none⟩ = some (.int .u64 (x : Nat)) ∧ W1.cell? ⟨w.heap.size, 1, none⟩ = some (.int .u64 (y : Nat)) ∧ W1.cell? ⟨w.heap.size + 1, 0, none⟩ = some (.bool false) ∧ W1.cell? ⟨w.heap.size + 1, 1, none⟩ = some (.string ⟨#[]⟩) ∧ W1.cell? ⟨w.heap.size + 1, 2, none⟩ = some (.string ⟨#[]⟩) ∧ W1.cell? ⟨w.heap.size + 1, 3, none⟩ = some (.int .i64 0) ∧ W1.cell? ⟨w1.heap.size, 0, none⟩ = some (.int .u8 (c : Nat)) ∧ W1.cell? ⟨w1.heap.size, 1, none⟩ = some (.int .u64 ((wd s 0 : Nat) : Int)) ∧ W1.cell? ⟨w1.heap.size, 2, none⟩ = some (.int .u64 ((wd s 1 : Nat) : Int)) ∧ W1.cell? ⟨w1.heap.size, 3, none⟩ = some (.int .u64 ((wd s 2 : Nat) : Int)) ∧ W1.cell? ⟨w1.heap.size, 4, none⟩ = some (.int .u64 ((wd s 3 : Nat) : Int)) ∧ W1.cell? ⟨w1.heap.size, 5, none⟩ = some (.int .u64 ((wd s 4 : Nat) : Int)) ∧ W1.cell? ⟨w1.heap.size, 6, none⟩ = some (.int .u64 ((wd s 5 : Nat) : Int)) ∧ W1.cell? ⟨w1.heap.size, 7, none⟩ = some (.int .i64 X) ∧ W1.cell? ⟨w1.heap.size, 8, none⟩ = some (.int .u64 ((wd rr 0 : Nat) : Int)) ∧ W1.cell? ⟨w1.heap.size, 9, none⟩ = some (.int .u64 ((wd rr 1 : Nat) : Int)) ∧ W1.cell? ⟨w1.heap.size, 10, none⟩ = some (.int .u64 ((wd rr 2 : Nat) : Int)) ∧ W1.cell? ⟨w1.heap.size, 11, none⟩ = some (.int .u64 ((wd rr 3 : Nat) : Int)) ∧ W1.cell? ⟨w1.heap.size, 12, none⟩ = some (.int .u64 ((wd rr 4 : Nat) : Int)) ∧ W1.cell? ⟨w1.heap.size, 13, none⟩ = some (.int .u64 ((wd rr 5 : Nat) : Int)))) := box (fun W W1 h b => ⟨btr h.1 b, heap_of b _ _ _ h.2.1, heap_of b _ _ _ h.2.2.1, heap_of b _ _ _ h.2.2.2.1, cell7 (heap_of b _ _ _ h.2.1) 0 _ rfl, cell7 (heap_of b _ _ _ h.2.1) 1 _ rfl, cell7 (heap_of b _ _ _ h.2.2.1) 0 _ rfl, cell7 (heap_of b _ _ _ h.2.2.1) 1 _ rfl, cell7 (heap_of b _ _ _ h.2.2.1) 2 _ rfl, cell7 (heap_of b _ _ _ h.2.2.1) 3 _ rfl, cell7 (heap_of b _ _ _ h.2.2.2.1) 0 _ rfl, cell7 (heap_of b _ _ _ h.2.2.2.1) 1 _ rfl, cell7 (heap_of b _ _ _ h.2.2.2.1) 2 _ rfl, cell7 (heap_of b _ _ _ h.2.2.2.1) 3 _ rfl, cell7 (heap_of b _ _ _ h.2.2.2.1) 4 _ rfl, cell7 (heap_of b _ _ _ h.2.2.2.1) 5 _ rfl, cell7 (heap_of b _ _ _ h.2.2.2.1) 6 _ rfl, cell7 (heap_of b _ _ _ h.2.2.2.1) 7 _ rfl, cell7 (heap_of b _ _ _ h.2.2.2.1) 8 _ rfl, cell7 (heap_of b _ _ _ h.2.2.2.1) 9 _ rfl, cell7 (heap_of b _ _ _ h.2.2.2.1) 10 _ rfl, cell7 (heap_of b _ _ _ h.2.2.2.1) 11 _ rfl, cell7 (heap_of b _ _ _ h.2.2.2.1) 12 _ rfl, cell7 (heap_of b _ _ _ h.2.2.2.1) 13 _ rfl⟩)
  have sL : Box (∀ W : World, (Below w.heap.size w W ∧ W.heap[w.heap.size]? = some (Obj.cells #[.int .u64 (x : Nat), .int .u64 (y : Nat)] 25) ∧ W.heap[w.heap.size + 1]? = some (Obj.cells #[.bool false, .string ⟨#[]⟩, .string ⟨#[]⟩, .int .i64 0] 28) ∧ W.heap[w1.heap.size]? = some (Obj.cells (pt c s X rr) 55) ∧ W.cell? ⟨w.heap.size, 0, none⟩ = some (.int .u64 (x : Nat)) ∧ W.cell? ⟨w.heap.size, 1, none⟩ = some (.int .u64 (y : Nat)) ∧ W.cell? ⟨w.heap.size + 1, 0, none⟩ = some (.bool false) ∧ W.cell? ⟨w.heap.size + 1, 1, none⟩ = some (.string ⟨#[]⟩) ∧ W.cell? ⟨w.heap.size + 1, 2, none⟩ = some (.string ⟨#[]⟩) ∧ W.cell? ⟨w.heap.size + 1, 3, none⟩ = some (.int .i64 0) ∧ W.cell? ⟨w1.heap.size, 0, none⟩ = some (.int .u8 (c : Nat)) ∧ W.cell? ⟨w1.heap.size, 1, none⟩ = some (.int .u64 ((wd s 0 : Nat) : Int)) ∧ W.cell? ⟨w1.heap.size, 2, none⟩ = some (.int .u64 ((wd s 1 : Nat) : Int)) ∧ W.cell? ⟨w1.heap.size, 3, none⟩ = some (.int .u64 ((wd s 2 : Nat) : Int)) ∧ W.cell? ⟨w1.heap.size, 4, none⟩ = some (.int .u64 ((wd s 3 : Nat) : Int)) ∧ W.cell? ⟨w1.heap.size, 5, none⟩ = some (.int .u64 ((wd s 4 : Nat) : Int)) ∧ W.cell? ⟨w1.heap.size, 6, none⟩ = some (.int .u64 ((wd s 5 : Nat) : Int)) ∧ W.cell? ⟨w1.heap.size, 7, none⟩ = some (.int .i64 X) ∧ W.cell? ⟨w1.heap.size, 8, none⟩ = some (.int .u64 ((wd rr 0 : Nat) : Int)) ∧ W.cell? ⟨w1.heap.size, 9, none⟩ = some (.int .u64 ((wd rr 1 : Nat) : Int)) ∧ W.cell? ⟨w1.heap.size, 10, none⟩ = some (.int .u64 ((wd rr 2 : Nat) : Int)) ∧ W.cell? ⟨w1.heap.size, 11, none⟩ = some (.int .u64 ((wd rr 3 : Nat) : Int)) ∧ W.cell? ⟨w1.heap.size, 12, none⟩ = some (.int .u64 ((wd rr 4 : Nat) : Int)) ∧ W.cell? ⟨w1.heap.size, 13, none⟩ = some (.int .u64 ((wd rr 5 : Nat) : Int))) → (w.heap.size < W.heap.size ∧ w.heap.size + 1 < W.heap.size ∧ w1.heap.size < W.heap.size)) := box (fun W h => ⟨(Array.getElem?_eq_some_iff.1 h.2.1).1, (Array.getElem?_eq_some_iff.1 h.2.2.1).1, (Array.getElem?_eq_some_iff.1 h.2.2.2.1).1⟩)
  have sT : Box (∀ (W : World) (gN : Nat) (xA xB xC xD : Value), (Below w.heap.size w W ∧ W.heap[w.heap.size]? = some (Obj.cells #[.int .u64 (x : Nat), .int .u64 (y : Nat)] 25) ∧ W.heap[w.heap.size + 1]? = some (Obj.cells #[.bool false, .string ⟨#[]⟩, .string ⟨#[]⟩, .int .i64 0] 28) ∧ W.heap[w1.heap.size]? = some (Obj.cells (pt c s X rr) 55) ∧ W.cell? ⟨w.heap.size, 0, none⟩ = some (.int .u64 (x : Nat)) ∧ W.cell? ⟨w.heap.size, 1, none⟩ = some (.int .u64 (y : Nat)) ∧ W.cell? ⟨w.heap.size + 1, 0, none⟩ = some (.bool false) ∧ W.cell? ⟨w.heap.size + 1, 1, none⟩ = some (.string ⟨#[]⟩) ∧ W.cell? ⟨w.heap.size + 1, 2, none⟩ = some (.string ⟨#[]⟩) ∧ W.cell? ⟨w.heap.size + 1, 3, none⟩ = some (.int .i64 0) ∧ W.cell? ⟨w1.heap.size, 0, none⟩ = some (.int .u8 (c : Nat)) ∧ W.cell? ⟨w1.heap.size, 1, none⟩ = some (.int .u64 ((wd s 0 : Nat) : Int)) ∧ W.cell? ⟨w1.heap.size, 2, none⟩ = some (.int .u64 ((wd s 1 : Nat) : Int)) ∧ W.cell? ⟨w1.heap.size, 3, none⟩ = some (.int .u64 ((wd s 2 : Nat) : Int)) ∧ W.cell? ⟨w1.heap.size, 4, none⟩ = some (.int .u64 ((wd s 3 : Nat) : Int)) ∧ W.cell? ⟨w1.heap.size, 5, none⟩ = some (.int .u64 ((wd s 4 : Nat) : Int)) ∧ W.cell? ⟨w1.heap.size, 6, none⟩ = some (.int .u64 ((wd s 5 : Nat) : Int)) ∧ W.cell? ⟨w1.heap.size, 7, none⟩ = some (.int .i64 X) ∧ W.cell? ⟨w1.heap.size, 8, none⟩ = some (.int .u64 ((wd rr 0 : Nat) : Int)) ∧ W.cell? ⟨w1.heap.size, 9, none⟩ = some (.int .u64 ((wd rr 1 : Nat) : Int)) ∧ W.cell? ⟨w1.heap.size, 10, none⟩ = some (.int .u64 ((wd rr 2 : Nat) : Int)) ∧ W.cell? ⟨w1.heap.size, 11, none⟩ = some (.int .u64 ((wd rr 3 : Nat) : Int)) ∧ W.cell? ⟨w1.heap.size, 12, none⟩ = some (.int .u64 ((wd rr 4 : Nat) : Int)) ∧ W.cell? ⟨w1.heap.size, 13, none⟩ = some (.int .u64 ((wd rr 5 : Nat) : Int))) → (w.heap.size < gN ∧ w.heap.size + 1 < gN ∧ w1.heap.size < gN) → (Below w.heap.size w ((((W.setCell ⟨gN, 0, none⟩ xA).setCell ⟨gN, 1, none⟩ xB).setCell ⟨gN, 2, none⟩ xC).setCell ⟨gN, 3, none⟩ xD) ∧ ((((W.setCell ⟨gN, 0, none⟩ xA).setCell ⟨gN, 1, none⟩ xB).setCell ⟨gN, 2, none⟩ xC).setCell ⟨gN, 3, none⟩ xD).heap[w.heap.size]? = some (Obj.cells #[.int .u64 (x : Nat), .int .u64 (y : Nat)] 25) ∧ ((((W.setCell ⟨gN, 0, none⟩ xA).setCell ⟨gN, 1, none⟩ xB).setCell ⟨gN, 2, none⟩ xC).setCell ⟨gN, 3, none⟩ xD).heap[w.heap.size + 1]? = some (Obj.cells #[.bool false, .string ⟨#[]⟩, .string ⟨#[]⟩, .int .i64 0] 28) ∧ ((((W.setCell ⟨gN, 0, none⟩ xA).setCell ⟨gN, 1, none⟩ xB).setCell ⟨gN, 2, none⟩ xC).setCell ⟨gN, 3, none⟩ xD).heap[w1.heap.size]? = some (Obj.cells (pt c s X rr) 55) ∧ ((((W.setCell ⟨gN, 0, none⟩ xA).setCell ⟨gN, 1, none⟩ xB).setCell ⟨gN, 2, none⟩ xC).setCell ⟨gN, 3, none⟩ xD).cell? ⟨w.heap.size, 0, none⟩ = some (.int .u64 (x : Nat)) ∧ ((((W.setCell ⟨gN, 0, none⟩ xA).setCell ⟨gN, 1, none⟩ xB).setCell ⟨gN, 2, none⟩ xC).setCell ⟨gN, 3, none⟩ xD).cell? ⟨w.heap.size, 1, none⟩ = some (.int .u64 (y : Nat)) ∧ ((((W.setCell ⟨gN, 0, none⟩ xA).setCell ⟨gN, 1, none⟩ xB).setCell ⟨gN, 2, none⟩ xC).setCell ⟨gN, 3, none⟩ xD).cell? ⟨w.heap.size + 1, 0, none⟩ = some (.bool false) ∧ ((((W.setCell ⟨gN, 0, none⟩ xA).setCell ⟨gN, 1, none⟩ xB).setCell ⟨gN, 2, none⟩ xC).setCell ⟨gN, 3, none⟩ xD).cell? ⟨w.heap.size + 1, 1, none⟩ = some (.string ⟨#[]⟩) ∧ ((((W.setCell ⟨gN, 0, none⟩ xA).setCell ⟨gN, 1, none⟩ xB).setCell ⟨gN, 2, none⟩ xC).setCell ⟨gN, 3, none⟩ xD).cell? ⟨w.heap.size + 1, 2, none⟩ = some (.string ⟨#[]⟩) ∧ ((((W.setCell ⟨gN, 0, none⟩ xA).setCell ⟨gN, 1, none⟩ xB).setCell ⟨gN, 2, none⟩ xC).setCell ⟨gN, 3, none⟩ xD).cell? ⟨w.heap.size + 1, 3, none⟩ = some (.int .i64 0) ∧ ((((W.setCell ⟨gN, 0, none⟩ xA).setCell ⟨gN, 1, none⟩ xB).setCell ⟨gN, 2, none⟩ xC).setCell ⟨gN, 3, none⟩ xD).cell? ⟨w1.heap.size, 0, none⟩ = some (.int .u8 (c : Nat)) ∧ ((((W.setCell ⟨gN, 0, none⟩ xA).setCell ⟨gN, 1, none⟩ xB).setCell ⟨gN, 2, none⟩ xC).setCell ⟨gN, 3, none⟩ xD).cell? ⟨w1.heap.size, 1, none⟩ = some (.int .u64 ((wd s 0 : Nat) : Int)) ∧ ((((W.setCell ⟨gN, 0, none⟩ xA).setCell ⟨gN, 1, none⟩ xB).setCell ⟨gN, 2, none⟩ xC).setCell ⟨gN, 3, none⟩ xD).cell? ⟨w1.heap.size, 2, none⟩ = some (.int .u64 ((wd s 1 : Nat) : Int)) ∧ ((((W.setCell ⟨gN, 0, none⟩ xA).setCell ⟨gN, 1, none⟩ xB).setCell ⟨gN, 2, none⟩ xC).setCell ⟨gN, 3, none⟩ xD).cell? ⟨w1.heap.size, 3, none⟩ = some (.int .u64 ((wd s 2 : Nat) : Int)) ∧ ((((W.setCell ⟨gN, 0, none⟩ xA).setCell ⟨gN, 1, none⟩ xB).setCell ⟨gN, 2, none⟩ xC).setCell ⟨gN, 3, none⟩ xD).cell? ⟨w1.heap.size, 4, none⟩ = some (.int .u64 ((wd s 3 : Nat) : Int)) ∧ ((((W.setCell ⟨gN, 0, none⟩ xA).setCell ⟨gN, 1, none⟩ xB).setCell ⟨gN, 2, none⟩ xC).setCell ⟨gN, 3, none⟩ xD).cell? ⟨w1.heap.size, 5, none⟩ = some (.int .u64 ((wd s 4 : Nat) : Int)) ∧ ((((W.setCell ⟨gN, 0, none⟩ xA).setCell ⟨gN, 1, none⟩ xB).setCell ⟨gN, 2, none⟩ xC).setCell ⟨gN, 3, none⟩ xD).cell? ⟨w1.heap.size, 6, none⟩ = some (.int .u64 ((wd s 5 : Nat) : Int)) ∧ ((((W.setCell ⟨gN, 0, none⟩ xA).setCell ⟨gN, 1, none⟩ xB).setCell ⟨gN, 2, none⟩ xC).setCell ⟨gN, 3, none⟩ xD).cell? ⟨w1.heap.size, 7, none⟩ = some (.int .i64 X) ∧ ((((W.setCell ⟨gN, 0, none⟩ xA).setCell ⟨gN, 1, none⟩ xB).setCell ⟨gN, 2, none⟩ xC).setCell ⟨gN, 3, none⟩ xD).cell? ⟨w1.heap.size, 8, none⟩ = some (.int .u64 ((wd rr 0 : Nat) : Int)) ∧ ((((W.setCell ⟨gN, 0, none⟩ xA).setCell ⟨gN, 1, none⟩ xB).setCell ⟨gN, 2, none⟩ xC).setCell ⟨gN, 3, none⟩ xD).cell? ⟨w1.heap.size, 9, none⟩ = some (.int .u64 ((wd rr 1 : Nat) : Int)) ∧ ((((W.setCell ⟨gN, 0, none⟩ xA).setCell ⟨gN, 1, none⟩ xB).setCell ⟨gN, 2, none⟩ xC).setCell ⟨gN, 3, none⟩ xD).cell? ⟨w1.heap.size, 10, none⟩ = some (.int .u64 ((wd rr 2 : Nat) : Int)) ∧ ((((W.setCell ⟨gN, 0, none⟩ xA).setCell ⟨gN, 1, none⟩ xB).setCell ⟨gN, 2, none⟩ xC).setCell ⟨gN, 3, none⟩ xD).cell? ⟨w1.heap.size, 11, none⟩ = some (.int .u64 ((wd rr 3 : Nat) : Int)) ∧ ((((W.setCell ⟨gN, 0, none⟩ xA).setCell ⟨gN, 1, none⟩ xB).setCell ⟨gN, 2, none⟩ xC).setCell ⟨gN, 3, none⟩ xD).cell? ⟨w1.heap.size, 12, none⟩ = some (.int .u64 ((wd rr 4 : Nat) : Int)) ∧ ((((W.setCell ⟨gN, 0, none⟩ xA).setCell ⟨gN, 1, none⟩ xB).setCell ⟨gN, 2, none⟩ xC).setCell ⟨gN, 3, none⟩ xD).cell? ⟨w1.heap.size, 13, none⟩ = some (.int .u64 ((wd rr 5 : Nat) : Int)))) := box (fun W gN xA xB xC xD h l => ⟨set4_below h.1 (show w.heap.size ≤ gN by have := l.1; omega) _ _ _ _, (setCell_other (by have := l.1; omega)).trans ((setCell_other (by have := l.1; omega)).trans ((setCell_other (by have := l.1; omega)).trans ((setCell_other (by have := l.1; omega)).trans h.2.1))), (setCell_other (by have := l.2.1; omega)).trans ((setCell_other (by have := l.2.1; omega)).trans ((setCell_other (by have := l.2.1; omega)).trans ((setCell_other (by have := l.2.1; omega)).trans h.2.2.1))), (setCell_other (by have := l.2.2; omega)).trans ((setCell_other (by have := l.2.2; omega)).trans ((setCell_other (by have := l.2.2; omega)).trans ((setCell_other (by have := l.2.2; omega)).trans h.2.2.2.1))), cell7 ((setCell_other (by have := l.1; omega)).trans ((setCell_other (by have := l.1; omega)).trans ((setCell_other (by have := l.1; omega)).trans ((setCell_other (by have := l.1; omega)).trans h.2.1)))) 0 _ rfl, cell7 ((setCell_other (by have := l.1; omega)).trans ((setCell_other (by have := l.1; omega)).trans ((setCell_other (by have := l.1; omega)).trans ((setCell_other (by have := l.1; omega)).trans h.2.1)))) 1 _ rfl, cell7 ((setCell_other (by have := l.2.1; omega)).trans ((setCell_other (by have := l.2.1; omega)).trans ((setCell_other (by have := l.2.1; omega)).trans ((setCell_other (by have := l.2.1; omega)).trans h.2.2.1)))) 0 _ rfl, cell7 ((setCell_other (by have := l.2.1; omega)).trans ((setCell_other (by have := l.2.1; omega)).trans ((setCell_other (by have := l.2.1; omega)).trans ((setCell_other (by have := l.2.1; omega)).trans h.2.2.1)))) 1 _ rfl, cell7 ((setCell_other (by have := l.2.1; omega)).trans ((setCell_other (by have := l.2.1; omega)).trans ((setCell_other (by have := l.2.1; omega)).trans ((setCell_other (by have := l.2.1; omega)).trans h.2.2.1)))) 2 _ rfl, cell7 ((setCell_other (by have := l.2.1; omega)).trans ((setCell_other (by have := l.2.1; omega)).trans ((setCell_other (by have := l.2.1; omega)).trans ((setCell_other (by have := l.2.1; omega)).trans h.2.2.1)))) 3 _ rfl, cell7 ((setCell_other (by have := l.2.2; omega)).trans ((setCell_other (by have := l.2.2; omega)).trans ((setCell_other (by have := l.2.2; omega)).trans ((setCell_other (by have := l.2.2; omega)).trans h.2.2.2.1)))) 0 _ rfl, cell7 ((setCell_other (by have := l.2.2; omega)).trans ((setCell_other (by have := l.2.2; omega)).trans ((setCell_other (by have := l.2.2; omega)).trans ((setCell_other (by have := l.2.2; omega)).trans h.2.2.2.1)))) 1 _ rfl, cell7 ((setCell_other (by have := l.2.2; omega)).trans ((setCell_other (by have := l.2.2; omega)).trans ((setCell_other (by have := l.2.2; omega)).trans ((setCell_other (by have := l.2.2; omega)).trans h.2.2.2.1)))) 2 _ rfl, cell7 ((setCell_other (by have := l.2.2; omega)).trans ((setCell_other (by have := l.2.2; omega)).trans ((setCell_other (by have := l.2.2; omega)).trans ((setCell_other (by have := l.2.2; omega)).trans h.2.2.2.1)))) 3 _ rfl, cell7 ((setCell_other (by have := l.2.2; omega)).trans ((setCell_other (by have := l.2.2; omega)).trans ((setCell_other (by have := l.2.2; omega)).trans ((setCell_other (by have := l.2.2; omega)).trans h.2.2.2.1)))) 4 _ rfl, cell7 ((setCell_other (by have := l.2.2; omega)).trans ((setCell_other (by have := l.2.2; omega)).trans ((setCell_other (by have := l.2.2; omega)).trans ((setCell_other (by have := l.2.2; omega)).trans h.2.2.2.1)))) 5 _ rfl, cell7 ((setCell_other (by have := l.2.2; omega)).trans ((setCell_other (by have := l.2.2; omega)).trans ((setCell_other (by have := l.2.2; omega)).trans ((setCell_other (by have := l.2.2; omega)).trans h.2.2.2.1)))) 6 _ rfl, cell7 ((setCell_other (by have := l.2.2; omega)).trans ((setCell_other (by have := l.2.2; omega)).trans ((setCell_other (by have := l.2.2; omega)).trans ((setCell_other (by have := l.2.2; omega)).trans h.2.2.2.1)))) 7 _ rfl, cell7 ((setCell_other (by have := l.2.2; omega)).trans ((setCell_other (by have := l.2.2; omega)).trans ((setCell_other (by have := l.2.2; omega)).trans ((setCell_other (by have := l.2.2; omega)).trans h.2.2.2.1)))) 8 _ rfl, cell7 ((setCell_other (by have := l.2.2; omega)).trans ((setCell_other (by have := l.2.2; omega)).trans ((setCell_other (by have := l.2.2; omega)).trans ((setCell_other (by have := l.2.2; omega)).trans h.2.2.2.1)))) 9 _ rfl, cell7 ((setCell_other (by have := l.2.2; omega)).trans ((setCell_other (by have := l.2.2; omega)).trans ((setCell_other (by have := l.2.2; omega)).trans ((setCell_other (by have := l.2.2; omega)).trans h.2.2.2.1)))) 10 _ rfl, cell7 ((setCell_other (by have := l.2.2; omega)).trans ((setCell_other (by have := l.2.2; omega)).trans ((setCell_other (by have := l.2.2; omega)).trans ((setCell_other (by have := l.2.2; omega)).trans h.2.2.2.1)))) 11 _ rfl, cell7 ((setCell_other (by have := l.2.2; omega)).trans ((setCell_other (by have := l.2.2; omega)).trans ((setCell_other (by have := l.2.2; omega)).trans ((setCell_other (by have := l.2.2; omega)).trans h.2.2.2.1)))) 12 _ rfl, cell7 ((setCell_other (by have := l.2.2; omega)).trans ((setCell_other (by have := l.2.2; omega)).trans ((setCell_other (by have := l.2.2; omega)).trans ((setCell_other (by have := l.2.2; omega)).trans h.2.2.2.1)))) 13 _ rfl⟩)
  have s0 : Below w.heap.size w ((w1.alloc (Obj.cells (pt c s X rr) 55))).drew ∧ ((w1.alloc (Obj.cells (pt c s X rr) 55))).drew.heap[w.heap.size]? = some (Obj.cells #[.int .u64 (x : Nat), .int .u64 (y : Nat)] 25) ∧ ((w1.alloc (Obj.cells (pt c s X rr) 55))).drew.heap[w.heap.size + 1]? = some (Obj.cells #[.bool false, .string ⟨#[]⟩, .string ⟨#[]⟩, .int .i64 0] 28) ∧ ((w1.alloc (Obj.cells (pt c s X rr) 55))).drew.heap[w1.heap.size]? = some (Obj.cells (pt c s X rr) 55) ∧ ((w1.alloc (Obj.cells (pt c s X rr) 55))).drew.cell? ⟨w.heap.size, 0, none⟩ = some (.int .u64 (x : Nat)) ∧ ((w1.alloc (Obj.cells (pt c s X rr) 55))).drew.cell? ⟨w.heap.size, 1, none⟩ = some (.int .u64 (y : Nat)) ∧ ((w1.alloc (Obj.cells (pt c s X rr) 55))).drew.cell? ⟨w.heap.size + 1, 0, none⟩ = some (.bool false) ∧ ((w1.alloc (Obj.cells (pt c s X rr) 55))).drew.cell? ⟨w.heap.size + 1, 1, none⟩ = some (.string ⟨#[]⟩) ∧ ((w1.alloc (Obj.cells (pt c s X rr) 55))).drew.cell? ⟨w.heap.size + 1, 2, none⟩ = some (.string ⟨#[]⟩) ∧ ((w1.alloc (Obj.cells (pt c s X rr) 55))).drew.cell? ⟨w.heap.size + 1, 3, none⟩ = some (.int .i64 0) ∧ ((w1.alloc (Obj.cells (pt c s X rr) 55))).drew.cell? ⟨w1.heap.size, 0, none⟩ = some (.int .u8 (c : Nat)) ∧ ((w1.alloc (Obj.cells (pt c s X rr) 55))).drew.cell? ⟨w1.heap.size, 1, none⟩ = some (.int .u64 ((wd s 0 : Nat) : Int)) ∧ ((w1.alloc (Obj.cells (pt c s X rr) 55))).drew.cell? ⟨w1.heap.size, 2, none⟩ = some (.int .u64 ((wd s 1 : Nat) : Int)) ∧ ((w1.alloc (Obj.cells (pt c s X rr) 55))).drew.cell? ⟨w1.heap.size, 3, none⟩ = some (.int .u64 ((wd s 2 : Nat) : Int)) ∧ ((w1.alloc (Obj.cells (pt c s X rr) 55))).drew.cell? ⟨w1.heap.size, 4, none⟩ = some (.int .u64 ((wd s 3 : Nat) : Int)) ∧ ((w1.alloc (Obj.cells (pt c s X rr) 55))).drew.cell? ⟨w1.heap.size, 5, none⟩ = some (.int .u64 ((wd s 4 : Nat) : Int)) ∧ ((w1.alloc (Obj.cells (pt c s X rr) 55))).drew.cell? ⟨w1.heap.size, 6, none⟩ = some (.int .u64 ((wd s 5 : Nat) : Int)) ∧ ((w1.alloc (Obj.cells (pt c s X rr) 55))).drew.cell? ⟨w1.heap.size, 7, none⟩ = some (.int .i64 X) ∧ ((w1.alloc (Obj.cells (pt c s X rr) 55))).drew.cell? ⟨w1.heap.size, 8, none⟩ = some (.int .u64 ((wd rr 0 : Nat) : Int)) ∧ ((w1.alloc (Obj.cells (pt c s X rr) 55))).drew.cell? ⟨w1.heap.size, 9, none⟩ = some (.int .u64 ((wd rr 1 : Nat) : Int)) ∧ ((w1.alloc (Obj.cells (pt c s X rr) 55))).drew.cell? ⟨w1.heap.size, 10, none⟩ = some (.int .u64 ((wd rr 2 : Nat) : Int)) ∧ ((w1.alloc (Obj.cells (pt c s X rr) 55))).drew.cell? ⟨w1.heap.size, 11, none⟩ = some (.int .u64 ((wd rr 3 : Nat) : Int)) ∧ ((w1.alloc (Obj.cells (pt c s X rr) 55))).drew.cell? ⟨w1.heap.size, 12, none⟩ = some (.int .u64 ((wd rr 4 : Nat) : Int)) ∧ ((w1.alloc (Obj.cells (pt c s X rr) 55))).drew.cell? ⟨w1.heap.size, 13, none⟩ = some (.int .u64 ((wd rr 5 : Nat) : Int)) := ⟨B2.drew, Rb_2, Rz_2, Rp_2, cell7 (Rb_2) 0 _ rfl, cell7 (Rb_2) 1 _ rfl, cell7 (Rz_2) 0 _ rfl, cell7 (Rz_2) 1 _ rfl, cell7 (Rz_2) 2 _ rfl, cell7 (Rz_2) 3 _ rfl, cell7 (Rp_2) 0 _ rfl, cell7 (Rp_2) 1 _ rfl, cell7 (Rp_2) 2 _ rfl, cell7 (Rp_2) 3 _ rfl, cell7 (Rp_2) 4 _ rfl, cell7 (Rp_2) 5 _ rfl, cell7 (Rp_2) 6 _ rfl, cell7 (Rp_2) 7 _ rfl, cell7 (Rp_2) 8 _ rfl, cell7 (Rp_2) 9 _ rfl, cell7 (Rp_2) 10 _ rfl, cell7 (Rp_2) 11 _ rfl, cell7 (Rp_2) 12 _ rfl, cell7 (Rp_2) 13 _ rfl⟩
  clear B2 Rb_2 cb_2_0 cb_2_1 Rz_2 cz_2_0 cz_2_1 cz_2_2 cz_2_3 Rp_2 cp_2_0 cp_2_1 cp_2_2 cp_2_3 cp_2_4 cp_2_5 cp_2_6 cp_2_7 cp_2_8 cp_2_9 cp_2_10 cp_2_11 cp_2_12 cp_2_13
  go_wp2_with fail
  apply cut7
  · intro key0
    have key := box key0
    clear key0
    go_region_held3 (fun W => Below w.heap.size w W ∧ W.heap[w.heap.size]? = some (Obj.cells #[.int .u64 (x : Nat), .int .u64 (y : Nat)] 25) ∧ W.heap[w.heap.size + 1]? = some (Obj.cells #[.bool false, .string ⟨#[]⟩, .string ⟨#[]⟩, .int .i64 0] 28) ∧ W.heap[w1.heap.size]? = some (Obj.cells (pt c s X rr) 55) ∧ W.cell? ⟨w.heap.size, 0, none⟩ = some (.int .u64 (x : Nat)) ∧ W.cell? ⟨w.heap.size, 1, none⟩ = some (.int .u64 (y : Nat)) ∧ W.cell? ⟨w.heap.size + 1, 0, none⟩ = some (.bool false) ∧ W.cell? ⟨w.heap.size + 1, 1, none⟩ = some (.string ⟨#[]⟩) ∧ W.cell? ⟨w.heap.size + 1, 2, none⟩ = some (.string ⟨#[]⟩) ∧ W.cell? ⟨w.heap.size + 1, 3, none⟩ = some (.int .i64 0) ∧ W.cell? ⟨w1.heap.size, 0, none⟩ = some (.int .u8 (c : Nat)) ∧ W.cell? ⟨w1.heap.size, 1, none⟩ = some (.int .u64 ((wd s 0 : Nat) : Int)) ∧ W.cell? ⟨w1.heap.size, 2, none⟩ = some (.int .u64 ((wd s 1 : Nat) : Int)) ∧ W.cell? ⟨w1.heap.size, 3, none⟩ = some (.int .u64 ((wd s 2 : Nat) : Int)) ∧ W.cell? ⟨w1.heap.size, 4, none⟩ = some (.int .u64 ((wd s 3 : Nat) : Int)) ∧ W.cell? ⟨w1.heap.size, 5, none⟩ = some (.int .u64 ((wd s 4 : Nat) : Int)) ∧ W.cell? ⟨w1.heap.size, 6, none⟩ = some (.int .u64 ((wd s 5 : Nat) : Int)) ∧ W.cell? ⟨w1.heap.size, 7, none⟩ = some (.int .i64 X) ∧ W.cell? ⟨w1.heap.size, 8, none⟩ = some (.int .u64 ((wd rr 0 : Nat) : Int)) ∧ W.cell? ⟨w1.heap.size, 9, none⟩ = some (.int .u64 ((wd rr 1 : Nat) : Int)) ∧ W.cell? ⟨w1.heap.size, 10, none⟩ = some (.int .u64 ((wd rr 2 : Nat) : Int)) ∧ W.cell? ⟨w1.heap.size, 11, none⟩ = some (.int .u64 ((wd rr 3 : Nat) : Int)) ∧ W.cell? ⟨w1.heap.size, 12, none⟩ = some (.int .u64 ((wd rr 4 : Nat) : Int)) ∧ W.cell? ⟨w1.heap.size, 13, none⟩ = some (.int .u64 ((wd rr 5 : Nat) : Int))) (first | exact s1 | exact s0 | exact sS.out _ _ s1 (bal _ _) | exact sS.out _ _ s0 (bal _ _) | exact sT.out _ _ _ _ _ _ s1 hl)
      (first | (go_at_call 42; (first | refine (KS.out _).mono ?_ | refine (KS.out _).mono ?_); rintro r wq ⟨rfl, bq⟩; (first | (have hg := heap_of bq _ _ _ (heap_alloc_last _ _); have hl := (by first | exact sL.out _ s1 | exact sL.out _ s0)) | have hg := heap_of bq _ _ _ hg | skip); (try simp only [size_dr, size_al] at hg hl); (first | (have hq0 := fz (k := 0) hg; have hq1 := fz (k := 1) hg; have hq2 := fz (k := 2) hg; have hq3 := fz (k := 3) hg; have hc0 := cell7 hg 0 _ rfl; have hc1 := cell7 hg 1 _ rfl; have hc2 := cell7 hg 2 _ rfl; have hc3 := cell7 hg 3 _ rfl) | skip); have s2 := (by first | exact sS.out _ _ s1 bq | exact sS.out _ _ s0 bq | exact sS.out _ _ (sS.out _ _ s1 (bal _ _)) bq | exact sS.out _ _ (sS.out _ _ s0 (bal _ _)) bq); (try clear s1); have s1 := s2; clear s2 bq) | (go_at_call 43; (first | refine (KN.out _).mono ?_ | refine (KN.out _).mono ?_); rintro r wq ⟨rfl, bq⟩; (first | (have hg := heap_of bq _ _ _ (heap_alloc_last _ _); have hl := (by first | exact sL.out _ s1 | exact sL.out _ s0)) | have hg := heap_of bq _ _ _ hg | skip); (try simp only [size_dr, size_al] at hg hl); (first | (have hq0 := fz (k := 0) hg; have hq1 := fz (k := 1) hg; have hq2 := fz (k := 2) hg; have hq3 := fz (k := 3) hg; have hc0 := cell7 hg 0 _ rfl; have hc1 := cell7 hg 1 _ rfl; have hc2 := cell7 hg 2 _ rfl; have hc3 := cell7 hg 3 _ rfl) | skip); have s2 := (by first | exact sS.out _ _ s1 bq | exact sS.out _ _ s0 bq | exact sS.out _ _ (sS.out _ _ s1 (bal _ _)) bq | exact sS.out _ _ (sS.out _ _ s0 (bal _ _)) bq); (try clear s1); have s1 := s2; clear s2 bq) | (go_at_call 41; (first | refine (KM.out _).mono ?_ | refine (KM.out _).mono ?_); rintro r wq ⟨rfl, bq⟩; (first | (have hg := heap_of bq _ _ _ (heap_alloc_last _ _); have hl := (by first | exact sL.out _ s1 | exact sL.out _ s0)) | have hg := heap_of bq _ _ _ hg | skip); (try simp only [size_dr, size_al] at hg hl); (first | (have hq0 := fz (k := 0) hg; have hq1 := fz (k := 1) hg; have hq2 := fz (k := 2) hg; have hq3 := fz (k := 3) hg; have hc0 := cell7 hg 0 _ rfl; have hc1 := cell7 hg 1 _ rfl; have hc2 := cell7 hg 2 _ rfl; have hc3 := cell7 hg 3 _ rfl) | skip); have s2 := (by first | exact sS.out _ _ s1 bq | exact sS.out _ _ s0 bq | exact sS.out _ _ (sS.out _ _ s1 (bal _ _)) bq | exact sS.out _ _ (sS.out _ _ s0 (bal _ _)) bq); (try clear s1); have s1 := s2; clear s2 bq) | fail)
    all_goals
      refine gen_abacusref08_Value_7 (R := fun W gN => (Below w.heap.size w W ∧ W.heap[w.heap.size]? = some (Obj.cells #[.int .u64 (x : Nat), .int .u64 (y : Nat)] 25) ∧ W.heap[w.heap.size + 1]? = some (Obj.cells #[.bool false, .string ⟨#[]⟩, .string ⟨#[]⟩, .int .i64 0] 28) ∧ W.heap[w1.heap.size]? = some (Obj.cells (pt c s X rr) 55) ∧ W.cell? ⟨w.heap.size, 0, none⟩ = some (.int .u64 (x : Nat)) ∧ W.cell? ⟨w.heap.size, 1, none⟩ = some (.int .u64 (y : Nat)) ∧ W.cell? ⟨w.heap.size + 1, 0, none⟩ = some (.bool false) ∧ W.cell? ⟨w.heap.size + 1, 1, none⟩ = some (.string ⟨#[]⟩) ∧ W.cell? ⟨w.heap.size + 1, 2, none⟩ = some (.string ⟨#[]⟩) ∧ W.cell? ⟨w.heap.size + 1, 3, none⟩ = some (.int .i64 0) ∧ W.cell? ⟨w1.heap.size, 0, none⟩ = some (.int .u8 (c : Nat)) ∧ W.cell? ⟨w1.heap.size, 1, none⟩ = some (.int .u64 ((wd s 0 : Nat) : Int)) ∧ W.cell? ⟨w1.heap.size, 2, none⟩ = some (.int .u64 ((wd s 1 : Nat) : Int)) ∧ W.cell? ⟨w1.heap.size, 3, none⟩ = some (.int .u64 ((wd s 2 : Nat) : Int)) ∧ W.cell? ⟨w1.heap.size, 4, none⟩ = some (.int .u64 ((wd s 3 : Nat) : Int)) ∧ W.cell? ⟨w1.heap.size, 5, none⟩ = some (.int .u64 ((wd s 4 : Nat) : Int)) ∧ W.cell? ⟨w1.heap.size, 6, none⟩ = some (.int .u64 ((wd s 5 : Nat) : Int)) ∧ W.cell? ⟨w1.heap.size, 7, none⟩ = some (.int .i64 X) ∧ W.cell? ⟨w1.heap.size, 8, none⟩ = some (.int .u64 ((wd rr 0 : Nat) : Int)) ∧ W.cell? ⟨w1.heap.size, 9, none⟩ = some (.int .u64 ((wd rr 1 : Nat) : Int)) ∧ W.cell? ⟨w1.heap.size, 10, none⟩ = some (.int .u64 ((wd rr 2 : Nat) : Int)) ∧ W.cell? ⟨w1.heap.size, 11, none⟩ = some (.int .u64 ((wd rr 3 : Nat) : Int)) ∧ W.cell? ⟨w1.heap.size, 12, none⟩ = some (.int .u64 ((wd rr 4 : Nat) : Int)) ∧ W.cell? ⟨w1.heap.size, 13, none⟩ = some (.int .u64 ((wd rr 5 : Nat) : Int))) ∧ W.heap[gN]? = some (Obj.cells #[.bool rb, .string u, .string v, .int .i64 re] 28) ∧ (w.heap.size < gN ∧ w.heap.size + 1 < gN ∧ w1.heap.size < gN)) key.out ?_
      first
        | exact ⟨(sT.out _ _ _ _ _ _ s1 hl), set4_row hg rfl _ _ _ _, hl⟩
        | exact ⟨sS.out _ _ s1 (bal _ _), heap_alloc_last _ _, sL.out _ s1⟩
        | exact ⟨sS.out _ _ s0 (bal _ _), heap_alloc_last _ _, sL.out _ s0⟩
  rintro w3 g3 ⟨s1, Rr_3, l3⟩
  have B3 := And.left s1
  have Rb_3 := s1.2.1
  have Rz_3 := s1.2.2.1
  have Rp_3 := s1.2.2.2.1
  have H3 := box l3
  clear s0 s1 sS sL sT l3
  obtain ⟨cb_3_0, cb_3_1⟩ := cells2s Rb_3
  obtain ⟨cz_3_0, cz_3_1, cz_3_2, cz_3_3⟩ := cells4s Rz_3
  obtain ⟨cp_3_0, cp_3_1, cp_3_2, cp_3_3, cp_3_4, cp_3_5, cp_3_6, cp_3_7, cp_3_8, cp_3_9, cp_3_10, cp_3_11, cp_3_12, cp_3_13⟩ := pt_cells Rp_3
  obtain ⟨cr_3_0, cr_3_1, cr_3_2, cr_3_3⟩ := cells4s Rr_3
  have q0 := fz (k := 0) Rz_3
  have q1 := fz (k := 1) Rz_3
  have q2 := fz (k := 2) Rz_3
  have q3 := fz (k := 3) Rz_3
  obtain ⟨E0, E1, E2, E3⟩ := set4_cells Rz_3 rfl (.bool rb) (.string u) (.string v) (.int .i64 re)
  go_wp2
  exact bodyPost_ret (v := .tuple #[.agg #[.bool rb, .string u, .string v, .int .i64 re], .int .i64 0]) (by simp [results, Tryz.results10, go_sem, E0, E1, E2, E3]) rfl ⟨rfl, set4_below B3 (by first | exact Nat.le_refl _ | omega) _ _ _ _⟩
end Go.Proofs.YtkmlbjlaahcahaaGreatDoor
