/-
  What the functions that the statement reaches return: part 16 (V5, V6, V9).
-/
import Derived.Deep.RegionHeld3
import Derived.Lib.MinMax
import Derived.Test.YtbmhfcppaajgbaaGreatDoorRe15
namespace Go.Proofs.YtbmhfcppaajgbaaGreatDoor
set_option maxRecDepth 100000
open Go.RowKit WMath
set_option linter.unusedSimpArgs false
set_option linter.unusedVariables false

theorem kfin_is (c : Nat) (o : Bool) (ho : (decide (0 < c) && decide (c < 7)) = o) (w : World) : Calls Tryz.prog 167 #[.int .u8 (c : Nat)] w fun r w' => r = .returned (.bool o) ∧ Below w.heap.size w w' := by
  by_cases h0 : c = 0
  · subst h0
    obtain rfl : false = o := ho
    go_enter Tryz.func167, Tryz.ntmps167
    go_wp2
    go_ret
    exact ⟨rfl, Below.refl _ _⟩
  · have d1 : decide (0 < c) = true := decide_eq_true (by omega)
    rw [d1, Bool.true_and] at ho
    have d2 : decide ((c : Int) < 7) = o := by rw [← ho, decide_eq_decide]; omega
    clear ho h0
    cases o
    all_goals
      go_enter Tryz.func167, Tryz.ntmps167
      go_wp2
      go_ret
      exact ⟨rfl, Below.refl _ _⟩
set_option maxRecDepth 100000 in
set_option maxHeartbeats 1000000 in
theorem kvalue_inf (f : Int) (x y c s rr : Nat) (X : Int) (w : World)
    (KU : Box (∀ w, FAt w → Calls Tryz.prog 52 #[.int .u8 f, .agg #[.int .u64 (x : Nat), .int .u64 (y : Nat)]] w fun r w' => r = .returned (.tuple #[.agg (pt c s X rr), .int .i64 0]) ∧ Below w.heap.size w w'))
    (KF : Box (∀ w, Calls Tryz.prog 167 #[.int .u8 (c : Nat)] w fun r w' => r = .returned (.bool false) ∧ Below w.heap.size w w'))
    (hT : FAt w) : Calls Tryz.prog 83 #[.int .u8 f, .agg #[.int .u64 (x : Nat), .int .u64 (y : Nat)]] w fun r w' => r = .returned (.tuple #[.agg #[.bool false, .string ⟨#[]⟩, .string ⟨#[]⟩, .int .i64 0], .int .i64 80]) ∧ Below w.heap.size w w' := by
  have FF := box hT
  clear hT
  have hp1 := ptf
  have hp3 := ptz
  have hp4 := st_p0
  have hp5 : ∀ (c s : Nat) (x : Int) (r : Nat), ((pt c s x r).size = 14) = True := fun _ _ _ _ => eq_true rfl
  obtain ⟨Rb_0, Rz_0, B0⟩ := opn2 w (Obj.cells #[.int .u64 (x : Nat), .int .u64 (y : Nat)] 25) (Obj.cells #[.bool false, .string ⟨#[]⟩, .string ⟨#[]⟩, .int .i64 0] 41)
  go_enter Tryz.func83, Tryz.ntmps83
  go_wp2_with fail
  refine (KU.out _ (fatB FF.out B0)).mono ?_
  rintro r w1 ⟨rfl, b1⟩
  have B1 : Below w.heap.size w w1 := btr B0 b1
  have Rb_1 := heap_of b1 _ _ _ Rb_0
  have Rz_1 := heap_of b1 _ _ _ Rz_0
  clear b1 B0 Rb_0 Rz_0
  obtain ⟨cb_1_0, cb_1_1⟩ := cells2s Rb_1
  obtain ⟨cz_1_0, cz_1_1, cz_1_2, cz_1_3⟩ := cells4s Rz_1
  have S2 := box B1.size
  have Lb_2 : Box (w.heap.size < w1.heap.size) := box (Array.getElem?_eq_some_iff.1 Rb_1).1
  have Lz_2 : Box (w.heap.size + 1 < w1.heap.size) := box (Array.getElem?_eq_some_iff.1 Rz_1).1
  have Rp_2 := heap_alloc_last w1 (Obj.cells (pt c s X rr) 90)
  have B2 := btr B1 (bal w1 (Obj.cells (pt c s X rr) 90))
  have Rb_2 := heap_of (bal w1 (Obj.cells (pt c s X rr) 90)) _ _ _ Rb_1
  have Rz_2 := heap_of (bal w1 (Obj.cells (pt c s X rr) 90)) _ _ _ Rz_1
  clear B1 Rb_1 cb_1_0 cb_1_1 Rz_1 cz_1_0 cz_1_1 cz_1_2 cz_1_3
  obtain ⟨cb_2_0, cb_2_1⟩ := cells2s Rb_2
  obtain ⟨cz_2_0, cz_2_1, cz_2_2, cz_2_3⟩ := cells4s Rz_2
  obtain ⟨cp_2_0, cp_2_1, cp_2_2, cp_2_3, cp_2_4, cp_2_5, cp_2_6, cp_2_7, cp_2_8, cp_2_9, cp_2_10, cp_2_11, cp_2_12, cp_2_13⟩ := pt_cells Rp_2
  go_wp2_with fail
  refine (KF.out _).mono ?_
  rintro r w3 ⟨rfl, b3⟩
  have B3 : Below w.heap.size w w3 := btr B2 b3
  have Rb_3 := heap_of b3 _ _ _ Rb_2
  have Rz_3 := heap_of b3 _ _ _ Rz_2
  have Rp_3 := heap_of b3 _ _ _ Rp_2
  clear b3 B2 Rb_2 cb_2_0 cb_2_1 Rz_2 cz_2_0 cz_2_1 cz_2_2 cz_2_3 Rp_2 cp_2_0 cp_2_1 cp_2_2 cp_2_3 cp_2_4 cp_2_5 cp_2_6 cp_2_7 cp_2_8 cp_2_9 cp_2_10 cp_2_11 cp_2_12 cp_2_13
  obtain ⟨cb_3_0, cb_3_1⟩ := cells2s Rb_3
  obtain ⟨cz_3_0, cz_3_1, cz_3_2, cz_3_3⟩ := cells4s Rz_3
  obtain ⟨cp_3_0, cp_3_1, cp_3_2, cp_3_3, cp_3_4, cp_3_5, cp_3_6, cp_3_7, cp_3_8, cp_3_9, cp_3_10, cp_3_11, cp_3_12, cp_3_13⟩ := pt_cells Rp_3
  have q0 := fz (k := 0) Rz_3
  have q1 := fz (k := 1) Rz_3
  have q2 := fz (k := 2) Rz_3
  have q3 := fz (k := 3) Rz_3
  obtain ⟨E0, E1, E2, E3⟩ := set4_cells Rz_3 rfl (.bool false) (.string ⟨#[]⟩) (.string ⟨#[]⟩) (.int .i64 0)
  go_wp2
  exact bodyPost_ret (v := .tuple #[.agg #[.bool false, .string ⟨#[]⟩, .string ⟨#[]⟩, .int .i64 0], .int .i64 80]) (by simp [results, Tryz.results83, go_sem, E0, E1, E2, E3]) rfl ⟨rfl, set4_below B3 (by first | exact Nat.le_refl _ | omega) _ _ _ _⟩
set_option maxRecDepth 100000 in
set_option maxHeartbeats 2000000 in
theorem kvalue_yes (f : Int) (x y c s rr : Nat) (X : Int) (neg : Bool) (sg : ByteArray) (rb : Bool) (u v : ByteArray) (re err : Int) (w : World)
    (KU : Box (∀ w, FAt w → Calls Tryz.prog 52 #[.int .u8 f, .agg #[.int .u64 (x : Nat), .int .u64 (y : Nat)]] w fun r w' => r = .returned (.tuple #[.agg (pt c s X rr), .int .i64 0]) ∧ Below w.heap.size w w'))
    (KF : Box (∀ w, Calls Tryz.prog 167 #[.int .u8 (c : Nat)] w fun r w' => r = .returned (.bool true) ∧ Below w.heap.size w w'))
    (KS : Box (∀ w, FAt w → Calls Tryz.prog 53 #[.int .u8 f, .agg #[.int .u64 (x : Nat), .int .u64 (y : Nat)]] w fun r w' => r = .returned (.bool neg) ∧ Below w.heap.size w w'))
    (KN : Box (∀ w, Calls Tryz.prog 169 #[.agg (cw 6 s)] w fun r w' => r = .returned (.string sg) ∧ Below w.heap.size w w'))
    (KM : Box (∀ w, TabAt w → Calls Tryz.prog 168 #[.bool neg, .string sg, .string ⟨#[1]⟩, .int .i64 X] w fun r w' => r = .returned (.tuple #[.agg #[.bool rb, .string u, .string v, .int .i64 re], .int .i64 err]) ∧ Below w.heap.size w w'))
    (hT : FAt w) (hT2 : TabAt w) : Calls Tryz.prog 83 #[.int .u8 f, .agg #[.int .u64 (x : Nat), .int .u64 (y : Nat)]] w fun r w' => r = .returned (.tuple #[.agg #[.bool rb, .string u, .string v, .int .i64 re], .int .i64 err]) ∧ Below w.heap.size w w' := by
  have FF := box hT
  have TT := box hT2
  clear hT hT2
  have hat := cw_at 6
  have hz := cw6z
  have hff := cw6f
  have hs0 := st0
  have hcs : ∀ x, ((cw 6 x).size = 6) = True := fun x => eq_true (cw_size 6 x)
  have hp1 := ptf
  have hp3 := ptz
  have hp4 := st_p0
  have hp5 : ∀ (c s : Nat) (x : Int) (r : Nat), ((pt c s x r).size = 14) = True := fun _ _ _ _ => eq_true rfl
  obtain ⟨Rb_0, Rz_0, B0⟩ := opn2 w (Obj.cells #[.int .u64 (x : Nat), .int .u64 (y : Nat)] 25) (Obj.cells #[.bool false, .string ⟨#[]⟩, .string ⟨#[]⟩, .int .i64 0] 41)
  go_enter Tryz.func83, Tryz.ntmps83
  go_wp2_with fail
  refine (KU.out _ (fatB FF.out B0)).mono ?_
  rintro r w1 ⟨rfl, b1⟩
  have B1 : Below w.heap.size w w1 := btr B0 b1
  have Rb_1 := heap_of b1 _ _ _ Rb_0
  have Rz_1 := heap_of b1 _ _ _ Rz_0
  clear b1 B0 Rb_0 Rz_0
  obtain ⟨cb_1_0, cb_1_1⟩ := cells2s Rb_1
  obtain ⟨cz_1_0, cz_1_1, cz_1_2, cz_1_3⟩ := cells4s Rz_1
  have S2 := box B1.size
  have Lb_2 : Box (w.heap.size < w1.heap.size) := box (Array.getElem?_eq_some_iff.1 Rb_1).1
  have Lz_2 : Box (w.heap.size + 1 < w1.heap.size) := box (Array.getElem?_eq_some_iff.1 Rz_1).1
  have Rp_2 := heap_alloc_last w1 (Obj.cells (pt c s X rr) 90)
  have B2 := btr B1 (bal w1 (Obj.cells (pt c s X rr) 90))
  have Rb_2 := heap_of (bal w1 (Obj.cells (pt c s X rr) 90)) _ _ _ Rb_1
  have Rz_2 := heap_of (bal w1 (Obj.cells (pt c s X rr) 90)) _ _ _ Rz_1
  clear B1 Rb_1 cb_1_0 cb_1_1 Rz_1 cz_1_0 cz_1_1 cz_1_2 cz_1_3
  obtain ⟨cb_2_0, cb_2_1⟩ := cells2s Rb_2
  obtain ⟨cz_2_0, cz_2_1, cz_2_2, cz_2_3⟩ := cells4s Rz_2
  obtain ⟨cp_2_0, cp_2_1, cp_2_2, cp_2_3, cp_2_4, cp_2_5, cp_2_6, cp_2_7, cp_2_8, cp_2_9, cp_2_10, cp_2_11, cp_2_12, cp_2_13⟩ := pt_cells Rp_2
  go_wp2_with fail
  refine (KF.out _).mono ?_
  rintro r w3 ⟨rfl, b3⟩
  have B3 : Below w.heap.size w w3 := btr B2 b3
  have Rb_3 := heap_of b3 _ _ _ Rb_2
  have Rz_3 := heap_of b3 _ _ _ Rz_2
  have Rp_3 := heap_of b3 _ _ _ Rp_2
  clear b3 B2 Rb_2 cb_2_0 cb_2_1 Rz_2 cz_2_0 cz_2_1 cz_2_2 cz_2_3 Rp_2 cp_2_0 cp_2_1 cp_2_2 cp_2_3 cp_2_4 cp_2_5 cp_2_6 cp_2_7 cp_2_8 cp_2_9 cp_2_10 cp_2_11 cp_2_12 cp_2_13
  obtain ⟨cb_3_0, cb_3_1⟩ := cells2s Rb_3
  obtain ⟨cz_3_0, cz_3_1, cz_3_2, cz_3_3⟩ := cells4s Rz_3
  obtain ⟨cp_3_0, cp_3_1, cp_3_2, cp_3_3, cp_3_4, cp_3_5, cp_3_6, cp_3_7, cp_3_8, cp_3_9, cp_3_10, cp_3_11, cp_3_12, cp_3_13⟩ := pt_cells Rp_3
  have sS : Box (∀ W W1 : World, (Below w.heap.size w W ∧ W.heap[w.heap.size]? = some (Obj.cells #[.int .u64 (x : Nat), .int .u64 (y : Nat)] 25) ∧ W.heap[w1.heap.size]? = some (Obj.cells (pt c s X rr) 90) ∧ W.cell? ⟨w.heap.size, 0, none⟩ = some (.int .u64 (x : Nat)) ∧ W.cell? ⟨w.heap.size, 1, none⟩ = some (.int .u64 (y : Nat)) ∧ W.cell? ⟨w1.heap.size, 0, none⟩ = some (.int .u8 (c : Nat)) ∧ W.cell? ⟨w1.heap.size, 1, none⟩ = some (.int .u64 ((wd s 0 : Nat) : Int)) ∧ W.cell? ⟨w1.heap.size, 2, none⟩ = some (.int .u64 ((wd s 1 : Nat) : Int)) ∧ W.cell? ⟨w1.heap.size, 3, none⟩ = some (.int .u64 ((wd s 2 : Nat) : Int)) ∧ W.cell? ⟨w1.heap.size, 4, none⟩ = some (.int .u64 ((wd s 3 : Nat) : Int)) ∧ W.cell? ⟨w1.heap.size, 5, none⟩ = some (.int .u64 ((wd s 4 : Nat) : Int)) ∧ W.cell? ⟨w1.heap.size, 6, none⟩ = some (.int .u64 ((wd s 5 : Nat) : Int)) ∧ W.cell? ⟨w1.heap.size, 7, none⟩ = some (.int .i64 X) ∧ W.cell? ⟨w1.heap.size, 8, none⟩ = some (.int .u64 ((wd rr 0 : Nat) : Int)) ∧ W.cell? ⟨w1.heap.size, 9, none⟩ = some (.int .u64 ((wd rr 1 : Nat) : Int)) ∧ W.cell? ⟨w1.heap.size, 10, none⟩ = some (.int .u64 ((wd rr 2 : Nat) : Int)) ∧ W.cell? ⟨w1.heap.size, 11, none⟩ = some (.int .u64 ((wd rr 3 : Nat) : Int)) ∧ W.cell? ⟨w1.heap.size, 12, none⟩ = some (.int .u64 ((wd rr 4 : Nat) : Int)) ∧ W.cell? ⟨w1.heap.size, 13, none⟩ = some (.int .u64 ((wd rr 5 : Nat) : Int))) → Below W.heap.size W W1 → (Below w.heap.size w W1 ∧ W1.heap[w.heap.size]? = some (Obj.cells #[.int .u64 (x : Nat), .int .u64 (y : Nat)] 25) ∧ W1.heap[w1.heap.size]? = some (Obj.cells (pt c s X rr) 90) ∧ W1.cell? ⟨w.heap.size, 0, none⟩ = some (.int .u64 (x : Nat)) ∧ W1.cell? ⟨w.heap.size, 1, none⟩ = some (.int .u64 (y : Nat)) ∧ W1.cell? ⟨w1.heap.size, 0, none⟩ = some (.int .u8 (c : Nat)) ∧ W1.cell? ⟨w1.heap.size, 1, none⟩ = some (.int .u64 ((wd s 0 : Nat) : Int)) ∧ W1.cell? ⟨w1.heap.size, 2, none⟩ = some (.int .u64 ((wd s 1 : Nat) : Int)) ∧ W1.cell? ⟨w1.heap.size, 3, none⟩ = some (.int .u64 ((wd s 2 : Nat) : Int)) ∧ W1.cell? ⟨w1.heap.size, 4, none⟩ = some (.int .u64 ((wd s 3 : Nat) : Int)) ∧ W1.cell? ⟨w1.heap.size, 5, none⟩ = some (.int .u64 ((wd s 4 : Nat) : Int)) ∧ W1.cell? ⟨w1.heap.size, 6, none⟩ = some (.int .u64 ((wd s 5 : Nat) : Int)) ∧ W1.cell? ⟨w1.heap.size, 7, none⟩ = some (.int .i64 X) ∧ W1.cell? ⟨w1.heap.size, 8, none⟩ = some (.int .u64 ((wd rr 0 : Nat) : Int)) ∧ W1.cell? ⟨w1.heap.size, 9, none⟩ = some (.int .u64 ((wd rr 1 : Nat) : Int)) ∧ W1.cell? ⟨w1.heap.size, 10, none⟩ = some (.int .u64 ((wd rr 2 : Nat) : Int)) ∧ W1.cell? ⟨w1.heap.size, 11, none⟩ = some (.int .u64 ((wd rr 3 : Nat) : Int)) ∧ W1.cell? ⟨w1.heap.size, 12, none⟩ = some (.int .u64 ((wd rr 4 : Nat) : Int)) ∧ W1.cell? ⟨w1.heap.size, 13, none⟩ = some (.int .u64 ((wd rr 5 : Nat) : Int)))) := box (fun W W1 h b => ⟨btr h.1 b, heap_of b _ _ _ h.2.1, heap_of b _ _ _ h.2.2.1, cell7 (heap_of b _ _ _ h.2.1) 0 _ rfl, cell7 (heap_of b _ _ _ h.2.1) 1 _ rfl, cell7 (heap_of b _ _ _ h.2.2.1) 0 _ rfl, cell7 (heap_of b _ _ _ h.2.2.1) 1 _ rfl, cell7 (heap_of b _ _ _ h.2.2.1) 2 _ rfl, cell7 (heap_of b _ _ _ h.2.2.1) 3 _ rfl, cell7 (heap_of b _ _ _ h.2.2.1) 4 _ rfl, cell7 (heap_of b _ _ _ h.2.2.1) 5 _ rfl, cell7 (heap_of b _ _ _ h.2.2.1) 6 _ rfl, cell7 (heap_of b _ _ _ h.2.2.1) 7 _ rfl, cell7 (heap_of b _ _ _ h.2.2.1) 8 _ rfl, cell7 (heap_of b _ _ _ h.2.2.1) 9 _ rfl, cell7 (heap_of b _ _ _ h.2.2.1) 10 _ rfl, cell7 (heap_of b _ _ _ h.2.2.1) 11 _ rfl, cell7 (heap_of b _ _ _ h.2.2.1) 12 _ rfl, cell7 (heap_of b _ _ _ h.2.2.1) 13 _ rfl⟩)
  have sT : Box (∀ (W : World) (xA xB xC xD : Value), (Below w.heap.size w W ∧ W.heap[w.heap.size]? = some (Obj.cells #[.int .u64 (x : Nat), .int .u64 (y : Nat)] 25) ∧ W.heap[w1.heap.size]? = some (Obj.cells (pt c s X rr) 90) ∧ W.cell? ⟨w.heap.size, 0, none⟩ = some (.int .u64 (x : Nat)) ∧ W.cell? ⟨w.heap.size, 1, none⟩ = some (.int .u64 (y : Nat)) ∧ W.cell? ⟨w1.heap.size, 0, none⟩ = some (.int .u8 (c : Nat)) ∧ W.cell? ⟨w1.heap.size, 1, none⟩ = some (.int .u64 ((wd s 0 : Nat) : Int)) ∧ W.cell? ⟨w1.heap.size, 2, none⟩ = some (.int .u64 ((wd s 1 : Nat) : Int)) ∧ W.cell? ⟨w1.heap.size, 3, none⟩ = some (.int .u64 ((wd s 2 : Nat) : Int)) ∧ W.cell? ⟨w1.heap.size, 4, none⟩ = some (.int .u64 ((wd s 3 : Nat) : Int)) ∧ W.cell? ⟨w1.heap.size, 5, none⟩ = some (.int .u64 ((wd s 4 : Nat) : Int)) ∧ W.cell? ⟨w1.heap.size, 6, none⟩ = some (.int .u64 ((wd s 5 : Nat) : Int)) ∧ W.cell? ⟨w1.heap.size, 7, none⟩ = some (.int .i64 X) ∧ W.cell? ⟨w1.heap.size, 8, none⟩ = some (.int .u64 ((wd rr 0 : Nat) : Int)) ∧ W.cell? ⟨w1.heap.size, 9, none⟩ = some (.int .u64 ((wd rr 1 : Nat) : Int)) ∧ W.cell? ⟨w1.heap.size, 10, none⟩ = some (.int .u64 ((wd rr 2 : Nat) : Int)) ∧ W.cell? ⟨w1.heap.size, 11, none⟩ = some (.int .u64 ((wd rr 3 : Nat) : Int)) ∧ W.cell? ⟨w1.heap.size, 12, none⟩ = some (.int .u64 ((wd rr 4 : Nat) : Int)) ∧ W.cell? ⟨w1.heap.size, 13, none⟩ = some (.int .u64 ((wd rr 5 : Nat) : Int))) → (Below w.heap.size w ((((W.setCell ⟨w.heap.size + 1, 0, none⟩ xA).setCell ⟨w.heap.size + 1, 1, none⟩ xB).setCell ⟨w.heap.size + 1, 2, none⟩ xC).setCell ⟨w.heap.size + 1, 3, none⟩ xD) ∧ ((((W.setCell ⟨w.heap.size + 1, 0, none⟩ xA).setCell ⟨w.heap.size + 1, 1, none⟩ xB).setCell ⟨w.heap.size + 1, 2, none⟩ xC).setCell ⟨w.heap.size + 1, 3, none⟩ xD).heap[w.heap.size]? = some (Obj.cells #[.int .u64 (x : Nat), .int .u64 (y : Nat)] 25) ∧ ((((W.setCell ⟨w.heap.size + 1, 0, none⟩ xA).setCell ⟨w.heap.size + 1, 1, none⟩ xB).setCell ⟨w.heap.size + 1, 2, none⟩ xC).setCell ⟨w.heap.size + 1, 3, none⟩ xD).heap[w1.heap.size]? = some (Obj.cells (pt c s X rr) 90) ∧ ((((W.setCell ⟨w.heap.size + 1, 0, none⟩ xA).setCell ⟨w.heap.size + 1, 1, none⟩ xB).setCell ⟨w.heap.size + 1, 2, none⟩ xC).setCell ⟨w.heap.size + 1, 3, none⟩ xD).cell? ⟨w.heap.size, 0, none⟩ = some (.int .u64 (x : Nat)) ∧ ((((W.setCell ⟨w.heap.size + 1, 0, none⟩ xA).setCell ⟨w.heap.size + 1, 1, none⟩ xB).setCell ⟨w.heap.size + 1, 2, none⟩ xC).setCell ⟨w.heap.size + 1, 3, none⟩ xD).cell? ⟨w.heap.size, 1, none⟩ = some (.int .u64 (y : Nat)) ∧ ((((W.setCell ⟨w.heap.size + 1, 0, none⟩ xA).setCell ⟨w.heap.size + 1, 1, none⟩ xB).setCell ⟨w.heap.size + 1, 2, none⟩ xC).setCell ⟨w.heap.size + 1, 3, none⟩ xD).cell? ⟨w1.heap.size, 0, none⟩ = some (.int .u8 (c : Nat)) ∧ ((((W.setCell ⟨w.heap.size + 1, 0, none⟩ xA).setCell ⟨w.heap.size + 1, 1, none⟩ xB).setCell ⟨w.heap.size + 1, 2, none⟩ xC).setCell ⟨w.heap.size + 1, 3, none⟩ xD).cell? ⟨w1.heap.size, 1, none⟩ = some (.int .u64 ((wd s 0 : Nat) : Int)) ∧ ((((W.setCell ⟨w.heap.size + 1, 0, none⟩ xA).setCell ⟨w.heap.size + 1, 1, none⟩ xB).setCell ⟨w.heap.size + 1, 2, none⟩ xC).setCell ⟨w.heap.size + 1, 3, none⟩ xD).cell? ⟨w1.heap.size, 2, none⟩ = some (.int .u64 ((wd s 1 : Nat) : Int)) ∧ ((((W.setCell ⟨w.heap.size + 1, 0, none⟩ xA).setCell ⟨w.heap.size + 1, 1, none⟩ xB).setCell ⟨w.heap.size + 1, 2, none⟩ xC).setCell ⟨w.heap.size + 1, 3, none⟩ xD).cell? ⟨w1.heap.size, 3, none⟩ = some (.int .u64 ((wd s 2 : Nat) : Int)) ∧ ((((W.setCell ⟨w.heap.size + 1, 0, none⟩ xA).setCell ⟨w.heap.size + 1, 1, none⟩ xB).setCell ⟨w.heap.size + 1, 2, none⟩ xC).setCell ⟨w.heap.size + 1, 3, none⟩ xD).cell? ⟨w1.heap.size, 4, none⟩ = some (.int .u64 ((wd s 3 : Nat) : Int)) ∧ ((((W.setCell ⟨w.heap.size + 1, 0, none⟩ xA).setCell ⟨w.heap.size + 1, 1, none⟩ xB).setCell ⟨w.heap.size + 1, 2, none⟩ xC).setCell ⟨w.heap.size + 1, 3, none⟩ xD).cell? ⟨w1.heap.size, 5, none⟩ = some (.int .u64 ((wd s 4 : Nat) : Int)) ∧ ((((W.setCell ⟨w.heap.size + 1, 0, none⟩ xA).setCell ⟨w.heap.size + 1, 1, none⟩ xB).setCell ⟨w.heap.size + 1, 2, none⟩ xC).setCell ⟨w.heap.size + 1, 3, none⟩ xD).cell? ⟨w1.heap.size, 6, none⟩ = some (.int .u64 ((wd s 5 : Nat) : Int)) ∧ ((((W.setCell ⟨w.heap.size + 1, 0, none⟩ xA).setCell ⟨w.heap.size + 1, 1, none⟩ xB).setCell ⟨w.heap.size + 1, 2, none⟩ xC).setCell ⟨w.heap.size + 1, 3, none⟩ xD).cell? ⟨w1.heap.size, 7, none⟩ = some (.int .i64 X) ∧ ((((W.setCell ⟨w.heap.size + 1, 0, none⟩ xA).setCell ⟨w.heap.size + 1, 1, none⟩ xB).setCell ⟨w.heap.size + 1, 2, none⟩ xC).setCell ⟨w.heap.size + 1, 3, none⟩ xD).cell? ⟨w1.heap.size, 8, none⟩ = some (.int .u64 ((wd rr 0 : Nat) : Int)) ∧ ((((W.setCell ⟨w.heap.size + 1, 0, none⟩ xA).setCell ⟨w.heap.size + 1, 1, none⟩ xB).setCell ⟨w.heap.size + 1, 2, none⟩ xC).setCell ⟨w.heap.size + 1, 3, none⟩ xD).cell? ⟨w1.heap.size, 9, none⟩ = some (.int .u64 ((wd rr 1 : Nat) : Int)) ∧ ((((W.setCell ⟨w.heap.size + 1, 0, none⟩ xA).setCell ⟨w.heap.size + 1, 1, none⟩ xB).setCell ⟨w.heap.size + 1, 2, none⟩ xC).setCell ⟨w.heap.size + 1, 3, none⟩ xD).cell? ⟨w1.heap.size, 10, none⟩ = some (.int .u64 ((wd rr 2 : Nat) : Int)) ∧ ((((W.setCell ⟨w.heap.size + 1, 0, none⟩ xA).setCell ⟨w.heap.size + 1, 1, none⟩ xB).setCell ⟨w.heap.size + 1, 2, none⟩ xC).setCell ⟨w.heap.size + 1, 3, none⟩ xD).cell? ⟨w1.heap.size, 11, none⟩ = some (.int .u64 ((wd rr 3 : Nat) : Int)) ∧ ((((W.setCell ⟨w.heap.size + 1, 0, none⟩ xA).setCell ⟨w.heap.size + 1, 1, none⟩ xB).setCell ⟨w.heap.size + 1, 2, none⟩ xC).setCell ⟨w.heap.size + 1, 3, none⟩ xD).cell? ⟨w1.heap.size, 12, none⟩ = some (.int .u64 ((wd rr 4 : Nat) : Int)) ∧ ((((W.setCell ⟨w.heap.size + 1, 0, none⟩ xA).setCell ⟨w.heap.size + 1, 1, none⟩ xB).setCell ⟨w.heap.size + 1, 2, none⟩ xC).setCell ⟨w.heap.size + 1, 3, none⟩ xD).cell? ⟨w1.heap.size, 13, none⟩ = some (.int .u64 ((wd rr 5 : Nat) : Int)))) := box (fun W xA xB xC xD h => ⟨set4_below h.1 (by first | exact Nat.le_refl _ | omega | (have := S2.out; have := Lb_2.out; have := Lz_2.out; omega)) xA xB xC xD, ((setCell_other (by first | omega | (have := S2.out; have := Lb_2.out; have := Lz_2.out; omega))).trans ((setCell_other (by first | omega | (have := S2.out; have := Lb_2.out; have := Lz_2.out; omega))).trans ((setCell_other (by first | omega | (have := S2.out; have := Lb_2.out; have := Lz_2.out; omega))).trans ((setCell_other (by first | omega | (have := S2.out; have := Lb_2.out; have := Lz_2.out; omega))).trans h.2.1)))), ((setCell_other (by first | omega | (have := S2.out; have := Lb_2.out; have := Lz_2.out; omega))).trans ((setCell_other (by first | omega | (have := S2.out; have := Lb_2.out; have := Lz_2.out; omega))).trans ((setCell_other (by first | omega | (have := S2.out; have := Lb_2.out; have := Lz_2.out; omega))).trans ((setCell_other (by first | omega | (have := S2.out; have := Lb_2.out; have := Lz_2.out; omega))).trans h.2.2.1)))), cell7 (((setCell_other (by first | omega | (have := S2.out; have := Lb_2.out; have := Lz_2.out; omega))).trans ((setCell_other (by first | omega | (have := S2.out; have := Lb_2.out; have := Lz_2.out; omega))).trans ((setCell_other (by first | omega | (have := S2.out; have := Lb_2.out; have := Lz_2.out; omega))).trans ((setCell_other (by first | omega | (have := S2.out; have := Lb_2.out; have := Lz_2.out; omega))).trans h.2.1))))) 0 _ rfl, cell7 (((setCell_other (by first | omega | (have := S2.out; have := Lb_2.out; have := Lz_2.out; omega))).trans ((setCell_other (by first | omega | (have := S2.out; have := Lb_2.out; have := Lz_2.out; omega))).trans ((setCell_other (by first | omega | (have := S2.out; have := Lb_2.out; have := Lz_2.out; omega))).trans ((setCell_other (by first | omega | (have := S2.out; have := Lb_2.out; have := Lz_2.out; omega))).trans h.2.1))))) 1 _ rfl, cell7 (((setCell_other (by first | omega | (have := S2.out; have := Lb_2.out; have := Lz_2.out; omega))).trans ((setCell_other (by first | omega | (have := S2.out; have := Lb_2.out; have := Lz_2.out; omega))).trans ((setCell_other (by first | omega | (have := S2.out; have := Lb_2.out; have := Lz_2.out; omega))).trans ((setCell_other (by first | omega | (have := S2.out; have := Lb_2.out; have := Lz_2.out; omega))).trans h.2.2.1))))) 0 _ rfl, cell7 (((setCell_other (by first | omega | (have := S2.out; have := Lb_2.out; have := Lz_2.out; omega))).trans ((setCell_other (by first | omega | (have := S2.out; have := Lb_2.out; have := Lz_2.out; omega))).trans ((setCell_other (by first | omega | (have := S2.out; have := Lb_2.out; have := Lz_2.out; omega))).trans ((setCell_other (by first | omega | (have := S2.out; have := Lb_2.out; have := Lz_2.out; omega))).trans h.2.2.1))))) 1 _ rfl, cell7 (((setCell_other (by first | omega | (have := S2.out; have := Lb_2.out; have := Lz_2.out; omega))).trans ((setCell_other (by first | omega | (have := S2.out; have := Lb_2.out; have := Lz_2.out; omega))).trans ((setCell_other (by first | omega | (have := S2.out; have := Lb_2.out; have := Lz_2.out; omega))).trans ((setCell_other (by first | omega | (have := S2.out; have := Lb_2.out; have := Lz_2.out; omega))).trans h.2.2.1))))) 2 _ rfl, cell7 (((setCell_other (by first | omega | (have := S2.out; have := Lb_2.out; have := Lz_2.out; omega))).trans ((setCell_other (by first | omega | (have := S2.out; have := Lb_2.out; have := Lz_2.out; omega))).trans ((setCell_other (by first | omega | (have := S2.out; have := Lb_2.out; have := Lz_2.out; omega))).trans ((setCell_other (by first | omega | (have := S2.out; have := Lb_2.out; have := Lz_2.out; omega))).trans h.2.2.1))))) 3 _ rfl, cell7 (((setCell_other (by first | omega | (have := S2.out; have := Lb_2.out; have := Lz_2.out; omega))).trans ((setCell_other (by first | omega | (have := S2.out; have := Lb_2.out; have := Lz_2.out; omega))).trans ((setCell_other (by first | omega | (have := S2.out; have := Lb_2.out; have := Lz_2.out; omega))).trans ((setCell_other (by first | omega | (have := S2.out; have := Lb_2.out; have := Lz_2.out; omega))).trans h.2.2.1))))) 4 _ rfl, cell7 (((setCell_other (by first | omega | (have := S2.out; have := Lb_2.out; have := Lz_2.out; omega))).trans ((setCell_other (by first | omega | (have := S2.out; have := Lb_2.out; have := Lz_2.out; omega))).trans ((setCell_other (by first | omega | (have := S2.out; have := Lb_2.out; have := Lz_2.out; omega))).trans ((setCell_other (by first | omega | (have := S2.out; have := Lb_2.out; have := Lz_2.out; omega))).trans h.2.2.1))))) 5 _ rfl, cell7 (((setCell_other (by first | omega | (have := S2.out; have := Lb_2.out; have := Lz_2.out; omega))).trans ((setCell_other (by first | omega | (have := S2.out; have := Lb_2.out; have := Lz_2.out; omega))).trans ((setCell_other (by first | omega | (have := S2.out; have := Lb_2.out; have := Lz_2.out; omega))).trans ((setCell_other (by first | omega | (have := S2.out; have := Lb_2.out; have := Lz_2.out; omega))).trans h.2.2.1))))) 6 _ rfl, cell7 (((setCell_other (by first | omega | (have := S2.out; have := Lb_2.out; have := Lz_2.out; omega))).trans ((setCell_other (by first | omega | (have := S2.out; have := Lb_2.out; have := Lz_2.out; omega))).trans ((setCell_other (by first | omega | (have := S2.out; have := Lb_2.out; have := Lz_2.out; omega))).trans ((setCell_other (by first | omega | (have := S2.out; have := Lb_2.out; have := Lz_2.out; omega))).trans h.2.2.1))))) 7 _ rfl, cell7 (((setCell_other (by first | omega | (have := S2.out; have := Lb_2.out; have := Lz_2.out; omega))).trans ((setCell_other (by first | omega | (have := S2.out; have := Lb_2.out; have := Lz_2.out; omega))).trans ((setCell_other (by first | omega | (have := S2.out; have := Lb_2.out; have := Lz_2.out; omega))).trans ((setCell_other (by first | omega | (have := S2.out; have := Lb_2.out; have := Lz_2.out; omega))).trans h.2.2.1))))) 8 _ rfl, cell7 (((setCell_other (by first | omega | (have := S2.out; have := Lb_2.out; have := Lz_2.out; omega))).trans ((setCell_other (by first | omega | (have := S2.out; have := Lb_2.out; have := Lz_2.out; omega))).trans ((setCell_other (by first | omega | (have := S2.out; have := Lb_2.out; have := Lz_2.out; omega))).trans ((setCell_other (by first | omega | (have := S2.out; have := Lb_2.out; have := Lz_2.out; omega))).trans h.2.2.1))))) 9 _ rfl, cell7 (((setCell_other (by first | omega | (have := S2.out; have := Lb_2.out; have := Lz_2.out; omega))).trans ((setCell_other (by first | omega | (have := S2.out; have := Lb_2.out; have := Lz_2.out; omega))).trans ((setCell_other (by first | omega | (have := S2.out; have := Lb_2.out; have := Lz_2.out; omega))).trans ((setCell_other (by first | omega | (have := S2.out; have := Lb_2.out; have := Lz_2.out; omega))).trans h.2.2.1))))) 10 _ rfl, cell7 (((setCell_other (by first | omega | (have := S2.out; have := Lb_2.out; have := Lz_2.out; omega))).trans ((setCell_other (by first | omega | (have := S2.out; have := Lb_2.out; have := Lz_2.out; omega))).trans ((setCell_other (by first | omega | (have := S2.out; have := Lb_2.out; have := Lz_2.out; omega))).trans ((setCell_other (by first | omega | (have := S2.out; have := Lb_2.out; have := Lz_2.out; omega))).trans h.2.2.1))))) 11 _ rfl, cell7 (((setCell_other (by first | omega | (have := S2.out; have := Lb_2.out; have := Lz_2.out; omega))).trans ((setCell_other (by first | omega | (have := S2.out; have := Lb_2.out; have := Lz_2.out; omega))).trans ((setCell_other (by first | omega | (have := S2.out; have := Lb_2.out; have := Lz_2.out; omega))).trans ((setCell_other (by first | omega | (have := S2.out; have := Lb_2.out; have := Lz_2.out; omega))).trans h.2.2.1))))) 12 _ rfl, cell7 (((setCell_other (by first | omega | (have := S2.out; have := Lb_2.out; have := Lz_2.out; omega))).trans ((setCell_other (by first | omega | (have := S2.out; have := Lb_2.out; have := Lz_2.out; omega))).trans ((setCell_other (by first | omega | (have := S2.out; have := Lb_2.out; have := Lz_2.out; omega))).trans ((setCell_other (by first | omega | (have := S2.out; have := Lb_2.out; have := Lz_2.out; omega))).trans h.2.2.1))))) 13 _ rfl⟩)
  have s0 : Below w.heap.size w (w3).drew ∧ (w3).drew.heap[w.heap.size]? = some (Obj.cells #[.int .u64 (x : Nat), .int .u64 (y : Nat)] 25) ∧ (w3).drew.heap[w1.heap.size]? = some (Obj.cells (pt c s X rr) 90) ∧ (w3).drew.cell? ⟨w.heap.size, 0, none⟩ = some (.int .u64 (x : Nat)) ∧ (w3).drew.cell? ⟨w.heap.size, 1, none⟩ = some (.int .u64 (y : Nat)) ∧ (w3).drew.cell? ⟨w1.heap.size, 0, none⟩ = some (.int .u8 (c : Nat)) ∧ (w3).drew.cell? ⟨w1.heap.size, 1, none⟩ = some (.int .u64 ((wd s 0 : Nat) : Int)) ∧ (w3).drew.cell? ⟨w1.heap.size, 2, none⟩ = some (.int .u64 ((wd s 1 : Nat) : Int)) ∧ (w3).drew.cell? ⟨w1.heap.size, 3, none⟩ = some (.int .u64 ((wd s 2 : Nat) : Int)) ∧ (w3).drew.cell? ⟨w1.heap.size, 4, none⟩ = some (.int .u64 ((wd s 3 : Nat) : Int)) ∧ (w3).drew.cell? ⟨w1.heap.size, 5, none⟩ = some (.int .u64 ((wd s 4 : Nat) : Int)) ∧ (w3).drew.cell? ⟨w1.heap.size, 6, none⟩ = some (.int .u64 ((wd s 5 : Nat) : Int)) ∧ (w3).drew.cell? ⟨w1.heap.size, 7, none⟩ = some (.int .i64 X) ∧ (w3).drew.cell? ⟨w1.heap.size, 8, none⟩ = some (.int .u64 ((wd rr 0 : Nat) : Int)) ∧ (w3).drew.cell? ⟨w1.heap.size, 9, none⟩ = some (.int .u64 ((wd rr 1 : Nat) : Int)) ∧ (w3).drew.cell? ⟨w1.heap.size, 10, none⟩ = some (.int .u64 ((wd rr 2 : Nat) : Int)) ∧ (w3).drew.cell? ⟨w1.heap.size, 11, none⟩ = some (.int .u64 ((wd rr 3 : Nat) : Int)) ∧ (w3).drew.cell? ⟨w1.heap.size, 12, none⟩ = some (.int .u64 ((wd rr 4 : Nat) : Int)) ∧ (w3).drew.cell? ⟨w1.heap.size, 13, none⟩ = some (.int .u64 ((wd rr 5 : Nat) : Int)) := ⟨B3.drew, Rb_3, Rp_3, cell7 (Rb_3) 0 _ rfl, cell7 (Rb_3) 1 _ rfl, cell7 (Rp_3) 0 _ rfl, cell7 (Rp_3) 1 _ rfl, cell7 (Rp_3) 2 _ rfl, cell7 (Rp_3) 3 _ rfl, cell7 (Rp_3) 4 _ rfl, cell7 (Rp_3) 5 _ rfl, cell7 (Rp_3) 6 _ rfl, cell7 (Rp_3) 7 _ rfl, cell7 (Rp_3) 8 _ rfl, cell7 (Rp_3) 9 _ rfl, cell7 (Rp_3) 10 _ rfl, cell7 (Rp_3) 11 _ rfl, cell7 (Rp_3) 12 _ rfl, cell7 (Rp_3) 13 _ rfl⟩
  have rz : (w3).drew.heap[w.heap.size + 1]? = some (Obj.cells #[.bool false, .string ⟨#[]⟩, .string ⟨#[]⟩, .int .i64 0] 41) := Rz_3
  have hq0 := fz (k := 0) rz
  have hq1 := fz (k := 1) rz
  have hq2 := fz (k := 2) rz
  have hq3 := fz (k := 3) rz
  have hc0 := cell7 rz 0 _ rfl
  have hc1 := cell7 rz 1 _ rfl
  have hc2 := cell7 rz 2 _ rfl
  have hc3 := cell7 rz 3 _ rfl
  go_wp2_with fail
  go_region_held3 (fun W => Below w.heap.size w W ∧ W.heap[w.heap.size]? = some (Obj.cells #[.int .u64 (x : Nat), .int .u64 (y : Nat)] 25) ∧ W.heap[w1.heap.size]? = some (Obj.cells (pt c s X rr) 90) ∧ W.cell? ⟨w.heap.size, 0, none⟩ = some (.int .u64 (x : Nat)) ∧ W.cell? ⟨w.heap.size, 1, none⟩ = some (.int .u64 (y : Nat)) ∧ W.cell? ⟨w1.heap.size, 0, none⟩ = some (.int .u8 (c : Nat)) ∧ W.cell? ⟨w1.heap.size, 1, none⟩ = some (.int .u64 ((wd s 0 : Nat) : Int)) ∧ W.cell? ⟨w1.heap.size, 2, none⟩ = some (.int .u64 ((wd s 1 : Nat) : Int)) ∧ W.cell? ⟨w1.heap.size, 3, none⟩ = some (.int .u64 ((wd s 2 : Nat) : Int)) ∧ W.cell? ⟨w1.heap.size, 4, none⟩ = some (.int .u64 ((wd s 3 : Nat) : Int)) ∧ W.cell? ⟨w1.heap.size, 5, none⟩ = some (.int .u64 ((wd s 4 : Nat) : Int)) ∧ W.cell? ⟨w1.heap.size, 6, none⟩ = some (.int .u64 ((wd s 5 : Nat) : Int)) ∧ W.cell? ⟨w1.heap.size, 7, none⟩ = some (.int .i64 X) ∧ W.cell? ⟨w1.heap.size, 8, none⟩ = some (.int .u64 ((wd rr 0 : Nat) : Int)) ∧ W.cell? ⟨w1.heap.size, 9, none⟩ = some (.int .u64 ((wd rr 1 : Nat) : Int)) ∧ W.cell? ⟨w1.heap.size, 10, none⟩ = some (.int .u64 ((wd rr 2 : Nat) : Int)) ∧ W.cell? ⟨w1.heap.size, 11, none⟩ = some (.int .u64 ((wd rr 3 : Nat) : Int)) ∧ W.cell? ⟨w1.heap.size, 12, none⟩ = some (.int .u64 ((wd rr 4 : Nat) : Int)) ∧ W.cell? ⟨w1.heap.size, 13, none⟩ = some (.int .u64 ((wd rr 5 : Nat) : Int))) (first | exact s1 | exact s0 | exact sT.out _ _ _ _ _ s1 | exact sT.out _ _ _ _ _ s0)
    (first | (go_at_call 53; (first | refine (KS.out _ (fatB FF.out (And.left s1))).mono ?_ | refine (KS.out _ (fatB FF.out (And.left s0))).mono ?_); rintro r wq ⟨rfl, bq⟩; have s1 := (by first | exact sS.out _ _ s1 bq | exact sS.out _ _ s0 bq); have rz := heap_of bq _ _ _ rz; have hq0 := fz (k := 0) rz; have hc0 := cell7 rz 0 _ rfl; have hq1 := fz (k := 1) rz; have hc1 := cell7 rz 1 _ rfl; have hq2 := fz (k := 2) rz; have hc2 := cell7 rz 2 _ rfl; have hq3 := fz (k := 3) rz; have hc3 := cell7 rz 3 _ rfl; clear bq) | (go_at_call 169; (first | refine (KN.out _).mono ?_ | refine (KN.out _).mono ?_); rintro r wq ⟨rfl, bq⟩; have s1 := (by first | exact sS.out _ _ s1 bq | exact sS.out _ _ s0 bq); have rz := heap_of bq _ _ _ rz; have hq0 := fz (k := 0) rz; have hc0 := cell7 rz 0 _ rfl; have hq1 := fz (k := 1) rz; have hc1 := cell7 rz 1 _ rfl; have hq2 := fz (k := 2) rz; have hc2 := cell7 rz 2 _ rfl; have hq3 := fz (k := 3) rz; have hc3 := cell7 rz 3 _ rfl; clear bq) | (go_at_call 168; (first | refine (KM.out _ (tabB TT.out (And.left s1))).mono ?_ | refine (KM.out _ (tabB TT.out (And.left s0))).mono ?_); rintro r wq ⟨rfl, bq⟩; have s1 := (by first | exact sS.out _ _ s1 bq | exact sS.out _ _ s0 bq); have rz := heap_of bq _ _ _ rz; have hq0 := fz (k := 0) rz; have hc0 := cell7 rz 0 _ rfl; have hq1 := fz (k := 1) rz; have hc1 := cell7 rz 1 _ rfl; have hq2 := fz (k := 2) rz; have hc2 := cell7 rz 2 _ rfl; have hq3 := fz (k := 3) rz; have hc3 := cell7 rz 3 _ rfl; clear bq) | fail)
  obtain ⟨E0, E1, E2, E3⟩ := set4_cells rz rfl (.bool rb) (.string u) (.string v) (.int .i64 re)
  have BZ := (by first | exact And.left s1 | exact And.left s0 : Below w.heap.size w _)
  go_wp2
  exact bodyPost_ret (v := .tuple #[.agg #[.bool rb, .string u, .string v, .int .i64 re], .int .i64 err]) (by simp [results, Tryz.results83, go_sem, E0, E1, E2, E3]) rfl ⟨rfl, set4_below BZ (by first | exact Nat.le_refl _ | omega | (have := S2.out; have := Lb_2.out; have := Lz_2.out; omega)) _ _ _ _⟩
end Go.Proofs.YtbmhfcppaajgbaaGreatDoor
namespace Go.Proofs.YtbmhfcppaajgbaaGreatDoor
set_option maxRecDepth 100000
open Go.RowKit WMath
set_option linter.unusedSimpArgs false
set_option linter.unusedVariables false

set_option maxRecDepth 100000 in
set_option maxHeartbeats 2000000 in
theorem kof_zero (f : Int) (b : Bool) (s t : ByteArray) (e : Int) (w : World)
    (KC : Box (∀ w, Calls Tryz.prog 60 #[.int .u8 f] w fun r w' => r = .returned (.int .i64 0) ∧ Below w.heap.size w w'))
    (KX : Box (∀ w, TabAt w → Calls Tryz.prog 146 #[.agg #[.bool b, .string s, .string t, .int .i64 e]] w fun r w' => r = .returned (.int .i64 0) ∧ Below w.heap.size w w'))
    (KS : Box (∀ w, TabAt w → Calls Tryz.prog 32 #[.agg #[.bool b, .string s, .string t, .int .i64 e]] w fun r w' => r = .returned (.int .i64 0) ∧ Below w.heap.size w w'))
    (KZ : Box (∀ w, FAt w → Calls Tryz.prog 74 #[.int .u8 f, .bool false] w fun r w' => r = .returned (.agg #[.int .u64 0, .int .u64 0]) ∧ Below w.heap.size w w'))
    (hT : FAt w) (hT2 : TabAt w) : Calls Tryz.prog 226 #[.int .u8 f, .agg #[.bool b, .string s, .string t, .int .i64 e]] w fun r w' => r = .returned (.tuple #[.agg #[.int .u64 0, .int .u64 0], .bool true, .int .i64 0]) ∧ Below w.heap.size w w' := by
  have FF := box hT
  have TT := box hT2
  clear hT hT2
  have hat := cw_at 6
  have hz := cw6z
  have hff := cw6f
  have hs0 := st0
  have hcs : ∀ x, ((cw 6 x).size = 6) = True := fun x => eq_true (cw_size 6 x)
  obtain ⟨Rx_0, Rz_0, B0⟩ := opn2 w (Obj.cells #[.bool b, .string s, .string t, .int .i64 e] 41) (Obj.cells #[.int .u64 0, .int .u64 0] 25)
  go_enter Tryz.func226, Tryz.ntmps226
  go_wp2_with fail
  refine (KC.out _).mono ?_
  rintro r w1 ⟨rfl, b1⟩
  have B1 : Below w.heap.size w w1 := btr B0 b1
  have Rx_1 := heap_of b1 _ _ _ Rx_0
  have Rz_1 := heap_of b1 _ _ _ Rz_0
  clear b1 B0 Rx_0 Rz_0
  obtain ⟨cx_1_0, cx_1_1, cx_1_2, cx_1_3⟩ := cells4s Rx_1
  obtain ⟨cz_1_0, cz_1_1⟩ := cells2s Rz_1
  go_wp2_with fail
  refine (KX.out _ (tabB TT.out B1)).mono ?_
  rintro r w2 ⟨rfl, b2⟩
  have B2 : Below w.heap.size w w2 := btr B1 b2
  have Rx_2 := heap_of b2 _ _ _ Rx_1
  have Rz_2 := heap_of b2 _ _ _ Rz_1
  clear b2 B1 Rx_1 cx_1_0 cx_1_1 cx_1_2 cx_1_3 Rz_1 cz_1_0 cz_1_1
  obtain ⟨cx_2_0, cx_2_1, cx_2_2, cx_2_3⟩ := cells4s Rx_2
  obtain ⟨cz_2_0, cz_2_1⟩ := cells2s Rz_2
  go_wp2_with fail
  refine (KS.out _ (tabB TT.out B2)).mono ?_
  rintro r w3 ⟨rfl, b3⟩
  have B3 : Below w.heap.size w w3 := btr B2 b3
  have Rx_3 := heap_of b3 _ _ _ Rx_2
  have Rz_3 := heap_of b3 _ _ _ Rz_2
  clear b3 B2 Rx_2 cx_2_0 cx_2_1 cx_2_2 cx_2_3 Rz_2 cz_2_0 cz_2_1
  obtain ⟨cx_3_0, cx_3_1, cx_3_2, cx_3_3⟩ := cells4s Rx_3
  obtain ⟨cz_3_0, cz_3_1⟩ := cells2s Rz_3
  go_wp2_with fail
  refine (KZ.out _ (fatB FF.out B3)).mono ?_
  rintro r w4 ⟨rfl, b4⟩
  have B4 : Below w.heap.size w w4 := btr B3 b4
  have Rx_4 := heap_of b4 _ _ _ Rx_3
  have Rz_4 := heap_of b4 _ _ _ Rz_3
  clear b4 B3 Rx_3 cx_3_0 cx_3_1 cx_3_2 cx_3_3 Rz_3 cz_3_0 cz_3_1
  obtain ⟨cx_4_0, cx_4_1, cx_4_2, cx_4_3⟩ := cells4s Rx_4
  obtain ⟨cz_4_0, cz_4_1⟩ := cells2s Rz_4
  have q0 := fz (k := 0) Rz_4
  have q1 := fz (k := 1) Rz_4
  obtain ⟨E0, E1⟩ := set2_cells Rz_4 (.int .u64 0) (.int .u64 0)
  go_wp2
  exact bodyPost_ret (v := .tuple #[.agg #[.int .u64 0, .int .u64 0], .bool true, .int .i64 0]) (by simp [results, Tryz.results226, go_sem, E0, E1]) rfl ⟨rfl, set2_below B4 (by first | exact Nat.le_refl _ | omega | (skip; omega)) _ _⟩
set_option maxRecDepth 100000 in
set_option maxHeartbeats 2000000 in
theorem kof_over (f : Int) (b : Bool) (s t : ByteArray) (e : Int) (g T E : Int) (w : World)
    (KC : Box (∀ w, Calls Tryz.prog 60 #[.int .u8 f] w fun r w' => r = .returned (.int .i64 0) ∧ Below w.heap.size w w'))
    (KX : Box (∀ w, TabAt w → Calls Tryz.prog 146 #[.agg #[.bool b, .string s, .string t, .int .i64 e]] w fun r w' => r = .returned (.int .i64 0) ∧ Below w.heap.size w w'))
    (KS : Box (∀ w, TabAt w → Calls Tryz.prog 32 #[.agg #[.bool b, .string s, .string t, .int .i64 e]] w fun r w' => r = .returned (.int .i64 g) ∧ Below w.heap.size w w'))
    (KT : Box (∀ w, TabAt w → Calls Tryz.prog 227 #[.agg #[.bool b, .string s, .string t, .int .i64 e]] w fun r w' => r = .returned (.tuple #[.int .i64 T, .int .i64 0]) ∧ Below w.heap.size w w'))
    (KE : Box (∀ w, FAt w → Calls Tryz.prog 99 #[.int .u8 f] w fun r w' => r = .returned (.int .i64 E) ∧ Below w.heap.size w w'))
    (hg : (g == 0) = false) (ho : decide (E < T) = true)
    (hT : FAt w) (hT2 : TabAt w) : Calls Tryz.prog 226 #[.int .u8 f, .agg #[.bool b, .string s, .string t, .int .i64 e]] w fun r w' => r = .returned (.tuple #[.agg #[.int .u64 0, .int .u64 0], .bool false, .int .i64 0]) ∧ Below w.heap.size w w' := by
  have FF := box hT
  have TT := box hT2
  clear hT hT2
  have hat := cw_at 6
  have hz := cw6z
  have hff := cw6f
  have hs0 := st0
  have hcs : ∀ x, ((cw 6 x).size = 6) = True := fun x => eq_true (cw_size 6 x)
  obtain ⟨Rx_0, Rz_0, B0⟩ := opn2 w (Obj.cells #[.bool b, .string s, .string t, .int .i64 e] 41) (Obj.cells #[.int .u64 0, .int .u64 0] 25)
  go_enter Tryz.func226, Tryz.ntmps226
  go_wp2_with fail
  refine (KC.out _).mono ?_
  rintro r w1 ⟨rfl, b1⟩
  have B1 : Below w.heap.size w w1 := btr B0 b1
  have Rx_1 := heap_of b1 _ _ _ Rx_0
  have Rz_1 := heap_of b1 _ _ _ Rz_0
  clear b1 B0 Rx_0 Rz_0
  obtain ⟨cx_1_0, cx_1_1, cx_1_2, cx_1_3⟩ := cells4s Rx_1
  obtain ⟨cz_1_0, cz_1_1⟩ := cells2s Rz_1
  go_wp2_with fail
  refine (KX.out _ (tabB TT.out B1)).mono ?_
  rintro r w2 ⟨rfl, b2⟩
  have B2 : Below w.heap.size w w2 := btr B1 b2
  have Rx_2 := heap_of b2 _ _ _ Rx_1
  have Rz_2 := heap_of b2 _ _ _ Rz_1
  clear b2 B1 Rx_1 cx_1_0 cx_1_1 cx_1_2 cx_1_3 Rz_1 cz_1_0 cz_1_1
  obtain ⟨cx_2_0, cx_2_1, cx_2_2, cx_2_3⟩ := cells4s Rx_2
  obtain ⟨cz_2_0, cz_2_1⟩ := cells2s Rz_2
  go_wp2_with fail
  refine (KS.out _ (tabB TT.out B2)).mono ?_
  rintro r w3 ⟨rfl, b3⟩
  have B3 : Below w.heap.size w w3 := btr B2 b3
  have Rx_3 := heap_of b3 _ _ _ Rx_2
  have Rz_3 := heap_of b3 _ _ _ Rz_2
  clear b3 B2 Rx_2 cx_2_0 cx_2_1 cx_2_2 cx_2_3 Rz_2 cz_2_0 cz_2_1
  obtain ⟨cx_3_0, cx_3_1, cx_3_2, cx_3_3⟩ := cells4s Rx_3
  obtain ⟨cz_3_0, cz_3_1⟩ := cells2s Rz_3
  go_wp2_with fail
  refine (KT.out _ (tabB TT.out B3)).mono ?_
  rintro r w4 ⟨rfl, b4⟩
  have B4 : Below w.heap.size w w4 := btr B3 b4
  have Rx_4 := heap_of b4 _ _ _ Rx_3
  have Rz_4 := heap_of b4 _ _ _ Rz_3
  clear b4 B3 Rx_3 cx_3_0 cx_3_1 cx_3_2 cx_3_3 Rz_3 cz_3_0 cz_3_1
  obtain ⟨cx_4_0, cx_4_1, cx_4_2, cx_4_3⟩ := cells4s Rx_4
  obtain ⟨cz_4_0, cz_4_1⟩ := cells2s Rz_4
  go_wp2_with fail
  refine (KE.out _ (fatB FF.out B4)).mono ?_
  rintro r w5 ⟨rfl, b5⟩
  have B5 : Below w.heap.size w w5 := btr B4 b5
  have Rx_5 := heap_of b5 _ _ _ Rx_4
  have Rz_5 := heap_of b5 _ _ _ Rz_4
  clear b5 B4 Rx_4 cx_4_0 cx_4_1 cx_4_2 cx_4_3 Rz_4 cz_4_0 cz_4_1
  obtain ⟨cx_5_0, cx_5_1, cx_5_2, cx_5_3⟩ := cells4s Rx_5
  obtain ⟨cz_5_0, cz_5_1⟩ := cells2s Rz_5
  have q0 := fz (k := 0) Rz_5
  have q1 := fz (k := 1) Rz_5
  obtain ⟨E0, E1⟩ := set2_cells Rz_5 (.int .u64 0) (.int .u64 0)
  go_wp2
  exact bodyPost_ret (v := .tuple #[.agg #[.int .u64 0, .int .u64 0], .bool false, .int .i64 0]) (by simp [results, Tryz.results226, go_sem, E0, E1]) rfl ⟨rfl, set2_below B5 (by first | exact Nat.le_refl _ | omega | (skip; omega)) _ _⟩
set_option maxRecDepth 100000 in
set_option maxHeartbeats 2000000 in
theorem kof_frac (f : Int) (b : Bool) (s t : ByteArray) (e : Int) (g T E I P A1 A fe : Int) (m : ByteArray) (w : World)
    (KC : Box (∀ w, Calls Tryz.prog 60 #[.int .u8 f] w fun r w' => r = .returned (.int .i64 0) ∧ Below w.heap.size w w'))
    (KX : Box (∀ w, TabAt w → Calls Tryz.prog 146 #[.agg #[.bool b, .string s, .string t, .int .i64 e]] w fun r w' => r = .returned (.int .i64 0) ∧ Below w.heap.size w w'))
    (KS : Box (∀ w, TabAt w → Calls Tryz.prog 32 #[.agg #[.bool b, .string s, .string t, .int .i64 e]] w fun r w' => r = .returned (.int .i64 g) ∧ Below w.heap.size w w'))
    (KT : Box (∀ w, TabAt w → Calls Tryz.prog 227 #[.agg #[.bool b, .string s, .string t, .int .i64 e]] w fun r w' => r = .returned (.tuple #[.int .i64 T, .int .i64 0]) ∧ Below w.heap.size w w'))
    (KE : Box (∀ w, FAt w → Calls Tryz.prog 99 #[.int .u8 f] w fun r w' => r = .returned (.int .i64 E) ∧ Below w.heap.size w w'))
    (KI : Box (∀ w, FAt w → Calls Tryz.prog 98 #[.int .u8 f] w fun r w' => r = .returned (.int .i64 I) ∧ Below w.heap.size w w'))
    (KP : Box (∀ w, FAt w → Calls Tryz.prog 180 #[.int .u8 f] w fun r w' => r = .returned (.int .i64 P) ∧ Below w.heap.size w w'))
    (KF : Box (∀ w, TabAt w → Calls Tryz.prog 228 #[.agg #[.bool b, .string s, .string t, .int .i64 e], .int .i64 A] w fun r w' => r = .returned (.tuple #[.string m, .bool false, .int .i64 fe]) ∧ Below w.heap.size w w'))
    (hg : (g == 0) = false) (ho : decide (E < T) = false) (h1 : IntKind.i64.wrap (max T I - P) = A1) (h2 : IntKind.i64.wrap (A1 + 1) = A)
    (hT : FAt w) (hT2 : TabAt w) : Calls Tryz.prog 226 #[.int .u8 f, .agg #[.bool b, .string s, .string t, .int .i64 e]] w fun r w' => r = .returned (.tuple #[.agg #[.int .u64 0, .int .u64 0], .bool false, .int .i64 0]) ∧ Below w.heap.size w w' := by
  have FF := box hT
  have TT := box hT2
  clear hT hT2
  have hat := cw_at 6
  have hz := cw6z
  have hff := cw6f
  have hs0 := st0
  have hcs : ∀ x, ((cw 6 x).size = 6) = True := fun x => eq_true (cw_size 6 x)
  obtain ⟨Rx_0, Rz_0, B0⟩ := opn2 w (Obj.cells #[.bool b, .string s, .string t, .int .i64 e] 41) (Obj.cells #[.int .u64 0, .int .u64 0] 25)
  go_enter Tryz.func226, Tryz.ntmps226
  go_wp2_with fail
  refine (KC.out _).mono ?_
  rintro r w1 ⟨rfl, b1⟩
  have B1 : Below w.heap.size w w1 := btr B0 b1
  have Rx_1 := heap_of b1 _ _ _ Rx_0
  have Rz_1 := heap_of b1 _ _ _ Rz_0
  clear b1 B0 Rx_0 Rz_0
  obtain ⟨cx_1_0, cx_1_1, cx_1_2, cx_1_3⟩ := cells4s Rx_1
  obtain ⟨cz_1_0, cz_1_1⟩ := cells2s Rz_1
  go_wp2_with fail
  refine (KX.out _ (tabB TT.out B1)).mono ?_
  rintro r w2 ⟨rfl, b2⟩
  have B2 : Below w.heap.size w w2 := btr B1 b2
  have Rx_2 := heap_of b2 _ _ _ Rx_1
  have Rz_2 := heap_of b2 _ _ _ Rz_1
  clear b2 B1 Rx_1 cx_1_0 cx_1_1 cx_1_2 cx_1_3 Rz_1 cz_1_0 cz_1_1
  obtain ⟨cx_2_0, cx_2_1, cx_2_2, cx_2_3⟩ := cells4s Rx_2
  obtain ⟨cz_2_0, cz_2_1⟩ := cells2s Rz_2
  go_wp2_with fail
  refine (KS.out _ (tabB TT.out B2)).mono ?_
  rintro r w3 ⟨rfl, b3⟩
  have B3 : Below w.heap.size w w3 := btr B2 b3
  have Rx_3 := heap_of b3 _ _ _ Rx_2
  have Rz_3 := heap_of b3 _ _ _ Rz_2
  clear b3 B2 Rx_2 cx_2_0 cx_2_1 cx_2_2 cx_2_3 Rz_2 cz_2_0 cz_2_1
  obtain ⟨cx_3_0, cx_3_1, cx_3_2, cx_3_3⟩ := cells4s Rx_3
  obtain ⟨cz_3_0, cz_3_1⟩ := cells2s Rz_3
  go_wp2_with fail
  refine (KT.out _ (tabB TT.out B3)).mono ?_
  rintro r w4 ⟨rfl, b4⟩
  have B4 : Below w.heap.size w w4 := btr B3 b4
  have Rx_4 := heap_of b4 _ _ _ Rx_3
  have Rz_4 := heap_of b4 _ _ _ Rz_3
  clear b4 B3 Rx_3 cx_3_0 cx_3_1 cx_3_2 cx_3_3 Rz_3 cz_3_0 cz_3_1
  obtain ⟨cx_4_0, cx_4_1, cx_4_2, cx_4_3⟩ := cells4s Rx_4
  obtain ⟨cz_4_0, cz_4_1⟩ := cells2s Rz_4
  go_wp2_with fail
  refine (KE.out _ (fatB FF.out B4)).mono ?_
  rintro r w5 ⟨rfl, b5⟩
  have B5 : Below w.heap.size w w5 := btr B4 b5
  have Rx_5 := heap_of b5 _ _ _ Rx_4
  have Rz_5 := heap_of b5 _ _ _ Rz_4
  clear b5 B4 Rx_4 cx_4_0 cx_4_1 cx_4_2 cx_4_3 Rz_4 cz_4_0 cz_4_1
  obtain ⟨cx_5_0, cx_5_1, cx_5_2, cx_5_3⟩ := cells4s Rx_5
  obtain ⟨cz_5_0, cz_5_1⟩ := cells2s Rz_5
  go_wp2_with fail
  refine (KI.out _ (fatB FF.out B5)).mono ?_
  rintro r w6 ⟨rfl, b6⟩
  have B6 : Below w.heap.size w w6 := btr B5 b6
  have Rx_6 := heap_of b6 _ _ _ Rx_5
  have Rz_6 := heap_of b6 _ _ _ Rz_5
  clear b6 B5 Rx_5 cx_5_0 cx_5_1 cx_5_2 cx_5_3 Rz_5 cz_5_0 cz_5_1
  obtain ⟨cx_6_0, cx_6_1, cx_6_2, cx_6_3⟩ := cells4s Rx_6
  obtain ⟨cz_6_0, cz_6_1⟩ := cells2s Rz_6
  go_wp2_with fail
  refine (KP.out _ (fatB FF.out B6)).mono ?_
  rintro r w7 ⟨rfl, b7⟩
  have B7 : Below w.heap.size w w7 := btr B6 b7
  have Rx_7 := heap_of b7 _ _ _ Rx_6
  have Rz_7 := heap_of b7 _ _ _ Rz_6
  clear b7 B6 Rx_6 cx_6_0 cx_6_1 cx_6_2 cx_6_3 Rz_6 cz_6_0 cz_6_1
  obtain ⟨cx_7_0, cx_7_1, cx_7_2, cx_7_3⟩ := cells4s Rx_7
  obtain ⟨cz_7_0, cz_7_1⟩ := cells2s Rz_7
  go_wp2_with fail
  refine (KF.out _ (tabB TT.out B7)).mono ?_
  rintro r w8 ⟨rfl, b8⟩
  have B8 : Below w.heap.size w w8 := btr B7 b8
  have Rx_8 := heap_of b8 _ _ _ Rx_7
  have Rz_8 := heap_of b8 _ _ _ Rz_7
  clear b8 B7 Rx_7 cx_7_0 cx_7_1 cx_7_2 cx_7_3 Rz_7 cz_7_0 cz_7_1
  obtain ⟨cx_8_0, cx_8_1, cx_8_2, cx_8_3⟩ := cells4s Rx_8
  obtain ⟨cz_8_0, cz_8_1⟩ := cells2s Rz_8
  have q0 := fz (k := 0) Rz_8
  have q1 := fz (k := 1) Rz_8
  obtain ⟨E0, E1⟩ := set2_cells Rz_8 (.int .u64 0) (.int .u64 0)
  go_wp2
  exact bodyPost_ret (v := .tuple #[.agg #[.int .u64 0, .int .u64 0], .bool false, .int .i64 0]) (by simp [results, Tryz.results226, go_sem, E0, E1]) rfl ⟨rfl, set2_below B8 (by first | exact Nat.le_refl _ | omega | (skip; omega)) _ _⟩
set_option maxRecDepth 100000 in
set_option maxHeartbeats 2000000 in
theorem kof_yes (f : Int) (b : Bool) (s t : ByteArray) (e : Int) (g T E I P A1 A fe : Int) (m : ByteArray) (M i j u v : Nat) (w : World)
    (KC : Box (∀ w, Calls Tryz.prog 60 #[.int .u8 f] w fun r w' => r = .returned (.int .i64 0) ∧ Below w.heap.size w w'))
    (KX : Box (∀ w, TabAt w → Calls Tryz.prog 146 #[.agg #[.bool b, .string s, .string t, .int .i64 e]] w fun r w' => r = .returned (.int .i64 0) ∧ Below w.heap.size w w'))
    (KS : Box (∀ w, TabAt w → Calls Tryz.prog 32 #[.agg #[.bool b, .string s, .string t, .int .i64 e]] w fun r w' => r = .returned (.int .i64 g) ∧ Below w.heap.size w w'))
    (KT : Box (∀ w, TabAt w → Calls Tryz.prog 227 #[.agg #[.bool b, .string s, .string t, .int .i64 e]] w fun r w' => r = .returned (.tuple #[.int .i64 T, .int .i64 0]) ∧ Below w.heap.size w w'))
    (KE : Box (∀ w, FAt w → Calls Tryz.prog 99 #[.int .u8 f] w fun r w' => r = .returned (.int .i64 E) ∧ Below w.heap.size w w'))
    (KI : Box (∀ w, FAt w → Calls Tryz.prog 98 #[.int .u8 f] w fun r w' => r = .returned (.int .i64 I) ∧ Below w.heap.size w w'))
    (KP : Box (∀ w, FAt w → Calls Tryz.prog 180 #[.int .u8 f] w fun r w' => r = .returned (.int .i64 P) ∧ Below w.heap.size w w'))
    (KF : Box (∀ w, TabAt w → Calls Tryz.prog 228 #[.agg #[.bool b, .string s, .string t, .int .i64 e], .int .i64 A] w fun r w' => r = .returned (.tuple #[.string m, .bool true, .int .i64 fe]) ∧ Below w.heap.size w w'))
    (KW : Box (∀ w, Calls Tryz.prog 275 #[.string m] w fun r w' => r = .returned (.agg (cw 6 M)) ∧ Below w.heap.size w w'))
    (KB : Box (∀ w, FAt w → Calls Tryz.prog 136 #[.int .u8 f, .agg (cw 6 M), .int .i64 A] w fun r w' => r = .returned (.agg #[.int .u64 (i : Nat), .int .u64 (j : Nat)]) ∧ Below w.heap.size w w'))
    (KG : Box (∀ w, FAt w → Calls Tryz.prog 62 #[.int .u8 f, .agg #[.int .u64 (i : Nat), .int .u64 (j : Nat)], .bool b] w fun r w' => r = .returned (.agg #[.int .u64 (u : Nat), .int .u64 (v : Nat)]) ∧ Below w.heap.size w w'))
    (hg : (g == 0) = false) (ho : decide (E < T) = false) (h1 : IntKind.i64.wrap (max T I - P) = A1) (h2 : IntKind.i64.wrap (A1 + 1) = A)
    (hT : FAt w) (hT2 : TabAt w) : Calls Tryz.prog 226 #[.int .u8 f, .agg #[.bool b, .string s, .string t, .int .i64 e]] w fun r w' => r = .returned (.tuple #[.agg #[.int .u64 (u : Nat), .int .u64 (v : Nat)], .bool true, .int .i64 0]) ∧ Below w.heap.size w w' := by
  have FF := box hT
  have TT := box hT2
  clear hT hT2
  have hat := cw_at 6
  have hz := cw6z
  have hff := cw6f
  have hs0 := st0
  have hcs : ∀ x, ((cw 6 x).size = 6) = True := fun x => eq_true (cw_size 6 x)
  obtain ⟨Rx_0, Rz_0, B0⟩ := opn2 w (Obj.cells #[.bool b, .string s, .string t, .int .i64 e] 41) (Obj.cells #[.int .u64 0, .int .u64 0] 25)
  go_enter Tryz.func226, Tryz.ntmps226
  go_wp2_with fail
  refine (KC.out _).mono ?_
  rintro r w1 ⟨rfl, b1⟩
  have B1 : Below w.heap.size w w1 := btr B0 b1
  have Rx_1 := heap_of b1 _ _ _ Rx_0
  have Rz_1 := heap_of b1 _ _ _ Rz_0
  clear b1 B0 Rx_0 Rz_0
  obtain ⟨cx_1_0, cx_1_1, cx_1_2, cx_1_3⟩ := cells4s Rx_1
  obtain ⟨cz_1_0, cz_1_1⟩ := cells2s Rz_1
  go_wp2_with fail
  refine (KX.out _ (tabB TT.out B1)).mono ?_
  rintro r w2 ⟨rfl, b2⟩
  have B2 : Below w.heap.size w w2 := btr B1 b2
  have Rx_2 := heap_of b2 _ _ _ Rx_1
  have Rz_2 := heap_of b2 _ _ _ Rz_1
  clear b2 B1 Rx_1 cx_1_0 cx_1_1 cx_1_2 cx_1_3 Rz_1 cz_1_0 cz_1_1
  obtain ⟨cx_2_0, cx_2_1, cx_2_2, cx_2_3⟩ := cells4s Rx_2
  obtain ⟨cz_2_0, cz_2_1⟩ := cells2s Rz_2
  go_wp2_with fail
  refine (KS.out _ (tabB TT.out B2)).mono ?_
  rintro r w3 ⟨rfl, b3⟩
  have B3 : Below w.heap.size w w3 := btr B2 b3
  have Rx_3 := heap_of b3 _ _ _ Rx_2
  have Rz_3 := heap_of b3 _ _ _ Rz_2
  clear b3 B2 Rx_2 cx_2_0 cx_2_1 cx_2_2 cx_2_3 Rz_2 cz_2_0 cz_2_1
  obtain ⟨cx_3_0, cx_3_1, cx_3_2, cx_3_3⟩ := cells4s Rx_3
  obtain ⟨cz_3_0, cz_3_1⟩ := cells2s Rz_3
  go_wp2_with fail
  refine (KT.out _ (tabB TT.out B3)).mono ?_
  rintro r w4 ⟨rfl, b4⟩
  have B4 : Below w.heap.size w w4 := btr B3 b4
  have Rx_4 := heap_of b4 _ _ _ Rx_3
  have Rz_4 := heap_of b4 _ _ _ Rz_3
  clear b4 B3 Rx_3 cx_3_0 cx_3_1 cx_3_2 cx_3_3 Rz_3 cz_3_0 cz_3_1
  obtain ⟨cx_4_0, cx_4_1, cx_4_2, cx_4_3⟩ := cells4s Rx_4
  obtain ⟨cz_4_0, cz_4_1⟩ := cells2s Rz_4
  go_wp2_with fail
  refine (KE.out _ (fatB FF.out B4)).mono ?_
  rintro r w5 ⟨rfl, b5⟩
  have B5 : Below w.heap.size w w5 := btr B4 b5
  have Rx_5 := heap_of b5 _ _ _ Rx_4
  have Rz_5 := heap_of b5 _ _ _ Rz_4
  clear b5 B4 Rx_4 cx_4_0 cx_4_1 cx_4_2 cx_4_3 Rz_4 cz_4_0 cz_4_1
  obtain ⟨cx_5_0, cx_5_1, cx_5_2, cx_5_3⟩ := cells4s Rx_5
  obtain ⟨cz_5_0, cz_5_1⟩ := cells2s Rz_5
  go_wp2_with fail
  refine (KI.out _ (fatB FF.out B5)).mono ?_
  rintro r w6 ⟨rfl, b6⟩
  have B6 : Below w.heap.size w w6 := btr B5 b6
  have Rx_6 := heap_of b6 _ _ _ Rx_5
  have Rz_6 := heap_of b6 _ _ _ Rz_5
  clear b6 B5 Rx_5 cx_5_0 cx_5_1 cx_5_2 cx_5_3 Rz_5 cz_5_0 cz_5_1
  obtain ⟨cx_6_0, cx_6_1, cx_6_2, cx_6_3⟩ := cells4s Rx_6
  obtain ⟨cz_6_0, cz_6_1⟩ := cells2s Rz_6
  go_wp2_with fail
  refine (KP.out _ (fatB FF.out B6)).mono ?_
  rintro r w7 ⟨rfl, b7⟩
  have B7 : Below w.heap.size w w7 := btr B6 b7
  have Rx_7 := heap_of b7 _ _ _ Rx_6
  have Rz_7 := heap_of b7 _ _ _ Rz_6
  clear b7 B6 Rx_6 cx_6_0 cx_6_1 cx_6_2 cx_6_3 Rz_6 cz_6_0 cz_6_1
  obtain ⟨cx_7_0, cx_7_1, cx_7_2, cx_7_3⟩ := cells4s Rx_7
  obtain ⟨cz_7_0, cz_7_1⟩ := cells2s Rz_7
  go_wp2_with fail
  refine (KF.out _ (tabB TT.out B7)).mono ?_
  rintro r w8 ⟨rfl, b8⟩
  have B8 : Below w.heap.size w w8 := btr B7 b8
  have Rx_8 := heap_of b8 _ _ _ Rx_7
  have Rz_8 := heap_of b8 _ _ _ Rz_7
  clear b8 B7 Rx_7 cx_7_0 cx_7_1 cx_7_2 cx_7_3 Rz_7 cz_7_0 cz_7_1
  obtain ⟨cx_8_0, cx_8_1, cx_8_2, cx_8_3⟩ := cells4s Rx_8
  obtain ⟨cz_8_0, cz_8_1⟩ := cells2s Rz_8
  have sS : Box (∀ W W1 : World, (Below w.heap.size w W ∧ W.heap[w.heap.size]? = some (Obj.cells #[.bool b, .string s, .string t, .int .i64 e] 41) ∧ W.cell? ⟨w.heap.size, 0, none⟩ = some (.bool b) ∧ W.cell? ⟨w.heap.size, 1, none⟩ = some (.string s) ∧ W.cell? ⟨w.heap.size, 2, none⟩ = some (.string t) ∧ W.cell? ⟨w.heap.size, 3, none⟩ = some (.int .i64 e)) → Below W.heap.size W W1 → (Below w.heap.size w W1 ∧ W1.heap[w.heap.size]? = some (Obj.cells #[.bool b, .string s, .string t, .int .i64 e] 41) ∧ W1.cell? ⟨w.heap.size, 0, none⟩ = some (.bool b) ∧ W1.cell? ⟨w.heap.size, 1, none⟩ = some (.string s) ∧ W1.cell? ⟨w.heap.size, 2, none⟩ = some (.string t) ∧ W1.cell? ⟨w.heap.size, 3, none⟩ = some (.int .i64 e))) := box (fun W W1 h b => ⟨btr h.1 b, heap_of b _ _ _ h.2.1, cell7 (heap_of b _ _ _ h.2.1) 0 _ rfl, cell7 (heap_of b _ _ _ h.2.1) 1 _ rfl, cell7 (heap_of b _ _ _ h.2.1) 2 _ rfl, cell7 (heap_of b _ _ _ h.2.1) 3 _ rfl⟩)
  have sT : Box (∀ (W : World) (xA xB : Value), (Below w.heap.size w W ∧ W.heap[w.heap.size]? = some (Obj.cells #[.bool b, .string s, .string t, .int .i64 e] 41) ∧ W.cell? ⟨w.heap.size, 0, none⟩ = some (.bool b) ∧ W.cell? ⟨w.heap.size, 1, none⟩ = some (.string s) ∧ W.cell? ⟨w.heap.size, 2, none⟩ = some (.string t) ∧ W.cell? ⟨w.heap.size, 3, none⟩ = some (.int .i64 e)) → (Below w.heap.size w ((W.setCell ⟨w.heap.size + 1, 0, none⟩ xA).setCell ⟨w.heap.size + 1, 1, none⟩ xB) ∧ ((W.setCell ⟨w.heap.size + 1, 0, none⟩ xA).setCell ⟨w.heap.size + 1, 1, none⟩ xB).heap[w.heap.size]? = some (Obj.cells #[.bool b, .string s, .string t, .int .i64 e] 41) ∧ ((W.setCell ⟨w.heap.size + 1, 0, none⟩ xA).setCell ⟨w.heap.size + 1, 1, none⟩ xB).cell? ⟨w.heap.size, 0, none⟩ = some (.bool b) ∧ ((W.setCell ⟨w.heap.size + 1, 0, none⟩ xA).setCell ⟨w.heap.size + 1, 1, none⟩ xB).cell? ⟨w.heap.size, 1, none⟩ = some (.string s) ∧ ((W.setCell ⟨w.heap.size + 1, 0, none⟩ xA).setCell ⟨w.heap.size + 1, 1, none⟩ xB).cell? ⟨w.heap.size, 2, none⟩ = some (.string t) ∧ ((W.setCell ⟨w.heap.size + 1, 0, none⟩ xA).setCell ⟨w.heap.size + 1, 1, none⟩ xB).cell? ⟨w.heap.size, 3, none⟩ = some (.int .i64 e))) := box (fun W xA xB h => ⟨set2_below h.1 (by first | exact Nat.le_refl _ | omega | (skip; omega)) xA xB, ((setCell_other (by first | omega | (skip; omega))).trans ((setCell_other (by first | omega | (skip; omega))).trans h.2.1)), cell7 (((setCell_other (by first | omega | (skip; omega))).trans ((setCell_other (by first | omega | (skip; omega))).trans h.2.1))) 0 _ rfl, cell7 (((setCell_other (by first | omega | (skip; omega))).trans ((setCell_other (by first | omega | (skip; omega))).trans h.2.1))) 1 _ rfl, cell7 (((setCell_other (by first | omega | (skip; omega))).trans ((setCell_other (by first | omega | (skip; omega))).trans h.2.1))) 2 _ rfl, cell7 (((setCell_other (by first | omega | (skip; omega))).trans ((setCell_other (by first | omega | (skip; omega))).trans h.2.1))) 3 _ rfl⟩)
  have s0 : Below w.heap.size w (w8).drew ∧ (w8).drew.heap[w.heap.size]? = some (Obj.cells #[.bool b, .string s, .string t, .int .i64 e] 41) ∧ (w8).drew.cell? ⟨w.heap.size, 0, none⟩ = some (.bool b) ∧ (w8).drew.cell? ⟨w.heap.size, 1, none⟩ = some (.string s) ∧ (w8).drew.cell? ⟨w.heap.size, 2, none⟩ = some (.string t) ∧ (w8).drew.cell? ⟨w.heap.size, 3, none⟩ = some (.int .i64 e) := ⟨B8.drew, Rx_8, cell7 (Rx_8) 0 _ rfl, cell7 (Rx_8) 1 _ rfl, cell7 (Rx_8) 2 _ rfl, cell7 (Rx_8) 3 _ rfl⟩
  have rz : (w8).drew.heap[w.heap.size + 1]? = some (Obj.cells #[.int .u64 0, .int .u64 0] 25) := Rz_8
  have hq0 := fz (k := 0) rz
  have hq1 := fz (k := 1) rz
  have hc0 := cell7 rz 0 _ rfl
  have hc1 := cell7 rz 1 _ rfl
  go_wp2_with fail
  go_region_held3 (fun W => Below w.heap.size w W ∧ W.heap[w.heap.size]? = some (Obj.cells #[.bool b, .string s, .string t, .int .i64 e] 41) ∧ W.cell? ⟨w.heap.size, 0, none⟩ = some (.bool b) ∧ W.cell? ⟨w.heap.size, 1, none⟩ = some (.string s) ∧ W.cell? ⟨w.heap.size, 2, none⟩ = some (.string t) ∧ W.cell? ⟨w.heap.size, 3, none⟩ = some (.int .i64 e)) (first | exact s1 | exact s0 | exact sT.out _ _ _ s1 | exact sT.out _ _ _ s0)
    (first | (go_at_call 275; (first | refine (KW.out _).mono ?_ | refine (KW.out _).mono ?_); rintro r wq ⟨rfl, bq⟩; have s1 := (by first | exact sS.out _ _ s1 bq | exact sS.out _ _ s0 bq); have rz := heap_of bq _ _ _ rz; have hq0 := fz (k := 0) rz; have hc0 := cell7 rz 0 _ rfl; have hq1 := fz (k := 1) rz; have hc1 := cell7 rz 1 _ rfl; clear bq) | (go_at_call 136; (first | refine (KB.out _ (fatB FF.out (And.left s1))).mono ?_ | refine (KB.out _ (fatB FF.out (And.left s0))).mono ?_); rintro r wq ⟨rfl, bq⟩; have s1 := (by first | exact sS.out _ _ s1 bq | exact sS.out _ _ s0 bq); have rz := heap_of bq _ _ _ rz; have hq0 := fz (k := 0) rz; have hc0 := cell7 rz 0 _ rfl; have hq1 := fz (k := 1) rz; have hc1 := cell7 rz 1 _ rfl; clear bq) | (go_at_call 62; (first | refine (KG.out _ (fatB FF.out (And.left s1))).mono ?_ | refine (KG.out _ (fatB FF.out (And.left s0))).mono ?_); rintro r wq ⟨rfl, bq⟩; have s1 := (by first | exact sS.out _ _ s1 bq | exact sS.out _ _ s0 bq); have rz := heap_of bq _ _ _ rz; have hq0 := fz (k := 0) rz; have hc0 := cell7 rz 0 _ rfl; have hq1 := fz (k := 1) rz; have hc1 := cell7 rz 1 _ rfl; clear bq) | fail)
  obtain ⟨E0, E1⟩ := set2_cells rz (.int .u64 (u : Nat)) (.int .u64 (v : Nat))
  have BZ := (by first | exact And.left s1 | exact And.left s0 : Below w.heap.size w _)
  go_wp2
  exact bodyPost_ret (v := .tuple #[.agg #[.int .u64 (u : Nat), .int .u64 (v : Nat)], .bool true, .int .i64 0]) (by simp [results, Tryz.results226, go_sem, E0, E1]) rfl ⟨rfl, set2_below BZ (by first | exact Nat.le_refl _ | omega | (skip; omega)) _ _⟩
end Go.Proofs.YtbmhfcppaajgbaaGreatDoor
namespace Go.Proofs.YtbmhfcppaajgbaaGreatDoor
set_option maxRecDepth 100000
open Go.RowKit WMath XMath
set_option linter.unusedSimpArgs false
set_option linter.unusedVariables false

/-- The value of a finite encoding. -/
def vX (f : Int) (n : Nat) : XN := (mk (kN f n) (kS f n) 1 (kX f n)).1
theorem kS_lim {f : Int} (hf : Is4 f) (n : Nat) : kS f n < 340282366920938463463374607431768211456 ∧ -20000 ≤ kX f n ∧ kX f n ≤ 20000 := by
  obtain ⟨g1, g2, g3, g4, g5, g6, g7⟩ := fm hf
  obtain ⟨l1, l2, l3, l4, l5⟩ := lx_lim hf
  obtain ⟨n1, n2, n3, n4, n5, n6⟩ := nm8 hf
  have tl := kT_lt (f := f) n
  have el := kE_le (f := f) n
  have oe : (oV f : Int) = 2 * fE f + 1 := by unfold oV; omega
  have pn : 2 ^ pV f + kT f n < 340282366920938463463374607431768211456 := by rw [g1, Nat.add_mul] at g7; have := Nat.mul_le_mul_right (2 ^ pV f) g5; omega
  refine ⟨?_, ?_, ?_⟩
  · unfold kS; split <;> (try split) <;> omega
  · unfold kX; split <;> (try split) <;> omega
  · unfold kX; split <;> (try split) <;> omega
theorem k_parts {f : Int} (n : Nat) (h : kC f n = 1 ∨ kC f n = 2 ∨ kC f n = 5 ∨ kC f n = 6) : kE f n < oV f ∧ kS f n = sV f (kE f n) (kT f n) ∧ kX f n = xV f (kE f n) ∧ kS f n ≠ 0 := by
  have el := kE_le (f := f) n
  have p := Nat.two_pow_pos (pV f)
  have h2 := h
  unfold kC at h2
  by_cases c1 : kE f n = oV f
  · rw [if_pos c1] at h2
    exfalso
    (repeat' split at h2) <;> omega
  · rw [if_neg c1] at h2
    unfold kS kX sV xV
    by_cases c2 : kE f n = 0
    · rw [if_neg (by omega)] at h2
      by_cases c3 : kT f n = 0
      · rw [if_neg (by omega)] at h2
        exfalso
        split at h2 <;> omega
      · rw [if_pos c3] at h2
        have hc : kC f n = 2 ∨ kC f n = 5 := by
          unfold kC
          rw [if_neg c1, if_neg (by omega), if_pos c3]
          cases kN f n <;> simp
        rw [if_pos hc, if_pos hc, if_pos c2, if_pos c2]
        exact ⟨by omega, rfl, rfl, c3⟩
    · have hc : kC f n = 1 ∨ kC f n = 6 := by
        unfold kC
        rw [if_neg c1, if_pos c2]
        cases kN f n <;> simp
      have hn : ¬ (kC f n = 2 ∨ kC f n = 5) := by omega
      rw [if_neg hn, if_neg hn, if_pos hc, if_pos hc, if_neg c2, if_neg c2]
      exact ⟨by omega, rfl, rfl, by omega⟩
theorem k_null {f : Int} (n : Nat) (h : kC f n = 3 ∨ kC f n = 4) : kS f n = 0 ∧ kX f n = 0 := by
  unfold kS kX
  rw [if_neg (by omega), if_neg (by omega), if_neg (by omega), if_neg (by omega)]
  exact ⟨rfl, rfl⟩
theorem vX_mk {f : Int} (hf : Is4 f) (n : Nat) (h : 0 < kC f n ∧ kC f n < 7) : mk (kN f n) (kS f n) 1 (kX f n) = (vX f n, 0) := by
  unfold vX
  by_cases c : kC f n = 3 ∨ kC f n = 4
  · rw [(k_null n c).1, mk_null]
  · obtain ⟨a, b, d, e⟩ := k_parts (f := f) n (by omega)
    have := (val_of hf (kN f n) (kE f n) (kT f n) a (kT_lt n) (by rw [← b]; exact e)).1
    rw [b, d, this]
theorem kValue_inf (f : Int) (hf : Is4 f) (x y n : Nat) (hx : x < 18446744073709551616) (hy : y < 18446744073709551616) (hn : y + 18446744073709551616 * x = n) (ho : okB f n = true) (hc : ¬ (0 < kC f n ∧ kC f n < 7)) (w : World) (hT : FAt w) : Calls Tryz.prog 83 #[.int .u8 f, .agg #[.int .u64 (x : Nat), .int .u64 (y : Nat)]] w fun r w' => r = .returned (.tuple #[.agg #[.bool false, .string ⟨#[]⟩, .string ⟨#[]⟩, .int .i64 0], .int .i64 80]) ∧ Below w.heap.size w w' :=
  kvalue_inf f x y (kC f n) (kS f n) (kF f n) (kX f n) w (box (fun w hT => kUnpack_yes f hf x y n _ _ _ _ hx hy hn ho rfl w hT)) (box (fun w => kfin_is _ false (by simp only [Bool.and_eq_false_iff, decide_eq_false_iff_not]; omega) w)) hT
theorem kValue_yes (f : Int) (hf : Is4 f) (x y n : Nat) (hx : x < 18446744073709551616) (hy : y < 18446744073709551616) (hn : y + 18446744073709551616 * x = n) (ho : okB f n = true) (hc : 0 < kC f n ∧ kC f n < 7) (rb : Bool) (rn rd : Nat) (re : Int) (u v : ByteArray) (hv : vX f n = ⟨rb, rn, rd, re⟩) (hu1 : nbA rn = u) (hu2 : nbA rd = v) (w : World) (hT : FAt w) (hT2 : TabAt w) : Calls Tryz.prog 83 #[.int .u8 f, .agg #[.int .u64 (x : Nat), .int .u64 (y : Nat)]] w fun r w' => r = .returned (.tuple #[.agg #[.bool rb, .string u, .string v, .int .i64 re], .int .i64 0]) ∧ Below w.heap.size w w' := by
  obtain ⟨s1, s2, s3⟩ := kS_lim hf n
  have hm := vX_mk hf n hc
  rw [hv] at hm
  have ls : nl (kS f n) ≤ 16384 := nl_pow _ 128 (by rw [show (2 : Nat) ^ 128 = 340282366920938463463374607431768211456 by decide]; exact s1) (by decide)
  exact kvalue_yes f x y (kC f n) (kS f n) (kF f n) (kX f n) (kN f n) _ rb u v re 0 w (box (fun w hT => kUnpack_yes f hf x y n _ _ _ _ hx hy hn ho rfl w hT)) (box (fun w => kfin_is _ true (by simp only [Bool.and_eq_true, decide_eq_true_eq]; exact hc) w))
    (box (fun w hT => ksign_is f hf x y n _ hx hy hn rfl w hT)) (box (fun w => knatOf_is _ _ (lt_Q7 s1) rfl w)) (box (fun w hT => makex_ok _ _ 1 _ _ _ rb rn rd re 0 u v rfl nb1 ls nl1 (by decide) (by omega) (by omega) hm hu1 hu2 w hT)) hT hT2
theorem top_lim {x : XN} (hx : x.can) : -1200000 ≤ topX x ∧ topX x ≤ 1200000 := by
  obtain ⟨h1, h2, h3, h4, _⟩ := hx
  unfold nl at h1 h2
  unfold topX lenD
  split <;> omega
theorem bel_same {P : Program} {k : FuncId} {a : Array Value} {w : World} {v : Value} (h : Calls P k a w fun r w' => r = .returned v ∧ w' = w) : Calls P k a w fun r w' => r = .returned v ∧ Below w.heap.size w w' :=
  h.mono fun _ _ h => ⟨h.1, by rw [h.2]; exact Below.refl _ _⟩
theorem fC_yes {f : Int} (hf : Is4 f) : fC f = 0 := (is4_ok hf).2.2.1
theorem fC_no {f : Int} (h0 : 0 ≤ f) (hf : ¬ Is4 f) : fC f = 2 := by
  unfold Is4 at hf
  unfold fC
  rw [if_neg (by omega)]
theorem kOf_is (f : Int) (hf : Is4 f) (b : Bool) (n d : Nat) (s t : ByteArray) (e : Int) (hs : nbA n = s) (ht : nbA d = t) (hc : (XN.mk b n d e).can) (M : Nat) (is : Bool) (u v : Nat) (hr : ofX f ⟨b, n, d, e⟩ = (M, is)) (hv : bv7 M = (u, v)) (w : World) (hT : FAt w) (hT2 : TabAt w) : Calls Tryz.prog 226 #[.int .u8 f, .agg #[.bool b, .string s, .string t, .int .i64 e]] w fun r w' => r = .returned (.tuple #[.agg #[.int .u64 (u : Nat), .int .u64 (v : Nat)], .bool is, .int .i64 0]) ∧ Below w.heap.size w w' := by
  have f4 := is4_ok hf
  obtain ⟨n1, n2, n3, n4, n5, n6⟩ := nm8 hf
  have K1 : Box (∀ w, Calls Tryz.prog 60 #[.int .u8 f] w fun r w' => r = .returned (.int .i64 0) ∧ Below w.heap.size w w') := box (fun w => bel_same (s_check_is f 0 f4.1 f4.2.1 (fC_yes hf) w))
  have K2 : Box (∀ w, TabAt w → Calls Tryz.prog 146 #[.agg #[.bool b, .string s, .string t, .int .i64 e]] w fun r w' => r = .returned (.int .i64 0) ∧ Below w.heap.size w w') := box (fun w hT => xcheckM b s t e true (may_yes hs ht hc) 0 rfl w hT)
  by_cases n0 : n = 0
  · unfold ofX at hr
    rw [if_pos n0] at hr
    injection hr with h1 h2
    subst h1 h2
    injection hv with h3 h4
    subst h3 h4
    exact kof_zero f b s t e w K1 K2 (box (fun w hT => Signx_ok b n d e s t 0 hs ht hc (by unfold sg; rw [if_pos n0]) w hT)) (box (fun w hT => sk_zero f false hf 0 0 (by rcases hf with rfl | rfl | rfl | rfl <;> decide +kernel) w hT)) hT hT2
  · obtain ⟨g, hg⟩ : ∃ g, sg (XN.mk b n d e) = g := ⟨_, rfl⟩
    have g0 : (g == 0) = false := by
      rw [← hg, beq_eq_false_iff_ne]
      unfold sg
      rw [if_neg n0]
      cases b
      · show (if false = true then (-1 : Int) else 1) ≠ 0
        decide
      · show (if true = true then (-1 : Int) else 1) ≠ 0
        decide
    obtain ⟨T, hTop⟩ : ∃ T, topX (XN.mk b n d e) = T := ⟨_, rfl⟩
    obtain ⟨t1, t2⟩ := top_lim hc
    rw [hTop] at t1 t2
    have K3 : Box (∀ w, TabAt w → Calls Tryz.prog 32 #[.agg #[.bool b, .string s, .string t, .int .i64 e]] w fun r w' => r = .returned (.int .i64 g) ∧ Below w.heap.size w w') := box (fun w hT => Signx_ok b n d e s t g hs ht hc hg w hT)
    have K4 : Box (∀ w, TabAt w → Calls Tryz.prog 227 #[.agg #[.bool b, .string s, .string t, .int .i64 e]] w fun r w' => r = .returned (.tuple #[.int .i64 T, .int .i64 0]) ∧ Below w.heap.size w w') := box (fun w hT => Topx_ok b n d e s t T hs ht n0 hc hTop w hT)
    have K5 : Box (∀ w, FAt w → Calls Tryz.prog 99 #[.int .u8 f] w fun r w' => r = .returned (.int .i64 (fE f)) ∧ Below w.heap.size w w') := box (fun w hT => kb_emax f _ f4.1 f4.2.1 rfl w hT)
    by_cases hE : fE f < T
    · unfold ofX at hr
      rw [if_neg n0, if_pos (by rw [hTop]; exact hE)] at hr
      injection hr with h1 h2
      subst h1 h2
      injection hv with h3 h4
      subst h3 h4
      exact kof_over f b s t e g T _ w K1 K2 K3 K4 K5 g0 (decide_eq_true hE) hT hT2
    · obtain ⟨A, hA⟩ : ∃ A, ofA f (XN.mk b n d e) = A := ⟨_, rfl⟩
      have hA2 := hA
      unfold ofA at hA2
      rw [hTop] at hA2
      have fp : fP f = (pV f : Int) + 1 := (em_lim hf).2.2.2.2.2.2.2.2.1
      have K6 : Box (∀ w, FAt w → Calls Tryz.prog 98 #[.int .u8 f] w fun r w' => r = .returned (.int .i64 (1 - fE f)) ∧ Below w.heap.size w w') := box (fun w hT => s_emin f _ _ f4.1 f4.2.1 rfl (em_lim hf).2.2.2.2.1 w hT)
      have K7 : Box (∀ w, FAt w → Calls Tryz.prog 180 #[.int .u8 f] w fun r w' => r = .returned (.int .i64 (fP f)) ∧ Below w.heap.size w w') := box (fun w hT => kb_precision f _ f4.1 f4.2.1 rfl w hT)
      obtain ⟨⟨⟨m, o⟩, fe⟩, hfl⟩ : ∃ q, flX (XN.mk b n d e) A = q := ⟨_, rfl⟩
      obtain ⟨z, hz⟩ : ∃ z, nbA m = z := ⟨_, rfl⟩
      have K8 : Box (∀ w, TabAt w → Calls Tryz.prog 228 #[.agg #[.bool b, .string s, .string t, .int .i64 e], .int .i64 A] w fun r w' => r = .returned (.tuple #[.string z, .bool o, .int .i64 fe]) ∧ Below w.heap.size w w') := box (fun w hT => Floorx_ok b n d e s t A m o fe z hs ht hc (by omega) (by omega) hfl hz w hT)
      have a1 : IntKind.i64.wrap (max T (1 - fE f) - fP f) = max T (1 - fE f) - fP f := wrap_i64_is _ (by omega) (by omega)
      have a2 : IntKind.i64.wrap (max T (1 - fE f) - fP f + 1) = A := by rw [wrap_i64_is _ (by omega) (by omega)]; omega
      have dE : decide (fE f < T) = false := decide_eq_false hE
      unfold ofX at hr
      rw [if_neg n0, if_neg (by rw [hTop]; exact hE), hA, hfl] at hr
      simp only [] at hr
      cases o
      · rw [if_neg (by decide)] at hr
        injection hr with h1 h2
        subst h1 h2
        injection hv with h3 h4
        subst h3 h4
        exact kof_frac f b s t e g T _ _ _ _ A fe z w K1 K2 K3 K4 K5 K6 K7 K8 g0 dE a1 a2 hT hT2
      · rw [if_pos rfl] at hr
        injection hr with h1 h2
        subst h2
        have hd : d = 1 ∧ A ≤ e := by
          have h3 : ¬ (d ≠ 1 ∨ e < A) := fun h3 => by
            have := fl_no (XN.mk b n d e) A hc n0 h3
            rw [hfl] at this
            exact Bool.noConfusion (show true = false from this)
          omega
        obtain ⟨rfl, hAe⟩ := hd
        obtain ⟨m', k, tt, q1, q2, q3, q4, q5⟩ := of_yes hf b n e n0 (by rw [hTop]; omega) (by rw [hA]; exact hAe)
        rw [hA] at q1 q5
        have hm : m = m' := by
          have lim : m' < 340282366920938463463374607431768211456 := by
            obtain ⟨g1, g2, g3, g4, g5, g6, g7⟩ := fm hf
            rw [g1, Nat.add_mul] at g7
            have := Nat.mul_le_mul_right (2 ^ pV f) g5
            rcases q5 with ⟨_, q, _⟩ | ⟨_, q, _⟩ <;> omega
          have := fl_yes (XN.mk b n 1 e) A n0 rfl hAe (by omega) (by omega) (by
            show nl (n * 2 ^ (e - A).toNat) ≤ 16384
            rw [← q1]
            exact nl_pow _ 128 (by rw [show (2 : Nat) ^ 128 = 340282366920938463463374607431768211456 by decide]; exact lim) (by decide))
          rw [hfl] at this
          injection this with e1 e2
          injection e1 with e3 e4
          rw [e3, q1]
        have lim : m < 340282366920938463463374607431768211456 := by
          obtain ⟨g1, g2, g3, g4, g5, g6, g7⟩ := fm hf
          rw [g1, Nat.add_mul] at g7
          have := Nat.mul_le_mul_right (2 ^ pV f) g5
          rw [hm]
          rcases q5 with ⟨_, q, _⟩ | ⟨_, q, _⟩ <;> omega
        obtain ⟨i, j, hij⟩ : ∃ i j, bv7 (fb f m A) = (i, j) := ⟨_, _, rfl⟩
        obtain ⟨i1, j1, ij⟩ := bv_lt (by unfold fb; exact Nat.mod_lt _ (by decide)) hij
        exact kof_yes f b s t e g T _ _ _ _ A fe z m i j u v w K1 K2 K3 K4 K5 K6 K7 K8
          (box (fun w => kwideOf_is m z hz (by
            have := nl_le_of m 16 (by rw [show (2 : Nat) ^ (8 * 16) = 340282366920938463463374607431768211456 by decide]; exact lim)
            omega) w))
          (box (fun w hT => kfinite_is f hf m i j A (lt_Q7 lim) (by omega) (by omega) hij w hT))
          (box (fun w hT => ksigned_is f hf i j _ u v b i1 j1 ij (by rw [h1]; exact hv) w hT)) g0 dE a1 a2 hT hT2
end Go.Proofs.YtbmhfcppaajgbaaGreatDoor
