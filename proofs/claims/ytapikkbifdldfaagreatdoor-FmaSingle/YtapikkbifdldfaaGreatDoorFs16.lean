/-
  What the functions that the statement reaches return: part 16 (A2, A3).
-/
import Derived.Test.YtapikkbifdldfaaGreatDoorFs15
namespace Go.Proofs.YtapikkbifdldfaaGreatDoor
set_option maxRecDepth 100000
set_option maxHeartbeats 40000000
set_option maxRecDepth 100000
open Go.RowKit WMath
set_option linter.unusedSimpArgs false
set_option linter.unusedVariables false
set_option maxRecDepth 100000 in
set_option maxHeartbeats 8000000 in
theorem ad_plus_n (f m : Int) (x1 y1 x2 y2 u v na nb : Nat) (c : Int) (c1 m1 : Nat) (X1 : Int) (r1 c2 m2 : Nat) (X2 : Int) (r2 : Nat) (tn : Bool) (ts : Nat) (tx fl : Int) (w : World) (hc : decide (c < 0) = false)
    (KMa : Box (∀ w, FAt w → Calls Tryz.prog 119 #[.int .u8 f, .agg #[.int .u64 (x1 : Nat), .int .u64 (y1 : Nat)]] w fun r w' => r = .returned (.agg (cw 6 na)) ∧ Below w.heap.size w w'))
    (KMb : Box (∀ w, FAt w → Calls Tryz.prog 119 #[.int .u8 f, .agg #[.int .u64 (x2 : Nat), .int .u64 (y2 : Nat)]] w fun r w' => r = .returned (.agg (cw 6 nb)) ∧ Below w.heap.size w w'))
    (KC : Box (∀ w, Calls Tryz.prog 118 #[.agg (cw 6 na), .agg (cw 6 nb)] w fun r w' => r = .returned (.int .i64 c) ∧ Below w.heap.size w w'))
    (KU1 : Box (∀ w, FAt w → Calls Tryz.prog 33 #[.int .u8 f, .agg #[.int .u64 (x1 : Nat), .int .u64 (y1 : Nat)]] w fun r w' => r = .returned (.tuple #[.agg (pt c1 m1 X1 r1), .int .i64 0]) ∧ Below w.heap.size w w'))
    (KU2 : Box (∀ w, FAt w → Calls Tryz.prog 33 #[.int .u8 f, .agg #[.int .u64 (x2 : Nat), .int .u64 (y2 : Nat)]] w fun r w' => r = .returned (.tuple #[.agg (pt c2 m2 X2 r2), .int .i64 0]) ∧ Below w.heap.size w w'))
    (H : Box ((((c1 : Int) == 8) = true ∧ Box (∀ w, FAt w → Calls Tryz.prog 35 #[.int .u8 f] w fun r w' => r = .returned (.agg #[.int .u64 (u : Nat), .int .u64 (v : Nat)]) ∧ Below w.heap.size w w') ∧ fl = 16) ∨
      (((c1 : Int) == 8) = false ∧ ((c2 : Int) == 8) = true ∧ Box (∀ w, FAt w → Calls Tryz.prog 35 #[.int .u8 f] w fun r w' => r = .returned (.agg #[.int .u64 (u : Nat), .int .u64 (v : Nat)]) ∧ Below w.heap.size w w') ∧ fl = 16) ∨
      (((c1 : Int) == 8) = false ∧ ((c2 : Int) == 8) = false ∧ ((c1 : Int) == 9) = true ∧ Box (∀ w, FAt w → Calls Tryz.prog 35 #[.int .u8 f] w fun r w' => r = .returned (.agg #[.int .u64 (u : Nat), .int .u64 (v : Nat)]) ∧ Below w.heap.size w w') ∧ fl = 0) ∨
      (((c1 : Int) == 8) = false ∧ ((c2 : Int) == 8) = false ∧ ((c1 : Int) == 9) = false ∧ ((c1 : Int) != (c2 : Int)) = true ∧ Box (∀ w, Calls Tryz.prog 70 #[.int .u8 (c1 : Nat)] w fun r w' => r = .returned (.bool true) ∧ Below w.heap.size w w') ∧ Box (∀ w, Calls Tryz.prog 70 #[.int .u8 (c2 : Nat)] w fun r w' => r = .returned (.bool true) ∧ Below w.heap.size w w') ∧ Box (∀ w, FAt w → Calls Tryz.prog 35 #[.int .u8 f] w fun r w' => r = .returned (.agg #[.int .u64 (u : Nat), .int .u64 (v : Nat)]) ∧ Below w.heap.size w w') ∧ fl = 16) ∨
      (((c1 : Int) == 8) = false ∧ ((c2 : Int) == 8) = false ∧ ((c1 : Int) == 9) = false ∧ ((c1 : Int) != (c2 : Int)) = false ∧ Box (∀ w, Calls Tryz.prog 70 #[.int .u8 (c1 : Nat)] w fun r w' => r = .returned (.bool true) ∧ Below w.heap.size w w') ∧ Box (∀ w, Calls Tryz.prog 70 #[.int .u8 (c2 : Nat)] w fun r w' => r = .returned (.bool true) ∧ Below w.heap.size w w') ∧ x1 = u ∧ y1 = v ∧ fl = 0) ∨
      (((c1 : Int) == 8) = false ∧ ((c2 : Int) == 8) = false ∧ ((c1 : Int) == 9) = false ∧ Box (∀ w, Calls Tryz.prog 70 #[.int .u8 (c1 : Nat)] w fun r w' => r = .returned (.bool true) ∧ Below w.heap.size w w') ∧ Box (∀ w, Calls Tryz.prog 70 #[.int .u8 (c2 : Nat)] w fun r w' => r = .returned (.bool false) ∧ Below w.heap.size w w') ∧ x1 = u ∧ y1 = v ∧ fl = 0) ∨
      (((c1 : Int) == 8) = false ∧ ((c2 : Int) == 8) = false ∧ ((c1 : Int) == 9) = false ∧ Box (∀ w, Calls Tryz.prog 70 #[.int .u8 (c1 : Nat)] w fun r w' => r = .returned (.bool false) ∧ Below w.heap.size w w') ∧ Box (∀ w, Calls Tryz.prog 120 #[.int .u8 m, .agg (pt c1 m1 X1 r1), .agg (pt c2 m2 X2 r2)] w fun r w' => r = .returned (.agg (rg tn ts tx false)) ∧ Below w.heap.size w w') ∧ Box (∀ w, FAt w → Calls Tryz.prog 37 #[.int .u8 f, .int .u8 m, .agg (rg tn ts tx false)] w fun r w' => r = .returned (.tuple #[.agg #[.int .u64 (u : Nat), .int .u64 (v : Nat)], .int .u8 fl, .int .i64 0]) ∧ Below w.heap.size w w'))))
    (hT : FAt w) : Calls Tryz.prog 61 #[.int .u8 f, .int .u8 m, .agg #[.int .u64 (x1 : Nat), .int .u64 (y1 : Nat)], .agg #[.int .u64 (x2 : Nat), .int .u64 (y2 : Nat)]] w fun r w' => r = .returned (.tuple #[.agg #[.int .u64 (u : Nat), .int .u64 (v : Nat)], .int .u8 fl, .int .i64 0]) ∧ Below w.heap.size w w' := by
  have FF := box hT
  clear hT
  have hat := cw_at 6
  have hz := cw6z
  have hff := cw6f
  have hs0 := st0
  have hcs : ∀ x, ((cw 6 x).size = 6) = True := fun x => eq_true (cw_size 6 x)
  have hp1 := rgf
  have hp5 : ∀ (c : Bool) (s : Nat) (x : Int) (r : Bool), ((rg c s x r).size = 9) = True := fun _ _ _ _ => eq_true rfl
  have hq1 := ptf
  have hq3 := ptz
  have hq4 := st_p0
  have hq5 : ∀ (c s : Nat) (x : Int) (r : Nat), ((pt c s x r).size = 14) = True := fun _ _ _ _ => eq_true rfl
  obtain ⟨Ra_0, Rb_0, Rz_0, B0⟩ := opn3 w (Obj.cells #[.int .u64 (x1 : Nat), .int .u64 (y1 : Nat)] 26) (Obj.cells #[.int .u64 (x2 : Nat), .int .u64 (y2 : Nat)] 26) (Obj.cells #[.int .u64 0, .int .u64 0] 26)
  go_enter Tryz.func61, Tryz.ntmps61
  obtain ⟨ca_0_0, ca_0_1⟩ := cells2s Ra_0
  obtain ⟨cb_0_0, cb_0_1⟩ := cells2s Rb_0
  have sS : Box (∀ W W1 : World, (Below w.heap.size w W ∧ W.heap[w.heap.size]? = some (Obj.cells #[.int .u64 (x1 : Nat), .int .u64 (y1 : Nat)] 26) ∧ W.heap[w.heap.size + 1]? = some (Obj.cells #[.int .u64 (x2 : Nat), .int .u64 (y2 : Nat)] 26) ∧ W.heap[w.heap.size + 1 + 1]? = some (Obj.cells #[.int .u64 0, .int .u64 0] 26) ∧ W.cell? ⟨w.heap.size, 0, none⟩ = some (.int .u64 (x1 : Nat)) ∧ W.cell? ⟨w.heap.size, 1, none⟩ = some (.int .u64 (y1 : Nat)) ∧ W.cell? ⟨w.heap.size + 1, 0, none⟩ = some (.int .u64 (x2 : Nat)) ∧ W.cell? ⟨w.heap.size + 1, 1, none⟩ = some (.int .u64 (y2 : Nat)) ∧ W.cell? ⟨w.heap.size + 1 + 1, 0, none⟩ = some (.int .u64 0) ∧ W.cell? ⟨w.heap.size + 1 + 1, 1, none⟩ = some (.int .u64 0)) → Below W.heap.size W W1 → (Below w.heap.size w W1 ∧ W1.heap[w.heap.size]? = some (Obj.cells #[.int .u64 (x1 : Nat), .int .u64 (y1 : Nat)] 26) ∧ W1.heap[w.heap.size + 1]? = some (Obj.cells #[.int .u64 (x2 : Nat), .int .u64 (y2 : Nat)] 26) ∧ W1.heap[w.heap.size + 1 + 1]? = some (Obj.cells #[.int .u64 0, .int .u64 0] 26) ∧ W1.cell? ⟨w.heap.size, 0, none⟩ = some (.int .u64 (x1 : Nat)) ∧ W1.cell? ⟨w.heap.size, 1, none⟩ = some (.int .u64 (y1 : Nat)) ∧ W1.cell? ⟨w.heap.size + 1, 0, none⟩ = some (.int .u64 (x2 : Nat)) ∧ W1.cell? ⟨w.heap.size + 1, 1, none⟩ = some (.int .u64 (y2 : Nat)) ∧ W1.cell? ⟨w.heap.size + 1 + 1, 0, none⟩ = some (.int .u64 0) ∧ W1.cell? ⟨w.heap.size + 1 + 1, 1, none⟩ = some (.int .u64 0))) := box (fun W W1 h b => ⟨btr h.1 b, heap_of b _ _ _ h.2.1, heap_of b _ _ _ h.2.2.1, heap_of b _ _ _ h.2.2.2.1, cell7 (heap_of b _ _ _ h.2.1) 0 _ rfl, cell7 (heap_of b _ _ _ h.2.1) 1 _ rfl, cell7 (heap_of b _ _ _ h.2.2.1) 0 _ rfl, cell7 (heap_of b _ _ _ h.2.2.1) 1 _ rfl, cell7 (heap_of b _ _ _ h.2.2.2.1) 0 _ rfl, cell7 (heap_of b _ _ _ h.2.2.2.1) 1 _ rfl⟩)
  have s0 : Below w.heap.size w ((((w.alloc (Obj.cells #[.int .u64 (x1 : Nat), .int .u64 (y1 : Nat)] 26)).alloc (Obj.cells #[.int .u64 (x2 : Nat), .int .u64 (y2 : Nat)] 26)).alloc (Obj.cells #[.int .u64 0, .int .u64 0] 26))).drew ∧ ((((w.alloc (Obj.cells #[.int .u64 (x1 : Nat), .int .u64 (y1 : Nat)] 26)).alloc (Obj.cells #[.int .u64 (x2 : Nat), .int .u64 (y2 : Nat)] 26)).alloc (Obj.cells #[.int .u64 0, .int .u64 0] 26))).drew.heap[w.heap.size]? = some (Obj.cells #[.int .u64 (x1 : Nat), .int .u64 (y1 : Nat)] 26) ∧ ((((w.alloc (Obj.cells #[.int .u64 (x1 : Nat), .int .u64 (y1 : Nat)] 26)).alloc (Obj.cells #[.int .u64 (x2 : Nat), .int .u64 (y2 : Nat)] 26)).alloc (Obj.cells #[.int .u64 0, .int .u64 0] 26))).drew.heap[w.heap.size + 1]? = some (Obj.cells #[.int .u64 (x2 : Nat), .int .u64 (y2 : Nat)] 26) ∧ ((((w.alloc (Obj.cells #[.int .u64 (x1 : Nat), .int .u64 (y1 : Nat)] 26)).alloc (Obj.cells #[.int .u64 (x2 : Nat), .int .u64 (y2 : Nat)] 26)).alloc (Obj.cells #[.int .u64 0, .int .u64 0] 26))).drew.heap[w.heap.size + 1 + 1]? = some (Obj.cells #[.int .u64 0, .int .u64 0] 26) ∧ ((((w.alloc (Obj.cells #[.int .u64 (x1 : Nat), .int .u64 (y1 : Nat)] 26)).alloc (Obj.cells #[.int .u64 (x2 : Nat), .int .u64 (y2 : Nat)] 26)).alloc (Obj.cells #[.int .u64 0, .int .u64 0] 26))).drew.cell? ⟨w.heap.size, 0, none⟩ = some (.int .u64 (x1 : Nat)) ∧ ((((w.alloc (Obj.cells #[.int .u64 (x1 : Nat), .int .u64 (y1 : Nat)] 26)).alloc (Obj.cells #[.int .u64 (x2 : Nat), .int .u64 (y2 : Nat)] 26)).alloc (Obj.cells #[.int .u64 0, .int .u64 0] 26))).drew.cell? ⟨w.heap.size, 1, none⟩ = some (.int .u64 (y1 : Nat)) ∧ ((((w.alloc (Obj.cells #[.int .u64 (x1 : Nat), .int .u64 (y1 : Nat)] 26)).alloc (Obj.cells #[.int .u64 (x2 : Nat), .int .u64 (y2 : Nat)] 26)).alloc (Obj.cells #[.int .u64 0, .int .u64 0] 26))).drew.cell? ⟨w.heap.size + 1, 0, none⟩ = some (.int .u64 (x2 : Nat)) ∧ ((((w.alloc (Obj.cells #[.int .u64 (x1 : Nat), .int .u64 (y1 : Nat)] 26)).alloc (Obj.cells #[.int .u64 (x2 : Nat), .int .u64 (y2 : Nat)] 26)).alloc (Obj.cells #[.int .u64 0, .int .u64 0] 26))).drew.cell? ⟨w.heap.size + 1, 1, none⟩ = some (.int .u64 (y2 : Nat)) ∧ ((((w.alloc (Obj.cells #[.int .u64 (x1 : Nat), .int .u64 (y1 : Nat)] 26)).alloc (Obj.cells #[.int .u64 (x2 : Nat), .int .u64 (y2 : Nat)] 26)).alloc (Obj.cells #[.int .u64 0, .int .u64 0] 26))).drew.cell? ⟨w.heap.size + 1 + 1, 0, none⟩ = some (.int .u64 0) ∧ ((((w.alloc (Obj.cells #[.int .u64 (x1 : Nat), .int .u64 (y1 : Nat)] 26)).alloc (Obj.cells #[.int .u64 (x2 : Nat), .int .u64 (y2 : Nat)] 26)).alloc (Obj.cells #[.int .u64 0, .int .u64 0] 26))).drew.cell? ⟨w.heap.size + 1 + 1, 1, none⟩ = some (.int .u64 0) := ⟨B0.drew, Ra_0, Rb_0, Rz_0, cell7 (Ra_0) 0 _ rfl, cell7 (Ra_0) 1 _ rfl, cell7 (Rb_0) 0 _ rfl, cell7 (Rb_0) 1 _ rfl, cell7 (Rz_0) 0 _ rfl, cell7 (Rz_0) 1 _ rfl⟩
  go_wp2_with fail
  go_region_held3 (fun W => Below w.heap.size w W ∧ W.heap[w.heap.size]? = some (Obj.cells #[.int .u64 (x1 : Nat), .int .u64 (y1 : Nat)] 26) ∧ W.heap[w.heap.size + 1]? = some (Obj.cells #[.int .u64 (x2 : Nat), .int .u64 (y2 : Nat)] 26) ∧ W.heap[w.heap.size + 1 + 1]? = some (Obj.cells #[.int .u64 0, .int .u64 0] 26) ∧ W.cell? ⟨w.heap.size, 0, none⟩ = some (.int .u64 (x1 : Nat)) ∧ W.cell? ⟨w.heap.size, 1, none⟩ = some (.int .u64 (y1 : Nat)) ∧ W.cell? ⟨w.heap.size + 1, 0, none⟩ = some (.int .u64 (x2 : Nat)) ∧ W.cell? ⟨w.heap.size + 1, 1, none⟩ = some (.int .u64 (y2 : Nat)) ∧ W.cell? ⟨w.heap.size + 1 + 1, 0, none⟩ = some (.int .u64 0) ∧ W.cell? ⟨w.heap.size + 1 + 1, 1, none⟩ = some (.int .u64 0)) (first | exact s1 | exact s0)
    (first | (go_at_call_of 119 (Value.agg #[.int .u64 (x1 : Nat), .int .u64 (y1 : Nat)]); (first | refine (KMa.out _ (fatB FF.out (And.left s1))).mono ?_ | refine (KMa.out _ (fatB FF.out (And.left s0))).mono ?_); rintro r wq ⟨rfl, bq⟩; have s1 := (by first | exact sS.out _ _ s1 bq | exact sS.out _ _ s0 bq); clear bq) | (go_at_call_of 119 (Value.agg #[.int .u64 (x2 : Nat), .int .u64 (y2 : Nat)]); (first | refine (KMb.out _ (fatB FF.out (And.left s1))).mono ?_ | refine (KMb.out _ (fatB FF.out (And.left s0))).mono ?_); rintro r wq ⟨rfl, bq⟩; have s1 := (by first | exact sS.out _ _ s1 bq | exact sS.out _ _ s0 bq); clear bq) | (go_at_call 118; (first | refine (KC.out _).mono ?_ | refine (KC.out _).mono ?_); rintro r wq ⟨rfl, bq⟩; have s1 := (by first | exact sS.out _ _ s1 bq | exact sS.out _ _ s0 bq); clear bq) | fail)
  have B1 := (And.left s1)
  have Ra_1 := s1.2.1
  have Rb_1 := s1.2.2.1
  have Rz_1 := s1.2.2.2.1
  clear s0 s1 sS B0 Ra_0 ca_0_0 ca_0_1 Rb_0 cb_0_0 cb_0_1 Rz_0
  obtain ⟨ca_1_0, ca_1_1⟩ := cells2s Ra_1
  obtain ⟨cb_1_0, cb_1_1⟩ := cells2s Rb_1
  go_wp2_with fail
  refine (KU1.out _ (fatB FF.out B1)).mono ?_
  rintro r w2 ⟨rfl, b2⟩
  have B2 : Below w.heap.size w w2 := btr B1 b2
  have Ra_2 := heap_of b2 _ _ _ Ra_1
  have Rb_2 := heap_of b2 _ _ _ Rb_1
  have Rz_2 := heap_of b2 _ _ _ Rz_1
  clear b2 B1 Ra_1 ca_1_0 ca_1_1 Rb_1 cb_1_0 cb_1_1 Rz_1
  obtain ⟨ca_2_0, ca_2_1⟩ := cells2s Ra_2
  obtain ⟨cb_2_0, cb_2_1⟩ := cells2s Rb_2
  have S3 := box B2.size
  have La_3 : Box (w.heap.size < w2.heap.size) := box (Array.getElem?_eq_some_iff.1 Ra_2).1
  have Lb_3 : Box (w.heap.size + 1 < w2.heap.size) := box (Array.getElem?_eq_some_iff.1 Rb_2).1
  have Lz_3 : Box (w.heap.size + 1 + 1 < w2.heap.size) := box (Array.getElem?_eq_some_iff.1 Rz_2).1
  have Rx_3 := heap_alloc_last w2 (Obj.cells (pt c1 m1 X1 r1) 54)
  have B3 := btr B2 (bal w2 (Obj.cells (pt c1 m1 X1 r1) 54))
  have Ra_3 := heap_of (bal w2 (Obj.cells (pt c1 m1 X1 r1) 54)) _ _ _ Ra_2
  have Rb_3 := heap_of (bal w2 (Obj.cells (pt c1 m1 X1 r1) 54)) _ _ _ Rb_2
  have Rz_3 := heap_of (bal w2 (Obj.cells (pt c1 m1 X1 r1) 54)) _ _ _ Rz_2
  clear B2 Ra_2 ca_2_0 ca_2_1 Rb_2 cb_2_0 cb_2_1 Rz_2
  obtain ⟨ca_3_0, ca_3_1⟩ := cells2s Ra_3
  obtain ⟨cb_3_0, cb_3_1⟩ := cells2s Rb_3
  have cx_3_0 := (pt_cells Rx_3).1
  go_wp2_with fail
  refine (KU2.out _ (fatB FF.out B3)).mono ?_
  rintro r w4 ⟨rfl, b4⟩
  have B4 : Below w.heap.size w w4 := btr B3 b4
  have Ra_4 := heap_of b4 _ _ _ Ra_3
  have Rb_4 := heap_of b4 _ _ _ Rb_3
  have Rz_4 := heap_of b4 _ _ _ Rz_3
  have Rx_4 := heap_of b4 _ _ _ Rx_3
  clear b4 B3 Ra_3 ca_3_0 ca_3_1 Rb_3 cb_3_0 cb_3_1 Rz_3 Rx_3 cx_3_0
  obtain ⟨ca_4_0, ca_4_1⟩ := cells2s Ra_4
  obtain ⟨cb_4_0, cb_4_1⟩ := cells2s Rb_4
  have cx_4_0 := (pt_cells Rx_4).1
  have S5 := box B4.size
  have La_5 : Box (w.heap.size < w4.heap.size) := box (Array.getElem?_eq_some_iff.1 Ra_4).1
  have Lb_5 : Box (w.heap.size + 1 < w4.heap.size) := box (Array.getElem?_eq_some_iff.1 Rb_4).1
  have Lz_5 : Box (w.heap.size + 1 + 1 < w4.heap.size) := box (Array.getElem?_eq_some_iff.1 Rz_4).1
  have Lx_5 : Box (w2.heap.size < w4.heap.size) := box (Array.getElem?_eq_some_iff.1 Rx_4).1
  have Ry_5 := heap_alloc_last w4 (Obj.cells (pt c2 m2 X2 r2) 54)
  have B5 := btr B4 (bal w4 (Obj.cells (pt c2 m2 X2 r2) 54))
  have Ra_5 := heap_of (bal w4 (Obj.cells (pt c2 m2 X2 r2) 54)) _ _ _ Ra_4
  have Rb_5 := heap_of (bal w4 (Obj.cells (pt c2 m2 X2 r2) 54)) _ _ _ Rb_4
  have Rz_5 := heap_of (bal w4 (Obj.cells (pt c2 m2 X2 r2) 54)) _ _ _ Rz_4
  have Rx_5 := heap_of (bal w4 (Obj.cells (pt c2 m2 X2 r2) 54)) _ _ _ Rx_4
  clear B4 Ra_4 ca_4_0 ca_4_1 Rb_4 cb_4_0 cb_4_1 Rz_4 Rx_4 cx_4_0
  obtain ⟨ca_5_0, ca_5_1⟩ := cells2s Ra_5
  obtain ⟨cb_5_0, cb_5_1⟩ := cells2s Rb_5
  have cx_5_0 := (pt_cells Rx_5).1
  have cy_5_0 := (pt_cells Ry_5).1
  rcases H.out with ⟨h18, KN, rfl⟩ | ⟨h18, h28, KN, rfl⟩ | ⟨h18, h28, h19, KN, rfl⟩ | ⟨h18, h28, h19, hd, KE1, KE2, KN, rfl⟩ | ⟨h18, h28, h19, hd, KE1, KE2, rfl, rfl, rfl⟩ | ⟨h18, h28, h19, KE1, KE2, rfl, rfl, rfl⟩ | ⟨h18, h28, h19, KE1, KT, KP⟩
  · clear H
    go_wp2_with fail
    refine (KN.out _ (fatB FF.out B5)).mono ?_
    rintro r w6 ⟨rfl, b6⟩
    have B6 : Below w.heap.size w w6 := btr B5 b6
    have Ra_6 := heap_of b6 _ _ _ Ra_5
    have Rb_6 := heap_of b6 _ _ _ Rb_5
    have Rz_6 := heap_of b6 _ _ _ Rz_5
    have Rx_6 := heap_of b6 _ _ _ Rx_5
    have Ry_6 := heap_of b6 _ _ _ Ry_5
    clear b6 B5 Ra_5 ca_5_0 ca_5_1 Rb_5 cb_5_0 cb_5_1 Rz_5 Rx_5 cx_5_0 Ry_5 cy_5_0
    obtain ⟨ca_6_0, ca_6_1⟩ := cells2s Ra_6
    obtain ⟨cb_6_0, cb_6_1⟩ := cells2s Rb_6
    have cx_6_0 := (pt_cells Rx_6).1
    have cy_6_0 := (pt_cells Ry_6).1
    obtain ⟨cz_6_0, cz_6_1⟩ := cells2s Rz_6
    have q0 := fz (k := 0) Rz_6
    have q1 := fz (k := 1) Rz_6
    obtain ⟨E0, E1⟩ := set2_cells Rz_6 (.int .u64 (u : Nat)) (.int .u64 (v : Nat))
    go_wp2
    exact bodyPost_ret (v := .tuple #[.agg #[.int .u64 (u : Nat), .int .u64 (v : Nat)], .int .u8 16, .int .i64 0]) (by simp [results, Tryz.results61, go_sem, E0, E1]) rfl ⟨rfl, set2_below B6 (by first | exact Nat.le_refl _ | omega | (have := S3.out; have := La_3.out; have := Lb_3.out; have := Lz_3.out; have := S5.out; have := La_5.out; have := Lb_5.out; have := Lz_5.out; have := Lx_5.out; omega)) _ _⟩
  · clear H
    go_wp2_with fail
    refine (KN.out _ (fatB FF.out B5)).mono ?_
    rintro r w6 ⟨rfl, b6⟩
    have B6 : Below w.heap.size w w6 := btr B5 b6
    have Ra_6 := heap_of b6 _ _ _ Ra_5
    have Rb_6 := heap_of b6 _ _ _ Rb_5
    have Rz_6 := heap_of b6 _ _ _ Rz_5
    have Rx_6 := heap_of b6 _ _ _ Rx_5
    have Ry_6 := heap_of b6 _ _ _ Ry_5
    clear b6 B5 Ra_5 ca_5_0 ca_5_1 Rb_5 cb_5_0 cb_5_1 Rz_5 Rx_5 cx_5_0 Ry_5 cy_5_0
    obtain ⟨ca_6_0, ca_6_1⟩ := cells2s Ra_6
    obtain ⟨cb_6_0, cb_6_1⟩ := cells2s Rb_6
    have cx_6_0 := (pt_cells Rx_6).1
    have cy_6_0 := (pt_cells Ry_6).1
    obtain ⟨cz_6_0, cz_6_1⟩ := cells2s Rz_6
    have q0 := fz (k := 0) Rz_6
    have q1 := fz (k := 1) Rz_6
    obtain ⟨E0, E1⟩ := set2_cells Rz_6 (.int .u64 (u : Nat)) (.int .u64 (v : Nat))
    go_wp2
    exact bodyPost_ret (v := .tuple #[.agg #[.int .u64 (u : Nat), .int .u64 (v : Nat)], .int .u8 16, .int .i64 0]) (by simp [results, Tryz.results61, go_sem, E0, E1]) rfl ⟨rfl, set2_below B6 (by first | exact Nat.le_refl _ | omega | (have := S3.out; have := La_3.out; have := Lb_3.out; have := Lz_3.out; have := S5.out; have := La_5.out; have := Lb_5.out; have := Lz_5.out; have := Lx_5.out; omega)) _ _⟩
  · clear H
    go_wp2_with fail
    refine (KN.out _ (fatB FF.out B5)).mono ?_
    rintro r w6 ⟨rfl, b6⟩
    have B6 : Below w.heap.size w w6 := btr B5 b6
    have Ra_6 := heap_of b6 _ _ _ Ra_5
    have Rb_6 := heap_of b6 _ _ _ Rb_5
    have Rz_6 := heap_of b6 _ _ _ Rz_5
    have Rx_6 := heap_of b6 _ _ _ Rx_5
    have Ry_6 := heap_of b6 _ _ _ Ry_5
    clear b6 B5 Ra_5 ca_5_0 ca_5_1 Rb_5 cb_5_0 cb_5_1 Rz_5 Rx_5 cx_5_0 Ry_5 cy_5_0
    obtain ⟨ca_6_0, ca_6_1⟩ := cells2s Ra_6
    obtain ⟨cb_6_0, cb_6_1⟩ := cells2s Rb_6
    have cx_6_0 := (pt_cells Rx_6).1
    have cy_6_0 := (pt_cells Ry_6).1
    obtain ⟨cz_6_0, cz_6_1⟩ := cells2s Rz_6
    have q0 := fz (k := 0) Rz_6
    have q1 := fz (k := 1) Rz_6
    obtain ⟨E0, E1⟩ := set2_cells Rz_6 (.int .u64 (u : Nat)) (.int .u64 (v : Nat))
    go_wp2
    exact bodyPost_ret (v := .tuple #[.agg #[.int .u64 (u : Nat), .int .u64 (v : Nat)], .int .u8 0, .int .i64 0]) (by simp [results, Tryz.results61, go_sem, E0, E1]) rfl ⟨rfl, set2_below B6 (by first | exact Nat.le_refl _ | omega | (have := S3.out; have := La_3.out; have := Lb_3.out; have := Lz_3.out; have := S5.out; have := La_5.out; have := Lb_5.out; have := Lz_5.out; have := Lx_5.out; omega)) _ _⟩
  · clear H
    go_wp2_with fail
    refine (KE1.out _).mono ?_
    rintro r w6 ⟨rfl, b6⟩
    have B6 : Below w.heap.size w w6 := btr B5 b6
    have Ra_6 := heap_of b6 _ _ _ Ra_5
    have Rb_6 := heap_of b6 _ _ _ Rb_5
    have Rz_6 := heap_of b6 _ _ _ Rz_5
    have Rx_6 := heap_of b6 _ _ _ Rx_5
    have Ry_6 := heap_of b6 _ _ _ Ry_5
    clear b6 B5 Ra_5 ca_5_0 ca_5_1 Rb_5 cb_5_0 cb_5_1 Rz_5 Rx_5 cx_5_0 Ry_5 cy_5_0
    obtain ⟨ca_6_0, ca_6_1⟩ := cells2s Ra_6
    obtain ⟨cb_6_0, cb_6_1⟩ := cells2s Rb_6
    have cx_6_0 := (pt_cells Rx_6).1
    have cy_6_0 := (pt_cells Ry_6).1
    go_wp2_with fail
    refine (KE2.out _).mono ?_
    rintro r w7 ⟨rfl, b7⟩
    have B7 : Below w.heap.size w w7 := btr B6 b7
    have Ra_7 := heap_of b7 _ _ _ Ra_6
    have Rb_7 := heap_of b7 _ _ _ Rb_6
    have Rz_7 := heap_of b7 _ _ _ Rz_6
    have Rx_7 := heap_of b7 _ _ _ Rx_6
    have Ry_7 := heap_of b7 _ _ _ Ry_6
    clear b7 B6 Ra_6 ca_6_0 ca_6_1 Rb_6 cb_6_0 cb_6_1 Rz_6 Rx_6 cx_6_0 Ry_6 cy_6_0
    obtain ⟨ca_7_0, ca_7_1⟩ := cells2s Ra_7
    obtain ⟨cb_7_0, cb_7_1⟩ := cells2s Rb_7
    have cx_7_0 := (pt_cells Rx_7).1
    have cy_7_0 := (pt_cells Ry_7).1
    go_wp2_with fail
    refine (KN.out _ (fatB FF.out B7)).mono ?_
    rintro r w8 ⟨rfl, b8⟩
    have B8 : Below w.heap.size w w8 := btr B7 b8
    have Ra_8 := heap_of b8 _ _ _ Ra_7
    have Rb_8 := heap_of b8 _ _ _ Rb_7
    have Rz_8 := heap_of b8 _ _ _ Rz_7
    have Rx_8 := heap_of b8 _ _ _ Rx_7
    have Ry_8 := heap_of b8 _ _ _ Ry_7
    clear b8 B7 Ra_7 ca_7_0 ca_7_1 Rb_7 cb_7_0 cb_7_1 Rz_7 Rx_7 cx_7_0 Ry_7 cy_7_0
    obtain ⟨ca_8_0, ca_8_1⟩ := cells2s Ra_8
    obtain ⟨cb_8_0, cb_8_1⟩ := cells2s Rb_8
    have cx_8_0 := (pt_cells Rx_8).1
    have cy_8_0 := (pt_cells Ry_8).1
    obtain ⟨cz_8_0, cz_8_1⟩ := cells2s Rz_8
    have q0 := fz (k := 0) Rz_8
    have q1 := fz (k := 1) Rz_8
    obtain ⟨E0, E1⟩ := set2_cells Rz_8 (.int .u64 (u : Nat)) (.int .u64 (v : Nat))
    go_wp2
    exact bodyPost_ret (v := .tuple #[.agg #[.int .u64 (u : Nat), .int .u64 (v : Nat)], .int .u8 16, .int .i64 0]) (by simp [results, Tryz.results61, go_sem, E0, E1]) rfl ⟨rfl, set2_below B8 (by first | exact Nat.le_refl _ | omega | (have := S3.out; have := La_3.out; have := Lb_3.out; have := Lz_3.out; have := S5.out; have := La_5.out; have := Lb_5.out; have := Lz_5.out; have := Lx_5.out; omega)) _ _⟩
  · clear H
    go_wp2_with fail
    refine (KE1.out _).mono ?_
    rintro r w6 ⟨rfl, b6⟩
    have B6 : Below w.heap.size w w6 := btr B5 b6
    have Ra_6 := heap_of b6 _ _ _ Ra_5
    have Rb_6 := heap_of b6 _ _ _ Rb_5
    have Rz_6 := heap_of b6 _ _ _ Rz_5
    have Rx_6 := heap_of b6 _ _ _ Rx_5
    have Ry_6 := heap_of b6 _ _ _ Ry_5
    clear b6 B5 Ra_5 ca_5_0 ca_5_1 Rb_5 cb_5_0 cb_5_1 Rz_5 Rx_5 cx_5_0 Ry_5 cy_5_0
    obtain ⟨ca_6_0, ca_6_1⟩ := cells2s Ra_6
    obtain ⟨cb_6_0, cb_6_1⟩ := cells2s Rb_6
    have cx_6_0 := (pt_cells Rx_6).1
    have cy_6_0 := (pt_cells Ry_6).1
    go_wp2_with fail
    refine (KE2.out _).mono ?_
    rintro r w7 ⟨rfl, b7⟩
    have B7 : Below w.heap.size w w7 := btr B6 b7
    have Ra_7 := heap_of b7 _ _ _ Ra_6
    have Rb_7 := heap_of b7 _ _ _ Rb_6
    have Rz_7 := heap_of b7 _ _ _ Rz_6
    have Rx_7 := heap_of b7 _ _ _ Rx_6
    have Ry_7 := heap_of b7 _ _ _ Ry_6
    clear b7 B6 Ra_6 ca_6_0 ca_6_1 Rb_6 cb_6_0 cb_6_1 Rz_6 Rx_6 cx_6_0 Ry_6 cy_6_0
    obtain ⟨ca_7_0, ca_7_1⟩ := cells2s Ra_7
    obtain ⟨cb_7_0, cb_7_1⟩ := cells2s Rb_7
    have cx_7_0 := (pt_cells Rx_7).1
    have cy_7_0 := (pt_cells Ry_7).1
    go_wp2_with fail
    refine (KE1.out _).mono ?_
    rintro r w8 ⟨rfl, b8⟩
    have B8 : Below w.heap.size w w8 := btr B7 b8
    have Ra_8 := heap_of b8 _ _ _ Ra_7
    have Rb_8 := heap_of b8 _ _ _ Rb_7
    have Rz_8 := heap_of b8 _ _ _ Rz_7
    have Rx_8 := heap_of b8 _ _ _ Rx_7
    have Ry_8 := heap_of b8 _ _ _ Ry_7
    clear b8 B7 Ra_7 ca_7_0 ca_7_1 Rb_7 cb_7_0 cb_7_1 Rz_7 Rx_7 cx_7_0 Ry_7 cy_7_0
    obtain ⟨ca_8_0, ca_8_1⟩ := cells2s Ra_8
    obtain ⟨cb_8_0, cb_8_1⟩ := cells2s Rb_8
    have cx_8_0 := (pt_cells Rx_8).1
    have cy_8_0 := (pt_cells Ry_8).1
    obtain ⟨cz_8_0, cz_8_1⟩ := cells2s Rz_8
    have q0 := fz (k := 0) Rz_8
    have q1 := fz (k := 1) Rz_8
    obtain ⟨E0, E1⟩ := set2_cells Rz_8 (.int .u64 (x1 : Nat)) (.int .u64 (y1 : Nat))
    go_wp2
    exact bodyPost_ret (v := .tuple #[.agg #[.int .u64 (x1 : Nat), .int .u64 (y1 : Nat)], .int .u8 0, .int .i64 0]) (by simp [results, Tryz.results61, go_sem, E0, E1]) rfl ⟨rfl, set2_below B8 (by first | exact Nat.le_refl _ | omega | (have := S3.out; have := La_3.out; have := Lb_3.out; have := Lz_3.out; have := S5.out; have := La_5.out; have := Lb_5.out; have := Lz_5.out; have := Lx_5.out; omega)) _ _⟩
  · clear H
    go_wp2_with fail
    refine (KE1.out _).mono ?_
    rintro r w6 ⟨rfl, b6⟩
    have B6 : Below w.heap.size w w6 := btr B5 b6
    have Ra_6 := heap_of b6 _ _ _ Ra_5
    have Rb_6 := heap_of b6 _ _ _ Rb_5
    have Rz_6 := heap_of b6 _ _ _ Rz_5
    have Rx_6 := heap_of b6 _ _ _ Rx_5
    have Ry_6 := heap_of b6 _ _ _ Ry_5
    clear b6 B5 Ra_5 ca_5_0 ca_5_1 Rb_5 cb_5_0 cb_5_1 Rz_5 Rx_5 cx_5_0 Ry_5 cy_5_0
    obtain ⟨ca_6_0, ca_6_1⟩ := cells2s Ra_6
    obtain ⟨cb_6_0, cb_6_1⟩ := cells2s Rb_6
    have cx_6_0 := (pt_cells Rx_6).1
    have cy_6_0 := (pt_cells Ry_6).1
    go_wp2_with fail
    refine (KE2.out _).mono ?_
    rintro r w7 ⟨rfl, b7⟩
    have B7 : Below w.heap.size w w7 := btr B6 b7
    have Ra_7 := heap_of b7 _ _ _ Ra_6
    have Rb_7 := heap_of b7 _ _ _ Rb_6
    have Rz_7 := heap_of b7 _ _ _ Rz_6
    have Rx_7 := heap_of b7 _ _ _ Rx_6
    have Ry_7 := heap_of b7 _ _ _ Ry_6
    clear b7 B6 Ra_6 ca_6_0 ca_6_1 Rb_6 cb_6_0 cb_6_1 Rz_6 Rx_6 cx_6_0 Ry_6 cy_6_0
    obtain ⟨ca_7_0, ca_7_1⟩ := cells2s Ra_7
    obtain ⟨cb_7_0, cb_7_1⟩ := cells2s Rb_7
    have cx_7_0 := (pt_cells Rx_7).1
    have cy_7_0 := (pt_cells Ry_7).1
    go_wp2_with fail
    refine (KE1.out _).mono ?_
    rintro r w8 ⟨rfl, b8⟩
    have B8 : Below w.heap.size w w8 := btr B7 b8
    have Ra_8 := heap_of b8 _ _ _ Ra_7
    have Rb_8 := heap_of b8 _ _ _ Rb_7
    have Rz_8 := heap_of b8 _ _ _ Rz_7
    have Rx_8 := heap_of b8 _ _ _ Rx_7
    have Ry_8 := heap_of b8 _ _ _ Ry_7
    clear b8 B7 Ra_7 ca_7_0 ca_7_1 Rb_7 cb_7_0 cb_7_1 Rz_7 Rx_7 cx_7_0 Ry_7 cy_7_0
    obtain ⟨ca_8_0, ca_8_1⟩ := cells2s Ra_8
    obtain ⟨cb_8_0, cb_8_1⟩ := cells2s Rb_8
    have cx_8_0 := (pt_cells Rx_8).1
    have cy_8_0 := (pt_cells Ry_8).1
    obtain ⟨cz_8_0, cz_8_1⟩ := cells2s Rz_8
    have q0 := fz (k := 0) Rz_8
    have q1 := fz (k := 1) Rz_8
    obtain ⟨E0, E1⟩ := set2_cells Rz_8 (.int .u64 (x1 : Nat)) (.int .u64 (y1 : Nat))
    go_wp2
    exact bodyPost_ret (v := .tuple #[.agg #[.int .u64 (x1 : Nat), .int .u64 (y1 : Nat)], .int .u8 0, .int .i64 0]) (by simp [results, Tryz.results61, go_sem, E0, E1]) rfl ⟨rfl, set2_below B8 (by first | exact Nat.le_refl _ | omega | (have := S3.out; have := La_3.out; have := Lb_3.out; have := Lz_3.out; have := S5.out; have := La_5.out; have := Lb_5.out; have := Lz_5.out; have := Lx_5.out; omega)) _ _⟩
  · clear H
    go_wp2_with fail
    refine (KE1.out _).mono ?_
    rintro r w6 ⟨rfl, b6⟩
    have B6 : Below w.heap.size w w6 := btr B5 b6
    have Ra_6 := heap_of b6 _ _ _ Ra_5
    have Rb_6 := heap_of b6 _ _ _ Rb_5
    have Rz_6 := heap_of b6 _ _ _ Rz_5
    have Rx_6 := heap_of b6 _ _ _ Rx_5
    have Ry_6 := heap_of b6 _ _ _ Ry_5
    clear b6 B5 Ra_5 ca_5_0 ca_5_1 Rb_5 cb_5_0 cb_5_1 Rz_5 Rx_5 cx_5_0 Ry_5 cy_5_0
    obtain ⟨ca_6_0, ca_6_1⟩ := cells2s Ra_6
    obtain ⟨cb_6_0, cb_6_1⟩ := cells2s Rb_6
    have cx_6_0 := (pt_cells Rx_6).1
    have cy_6_0 := (pt_cells Ry_6).1
    go_wp2_with fail
    refine (KE1.out _).mono ?_
    rintro r w7 ⟨rfl, b7⟩
    have B7 : Below w.heap.size w w7 := btr B6 b7
    have Ra_7 := heap_of b7 _ _ _ Ra_6
    have Rb_7 := heap_of b7 _ _ _ Rb_6
    have Rz_7 := heap_of b7 _ _ _ Rz_6
    have Rx_7 := heap_of b7 _ _ _ Rx_6
    have Ry_7 := heap_of b7 _ _ _ Ry_6
    clear b7 B6 Ra_6 ca_6_0 ca_6_1 Rb_6 cb_6_0 cb_6_1 Rz_6 Rx_6 cx_6_0 Ry_6 cy_6_0
    obtain ⟨ca_7_0, ca_7_1⟩ := cells2s Ra_7
    obtain ⟨cb_7_0, cb_7_1⟩ := cells2s Rb_7
    have cx_7_0 := (pt_cells Rx_7).1
    have cy_7_0 := (pt_cells Ry_7).1
    clear ca_7_0 ca_7_1
    clear cb_7_0 cb_7_1
    obtain ⟨cx_7_0, cx_7_1, cx_7_2, cx_7_3, cx_7_4, cx_7_5, cx_7_6, cx_7_7, cx_7_8, cx_7_9, cx_7_10, cx_7_11, cx_7_12, cx_7_13⟩ := pt_cells Rx_7
    obtain ⟨cy_7_0, cy_7_1, cy_7_2, cy_7_3, cy_7_4, cy_7_5, cy_7_6, cy_7_7, cy_7_8, cy_7_9, cy_7_10, cy_7_11, cy_7_12, cy_7_13⟩ := pt_cells Ry_7
    go_wp2_with fail
    refine (KT.out _).mono ?_
    rintro r w8 ⟨rfl, b8⟩
    have B8 : Below w.heap.size w w8 := btr B7 b8
    have Ra_8 := heap_of b8 _ _ _ Ra_7
    have Rb_8 := heap_of b8 _ _ _ Rb_7
    have Rz_8 := heap_of b8 _ _ _ Rz_7
    have Rx_8 := heap_of b8 _ _ _ Rx_7
    have Ry_8 := heap_of b8 _ _ _ Ry_7
    clear b8 B7 Ra_7 Rb_7 Rz_7 Rx_7 cx_7_0 cx_7_1 cx_7_2 cx_7_3 cx_7_4 cx_7_5 cx_7_6 cx_7_7 cx_7_8 cx_7_9 cx_7_10 cx_7_11 cx_7_12 cx_7_13 Ry_7 cy_7_0 cy_7_1 cy_7_2 cy_7_3 cy_7_4 cy_7_5 cy_7_6 cy_7_7 cy_7_8 cy_7_9 cy_7_10 cy_7_11 cy_7_12 cy_7_13
    obtain ⟨cx_8_0, cx_8_1, cx_8_2, cx_8_3, cx_8_4, cx_8_5, cx_8_6, cx_8_7, cx_8_8, cx_8_9, cx_8_10, cx_8_11, cx_8_12, cx_8_13⟩ := pt_cells Rx_8
    obtain ⟨cy_8_0, cy_8_1, cy_8_2, cy_8_3, cy_8_4, cy_8_5, cy_8_6, cy_8_7, cy_8_8, cy_8_9, cy_8_10, cy_8_11, cy_8_12, cy_8_13⟩ := pt_cells Ry_8
    clear cx_8_0 cx_8_1 cx_8_2 cx_8_3 cx_8_4 cx_8_5 cx_8_6 cx_8_7 cx_8_8 cx_8_9 cx_8_10 cx_8_11 cx_8_12 cx_8_13
    clear cy_8_0 cy_8_1 cy_8_2 cy_8_3 cy_8_4 cy_8_5 cy_8_6 cy_8_7 cy_8_8 cy_8_9 cy_8_10 cy_8_11 cy_8_12 cy_8_13
    go_wp2_with fail
    refine (KP.out _ (fatB FF.out B8)).mono ?_
    rintro r w9 ⟨rfl, b9⟩
    have B9 : Below w.heap.size w w9 := btr B8 b9
    have Ra_9 := heap_of b9 _ _ _ Ra_8
    have Rb_9 := heap_of b9 _ _ _ Rb_8
    have Rz_9 := heap_of b9 _ _ _ Rz_8
    have Rx_9 := heap_of b9 _ _ _ Rx_8
    have Ry_9 := heap_of b9 _ _ _ Ry_8
    clear b9 B8 Ra_8 Rb_8 Rz_8 Rx_8 Ry_8
    obtain ⟨cz_9_0, cz_9_1⟩ := cells2s Rz_9
    have q0 := fz (k := 0) Rz_9
    have q1 := fz (k := 1) Rz_9
    obtain ⟨E0, E1⟩ := set2_cells Rz_9 (.int .u64 (u : Nat)) (.int .u64 (v : Nat))
    go_wp2
    exact bodyPost_ret (v := .tuple #[.agg #[.int .u64 (u : Nat), .int .u64 (v : Nat)], .int .u8 fl, .int .i64 0]) (by simp [results, Tryz.results61, go_sem, E0, E1]) rfl ⟨rfl, set2_below B9 (by first | exact Nat.le_refl _ | omega | (have := S3.out; have := La_3.out; have := Lb_3.out; have := Lz_3.out; have := S5.out; have := La_5.out; have := Lb_5.out; have := Lz_5.out; have := Lx_5.out; omega)) _ _⟩
set_option maxRecDepth 100000 in
set_option maxHeartbeats 8000000 in
theorem ad_plus_w (f m : Int) (x1 y1 x2 y2 u v na nb : Nat) (c : Int) (c1 m1 : Nat) (X1 : Int) (r1 c2 m2 : Nat) (X2 : Int) (r2 : Nat) (tn : Bool) (ts : Nat) (tx fl : Int) (w : World) (hc : decide (c < 0) = true)
    (KMa : Box (∀ w, FAt w → Calls Tryz.prog 119 #[.int .u8 f, .agg #[.int .u64 (x1 : Nat), .int .u64 (y1 : Nat)]] w fun r w' => r = .returned (.agg (cw 6 na)) ∧ Below w.heap.size w w'))
    (KMb : Box (∀ w, FAt w → Calls Tryz.prog 119 #[.int .u8 f, .agg #[.int .u64 (x2 : Nat), .int .u64 (y2 : Nat)]] w fun r w' => r = .returned (.agg (cw 6 nb)) ∧ Below w.heap.size w w'))
    (KC : Box (∀ w, Calls Tryz.prog 118 #[.agg (cw 6 na), .agg (cw 6 nb)] w fun r w' => r = .returned (.int .i64 c) ∧ Below w.heap.size w w'))
    (KU1 : Box (∀ w, FAt w → Calls Tryz.prog 33 #[.int .u8 f, .agg #[.int .u64 (x2 : Nat), .int .u64 (y2 : Nat)]] w fun r w' => r = .returned (.tuple #[.agg (pt c1 m1 X1 r1), .int .i64 0]) ∧ Below w.heap.size w w'))
    (KU2 : Box (∀ w, FAt w → Calls Tryz.prog 33 #[.int .u8 f, .agg #[.int .u64 (x1 : Nat), .int .u64 (y1 : Nat)]] w fun r w' => r = .returned (.tuple #[.agg (pt c2 m2 X2 r2), .int .i64 0]) ∧ Below w.heap.size w w'))
    (H : Box ((((c1 : Int) == 8) = true ∧ Box (∀ w, FAt w → Calls Tryz.prog 35 #[.int .u8 f] w fun r w' => r = .returned (.agg #[.int .u64 (u : Nat), .int .u64 (v : Nat)]) ∧ Below w.heap.size w w') ∧ fl = 16) ∨
      (((c1 : Int) == 8) = false ∧ ((c2 : Int) == 8) = true ∧ Box (∀ w, FAt w → Calls Tryz.prog 35 #[.int .u8 f] w fun r w' => r = .returned (.agg #[.int .u64 (u : Nat), .int .u64 (v : Nat)]) ∧ Below w.heap.size w w') ∧ fl = 16) ∨
      (((c1 : Int) == 8) = false ∧ ((c2 : Int) == 8) = false ∧ ((c1 : Int) == 9) = true ∧ Box (∀ w, FAt w → Calls Tryz.prog 35 #[.int .u8 f] w fun r w' => r = .returned (.agg #[.int .u64 (u : Nat), .int .u64 (v : Nat)]) ∧ Below w.heap.size w w') ∧ fl = 0) ∨
      (((c1 : Int) == 8) = false ∧ ((c2 : Int) == 8) = false ∧ ((c1 : Int) == 9) = false ∧ ((c1 : Int) != (c2 : Int)) = true ∧ Box (∀ w, Calls Tryz.prog 70 #[.int .u8 (c1 : Nat)] w fun r w' => r = .returned (.bool true) ∧ Below w.heap.size w w') ∧ Box (∀ w, Calls Tryz.prog 70 #[.int .u8 (c2 : Nat)] w fun r w' => r = .returned (.bool true) ∧ Below w.heap.size w w') ∧ Box (∀ w, FAt w → Calls Tryz.prog 35 #[.int .u8 f] w fun r w' => r = .returned (.agg #[.int .u64 (u : Nat), .int .u64 (v : Nat)]) ∧ Below w.heap.size w w') ∧ fl = 16) ∨
      (((c1 : Int) == 8) = false ∧ ((c2 : Int) == 8) = false ∧ ((c1 : Int) == 9) = false ∧ ((c1 : Int) != (c2 : Int)) = false ∧ Box (∀ w, Calls Tryz.prog 70 #[.int .u8 (c1 : Nat)] w fun r w' => r = .returned (.bool true) ∧ Below w.heap.size w w') ∧ Box (∀ w, Calls Tryz.prog 70 #[.int .u8 (c2 : Nat)] w fun r w' => r = .returned (.bool true) ∧ Below w.heap.size w w') ∧ x2 = u ∧ y2 = v ∧ fl = 0) ∨
      (((c1 : Int) == 8) = false ∧ ((c2 : Int) == 8) = false ∧ ((c1 : Int) == 9) = false ∧ Box (∀ w, Calls Tryz.prog 70 #[.int .u8 (c1 : Nat)] w fun r w' => r = .returned (.bool true) ∧ Below w.heap.size w w') ∧ Box (∀ w, Calls Tryz.prog 70 #[.int .u8 (c2 : Nat)] w fun r w' => r = .returned (.bool false) ∧ Below w.heap.size w w') ∧ x2 = u ∧ y2 = v ∧ fl = 0) ∨
      (((c1 : Int) == 8) = false ∧ ((c2 : Int) == 8) = false ∧ ((c1 : Int) == 9) = false ∧ Box (∀ w, Calls Tryz.prog 70 #[.int .u8 (c1 : Nat)] w fun r w' => r = .returned (.bool false) ∧ Below w.heap.size w w') ∧ Box (∀ w, Calls Tryz.prog 120 #[.int .u8 m, .agg (pt c1 m1 X1 r1), .agg (pt c2 m2 X2 r2)] w fun r w' => r = .returned (.agg (rg tn ts tx false)) ∧ Below w.heap.size w w') ∧ Box (∀ w, FAt w → Calls Tryz.prog 37 #[.int .u8 f, .int .u8 m, .agg (rg tn ts tx false)] w fun r w' => r = .returned (.tuple #[.agg #[.int .u64 (u : Nat), .int .u64 (v : Nat)], .int .u8 fl, .int .i64 0]) ∧ Below w.heap.size w w'))))
    (hT : FAt w) : Calls Tryz.prog 61 #[.int .u8 f, .int .u8 m, .agg #[.int .u64 (x1 : Nat), .int .u64 (y1 : Nat)], .agg #[.int .u64 (x2 : Nat), .int .u64 (y2 : Nat)]] w fun r w' => r = .returned (.tuple #[.agg #[.int .u64 (u : Nat), .int .u64 (v : Nat)], .int .u8 fl, .int .i64 0]) ∧ Below w.heap.size w w' := by
  have FF := box hT
  clear hT
  have hat := cw_at 6
  have hz := cw6z
  have hff := cw6f
  have hs0 := st0
  have hcs : ∀ x, ((cw 6 x).size = 6) = True := fun x => eq_true (cw_size 6 x)
  have hp1 := rgf
  have hp5 : ∀ (c : Bool) (s : Nat) (x : Int) (r : Bool), ((rg c s x r).size = 9) = True := fun _ _ _ _ => eq_true rfl
  have hq1 := ptf
  have hq3 := ptz
  have hq4 := st_p0
  have hq5 : ∀ (c s : Nat) (x : Int) (r : Nat), ((pt c s x r).size = 14) = True := fun _ _ _ _ => eq_true rfl
  obtain ⟨Ra_0, Rb_0, Rz_0, B0⟩ := opn3 w (Obj.cells #[.int .u64 (x1 : Nat), .int .u64 (y1 : Nat)] 26) (Obj.cells #[.int .u64 (x2 : Nat), .int .u64 (y2 : Nat)] 26) (Obj.cells #[.int .u64 0, .int .u64 0] 26)
  go_enter Tryz.func61, Tryz.ntmps61
  obtain ⟨ca_0_0, ca_0_1⟩ := cells2s Ra_0
  obtain ⟨cb_0_0, cb_0_1⟩ := cells2s Rb_0
  have sS : Box (∀ W W1 : World, (Below w.heap.size w W ∧ W.heap[w.heap.size]? = some (Obj.cells #[.int .u64 (x1 : Nat), .int .u64 (y1 : Nat)] 26) ∧ W.heap[w.heap.size + 1]? = some (Obj.cells #[.int .u64 (x2 : Nat), .int .u64 (y2 : Nat)] 26) ∧ W.heap[w.heap.size + 1 + 1]? = some (Obj.cells #[.int .u64 0, .int .u64 0] 26) ∧ W.cell? ⟨w.heap.size, 0, none⟩ = some (.int .u64 (x1 : Nat)) ∧ W.cell? ⟨w.heap.size, 1, none⟩ = some (.int .u64 (y1 : Nat)) ∧ W.cell? ⟨w.heap.size + 1, 0, none⟩ = some (.int .u64 (x2 : Nat)) ∧ W.cell? ⟨w.heap.size + 1, 1, none⟩ = some (.int .u64 (y2 : Nat)) ∧ W.cell? ⟨w.heap.size + 1 + 1, 0, none⟩ = some (.int .u64 0) ∧ W.cell? ⟨w.heap.size + 1 + 1, 1, none⟩ = some (.int .u64 0)) → Below W.heap.size W W1 → (Below w.heap.size w W1 ∧ W1.heap[w.heap.size]? = some (Obj.cells #[.int .u64 (x1 : Nat), .int .u64 (y1 : Nat)] 26) ∧ W1.heap[w.heap.size + 1]? = some (Obj.cells #[.int .u64 (x2 : Nat), .int .u64 (y2 : Nat)] 26) ∧ W1.heap[w.heap.size + 1 + 1]? = some (Obj.cells #[.int .u64 0, .int .u64 0] 26) ∧ W1.cell? ⟨w.heap.size, 0, none⟩ = some (.int .u64 (x1 : Nat)) ∧ W1.cell? ⟨w.heap.size, 1, none⟩ = some (.int .u64 (y1 : Nat)) ∧ W1.cell? ⟨w.heap.size + 1, 0, none⟩ = some (.int .u64 (x2 : Nat)) ∧ W1.cell? ⟨w.heap.size + 1, 1, none⟩ = some (.int .u64 (y2 : Nat)) ∧ W1.cell? ⟨w.heap.size + 1 + 1, 0, none⟩ = some (.int .u64 0) ∧ W1.cell? ⟨w.heap.size + 1 + 1, 1, none⟩ = some (.int .u64 0))) := box (fun W W1 h b => ⟨btr h.1 b, heap_of b _ _ _ h.2.1, heap_of b _ _ _ h.2.2.1, heap_of b _ _ _ h.2.2.2.1, cell7 (heap_of b _ _ _ h.2.1) 0 _ rfl, cell7 (heap_of b _ _ _ h.2.1) 1 _ rfl, cell7 (heap_of b _ _ _ h.2.2.1) 0 _ rfl, cell7 (heap_of b _ _ _ h.2.2.1) 1 _ rfl, cell7 (heap_of b _ _ _ h.2.2.2.1) 0 _ rfl, cell7 (heap_of b _ _ _ h.2.2.2.1) 1 _ rfl⟩)
  have s0 : Below w.heap.size w ((((w.alloc (Obj.cells #[.int .u64 (x1 : Nat), .int .u64 (y1 : Nat)] 26)).alloc (Obj.cells #[.int .u64 (x2 : Nat), .int .u64 (y2 : Nat)] 26)).alloc (Obj.cells #[.int .u64 0, .int .u64 0] 26))).drew ∧ ((((w.alloc (Obj.cells #[.int .u64 (x1 : Nat), .int .u64 (y1 : Nat)] 26)).alloc (Obj.cells #[.int .u64 (x2 : Nat), .int .u64 (y2 : Nat)] 26)).alloc (Obj.cells #[.int .u64 0, .int .u64 0] 26))).drew.heap[w.heap.size]? = some (Obj.cells #[.int .u64 (x1 : Nat), .int .u64 (y1 : Nat)] 26) ∧ ((((w.alloc (Obj.cells #[.int .u64 (x1 : Nat), .int .u64 (y1 : Nat)] 26)).alloc (Obj.cells #[.int .u64 (x2 : Nat), .int .u64 (y2 : Nat)] 26)).alloc (Obj.cells #[.int .u64 0, .int .u64 0] 26))).drew.heap[w.heap.size + 1]? = some (Obj.cells #[.int .u64 (x2 : Nat), .int .u64 (y2 : Nat)] 26) ∧ ((((w.alloc (Obj.cells #[.int .u64 (x1 : Nat), .int .u64 (y1 : Nat)] 26)).alloc (Obj.cells #[.int .u64 (x2 : Nat), .int .u64 (y2 : Nat)] 26)).alloc (Obj.cells #[.int .u64 0, .int .u64 0] 26))).drew.heap[w.heap.size + 1 + 1]? = some (Obj.cells #[.int .u64 0, .int .u64 0] 26) ∧ ((((w.alloc (Obj.cells #[.int .u64 (x1 : Nat), .int .u64 (y1 : Nat)] 26)).alloc (Obj.cells #[.int .u64 (x2 : Nat), .int .u64 (y2 : Nat)] 26)).alloc (Obj.cells #[.int .u64 0, .int .u64 0] 26))).drew.cell? ⟨w.heap.size, 0, none⟩ = some (.int .u64 (x1 : Nat)) ∧ ((((w.alloc (Obj.cells #[.int .u64 (x1 : Nat), .int .u64 (y1 : Nat)] 26)).alloc (Obj.cells #[.int .u64 (x2 : Nat), .int .u64 (y2 : Nat)] 26)).alloc (Obj.cells #[.int .u64 0, .int .u64 0] 26))).drew.cell? ⟨w.heap.size, 1, none⟩ = some (.int .u64 (y1 : Nat)) ∧ ((((w.alloc (Obj.cells #[.int .u64 (x1 : Nat), .int .u64 (y1 : Nat)] 26)).alloc (Obj.cells #[.int .u64 (x2 : Nat), .int .u64 (y2 : Nat)] 26)).alloc (Obj.cells #[.int .u64 0, .int .u64 0] 26))).drew.cell? ⟨w.heap.size + 1, 0, none⟩ = some (.int .u64 (x2 : Nat)) ∧ ((((w.alloc (Obj.cells #[.int .u64 (x1 : Nat), .int .u64 (y1 : Nat)] 26)).alloc (Obj.cells #[.int .u64 (x2 : Nat), .int .u64 (y2 : Nat)] 26)).alloc (Obj.cells #[.int .u64 0, .int .u64 0] 26))).drew.cell? ⟨w.heap.size + 1, 1, none⟩ = some (.int .u64 (y2 : Nat)) ∧ ((((w.alloc (Obj.cells #[.int .u64 (x1 : Nat), .int .u64 (y1 : Nat)] 26)).alloc (Obj.cells #[.int .u64 (x2 : Nat), .int .u64 (y2 : Nat)] 26)).alloc (Obj.cells #[.int .u64 0, .int .u64 0] 26))).drew.cell? ⟨w.heap.size + 1 + 1, 0, none⟩ = some (.int .u64 0) ∧ ((((w.alloc (Obj.cells #[.int .u64 (x1 : Nat), .int .u64 (y1 : Nat)] 26)).alloc (Obj.cells #[.int .u64 (x2 : Nat), .int .u64 (y2 : Nat)] 26)).alloc (Obj.cells #[.int .u64 0, .int .u64 0] 26))).drew.cell? ⟨w.heap.size + 1 + 1, 1, none⟩ = some (.int .u64 0) := ⟨B0.drew, Ra_0, Rb_0, Rz_0, cell7 (Ra_0) 0 _ rfl, cell7 (Ra_0) 1 _ rfl, cell7 (Rb_0) 0 _ rfl, cell7 (Rb_0) 1 _ rfl, cell7 (Rz_0) 0 _ rfl, cell7 (Rz_0) 1 _ rfl⟩
  go_wp2_with fail
  go_region_held3 (fun W => Below w.heap.size w W ∧ W.heap[w.heap.size]? = some (Obj.cells #[.int .u64 (x1 : Nat), .int .u64 (y1 : Nat)] 26) ∧ W.heap[w.heap.size + 1]? = some (Obj.cells #[.int .u64 (x2 : Nat), .int .u64 (y2 : Nat)] 26) ∧ W.heap[w.heap.size + 1 + 1]? = some (Obj.cells #[.int .u64 0, .int .u64 0] 26) ∧ W.cell? ⟨w.heap.size, 0, none⟩ = some (.int .u64 (x1 : Nat)) ∧ W.cell? ⟨w.heap.size, 1, none⟩ = some (.int .u64 (y1 : Nat)) ∧ W.cell? ⟨w.heap.size + 1, 0, none⟩ = some (.int .u64 (x2 : Nat)) ∧ W.cell? ⟨w.heap.size + 1, 1, none⟩ = some (.int .u64 (y2 : Nat)) ∧ W.cell? ⟨w.heap.size + 1 + 1, 0, none⟩ = some (.int .u64 0) ∧ W.cell? ⟨w.heap.size + 1 + 1, 1, none⟩ = some (.int .u64 0)) (first | exact s1 | exact s0)
    (first | (go_at_call_of 119 (Value.agg #[.int .u64 (x1 : Nat), .int .u64 (y1 : Nat)]); (first | refine (KMa.out _ (fatB FF.out (And.left s1))).mono ?_ | refine (KMa.out _ (fatB FF.out (And.left s0))).mono ?_); rintro r wq ⟨rfl, bq⟩; have s1 := (by first | exact sS.out _ _ s1 bq | exact sS.out _ _ s0 bq); clear bq) | (go_at_call_of 119 (Value.agg #[.int .u64 (x2 : Nat), .int .u64 (y2 : Nat)]); (first | refine (KMb.out _ (fatB FF.out (And.left s1))).mono ?_ | refine (KMb.out _ (fatB FF.out (And.left s0))).mono ?_); rintro r wq ⟨rfl, bq⟩; have s1 := (by first | exact sS.out _ _ s1 bq | exact sS.out _ _ s0 bq); clear bq) | (go_at_call 118; (first | refine (KC.out _).mono ?_ | refine (KC.out _).mono ?_); rintro r wq ⟨rfl, bq⟩; have s1 := (by first | exact sS.out _ _ s1 bq | exact sS.out _ _ s0 bq); clear bq) | fail)
  have B1 := (And.left s1)
  have Ra_1 := s1.2.1
  have Rb_1 := s1.2.2.1
  have Rz_1 := s1.2.2.2.1
  clear s0 s1 sS B0 Ra_0 ca_0_0 ca_0_1 Rb_0 cb_0_0 cb_0_1 Rz_0
  obtain ⟨ca_1_0, ca_1_1⟩ := cells2s Ra_1
  obtain ⟨cb_1_0, cb_1_1⟩ := cells2s Rb_1
  have q0_2 := fz (k := 0) Ra_1
  have q1_2 := fz (k := 1) Ra_1
  have B2 := set2_below B1 (show w.heap.size ≤ w.heap.size by first | exact Nat.le_refl _ | omega | (skip; omega)) (.int .u64 (x2 : Nat)) (.int .u64 (y2 : Nat))
  have Ra_2 : ((wq.setCell ⟨w.heap.size, 0, none⟩ (.int .u64 (x2 : Nat))).setCell ⟨w.heap.size, 1, none⟩ (.int .u64 (y2 : Nat))).heap[w.heap.size]? = some (Obj.cells #[.int .u64 (x2 : Nat), .int .u64 (y2 : Nat)] 26) := set2_row Ra_1 _ _
  have Rb_2 : ((wq.setCell ⟨w.heap.size, 0, none⟩ (.int .u64 (x2 : Nat))).setCell ⟨w.heap.size, 1, none⟩ (.int .u64 (y2 : Nat))).heap[w.heap.size + 1]? = some (Obj.cells #[.int .u64 (x2 : Nat), .int .u64 (y2 : Nat)] 26) := (setCell_other (by first | omega | (skip; omega))).trans ((setCell_other (by first | omega | (skip; omega))).trans Rb_1)
  have Rz_2 : ((wq.setCell ⟨w.heap.size, 0, none⟩ (.int .u64 (x2 : Nat))).setCell ⟨w.heap.size, 1, none⟩ (.int .u64 (y2 : Nat))).heap[w.heap.size + 1 + 1]? = some (Obj.cells #[.int .u64 0, .int .u64 0] 26) := (setCell_other (by first | omega | (skip; omega))).trans ((setCell_other (by first | omega | (skip; omega))).trans Rz_1)
  obtain ⟨ca_2_0, ca_2_1⟩ := cells2s Ra_2
  obtain ⟨cb_2_0, cb_2_1⟩ := cells2s Rb_2
  have q0_3 := fz (k := 0) Rb_2
  have q1_3 := fz (k := 1) Rb_2
  have B3 := set2_below B2 (show w.heap.size ≤ w.heap.size + 1 by first | exact Nat.le_refl _ | omega | (skip; omega)) (.int .u64 (x1 : Nat)) (.int .u64 (y1 : Nat))
  have Rb_3 : ((((wq.setCell ⟨w.heap.size, 0, none⟩ (.int .u64 (x2 : Nat))).setCell ⟨w.heap.size, 1, none⟩ (.int .u64 (y2 : Nat))).setCell ⟨w.heap.size + 1, 0, none⟩ (.int .u64 (x1 : Nat))).setCell ⟨w.heap.size + 1, 1, none⟩ (.int .u64 (y1 : Nat))).heap[w.heap.size + 1]? = some (Obj.cells #[.int .u64 (x1 : Nat), .int .u64 (y1 : Nat)] 26) := set2_row Rb_2 _ _
  have Ra_3 : ((((wq.setCell ⟨w.heap.size, 0, none⟩ (.int .u64 (x2 : Nat))).setCell ⟨w.heap.size, 1, none⟩ (.int .u64 (y2 : Nat))).setCell ⟨w.heap.size + 1, 0, none⟩ (.int .u64 (x1 : Nat))).setCell ⟨w.heap.size + 1, 1, none⟩ (.int .u64 (y1 : Nat))).heap[w.heap.size]? = some (Obj.cells #[.int .u64 (x2 : Nat), .int .u64 (y2 : Nat)] 26) := (setCell_other (by first | omega | (skip; omega))).trans ((setCell_other (by first | omega | (skip; omega))).trans Ra_2)
  have Rz_3 : ((((wq.setCell ⟨w.heap.size, 0, none⟩ (.int .u64 (x2 : Nat))).setCell ⟨w.heap.size, 1, none⟩ (.int .u64 (y2 : Nat))).setCell ⟨w.heap.size + 1, 0, none⟩ (.int .u64 (x1 : Nat))).setCell ⟨w.heap.size + 1, 1, none⟩ (.int .u64 (y1 : Nat))).heap[w.heap.size + 1 + 1]? = some (Obj.cells #[.int .u64 0, .int .u64 0] 26) := (setCell_other (by first | omega | (skip; omega))).trans ((setCell_other (by first | omega | (skip; omega))).trans Rz_2)
  obtain ⟨ca_3_0, ca_3_1⟩ := cells2s Ra_3
  obtain ⟨cb_3_0, cb_3_1⟩ := cells2s Rb_3
  go_wp2_with fail
  refine (KU1.out _ (fatB FF.out B3)).mono ?_
  rintro r w4 ⟨rfl, b4⟩
  have B4 : Below w.heap.size w w4 := btr B3 b4
  have Ra_4 := heap_of b4 _ _ _ Ra_3
  have Rb_4 := heap_of b4 _ _ _ Rb_3
  have Rz_4 := heap_of b4 _ _ _ Rz_3
  clear b4 B3 Ra_3 ca_3_0 ca_3_1 Rb_3 cb_3_0 cb_3_1 Rz_3
  obtain ⟨ca_4_0, ca_4_1⟩ := cells2s Ra_4
  obtain ⟨cb_4_0, cb_4_1⟩ := cells2s Rb_4
  have S5 := box B4.size
  have La_5 : Box (w.heap.size < w4.heap.size) := box (Array.getElem?_eq_some_iff.1 Ra_4).1
  have Lb_5 : Box (w.heap.size + 1 < w4.heap.size) := box (Array.getElem?_eq_some_iff.1 Rb_4).1
  have Lz_5 : Box (w.heap.size + 1 + 1 < w4.heap.size) := box (Array.getElem?_eq_some_iff.1 Rz_4).1
  have Rx_5 := heap_alloc_last w4 (Obj.cells (pt c1 m1 X1 r1) 54)
  have B5 := btr B4 (bal w4 (Obj.cells (pt c1 m1 X1 r1) 54))
  have Ra_5 := heap_of (bal w4 (Obj.cells (pt c1 m1 X1 r1) 54)) _ _ _ Ra_4
  have Rb_5 := heap_of (bal w4 (Obj.cells (pt c1 m1 X1 r1) 54)) _ _ _ Rb_4
  have Rz_5 := heap_of (bal w4 (Obj.cells (pt c1 m1 X1 r1) 54)) _ _ _ Rz_4
  clear B4 Ra_4 ca_4_0 ca_4_1 Rb_4 cb_4_0 cb_4_1 Rz_4
  obtain ⟨ca_5_0, ca_5_1⟩ := cells2s Ra_5
  obtain ⟨cb_5_0, cb_5_1⟩ := cells2s Rb_5
  have cx_5_0 := (pt_cells Rx_5).1
  go_wp2_with fail
  refine (KU2.out _ (fatB FF.out B5)).mono ?_
  rintro r w6 ⟨rfl, b6⟩
  have B6 : Below w.heap.size w w6 := btr B5 b6
  have Ra_6 := heap_of b6 _ _ _ Ra_5
  have Rb_6 := heap_of b6 _ _ _ Rb_5
  have Rz_6 := heap_of b6 _ _ _ Rz_5
  have Rx_6 := heap_of b6 _ _ _ Rx_5
  clear b6 B5 Ra_5 ca_5_0 ca_5_1 Rb_5 cb_5_0 cb_5_1 Rz_5 Rx_5 cx_5_0
  obtain ⟨ca_6_0, ca_6_1⟩ := cells2s Ra_6
  obtain ⟨cb_6_0, cb_6_1⟩ := cells2s Rb_6
  have cx_6_0 := (pt_cells Rx_6).1
  have S7 := box B6.size
  have La_7 : Box (w.heap.size < w6.heap.size) := box (Array.getElem?_eq_some_iff.1 Ra_6).1
  have Lb_7 : Box (w.heap.size + 1 < w6.heap.size) := box (Array.getElem?_eq_some_iff.1 Rb_6).1
  have Lz_7 : Box (w.heap.size + 1 + 1 < w6.heap.size) := box (Array.getElem?_eq_some_iff.1 Rz_6).1
  have Lx_7 : Box (w4.heap.size < w6.heap.size) := box (Array.getElem?_eq_some_iff.1 Rx_6).1
  have Ry_7 := heap_alloc_last w6 (Obj.cells (pt c2 m2 X2 r2) 54)
  have B7 := btr B6 (bal w6 (Obj.cells (pt c2 m2 X2 r2) 54))
  have Ra_7 := heap_of (bal w6 (Obj.cells (pt c2 m2 X2 r2) 54)) _ _ _ Ra_6
  have Rb_7 := heap_of (bal w6 (Obj.cells (pt c2 m2 X2 r2) 54)) _ _ _ Rb_6
  have Rz_7 := heap_of (bal w6 (Obj.cells (pt c2 m2 X2 r2) 54)) _ _ _ Rz_6
  have Rx_7 := heap_of (bal w6 (Obj.cells (pt c2 m2 X2 r2) 54)) _ _ _ Rx_6
  clear B6 Ra_6 ca_6_0 ca_6_1 Rb_6 cb_6_0 cb_6_1 Rz_6 Rx_6 cx_6_0
  obtain ⟨ca_7_0, ca_7_1⟩ := cells2s Ra_7
  obtain ⟨cb_7_0, cb_7_1⟩ := cells2s Rb_7
  have cx_7_0 := (pt_cells Rx_7).1
  have cy_7_0 := (pt_cells Ry_7).1
  rcases H.out with ⟨h18, KN, rfl⟩ | ⟨h18, h28, KN, rfl⟩ | ⟨h18, h28, h19, KN, rfl⟩ | ⟨h18, h28, h19, hd, KE1, KE2, KN, rfl⟩ | ⟨h18, h28, h19, hd, KE1, KE2, rfl, rfl, rfl⟩ | ⟨h18, h28, h19, KE1, KE2, rfl, rfl, rfl⟩ | ⟨h18, h28, h19, KE1, KT, KP⟩
  · clear H
    go_wp2_with fail
    refine (KN.out _ (fatB FF.out B7)).mono ?_
    rintro r w8 ⟨rfl, b8⟩
    have B8 : Below w.heap.size w w8 := btr B7 b8
    have Ra_8 := heap_of b8 _ _ _ Ra_7
    have Rb_8 := heap_of b8 _ _ _ Rb_7
    have Rz_8 := heap_of b8 _ _ _ Rz_7
    have Rx_8 := heap_of b8 _ _ _ Rx_7
    have Ry_8 := heap_of b8 _ _ _ Ry_7
    clear b8 B7 Ra_7 ca_7_0 ca_7_1 Rb_7 cb_7_0 cb_7_1 Rz_7 Rx_7 cx_7_0 Ry_7 cy_7_0
    obtain ⟨ca_8_0, ca_8_1⟩ := cells2s Ra_8
    obtain ⟨cb_8_0, cb_8_1⟩ := cells2s Rb_8
    have cx_8_0 := (pt_cells Rx_8).1
    have cy_8_0 := (pt_cells Ry_8).1
    obtain ⟨cz_8_0, cz_8_1⟩ := cells2s Rz_8
    have q0 := fz (k := 0) Rz_8
    have q1 := fz (k := 1) Rz_8
    obtain ⟨E0, E1⟩ := set2_cells Rz_8 (.int .u64 (u : Nat)) (.int .u64 (v : Nat))
    go_wp2
    exact bodyPost_ret (v := .tuple #[.agg #[.int .u64 (u : Nat), .int .u64 (v : Nat)], .int .u8 16, .int .i64 0]) (by simp [results, Tryz.results61, go_sem, E0, E1]) rfl ⟨rfl, set2_below B8 (by first | exact Nat.le_refl _ | omega | (have := S5.out; have := La_5.out; have := Lb_5.out; have := Lz_5.out; have := S7.out; have := La_7.out; have := Lb_7.out; have := Lz_7.out; have := Lx_7.out; omega)) _ _⟩
  · clear H
    go_wp2_with fail
    refine (KN.out _ (fatB FF.out B7)).mono ?_
    rintro r w8 ⟨rfl, b8⟩
    have B8 : Below w.heap.size w w8 := btr B7 b8
    have Ra_8 := heap_of b8 _ _ _ Ra_7
    have Rb_8 := heap_of b8 _ _ _ Rb_7
    have Rz_8 := heap_of b8 _ _ _ Rz_7
    have Rx_8 := heap_of b8 _ _ _ Rx_7
    have Ry_8 := heap_of b8 _ _ _ Ry_7
    clear b8 B7 Ra_7 ca_7_0 ca_7_1 Rb_7 cb_7_0 cb_7_1 Rz_7 Rx_7 cx_7_0 Ry_7 cy_7_0
    obtain ⟨ca_8_0, ca_8_1⟩ := cells2s Ra_8
    obtain ⟨cb_8_0, cb_8_1⟩ := cells2s Rb_8
    have cx_8_0 := (pt_cells Rx_8).1
    have cy_8_0 := (pt_cells Ry_8).1
    obtain ⟨cz_8_0, cz_8_1⟩ := cells2s Rz_8
    have q0 := fz (k := 0) Rz_8
    have q1 := fz (k := 1) Rz_8
    obtain ⟨E0, E1⟩ := set2_cells Rz_8 (.int .u64 (u : Nat)) (.int .u64 (v : Nat))
    go_wp2
    exact bodyPost_ret (v := .tuple #[.agg #[.int .u64 (u : Nat), .int .u64 (v : Nat)], .int .u8 16, .int .i64 0]) (by simp [results, Tryz.results61, go_sem, E0, E1]) rfl ⟨rfl, set2_below B8 (by first | exact Nat.le_refl _ | omega | (have := S5.out; have := La_5.out; have := Lb_5.out; have := Lz_5.out; have := S7.out; have := La_7.out; have := Lb_7.out; have := Lz_7.out; have := Lx_7.out; omega)) _ _⟩
  · clear H
    go_wp2_with fail
    refine (KN.out _ (fatB FF.out B7)).mono ?_
    rintro r w8 ⟨rfl, b8⟩
    have B8 : Below w.heap.size w w8 := btr B7 b8
    have Ra_8 := heap_of b8 _ _ _ Ra_7
    have Rb_8 := heap_of b8 _ _ _ Rb_7
    have Rz_8 := heap_of b8 _ _ _ Rz_7
    have Rx_8 := heap_of b8 _ _ _ Rx_7
    have Ry_8 := heap_of b8 _ _ _ Ry_7
    clear b8 B7 Ra_7 ca_7_0 ca_7_1 Rb_7 cb_7_0 cb_7_1 Rz_7 Rx_7 cx_7_0 Ry_7 cy_7_0
    obtain ⟨ca_8_0, ca_8_1⟩ := cells2s Ra_8
    obtain ⟨cb_8_0, cb_8_1⟩ := cells2s Rb_8
    have cx_8_0 := (pt_cells Rx_8).1
    have cy_8_0 := (pt_cells Ry_8).1
    obtain ⟨cz_8_0, cz_8_1⟩ := cells2s Rz_8
    have q0 := fz (k := 0) Rz_8
    have q1 := fz (k := 1) Rz_8
    obtain ⟨E0, E1⟩ := set2_cells Rz_8 (.int .u64 (u : Nat)) (.int .u64 (v : Nat))
    go_wp2
    exact bodyPost_ret (v := .tuple #[.agg #[.int .u64 (u : Nat), .int .u64 (v : Nat)], .int .u8 0, .int .i64 0]) (by simp [results, Tryz.results61, go_sem, E0, E1]) rfl ⟨rfl, set2_below B8 (by first | exact Nat.le_refl _ | omega | (have := S5.out; have := La_5.out; have := Lb_5.out; have := Lz_5.out; have := S7.out; have := La_7.out; have := Lb_7.out; have := Lz_7.out; have := Lx_7.out; omega)) _ _⟩
  · clear H
    go_wp2_with fail
    refine (KE1.out _).mono ?_
    rintro r w8 ⟨rfl, b8⟩
    have B8 : Below w.heap.size w w8 := btr B7 b8
    have Ra_8 := heap_of b8 _ _ _ Ra_7
    have Rb_8 := heap_of b8 _ _ _ Rb_7
    have Rz_8 := heap_of b8 _ _ _ Rz_7
    have Rx_8 := heap_of b8 _ _ _ Rx_7
    have Ry_8 := heap_of b8 _ _ _ Ry_7
    clear b8 B7 Ra_7 ca_7_0 ca_7_1 Rb_7 cb_7_0 cb_7_1 Rz_7 Rx_7 cx_7_0 Ry_7 cy_7_0
    obtain ⟨ca_8_0, ca_8_1⟩ := cells2s Ra_8
    obtain ⟨cb_8_0, cb_8_1⟩ := cells2s Rb_8
    have cx_8_0 := (pt_cells Rx_8).1
    have cy_8_0 := (pt_cells Ry_8).1
    go_wp2_with fail
    refine (KE2.out _).mono ?_
    rintro r w9 ⟨rfl, b9⟩
    have B9 : Below w.heap.size w w9 := btr B8 b9
    have Ra_9 := heap_of b9 _ _ _ Ra_8
    have Rb_9 := heap_of b9 _ _ _ Rb_8
    have Rz_9 := heap_of b9 _ _ _ Rz_8
    have Rx_9 := heap_of b9 _ _ _ Rx_8
    have Ry_9 := heap_of b9 _ _ _ Ry_8
    clear b9 B8 Ra_8 ca_8_0 ca_8_1 Rb_8 cb_8_0 cb_8_1 Rz_8 Rx_8 cx_8_0 Ry_8 cy_8_0
    obtain ⟨ca_9_0, ca_9_1⟩ := cells2s Ra_9
    obtain ⟨cb_9_0, cb_9_1⟩ := cells2s Rb_9
    have cx_9_0 := (pt_cells Rx_9).1
    have cy_9_0 := (pt_cells Ry_9).1
    go_wp2_with fail
    refine (KN.out _ (fatB FF.out B9)).mono ?_
    rintro r w10 ⟨rfl, b10⟩
    have B10 : Below w.heap.size w w10 := btr B9 b10
    have Ra_10 := heap_of b10 _ _ _ Ra_9
    have Rb_10 := heap_of b10 _ _ _ Rb_9
    have Rz_10 := heap_of b10 _ _ _ Rz_9
    have Rx_10 := heap_of b10 _ _ _ Rx_9
    have Ry_10 := heap_of b10 _ _ _ Ry_9
    clear b10 B9 Ra_9 ca_9_0 ca_9_1 Rb_9 cb_9_0 cb_9_1 Rz_9 Rx_9 cx_9_0 Ry_9 cy_9_0
    obtain ⟨ca_10_0, ca_10_1⟩ := cells2s Ra_10
    obtain ⟨cb_10_0, cb_10_1⟩ := cells2s Rb_10
    have cx_10_0 := (pt_cells Rx_10).1
    have cy_10_0 := (pt_cells Ry_10).1
    obtain ⟨cz_10_0, cz_10_1⟩ := cells2s Rz_10
    have q0 := fz (k := 0) Rz_10
    have q1 := fz (k := 1) Rz_10
    obtain ⟨E0, E1⟩ := set2_cells Rz_10 (.int .u64 (u : Nat)) (.int .u64 (v : Nat))
    go_wp2
    exact bodyPost_ret (v := .tuple #[.agg #[.int .u64 (u : Nat), .int .u64 (v : Nat)], .int .u8 16, .int .i64 0]) (by simp [results, Tryz.results61, go_sem, E0, E1]) rfl ⟨rfl, set2_below B10 (by first | exact Nat.le_refl _ | omega | (have := S5.out; have := La_5.out; have := Lb_5.out; have := Lz_5.out; have := S7.out; have := La_7.out; have := Lb_7.out; have := Lz_7.out; have := Lx_7.out; omega)) _ _⟩
  · clear H
    go_wp2_with fail
    refine (KE1.out _).mono ?_
    rintro r w8 ⟨rfl, b8⟩
    have B8 : Below w.heap.size w w8 := btr B7 b8
    have Ra_8 := heap_of b8 _ _ _ Ra_7
    have Rb_8 := heap_of b8 _ _ _ Rb_7
    have Rz_8 := heap_of b8 _ _ _ Rz_7
    have Rx_8 := heap_of b8 _ _ _ Rx_7
    have Ry_8 := heap_of b8 _ _ _ Ry_7
    clear b8 B7 Ra_7 ca_7_0 ca_7_1 Rb_7 cb_7_0 cb_7_1 Rz_7 Rx_7 cx_7_0 Ry_7 cy_7_0
    obtain ⟨ca_8_0, ca_8_1⟩ := cells2s Ra_8
    obtain ⟨cb_8_0, cb_8_1⟩ := cells2s Rb_8
    have cx_8_0 := (pt_cells Rx_8).1
    have cy_8_0 := (pt_cells Ry_8).1
    go_wp2_with fail
    refine (KE2.out _).mono ?_
    rintro r w9 ⟨rfl, b9⟩
    have B9 : Below w.heap.size w w9 := btr B8 b9
    have Ra_9 := heap_of b9 _ _ _ Ra_8
    have Rb_9 := heap_of b9 _ _ _ Rb_8
    have Rz_9 := heap_of b9 _ _ _ Rz_8
    have Rx_9 := heap_of b9 _ _ _ Rx_8
    have Ry_9 := heap_of b9 _ _ _ Ry_8
    clear b9 B8 Ra_8 ca_8_0 ca_8_1 Rb_8 cb_8_0 cb_8_1 Rz_8 Rx_8 cx_8_0 Ry_8 cy_8_0
    obtain ⟨ca_9_0, ca_9_1⟩ := cells2s Ra_9
    obtain ⟨cb_9_0, cb_9_1⟩ := cells2s Rb_9
    have cx_9_0 := (pt_cells Rx_9).1
    have cy_9_0 := (pt_cells Ry_9).1
    go_wp2_with fail
    refine (KE1.out _).mono ?_
    rintro r w10 ⟨rfl, b10⟩
    have B10 : Below w.heap.size w w10 := btr B9 b10
    have Ra_10 := heap_of b10 _ _ _ Ra_9
    have Rb_10 := heap_of b10 _ _ _ Rb_9
    have Rz_10 := heap_of b10 _ _ _ Rz_9
    have Rx_10 := heap_of b10 _ _ _ Rx_9
    have Ry_10 := heap_of b10 _ _ _ Ry_9
    clear b10 B9 Ra_9 ca_9_0 ca_9_1 Rb_9 cb_9_0 cb_9_1 Rz_9 Rx_9 cx_9_0 Ry_9 cy_9_0
    obtain ⟨ca_10_0, ca_10_1⟩ := cells2s Ra_10
    obtain ⟨cb_10_0, cb_10_1⟩ := cells2s Rb_10
    have cx_10_0 := (pt_cells Rx_10).1
    have cy_10_0 := (pt_cells Ry_10).1
    obtain ⟨cz_10_0, cz_10_1⟩ := cells2s Rz_10
    have q0 := fz (k := 0) Rz_10
    have q1 := fz (k := 1) Rz_10
    obtain ⟨E0, E1⟩ := set2_cells Rz_10 (.int .u64 (x2 : Nat)) (.int .u64 (y2 : Nat))
    go_wp2
    exact bodyPost_ret (v := .tuple #[.agg #[.int .u64 (x2 : Nat), .int .u64 (y2 : Nat)], .int .u8 0, .int .i64 0]) (by simp [results, Tryz.results61, go_sem, E0, E1]) rfl ⟨rfl, set2_below B10 (by first | exact Nat.le_refl _ | omega | (have := S5.out; have := La_5.out; have := Lb_5.out; have := Lz_5.out; have := S7.out; have := La_7.out; have := Lb_7.out; have := Lz_7.out; have := Lx_7.out; omega)) _ _⟩
  · clear H
    go_wp2_with fail
    refine (KE1.out _).mono ?_
    rintro r w8 ⟨rfl, b8⟩
    have B8 : Below w.heap.size w w8 := btr B7 b8
    have Ra_8 := heap_of b8 _ _ _ Ra_7
    have Rb_8 := heap_of b8 _ _ _ Rb_7
    have Rz_8 := heap_of b8 _ _ _ Rz_7
    have Rx_8 := heap_of b8 _ _ _ Rx_7
    have Ry_8 := heap_of b8 _ _ _ Ry_7
    clear b8 B7 Ra_7 ca_7_0 ca_7_1 Rb_7 cb_7_0 cb_7_1 Rz_7 Rx_7 cx_7_0 Ry_7 cy_7_0
    obtain ⟨ca_8_0, ca_8_1⟩ := cells2s Ra_8
    obtain ⟨cb_8_0, cb_8_1⟩ := cells2s Rb_8
    have cx_8_0 := (pt_cells Rx_8).1
    have cy_8_0 := (pt_cells Ry_8).1
    go_wp2_with fail
    refine (KE2.out _).mono ?_
    rintro r w9 ⟨rfl, b9⟩
    have B9 : Below w.heap.size w w9 := btr B8 b9
    have Ra_9 := heap_of b9 _ _ _ Ra_8
    have Rb_9 := heap_of b9 _ _ _ Rb_8
    have Rz_9 := heap_of b9 _ _ _ Rz_8
    have Rx_9 := heap_of b9 _ _ _ Rx_8
    have Ry_9 := heap_of b9 _ _ _ Ry_8
    clear b9 B8 Ra_8 ca_8_0 ca_8_1 Rb_8 cb_8_0 cb_8_1 Rz_8 Rx_8 cx_8_0 Ry_8 cy_8_0
    obtain ⟨ca_9_0, ca_9_1⟩ := cells2s Ra_9
    obtain ⟨cb_9_0, cb_9_1⟩ := cells2s Rb_9
    have cx_9_0 := (pt_cells Rx_9).1
    have cy_9_0 := (pt_cells Ry_9).1
    go_wp2_with fail
    refine (KE1.out _).mono ?_
    rintro r w10 ⟨rfl, b10⟩
    have B10 : Below w.heap.size w w10 := btr B9 b10
    have Ra_10 := heap_of b10 _ _ _ Ra_9
    have Rb_10 := heap_of b10 _ _ _ Rb_9
    have Rz_10 := heap_of b10 _ _ _ Rz_9
    have Rx_10 := heap_of b10 _ _ _ Rx_9
    have Ry_10 := heap_of b10 _ _ _ Ry_9
    clear b10 B9 Ra_9 ca_9_0 ca_9_1 Rb_9 cb_9_0 cb_9_1 Rz_9 Rx_9 cx_9_0 Ry_9 cy_9_0
    obtain ⟨ca_10_0, ca_10_1⟩ := cells2s Ra_10
    obtain ⟨cb_10_0, cb_10_1⟩ := cells2s Rb_10
    have cx_10_0 := (pt_cells Rx_10).1
    have cy_10_0 := (pt_cells Ry_10).1
    obtain ⟨cz_10_0, cz_10_1⟩ := cells2s Rz_10
    have q0 := fz (k := 0) Rz_10
    have q1 := fz (k := 1) Rz_10
    obtain ⟨E0, E1⟩ := set2_cells Rz_10 (.int .u64 (x2 : Nat)) (.int .u64 (y2 : Nat))
    go_wp2
    exact bodyPost_ret (v := .tuple #[.agg #[.int .u64 (x2 : Nat), .int .u64 (y2 : Nat)], .int .u8 0, .int .i64 0]) (by simp [results, Tryz.results61, go_sem, E0, E1]) rfl ⟨rfl, set2_below B10 (by first | exact Nat.le_refl _ | omega | (have := S5.out; have := La_5.out; have := Lb_5.out; have := Lz_5.out; have := S7.out; have := La_7.out; have := Lb_7.out; have := Lz_7.out; have := Lx_7.out; omega)) _ _⟩
  · clear H
    go_wp2_with fail
    refine (KE1.out _).mono ?_
    rintro r w8 ⟨rfl, b8⟩
    have B8 : Below w.heap.size w w8 := btr B7 b8
    have Ra_8 := heap_of b8 _ _ _ Ra_7
    have Rb_8 := heap_of b8 _ _ _ Rb_7
    have Rz_8 := heap_of b8 _ _ _ Rz_7
    have Rx_8 := heap_of b8 _ _ _ Rx_7
    have Ry_8 := heap_of b8 _ _ _ Ry_7
    clear b8 B7 Ra_7 ca_7_0 ca_7_1 Rb_7 cb_7_0 cb_7_1 Rz_7 Rx_7 cx_7_0 Ry_7 cy_7_0
    obtain ⟨ca_8_0, ca_8_1⟩ := cells2s Ra_8
    obtain ⟨cb_8_0, cb_8_1⟩ := cells2s Rb_8
    have cx_8_0 := (pt_cells Rx_8).1
    have cy_8_0 := (pt_cells Ry_8).1
    go_wp2_with fail
    refine (KE1.out _).mono ?_
    rintro r w9 ⟨rfl, b9⟩
    have B9 : Below w.heap.size w w9 := btr B8 b9
    have Ra_9 := heap_of b9 _ _ _ Ra_8
    have Rb_9 := heap_of b9 _ _ _ Rb_8
    have Rz_9 := heap_of b9 _ _ _ Rz_8
    have Rx_9 := heap_of b9 _ _ _ Rx_8
    have Ry_9 := heap_of b9 _ _ _ Ry_8
    clear b9 B8 Ra_8 ca_8_0 ca_8_1 Rb_8 cb_8_0 cb_8_1 Rz_8 Rx_8 cx_8_0 Ry_8 cy_8_0
    obtain ⟨ca_9_0, ca_9_1⟩ := cells2s Ra_9
    obtain ⟨cb_9_0, cb_9_1⟩ := cells2s Rb_9
    have cx_9_0 := (pt_cells Rx_9).1
    have cy_9_0 := (pt_cells Ry_9).1
    clear ca_9_0 ca_9_1
    clear cb_9_0 cb_9_1
    obtain ⟨cx_9_0, cx_9_1, cx_9_2, cx_9_3, cx_9_4, cx_9_5, cx_9_6, cx_9_7, cx_9_8, cx_9_9, cx_9_10, cx_9_11, cx_9_12, cx_9_13⟩ := pt_cells Rx_9
    obtain ⟨cy_9_0, cy_9_1, cy_9_2, cy_9_3, cy_9_4, cy_9_5, cy_9_6, cy_9_7, cy_9_8, cy_9_9, cy_9_10, cy_9_11, cy_9_12, cy_9_13⟩ := pt_cells Ry_9
    go_wp2_with fail
    refine (KT.out _).mono ?_
    rintro r w10 ⟨rfl, b10⟩
    have B10 : Below w.heap.size w w10 := btr B9 b10
    have Ra_10 := heap_of b10 _ _ _ Ra_9
    have Rb_10 := heap_of b10 _ _ _ Rb_9
    have Rz_10 := heap_of b10 _ _ _ Rz_9
    have Rx_10 := heap_of b10 _ _ _ Rx_9
    have Ry_10 := heap_of b10 _ _ _ Ry_9
    clear b10 B9 Ra_9 Rb_9 Rz_9 Rx_9 cx_9_0 cx_9_1 cx_9_2 cx_9_3 cx_9_4 cx_9_5 cx_9_6 cx_9_7 cx_9_8 cx_9_9 cx_9_10 cx_9_11 cx_9_12 cx_9_13 Ry_9 cy_9_0 cy_9_1 cy_9_2 cy_9_3 cy_9_4 cy_9_5 cy_9_6 cy_9_7 cy_9_8 cy_9_9 cy_9_10 cy_9_11 cy_9_12 cy_9_13
    obtain ⟨cx_10_0, cx_10_1, cx_10_2, cx_10_3, cx_10_4, cx_10_5, cx_10_6, cx_10_7, cx_10_8, cx_10_9, cx_10_10, cx_10_11, cx_10_12, cx_10_13⟩ := pt_cells Rx_10
    obtain ⟨cy_10_0, cy_10_1, cy_10_2, cy_10_3, cy_10_4, cy_10_5, cy_10_6, cy_10_7, cy_10_8, cy_10_9, cy_10_10, cy_10_11, cy_10_12, cy_10_13⟩ := pt_cells Ry_10
    clear cx_10_0 cx_10_1 cx_10_2 cx_10_3 cx_10_4 cx_10_5 cx_10_6 cx_10_7 cx_10_8 cx_10_9 cx_10_10 cx_10_11 cx_10_12 cx_10_13
    clear cy_10_0 cy_10_1 cy_10_2 cy_10_3 cy_10_4 cy_10_5 cy_10_6 cy_10_7 cy_10_8 cy_10_9 cy_10_10 cy_10_11 cy_10_12 cy_10_13
    go_wp2_with fail
    refine (KP.out _ (fatB FF.out B10)).mono ?_
    rintro r w11 ⟨rfl, b11⟩
    have B11 : Below w.heap.size w w11 := btr B10 b11
    have Ra_11 := heap_of b11 _ _ _ Ra_10
    have Rb_11 := heap_of b11 _ _ _ Rb_10
    have Rz_11 := heap_of b11 _ _ _ Rz_10
    have Rx_11 := heap_of b11 _ _ _ Rx_10
    have Ry_11 := heap_of b11 _ _ _ Ry_10
    clear b11 B10 Ra_10 Rb_10 Rz_10 Rx_10 Ry_10
    obtain ⟨cz_11_0, cz_11_1⟩ := cells2s Rz_11
    have q0 := fz (k := 0) Rz_11
    have q1 := fz (k := 1) Rz_11
    obtain ⟨E0, E1⟩ := set2_cells Rz_11 (.int .u64 (u : Nat)) (.int .u64 (v : Nat))
    go_wp2
    exact bodyPost_ret (v := .tuple #[.agg #[.int .u64 (u : Nat), .int .u64 (v : Nat)], .int .u8 fl, .int .i64 0]) (by simp [results, Tryz.results61, go_sem, E0, E1]) rfl ⟨rfl, set2_below B11 (by first | exact Nat.le_refl _ | omega | (have := S5.out; have := La_5.out; have := Lb_5.out; have := Lz_5.out; have := S7.out; have := La_7.out; have := Lb_7.out; have := Lz_7.out; have := Lx_7.out; omega)) _ _⟩
end Go.Proofs.YtapikkbifdldfaaGreatDoor
namespace Go.Proofs.YtapikkbifdldfaaGreatDoor
set_option maxRecDepth 100000
set_option maxHeartbeats 40000000
set_option maxRecDepth 100000
open Go.RowKit WMath XMath
set_option linter.unusedSimpArgs false
set_option linter.unusedVariables false
def kM (f : Int) (n : Nat) : Nat := kE f n * 2 ^ pV f + kT f n
theorem kC_all (f : Int) (n : Nat) : (kE f n = oV f ∧ kT f n = 0 ∧ kC f n = if kN f n then 0 else 7) ∨ (kE f n = oV f ∧ kT f n ≠ 0 ∧ kT f n < 2 ^ (pV f - 1) ∧ kC f n = 8) ∨ (kE f n = oV f ∧ 2 ^ (pV f - 1) ≤ kT f n ∧ kC f n = 9) ∨
    (kE f n < oV f ∧ kE f n ≠ 0 ∧ kC f n = if kN f n then 1 else 6) ∨ (kE f n < oV f ∧ kE f n = 0 ∧ kT f n ≠ 0 ∧ kC f n = if kN f n then 2 else 5) ∨ (kE f n < oV f ∧ kE f n = 0 ∧ kT f n = 0 ∧ kC f n = if kN f n then 3 else 4) := by
  have el := kE_le (f := f) n
  have p := Nat.two_pow_pos (pV f - 1)
  unfold kC
  by_cases c1 : kE f n = oV f
  · by_cases c2 : kT f n = 0
    · left
      refine ⟨c1, c2, ?_⟩
      (repeat' split) <;> first | rfl | omega | simp_all
    · by_cases c3 : kT f n < 2 ^ (pV f - 1)
      · right; left
        refine ⟨c1, c2, c3, ?_⟩
        (repeat' split) <;> first | rfl | omega | simp_all
      · right; right; left
        refine ⟨c1, by omega, ?_⟩
        (repeat' split) <;> first | rfl | omega | simp_all
  · by_cases c2 : kE f n = 0
    · by_cases c3 : kT f n = 0
      · right; right; right; right; right
        refine ⟨by omega, c2, c3, ?_⟩
        (repeat' split) <;> first | rfl | omega | simp_all
      · right; right; right; right; left
        refine ⟨by omega, c2, c3, ?_⟩
        (repeat' split) <;> first | rfl | omega | simp_all
    · right; right; right; left
      refine ⟨by omega, c2, ?_⟩
      (repeat' split) <;> first | rfl | omega | simp_all
theorem kM_ord {f : Int} {g l : Nat} (h : kM f l ≤ kM f g) : kE f l ≤ kE f g ∧ (kE f l = kE f g → kT f l ≤ kT f g) := by
  have t1 := kT_lt (f := f) g
  have t2 := kT_lt (f := f) l
  unfold kM at h
  refine ⟨?_, fun e => by rw [e] at h; omega⟩
  rcases Nat.lt_or_ge (kE f g) (kE f l) with c | c
  · exfalso
    have := Nat.mul_le_mul_right (2 ^ pV f) (show kE f g + 1 ≤ kE f l by omega)
    rw [Nat.add_mul, Nat.one_mul] at this
    omega
  · exact c
theorem kM_class {f : Int} {g l : Nat} (h : kM f l ≤ kM f g) : (kC f l = 9 → kC f g = 9) ∧ (kC f l = 0 ∨ kC f l = 7 → kC f g = 0 ∨ kC f g = 7 ∨ kC f g = 8 ∨ kC f g = 9) ∧ (kC f l = 8 → kC f g = 8 ∨ kC f g = 9) := by
  obtain ⟨o1, o2⟩ := kM_ord h
  have pp := Nat.two_pow_pos (pV f - 1)
  have eg := kE_le (f := f) g
  have cl := kC_all f l
  have cg := kC_all f g
  have sl : (if kN f l then (0 : Nat) else 7) = 0 ∨ (if kN f l then (0 : Nat) else 7) = 7 := by cases kN f l <;> simp
  have sg : (if kN f g then (0 : Nat) else 7) = 0 ∨ (if kN f g then (0 : Nat) else 7) = 7 := by cases kN f g <;> simp
  have s2 : (if kN f l then (1 : Nat) else 6) = 1 ∨ (if kN f l then (1 : Nat) else 6) = 6 := by cases kN f l <;> simp
  have s3 : (if kN f l then (2 : Nat) else 5) = 2 ∨ (if kN f l then (2 : Nat) else 5) = 5 := by cases kN f l <;> simp
  have s4 : (if kN f l then (3 : Nat) else 4) = 3 ∨ (if kN f l then (3 : Nat) else 4) = 4 := by cases kN f l <;> simp
  have s5 : (if kN f g then (1 : Nat) else 6) = 1 ∨ (if kN f g then (1 : Nat) else 6) = 6 := by cases kN f g <;> simp
  have s6 : (if kN f g then (2 : Nat) else 5) = 2 ∨ (if kN f g then (2 : Nat) else 5) = 5 := by cases kN f g <;> simp
  have s7 : (if kN f g then (3 : Nat) else 4) = 3 ∨ (if kN f g then (3 : Nat) else 4) = 4 := by cases kN f g <;> simp
  generalize (if kN f l then (0 : Nat) else 7) = a1 at *
  generalize (if kN f g then (0 : Nat) else 7) = a2 at *
  generalize (if kN f l then (1 : Nat) else 6) = a3 at *
  generalize (if kN f l then (2 : Nat) else 5) = a4 at *
  generalize (if kN f l then (3 : Nat) else 4) = a5 at *
  generalize (if kN f g then (1 : Nat) else 6) = a6 at *
  generalize (if kN f g then (2 : Nat) else 5) = a7 at *
  generalize (if kN f g then (3 : Nat) else 4) = a8 at *
  refine ⟨fun q => ?_, fun q => ?_, fun q => ?_⟩ <;> omega
theorem kC_sign {f : Int} (n : Nat) (h : 0 < kC f n ∧ kC f n < 7) : decide (kC f n ≤ 3) = kN f n := by
  have c := kC_all f n
  cases hn : kN f n
  · rw [hn] at c
    rw [decide_eq_false_iff_not]
    simp only [Bool.false_eq_true, if_false] at c
    omega
  · rw [hn] at c
    rw [decide_eq_true_iff]
    simp only [if_true] at c
    omega
theorem kM_dist {f : Int} (hf : Is4 f) {g l : Nat} (h : kM f l ≤ kM f g) (hg : kC f g = 1 ∨ kC f g = 2 ∨ kC f g = 5 ∨ kC f g = 6) (hl : kC f l = 1 ∨ kC f l = 2 ∨ kC f l = 5 ∨ kC f l = 6) :
    ∃ n : Nat, kX f g = kX f l + (n : Int) ∧ kS f l ≤ kS f g * 2 ^ n ∧ (8 * kS f l % 2 ^ n ≠ 0 → 2 ^ pV f ≤ kS f g) ∧ kS f l < 2 * 2 ^ pV f := by
  obtain ⟨o1, o2⟩ := kM_ord h
  obtain ⟨g1, g2, g3, g4⟩ := k_parts (f := f) g hg
  obtain ⟨l1, l2, l3, l4⟩ := k_parts (f := f) l hl
  have t1 := kT_lt (f := f) g
  have t2 := kT_lt (f := f) l
  rw [g2, g3, l2, l3]
  unfold sV xV
  generalize lx f = x
  generalize 2 ^ pV f = p at *
  generalize kE f g = eg at *
  generalize kE f l = el at *
  generalize kT f g = tg at *
  generalize kT f l = tl at *
  by_cases c0 : eg = 0
  · have c1 : el = 0 := by omega
    rw [if_pos c0, if_pos c0, if_pos c1, if_pos c1]
    exact ⟨0, by omega, by rw [Nat.pow_zero, Nat.mul_one]; exact o2 (by omega), fun q => absurd (by rw [Nat.pow_zero]; exact Nat.mod_one _) q, by omega⟩
  · rw [if_neg c0, if_neg c0]
    have big : ∀ n : Nat, 1 ≤ n → ∀ y, y < 2 * p → y ≤ (p + tg) * 2 ^ n := fun n hn y hy => by
      have : 2 ^ 1 ≤ 2 ^ n := Nat.pow_le_pow_right (by decide) hn
      have := Nat.mul_le_mul_left (p + tg) this
      omega
    by_cases c1 : el = 0
    · rw [if_pos c1, if_pos c1]
      refine ⟨eg - 1, by omega, ?_, fun _ => by omega, by omega⟩
      by_cases c2 : eg = 1
      · rw [c2, Nat.sub_self, Nat.pow_zero, Nat.mul_one]
        omega
      · exact big (eg - 1) (by omega) tl (by omega)
    · rw [if_neg c1, if_neg c1]
      refine ⟨eg - el, by omega, ?_, fun _ => by omega, by omega⟩
      by_cases c2 : el = eg
      · have := o2 c2
        rw [c2, Nat.sub_self, Nat.pow_zero, Nat.mul_one]
        omega
      · exact big (eg - el) (by omega) (p + tl) (by omega)
def adS (f : Int) (g l : Nat) : Nat := if kN f g = kN f l then 8 * kS f g + jr (8 * kS f l) (kX f g - kX f l).toNat else 8 * kS f g - jr (8 * kS f l) (kX f g - kX f l).toNat
def addG (f m : Int) (g l : Nat) : Nat × Int :=
  if kC f g = 8 ∨ kC f l = 8 then (eNaN f, 16)
  else if kC f g = 9 then (eNaN f, 0)
  else if kC f g = 0 ∨ kC f g = 7 then (if (kC f l = 0 ∨ kC f l = 7) ∧ kC f g ≠ kC f l then (eNaN f, 16) else (g, 0))
  else if adS f g l = 0 then (eZero f (if kN f g = kN f l then kN f g else decide (m = 2)), 0)
  else dlv f m (kN f g) (kX f g - 3 + (blen (adS f g l) : Int) - 1) (qW (pV f + 1) (adS f g l)) (qM (pV f + 1) (adS f g l) false)
def addR (f m : Int) (a b : Nat) : Nat × Int := if kM f a < kM f b then addG f m b a else addG f m a b
theorem jr_zero (n : Nat) : jr 0 n = 0 := by rw [jr_even 0 n (Nat.zero_mod _), Nat.zero_div]
end Go.Proofs.YtapikkbifdldfaaGreatDoor
