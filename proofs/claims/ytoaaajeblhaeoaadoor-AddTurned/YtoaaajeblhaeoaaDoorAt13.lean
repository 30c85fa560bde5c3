/-
  What the functions that the statement reaches return: part 13 (A2).
-/
import Derived.Test.YtoaaajeblhaeoaaDoorAt12
namespace Go.Proofs.YtoaaajeblhaeoaaDoor
set_option maxRecDepth 100000
set_option maxHeartbeats 40000000
set_option maxRecDepth 100000
open Go.RowKit WMath
set_option linter.unusedSimpArgs false
set_option linter.unusedVariables false
theorem ad_plus_nsx (f m : Int) (x1 y1 x2 y2 u v na nb : Nat) (c : Int) (c1 m1 : Nat) (X1 : Int) (r1 c2 m2 : Nat) (X2 : Int) (r2 : Nat) (tn : Bool) (ts : Nat) (tx fl : Int) (w : World) (hc : decide (c < 0) = false) (h18 : ((c1 : Int) == 8) = true)
    (KMa : Box (∀ w, FAt w → Calls Tryd.prog 26 #[.int .u8 f, .agg #[.int .u64 x1, .int .u64 y1]] w fun r w' => r = .returned (.agg (cw 6 na)) ∧ Below w.heap.size w w'))
    (KMb : Box (∀ w, FAt w → Calls Tryd.prog 26 #[.int .u8 f, .agg #[.int .u64 x2, .int .u64 y2]] w fun r w' => r = .returned (.agg (cw 6 nb)) ∧ Below w.heap.size w w'))
    (KC : Box (∀ w, Calls Tryd.prog 25 #[.agg (cw 6 na), .agg (cw 6 nb)] w fun r w' => r = .returned (.int .i64 c) ∧ Below w.heap.size w w'))
    (KU1 : Box (∀ w, FAt w → Calls Tryd.prog 27 #[.int .u8 f, .agg #[.int .u64 x1, .int .u64 y1]] w fun r w' => r = .returned (.tuple #[.agg (pt c1 m1 X1 r1), .int .i64 0]) ∧ Below w.heap.size w w'))
    (KU2 : Box (∀ w, FAt w → Calls Tryd.prog 27 #[.int .u8 f, .agg #[.int .u64 x2, .int .u64 y2]] w fun r w' => r = .returned (.tuple #[.agg (pt c2 m2 X2 r2), .int .i64 0]) ∧ Below w.heap.size w w'))
    (KN : Box (∀ w, FAt w → Calls Tryd.prog 28 #[.int .u8 f] w fun r w' => r = .returned (.agg #[.int .u64 u, .int .u64 v]) ∧ Below w.heap.size w w'))
    (hT : FAt w) : Calls Tryd.prog 16 #[.int .u8 f, .int .u8 m, .agg #[.int .u64 x1, .int .u64 y1], .agg #[.int .u64 x2, .int .u64 y2]] w fun r w' => r = .returned (.tuple #[.agg #[.int .u64 u, .int .u64 v], .int .u8 16, .int .i64 0]) ∧ Below w.heap.size w w' := by
  have FF := box hT
  clear hT
  have hat := cw_at 6
  have hz := cw6z
  have hff := cw6f
  have hs0 := st0
  have hcs : ∀ x, ((cw 6 x).size = 6) = True := fun x => eq_true (cw_size 6 x)
  have hp1 := rgf
  have hp5 : ∀ (c : Bool) (s : Nat) (x : Int) (r : Bool), ((rg c s x r).size = 9) = True := fun _ _ _ _ => eq_true rfl
  have Ba := ptf
  have Bb := ptz
  have Bc := st_p0
  have Bd : ∀ (c s : Nat) (x : Int) (r : Nat), ((pt c s x r).size = 14) = True := fun _ _ _ _ => eq_true rfl
  obtain ⟨Ag, Ah, At, B0⟩ := opn3 w (Obj.cells #[.int .u64 x1, .int .u64 y1] 26) (Obj.cells #[.int .u64 x2, .int .u64 y2] 26) (Obj.cells #[.int .u64 0, .int .u64 0] 26)
  go_enter Tryd.func16, Tryd.ntmps16
  obtain ⟨Ax, Ay⟩ := cells2s Ag
  obtain ⟨Az, AA⟩ := cells2s Ah
  have sS : Box (∀ W W1 : World, (Below w.heap.size w W ∧ W.heap[w.heap.size]? = some (.cells #[.int .u64 x1, .int .u64 y1] 26) ∧ W.heap[w.heap.size + 1]? = some (.cells #[.int .u64 x2, .int .u64 y2] 26) ∧ W.heap[w.heap.size + 1 + 1]? = some (.cells #[.int .u64 0, .int .u64 0] 26)) → Below W.heap.size W W1 → (Below w.heap.size w W1 ∧ W1.heap[w.heap.size]? = some (.cells #[.int .u64 x1, .int .u64 y1] 26) ∧ W1.heap[w.heap.size + 1]? = some (.cells #[.int .u64 x2, .int .u64 y2] 26) ∧ W1.heap[w.heap.size + 1 + 1]? = some (.cells #[.int .u64 0, .int .u64 0] 26))) := box (fun W W1 h b => ⟨btr h.1 b, heap_of b _ _ _ h.2.1, heap_of b _ _ _ h.2.2.1, heap_of b _ _ _ h.2.2.2⟩)
  have sC : Box (∀ W : World, (Below w.heap.size w W ∧ W.heap[w.heap.size]? = some (.cells #[.int .u64 x1, .int .u64 y1] 26) ∧ W.heap[w.heap.size + 1]? = some (.cells #[.int .u64 x2, .int .u64 y2] 26) ∧ W.heap[w.heap.size + 1 + 1]? = some (.cells #[.int .u64 0, .int .u64 0] 26)) → (Below w.heap.size w W ∧ W.heap[w.heap.size]? = some (.cells #[.int .u64 x1, .int .u64 y1] 26) ∧ W.heap[w.heap.size + 1]? = some (.cells #[.int .u64 x2, .int .u64 y2] 26) ∧ W.heap[w.heap.size + 1 + 1]? = some (.cells #[.int .u64 0, .int .u64 0] 26) ∧ W.cell? ⟨w.heap.size, 0, none⟩ = some (.int .u64 x1) ∧ W.cell? ⟨w.heap.size, 1, none⟩ = some (.int .u64 y1) ∧ W.cell? ⟨w.heap.size + 1, 0, none⟩ = some (.int .u64 x2) ∧ W.cell? ⟨w.heap.size + 1, 1, none⟩ = some (.int .u64 y2) ∧ W.cell? ⟨w.heap.size + 1 + 1, 0, none⟩ = some (.int .u64 0) ∧ W.cell? ⟨w.heap.size + 1 + 1, 1, none⟩ = some (.int .u64 0))) := box (fun W h => ⟨h.1, h.2.1, h.2.2.1, h.2.2.2, cell7 (h.2.1) 0 _ rfl, cell7 (h.2.1) 1 _ rfl, cell7 (h.2.2.1) 0 _ rfl, cell7 (h.2.2.1) 1 _ rfl, cell7 (h.2.2.2) 0 _ rfl, cell7 (h.2.2.2) 1 _ rfl⟩)
  have s0 : Below w.heap.size w ((((w.alloc (Obj.cells #[.int .u64 x1, .int .u64 y1] 26)).alloc (Obj.cells #[.int .u64 x2, .int .u64 y2] 26)).alloc (Obj.cells #[.int .u64 0, .int .u64 0] 26))).drew ∧ ((((w.alloc (Obj.cells #[.int .u64 x1, .int .u64 y1] 26)).alloc (Obj.cells #[.int .u64 x2, .int .u64 y2] 26)).alloc (Obj.cells #[.int .u64 0, .int .u64 0] 26))).drew.heap[w.heap.size]? = some (.cells #[.int .u64 x1, .int .u64 y1] 26) ∧ ((((w.alloc (Obj.cells #[.int .u64 x1, .int .u64 y1] 26)).alloc (Obj.cells #[.int .u64 x2, .int .u64 y2] 26)).alloc (Obj.cells #[.int .u64 0, .int .u64 0] 26))).drew.heap[w.heap.size + 1]? = some (.cells #[.int .u64 x2, .int .u64 y2] 26) ∧ ((((w.alloc (Obj.cells #[.int .u64 x1, .int .u64 y1] 26)).alloc (Obj.cells #[.int .u64 x2, .int .u64 y2] 26)).alloc (Obj.cells #[.int .u64 0, .int .u64 0] 26))).drew.heap[w.heap.size + 1 + 1]? = some (.cells #[.int .u64 0, .int .u64 0] 26) := ⟨B0.drew, Ag, Ah, At⟩
  go_wp2_with fail
  go_region_held3 (fun W => Below w.heap.size w W ∧ W.heap[w.heap.size]? = some (.cells #[.int .u64 x1, .int .u64 y1] 26) ∧ W.heap[w.heap.size + 1]? = some (.cells #[.int .u64 x2, .int .u64 y2] 26) ∧ W.heap[w.heap.size + 1 + 1]? = some (.cells #[.int .u64 0, .int .u64 0] 26) ∧ W.cell? ⟨w.heap.size, 0, none⟩ = some (.int .u64 x1) ∧ W.cell? ⟨w.heap.size, 1, none⟩ = some (.int .u64 y1) ∧ W.cell? ⟨w.heap.size + 1, 0, none⟩ = some (.int .u64 x2) ∧ W.cell? ⟨w.heap.size + 1, 1, none⟩ = some (.int .u64 y2) ∧ W.cell? ⟨w.heap.size + 1 + 1, 0, none⟩ = some (.int .u64 0) ∧ W.cell? ⟨w.heap.size + 1 + 1, 1, none⟩ = some (.int .u64 0)) (first | exact sC.out _ s1 | exact sC.out _ s0)
    (first | (go_at_call_of 26 (Value.agg #[.int .u64 x1, .int .u64 y1]); (first | refine (KMa.out _ (fatB FF.out (And.left s1))).mono ?_ | refine (KMa.out _ (fatB FF.out (And.left s0))).mono ?_); rintro r wq ⟨rfl, bq⟩; have s1 := (by first | exact sS.out _ _ s1 bq | exact sS.out _ _ s0 bq); clear bq) | (go_at_call_of 26 (Value.agg #[.int .u64 x2, .int .u64 y2]); (first | refine (KMb.out _ (fatB FF.out (And.left s1))).mono ?_ | refine (KMb.out _ (fatB FF.out (And.left s0))).mono ?_); rintro r wq ⟨rfl, bq⟩; have s1 := (by first | exact sS.out _ _ s1 bq | exact sS.out _ _ s0 bq); clear bq) | (go_at_call 25; (first | refine (KC.out _).mono ?_ | refine (KC.out _).mono ?_); rintro r wq ⟨rfl, bq⟩; have s1 := (by first | exact sS.out _ _ s1 bq | exact sS.out _ _ s0 bq); clear bq) | fail)
  have B1 := (And.left s1)
  have Ai := s1.2.1
  have Aj := s1.2.2.1
  have Au := s1.2.2.2
  clear s0 s1 sS sC B0 Ag Ax Ay Ah Az AA At
  obtain ⟨AB, AC⟩ := cells2s Ai
  obtain ⟨AD, AE⟩ := cells2s Aj
  go_wp2_with fail
  refine (KU1.out _ (fatB FF.out B1)).mono ?_
  rintro r w2 ⟨rfl, b2⟩
  have B2 : Below w.heap.size w w2 := btr B1 b2
  have Aa := heap_of b2 _ _ _ Ai
  have Ab := heap_of b2 _ _ _ Aj
  have Ak := heap_of b2 _ _ _ Au
  clear b2 B1 Ai AB AC Aj AD AE Au
  obtain ⟨AF, AG⟩ := cells2s Aa
  obtain ⟨AH, AI⟩ := cells2s Ab
  have S3 := box B2.size
  have AJ := ltR Aa
  have AK := ltR Ab
  have AL := ltR Ak
  have Al := heap_alloc_last w2 (Obj.cells (pt c1 m1 X1 r1) 53)
  have B3 := btr B2 (bal w2 (Obj.cells (pt c1 m1 X1 r1) 53))
  have Am := heap_of (bal w2 (Obj.cells (pt c1 m1 X1 r1) 53)) _ _ _ Aa
  have An := heap_of (bal w2 (Obj.cells (pt c1 m1 X1 r1) 53)) _ _ _ Ab
  have Av := heap_of (bal w2 (Obj.cells (pt c1 m1 X1 r1) 53)) _ _ _ Ak
  clear B2 Aa AF AG Ab AH AI Ak
  obtain ⟨AM, AN⟩ := cells2s Am
  obtain ⟨AO, AP⟩ := cells2s An
  have AQ := (pt_cells Al).1
  go_wp2_with fail
  refine (KU2.out _ (fatB FF.out B3)).mono ?_
  rintro r w4 ⟨rfl, b4⟩
  have B4 : Below w.heap.size w w4 := btr B3 b4
  have Ac := heap_of b4 _ _ _ Am
  have Ad := heap_of b4 _ _ _ An
  have Ao := heap_of b4 _ _ _ Av
  have Ae := heap_of b4 _ _ _ Al
  clear b4 B3 Am AM AN An AO AP Av Al AQ
  obtain ⟨AR, AS⟩ := cells2s Ac
  obtain ⟨AT, AU⟩ := cells2s Ad
  have AV := (pt_cells Ae).1
  have S5 := box B4.size
  have AW := ltR Ac
  have AX := ltR Ad
  have AY := ltR Ao
  have AZ := ltR Ae
  have Ap := heap_alloc_last w4 (Obj.cells (pt c2 m2 X2 r2) 53)
  have B5 := btr B4 (bal w4 (Obj.cells (pt c2 m2 X2 r2) 53))
  have Aq := heap_of (bal w4 (Obj.cells (pt c2 m2 X2 r2) 53)) _ _ _ Ac
  have Ar := heap_of (bal w4 (Obj.cells (pt c2 m2 X2 r2) 53)) _ _ _ Ad
  have Aw := heap_of (bal w4 (Obj.cells (pt c2 m2 X2 r2) 53)) _ _ _ Ao
  have As := heap_of (bal w4 (Obj.cells (pt c2 m2 X2 r2) 53)) _ _ _ Ae
  clear B4 Ac AR AS Ad AT AU Ao Ae AV
  obtain ⟨A0, A1⟩ := cells2s Aq
  obtain ⟨A2, A3⟩ := cells2s Ar
  have A4 := (pt_cells As).1
  have A5 := (pt_cells Ap).1
  go_wp2_with fail
  refine (KN.out _ (fatB FF.out B5)).mono ?_
  rintro r w6 ⟨rfl, b6⟩
  have B6 : Below w.heap.size w w6 := btr B5 b6
  have A6 := heap_of b6 _ _ _ Aq
  have A7 := heap_of b6 _ _ _ Ar
  have Af := heap_of b6 _ _ _ Aw
  have A8 := heap_of b6 _ _ _ As
  have A9 := heap_of b6 _ _ _ Ap
  clear b6 B5 Aq A0 A1 Ar A2 A3 Aw As A4 Ap A5
  obtain ⟨Be, Bf⟩ := cells2s A6
  obtain ⟨Bg, Bh⟩ := cells2s A7
  have Bi := (pt_cells A8).1
  have Bj := (pt_cells A9).1
  obtain ⟨Bk, Bl⟩ := cells2s Af
  have q0 := fz (k := 0) Af
  have q1 := fz (k := 1) Af
  obtain ⟨E0, E1⟩ := set2_cells Af (.int .u64 u) (.int .u64 v)
  go_wp2
  exact bodyPost_ret (v := .tuple #[.agg #[.int .u64 u, .int .u64 v], .int .u8 16, .int .i64 0]) (by simp [results, Tryd.results16, go_sem, E0, E1]) rfl ⟨rfl, set2_below B6 (by first | exact Nat.le_refl _ | omega | (have := S3.out; have := AJ.out; have := AK.out; have := AL.out; have := S5.out; have := AW.out; have := AX.out; have := AY.out; have := AZ.out; omega)) _ _⟩
theorem ad_plus_nsy (f m : Int) (x1 y1 x2 y2 u v na nb : Nat) (c : Int) (c1 m1 : Nat) (X1 : Int) (r1 c2 m2 : Nat) (X2 : Int) (r2 : Nat) (tn : Bool) (ts : Nat) (tx fl : Int) (w : World) (hc : decide (c < 0) = false) (h18 : ((c1 : Int) == 8) = false) (h28 : ((c2 : Int) == 8) = true)
    (KMa : Box (∀ w, FAt w → Calls Tryd.prog 26 #[.int .u8 f, .agg #[.int .u64 x1, .int .u64 y1]] w fun r w' => r = .returned (.agg (cw 6 na)) ∧ Below w.heap.size w w'))
    (KMb : Box (∀ w, FAt w → Calls Tryd.prog 26 #[.int .u8 f, .agg #[.int .u64 x2, .int .u64 y2]] w fun r w' => r = .returned (.agg (cw 6 nb)) ∧ Below w.heap.size w w'))
    (KC : Box (∀ w, Calls Tryd.prog 25 #[.agg (cw 6 na), .agg (cw 6 nb)] w fun r w' => r = .returned (.int .i64 c) ∧ Below w.heap.size w w'))
    (KU1 : Box (∀ w, FAt w → Calls Tryd.prog 27 #[.int .u8 f, .agg #[.int .u64 x1, .int .u64 y1]] w fun r w' => r = .returned (.tuple #[.agg (pt c1 m1 X1 r1), .int .i64 0]) ∧ Below w.heap.size w w'))
    (KU2 : Box (∀ w, FAt w → Calls Tryd.prog 27 #[.int .u8 f, .agg #[.int .u64 x2, .int .u64 y2]] w fun r w' => r = .returned (.tuple #[.agg (pt c2 m2 X2 r2), .int .i64 0]) ∧ Below w.heap.size w w'))
    (KN : Box (∀ w, FAt w → Calls Tryd.prog 28 #[.int .u8 f] w fun r w' => r = .returned (.agg #[.int .u64 u, .int .u64 v]) ∧ Below w.heap.size w w'))
    (hT : FAt w) : Calls Tryd.prog 16 #[.int .u8 f, .int .u8 m, .agg #[.int .u64 x1, .int .u64 y1], .agg #[.int .u64 x2, .int .u64 y2]] w fun r w' => r = .returned (.tuple #[.agg #[.int .u64 u, .int .u64 v], .int .u8 16, .int .i64 0]) ∧ Below w.heap.size w w' := by
  have FF := box hT
  clear hT
  have hat := cw_at 6
  have hz := cw6z
  have hff := cw6f
  have hs0 := st0
  have hcs : ∀ x, ((cw 6 x).size = 6) = True := fun x => eq_true (cw_size 6 x)
  have hp1 := rgf
  have hp5 : ∀ (c : Bool) (s : Nat) (x : Int) (r : Bool), ((rg c s x r).size = 9) = True := fun _ _ _ _ => eq_true rfl
  have Ba := ptf
  have Bb := ptz
  have Bc := st_p0
  have Bd : ∀ (c s : Nat) (x : Int) (r : Nat), ((pt c s x r).size = 14) = True := fun _ _ _ _ => eq_true rfl
  obtain ⟨Ag, Ah, At, B0⟩ := opn3 w (Obj.cells #[.int .u64 x1, .int .u64 y1] 26) (Obj.cells #[.int .u64 x2, .int .u64 y2] 26) (Obj.cells #[.int .u64 0, .int .u64 0] 26)
  go_enter Tryd.func16, Tryd.ntmps16
  obtain ⟨Ax, Ay⟩ := cells2s Ag
  obtain ⟨Az, AA⟩ := cells2s Ah
  have sS : Box (∀ W W1 : World, (Below w.heap.size w W ∧ W.heap[w.heap.size]? = some (.cells #[.int .u64 x1, .int .u64 y1] 26) ∧ W.heap[w.heap.size + 1]? = some (.cells #[.int .u64 x2, .int .u64 y2] 26) ∧ W.heap[w.heap.size + 1 + 1]? = some (.cells #[.int .u64 0, .int .u64 0] 26)) → Below W.heap.size W W1 → (Below w.heap.size w W1 ∧ W1.heap[w.heap.size]? = some (.cells #[.int .u64 x1, .int .u64 y1] 26) ∧ W1.heap[w.heap.size + 1]? = some (.cells #[.int .u64 x2, .int .u64 y2] 26) ∧ W1.heap[w.heap.size + 1 + 1]? = some (.cells #[.int .u64 0, .int .u64 0] 26))) := box (fun W W1 h b => ⟨btr h.1 b, heap_of b _ _ _ h.2.1, heap_of b _ _ _ h.2.2.1, heap_of b _ _ _ h.2.2.2⟩)
  have sC : Box (∀ W : World, (Below w.heap.size w W ∧ W.heap[w.heap.size]? = some (.cells #[.int .u64 x1, .int .u64 y1] 26) ∧ W.heap[w.heap.size + 1]? = some (.cells #[.int .u64 x2, .int .u64 y2] 26) ∧ W.heap[w.heap.size + 1 + 1]? = some (.cells #[.int .u64 0, .int .u64 0] 26)) → (Below w.heap.size w W ∧ W.heap[w.heap.size]? = some (.cells #[.int .u64 x1, .int .u64 y1] 26) ∧ W.heap[w.heap.size + 1]? = some (.cells #[.int .u64 x2, .int .u64 y2] 26) ∧ W.heap[w.heap.size + 1 + 1]? = some (.cells #[.int .u64 0, .int .u64 0] 26) ∧ W.cell? ⟨w.heap.size, 0, none⟩ = some (.int .u64 x1) ∧ W.cell? ⟨w.heap.size, 1, none⟩ = some (.int .u64 y1) ∧ W.cell? ⟨w.heap.size + 1, 0, none⟩ = some (.int .u64 x2) ∧ W.cell? ⟨w.heap.size + 1, 1, none⟩ = some (.int .u64 y2) ∧ W.cell? ⟨w.heap.size + 1 + 1, 0, none⟩ = some (.int .u64 0) ∧ W.cell? ⟨w.heap.size + 1 + 1, 1, none⟩ = some (.int .u64 0))) := box (fun W h => ⟨h.1, h.2.1, h.2.2.1, h.2.2.2, cell7 (h.2.1) 0 _ rfl, cell7 (h.2.1) 1 _ rfl, cell7 (h.2.2.1) 0 _ rfl, cell7 (h.2.2.1) 1 _ rfl, cell7 (h.2.2.2) 0 _ rfl, cell7 (h.2.2.2) 1 _ rfl⟩)
  have s0 : Below w.heap.size w ((((w.alloc (Obj.cells #[.int .u64 x1, .int .u64 y1] 26)).alloc (Obj.cells #[.int .u64 x2, .int .u64 y2] 26)).alloc (Obj.cells #[.int .u64 0, .int .u64 0] 26))).drew ∧ ((((w.alloc (Obj.cells #[.int .u64 x1, .int .u64 y1] 26)).alloc (Obj.cells #[.int .u64 x2, .int .u64 y2] 26)).alloc (Obj.cells #[.int .u64 0, .int .u64 0] 26))).drew.heap[w.heap.size]? = some (.cells #[.int .u64 x1, .int .u64 y1] 26) ∧ ((((w.alloc (Obj.cells #[.int .u64 x1, .int .u64 y1] 26)).alloc (Obj.cells #[.int .u64 x2, .int .u64 y2] 26)).alloc (Obj.cells #[.int .u64 0, .int .u64 0] 26))).drew.heap[w.heap.size + 1]? = some (.cells #[.int .u64 x2, .int .u64 y2] 26) ∧ ((((w.alloc (Obj.cells #[.int .u64 x1, .int .u64 y1] 26)).alloc (Obj.cells #[.int .u64 x2, .int .u64 y2] 26)).alloc (Obj.cells #[.int .u64 0, .int .u64 0] 26))).drew.heap[w.heap.size + 1 + 1]? = some (.cells #[.int .u64 0, .int .u64 0] 26) := ⟨B0.drew, Ag, Ah, At⟩
  go_wp2_with fail
  go_region_held3 (fun W => Below w.heap.size w W ∧ W.heap[w.heap.size]? = some (.cells #[.int .u64 x1, .int .u64 y1] 26) ∧ W.heap[w.heap.size + 1]? = some (.cells #[.int .u64 x2, .int .u64 y2] 26) ∧ W.heap[w.heap.size + 1 + 1]? = some (.cells #[.int .u64 0, .int .u64 0] 26) ∧ W.cell? ⟨w.heap.size, 0, none⟩ = some (.int .u64 x1) ∧ W.cell? ⟨w.heap.size, 1, none⟩ = some (.int .u64 y1) ∧ W.cell? ⟨w.heap.size + 1, 0, none⟩ = some (.int .u64 x2) ∧ W.cell? ⟨w.heap.size + 1, 1, none⟩ = some (.int .u64 y2) ∧ W.cell? ⟨w.heap.size + 1 + 1, 0, none⟩ = some (.int .u64 0) ∧ W.cell? ⟨w.heap.size + 1 + 1, 1, none⟩ = some (.int .u64 0)) (first | exact sC.out _ s1 | exact sC.out _ s0)
    (first | (go_at_call_of 26 (Value.agg #[.int .u64 x1, .int .u64 y1]); (first | refine (KMa.out _ (fatB FF.out (And.left s1))).mono ?_ | refine (KMa.out _ (fatB FF.out (And.left s0))).mono ?_); rintro r wq ⟨rfl, bq⟩; have s1 := (by first | exact sS.out _ _ s1 bq | exact sS.out _ _ s0 bq); clear bq) | (go_at_call_of 26 (Value.agg #[.int .u64 x2, .int .u64 y2]); (first | refine (KMb.out _ (fatB FF.out (And.left s1))).mono ?_ | refine (KMb.out _ (fatB FF.out (And.left s0))).mono ?_); rintro r wq ⟨rfl, bq⟩; have s1 := (by first | exact sS.out _ _ s1 bq | exact sS.out _ _ s0 bq); clear bq) | (go_at_call 25; (first | refine (KC.out _).mono ?_ | refine (KC.out _).mono ?_); rintro r wq ⟨rfl, bq⟩; have s1 := (by first | exact sS.out _ _ s1 bq | exact sS.out _ _ s0 bq); clear bq) | fail)
  have B1 := (And.left s1)
  have Ai := s1.2.1
  have Aj := s1.2.2.1
  have Au := s1.2.2.2
  clear s0 s1 sS sC B0 Ag Ax Ay Ah Az AA At
  obtain ⟨AB, AC⟩ := cells2s Ai
  obtain ⟨AD, AE⟩ := cells2s Aj
  go_wp2_with fail
  refine (KU1.out _ (fatB FF.out B1)).mono ?_
  rintro r w2 ⟨rfl, b2⟩
  have B2 : Below w.heap.size w w2 := btr B1 b2
  have Aa := heap_of b2 _ _ _ Ai
  have Ab := heap_of b2 _ _ _ Aj
  have Ak := heap_of b2 _ _ _ Au
  clear b2 B1 Ai AB AC Aj AD AE Au
  obtain ⟨AF, AG⟩ := cells2s Aa
  obtain ⟨AH, AI⟩ := cells2s Ab
  have S3 := box B2.size
  have AJ := ltR Aa
  have AK := ltR Ab
  have AL := ltR Ak
  have Al := heap_alloc_last w2 (Obj.cells (pt c1 m1 X1 r1) 53)
  have B3 := btr B2 (bal w2 (Obj.cells (pt c1 m1 X1 r1) 53))
  have Am := heap_of (bal w2 (Obj.cells (pt c1 m1 X1 r1) 53)) _ _ _ Aa
  have An := heap_of (bal w2 (Obj.cells (pt c1 m1 X1 r1) 53)) _ _ _ Ab
  have Av := heap_of (bal w2 (Obj.cells (pt c1 m1 X1 r1) 53)) _ _ _ Ak
  clear B2 Aa AF AG Ab AH AI Ak
  obtain ⟨AM, AN⟩ := cells2s Am
  obtain ⟨AO, AP⟩ := cells2s An
  have AQ := (pt_cells Al).1
  go_wp2_with fail
  refine (KU2.out _ (fatB FF.out B3)).mono ?_
  rintro r w4 ⟨rfl, b4⟩
  have B4 : Below w.heap.size w w4 := btr B3 b4
  have Ac := heap_of b4 _ _ _ Am
  have Ad := heap_of b4 _ _ _ An
  have Ao := heap_of b4 _ _ _ Av
  have Ae := heap_of b4 _ _ _ Al
  clear b4 B3 Am AM AN An AO AP Av Al AQ
  obtain ⟨AR, AS⟩ := cells2s Ac
  obtain ⟨AT, AU⟩ := cells2s Ad
  have AV := (pt_cells Ae).1
  have S5 := box B4.size
  have AW := ltR Ac
  have AX := ltR Ad
  have AY := ltR Ao
  have AZ := ltR Ae
  have Ap := heap_alloc_last w4 (Obj.cells (pt c2 m2 X2 r2) 53)
  have B5 := btr B4 (bal w4 (Obj.cells (pt c2 m2 X2 r2) 53))
  have Aq := heap_of (bal w4 (Obj.cells (pt c2 m2 X2 r2) 53)) _ _ _ Ac
  have Ar := heap_of (bal w4 (Obj.cells (pt c2 m2 X2 r2) 53)) _ _ _ Ad
  have Aw := heap_of (bal w4 (Obj.cells (pt c2 m2 X2 r2) 53)) _ _ _ Ao
  have As := heap_of (bal w4 (Obj.cells (pt c2 m2 X2 r2) 53)) _ _ _ Ae
  clear B4 Ac AR AS Ad AT AU Ao Ae AV
  obtain ⟨A0, A1⟩ := cells2s Aq
  obtain ⟨A2, A3⟩ := cells2s Ar
  have A4 := (pt_cells As).1
  have A5 := (pt_cells Ap).1
  go_wp2_with fail
  refine (KN.out _ (fatB FF.out B5)).mono ?_
  rintro r w6 ⟨rfl, b6⟩
  have B6 : Below w.heap.size w w6 := btr B5 b6
  have A6 := heap_of b6 _ _ _ Aq
  have A7 := heap_of b6 _ _ _ Ar
  have Af := heap_of b6 _ _ _ Aw
  have A8 := heap_of b6 _ _ _ As
  have A9 := heap_of b6 _ _ _ Ap
  clear b6 B5 Aq A0 A1 Ar A2 A3 Aw As A4 Ap A5
  obtain ⟨Be, Bf⟩ := cells2s A6
  obtain ⟨Bg, Bh⟩ := cells2s A7
  have Bi := (pt_cells A8).1
  have Bj := (pt_cells A9).1
  obtain ⟨Bk, Bl⟩ := cells2s Af
  have q0 := fz (k := 0) Af
  have q1 := fz (k := 1) Af
  obtain ⟨E0, E1⟩ := set2_cells Af (.int .u64 u) (.int .u64 v)
  go_wp2
  exact bodyPost_ret (v := .tuple #[.agg #[.int .u64 u, .int .u64 v], .int .u8 16, .int .i64 0]) (by simp [results, Tryd.results16, go_sem, E0, E1]) rfl ⟨rfl, set2_below B6 (by first | exact Nat.le_refl _ | omega | (have := S3.out; have := AJ.out; have := AK.out; have := AL.out; have := S5.out; have := AW.out; have := AX.out; have := AY.out; have := AZ.out; omega)) _ _⟩
theorem ad_plus_nq (f m : Int) (x1 y1 x2 y2 u v na nb : Nat) (c : Int) (c1 m1 : Nat) (X1 : Int) (r1 c2 m2 : Nat) (X2 : Int) (r2 : Nat) (tn : Bool) (ts : Nat) (tx fl : Int) (w : World) (hc : decide (c < 0) = false) (h18 : ((c1 : Int) == 8) = false) (h28 : ((c2 : Int) == 8) = false) (h19 : ((c1 : Int) == 9) = true)
    (KMa : Box (∀ w, FAt w → Calls Tryd.prog 26 #[.int .u8 f, .agg #[.int .u64 x1, .int .u64 y1]] w fun r w' => r = .returned (.agg (cw 6 na)) ∧ Below w.heap.size w w'))
    (KMb : Box (∀ w, FAt w → Calls Tryd.prog 26 #[.int .u8 f, .agg #[.int .u64 x2, .int .u64 y2]] w fun r w' => r = .returned (.agg (cw 6 nb)) ∧ Below w.heap.size w w'))
    (KC : Box (∀ w, Calls Tryd.prog 25 #[.agg (cw 6 na), .agg (cw 6 nb)] w fun r w' => r = .returned (.int .i64 c) ∧ Below w.heap.size w w'))
    (KU1 : Box (∀ w, FAt w → Calls Tryd.prog 27 #[.int .u8 f, .agg #[.int .u64 x1, .int .u64 y1]] w fun r w' => r = .returned (.tuple #[.agg (pt c1 m1 X1 r1), .int .i64 0]) ∧ Below w.heap.size w w'))
    (KU2 : Box (∀ w, FAt w → Calls Tryd.prog 27 #[.int .u8 f, .agg #[.int .u64 x2, .int .u64 y2]] w fun r w' => r = .returned (.tuple #[.agg (pt c2 m2 X2 r2), .int .i64 0]) ∧ Below w.heap.size w w'))
    (KN : Box (∀ w, FAt w → Calls Tryd.prog 28 #[.int .u8 f] w fun r w' => r = .returned (.agg #[.int .u64 u, .int .u64 v]) ∧ Below w.heap.size w w'))
    (hT : FAt w) : Calls Tryd.prog 16 #[.int .u8 f, .int .u8 m, .agg #[.int .u64 x1, .int .u64 y1], .agg #[.int .u64 x2, .int .u64 y2]] w fun r w' => r = .returned (.tuple #[.agg #[.int .u64 u, .int .u64 v], .int .u8 0, .int .i64 0]) ∧ Below w.heap.size w w' := by
  have FF := box hT
  clear hT
  have hat := cw_at 6
  have hz := cw6z
  have hff := cw6f
  have hs0 := st0
  have hcs : ∀ x, ((cw 6 x).size = 6) = True := fun x => eq_true (cw_size 6 x)
  have hp1 := rgf
  have hp5 : ∀ (c : Bool) (s : Nat) (x : Int) (r : Bool), ((rg c s x r).size = 9) = True := fun _ _ _ _ => eq_true rfl
  have Ba := ptf
  have Bb := ptz
  have Bc := st_p0
  have Bd : ∀ (c s : Nat) (x : Int) (r : Nat), ((pt c s x r).size = 14) = True := fun _ _ _ _ => eq_true rfl
  obtain ⟨Ag, Ah, At, B0⟩ := opn3 w (Obj.cells #[.int .u64 x1, .int .u64 y1] 26) (Obj.cells #[.int .u64 x2, .int .u64 y2] 26) (Obj.cells #[.int .u64 0, .int .u64 0] 26)
  go_enter Tryd.func16, Tryd.ntmps16
  obtain ⟨Ax, Ay⟩ := cells2s Ag
  obtain ⟨Az, AA⟩ := cells2s Ah
  have sS : Box (∀ W W1 : World, (Below w.heap.size w W ∧ W.heap[w.heap.size]? = some (.cells #[.int .u64 x1, .int .u64 y1] 26) ∧ W.heap[w.heap.size + 1]? = some (.cells #[.int .u64 x2, .int .u64 y2] 26) ∧ W.heap[w.heap.size + 1 + 1]? = some (.cells #[.int .u64 0, .int .u64 0] 26)) → Below W.heap.size W W1 → (Below w.heap.size w W1 ∧ W1.heap[w.heap.size]? = some (.cells #[.int .u64 x1, .int .u64 y1] 26) ∧ W1.heap[w.heap.size + 1]? = some (.cells #[.int .u64 x2, .int .u64 y2] 26) ∧ W1.heap[w.heap.size + 1 + 1]? = some (.cells #[.int .u64 0, .int .u64 0] 26))) := box (fun W W1 h b => ⟨btr h.1 b, heap_of b _ _ _ h.2.1, heap_of b _ _ _ h.2.2.1, heap_of b _ _ _ h.2.2.2⟩)
  have sC : Box (∀ W : World, (Below w.heap.size w W ∧ W.heap[w.heap.size]? = some (.cells #[.int .u64 x1, .int .u64 y1] 26) ∧ W.heap[w.heap.size + 1]? = some (.cells #[.int .u64 x2, .int .u64 y2] 26) ∧ W.heap[w.heap.size + 1 + 1]? = some (.cells #[.int .u64 0, .int .u64 0] 26)) → (Below w.heap.size w W ∧ W.heap[w.heap.size]? = some (.cells #[.int .u64 x1, .int .u64 y1] 26) ∧ W.heap[w.heap.size + 1]? = some (.cells #[.int .u64 x2, .int .u64 y2] 26) ∧ W.heap[w.heap.size + 1 + 1]? = some (.cells #[.int .u64 0, .int .u64 0] 26) ∧ W.cell? ⟨w.heap.size, 0, none⟩ = some (.int .u64 x1) ∧ W.cell? ⟨w.heap.size, 1, none⟩ = some (.int .u64 y1) ∧ W.cell? ⟨w.heap.size + 1, 0, none⟩ = some (.int .u64 x2) ∧ W.cell? ⟨w.heap.size + 1, 1, none⟩ = some (.int .u64 y2) ∧ W.cell? ⟨w.heap.size + 1 + 1, 0, none⟩ = some (.int .u64 0) ∧ W.cell? ⟨w.heap.size + 1 + 1, 1, none⟩ = some (.int .u64 0))) := box (fun W h => ⟨h.1, h.2.1, h.2.2.1, h.2.2.2, cell7 (h.2.1) 0 _ rfl, cell7 (h.2.1) 1 _ rfl, cell7 (h.2.2.1) 0 _ rfl, cell7 (h.2.2.1) 1 _ rfl, cell7 (h.2.2.2) 0 _ rfl, cell7 (h.2.2.2) 1 _ rfl⟩)
  have s0 : Below w.heap.size w ((((w.alloc (Obj.cells #[.int .u64 x1, .int .u64 y1] 26)).alloc (Obj.cells #[.int .u64 x2, .int .u64 y2] 26)).alloc (Obj.cells #[.int .u64 0, .int .u64 0] 26))).drew ∧ ((((w.alloc (Obj.cells #[.int .u64 x1, .int .u64 y1] 26)).alloc (Obj.cells #[.int .u64 x2, .int .u64 y2] 26)).alloc (Obj.cells #[.int .u64 0, .int .u64 0] 26))).drew.heap[w.heap.size]? = some (.cells #[.int .u64 x1, .int .u64 y1] 26) ∧ ((((w.alloc (Obj.cells #[.int .u64 x1, .int .u64 y1] 26)).alloc (Obj.cells #[.int .u64 x2, .int .u64 y2] 26)).alloc (Obj.cells #[.int .u64 0, .int .u64 0] 26))).drew.heap[w.heap.size + 1]? = some (.cells #[.int .u64 x2, .int .u64 y2] 26) ∧ ((((w.alloc (Obj.cells #[.int .u64 x1, .int .u64 y1] 26)).alloc (Obj.cells #[.int .u64 x2, .int .u64 y2] 26)).alloc (Obj.cells #[.int .u64 0, .int .u64 0] 26))).drew.heap[w.heap.size + 1 + 1]? = some (.cells #[.int .u64 0, .int .u64 0] 26) := ⟨B0.drew, Ag, Ah, At⟩
  go_wp2_with fail
  go_region_held3 (fun W => Below w.heap.size w W ∧ W.heap[w.heap.size]? = some (.cells #[.int .u64 x1, .int .u64 y1] 26) ∧ W.heap[w.heap.size + 1]? = some (.cells #[.int .u64 x2, .int .u64 y2] 26) ∧ W.heap[w.heap.size + 1 + 1]? = some (.cells #[.int .u64 0, .int .u64 0] 26) ∧ W.cell? ⟨w.heap.size, 0, none⟩ = some (.int .u64 x1) ∧ W.cell? ⟨w.heap.size, 1, none⟩ = some (.int .u64 y1) ∧ W.cell? ⟨w.heap.size + 1, 0, none⟩ = some (.int .u64 x2) ∧ W.cell? ⟨w.heap.size + 1, 1, none⟩ = some (.int .u64 y2) ∧ W.cell? ⟨w.heap.size + 1 + 1, 0, none⟩ = some (.int .u64 0) ∧ W.cell? ⟨w.heap.size + 1 + 1, 1, none⟩ = some (.int .u64 0)) (first | exact sC.out _ s1 | exact sC.out _ s0)
    (first | (go_at_call_of 26 (Value.agg #[.int .u64 x1, .int .u64 y1]); (first | refine (KMa.out _ (fatB FF.out (And.left s1))).mono ?_ | refine (KMa.out _ (fatB FF.out (And.left s0))).mono ?_); rintro r wq ⟨rfl, bq⟩; have s1 := (by first | exact sS.out _ _ s1 bq | exact sS.out _ _ s0 bq); clear bq) | (go_at_call_of 26 (Value.agg #[.int .u64 x2, .int .u64 y2]); (first | refine (KMb.out _ (fatB FF.out (And.left s1))).mono ?_ | refine (KMb.out _ (fatB FF.out (And.left s0))).mono ?_); rintro r wq ⟨rfl, bq⟩; have s1 := (by first | exact sS.out _ _ s1 bq | exact sS.out _ _ s0 bq); clear bq) | (go_at_call 25; (first | refine (KC.out _).mono ?_ | refine (KC.out _).mono ?_); rintro r wq ⟨rfl, bq⟩; have s1 := (by first | exact sS.out _ _ s1 bq | exact sS.out _ _ s0 bq); clear bq) | fail)
  have B1 := (And.left s1)
  have Ai := s1.2.1
  have Aj := s1.2.2.1
  have Au := s1.2.2.2
  clear s0 s1 sS sC B0 Ag Ax Ay Ah Az AA At
  obtain ⟨AB, AC⟩ := cells2s Ai
  obtain ⟨AD, AE⟩ := cells2s Aj
  go_wp2_with fail
  refine (KU1.out _ (fatB FF.out B1)).mono ?_
  rintro r w2 ⟨rfl, b2⟩
  have B2 : Below w.heap.size w w2 := btr B1 b2
  have Aa := heap_of b2 _ _ _ Ai
  have Ab := heap_of b2 _ _ _ Aj
  have Ak := heap_of b2 _ _ _ Au
  clear b2 B1 Ai AB AC Aj AD AE Au
  obtain ⟨AF, AG⟩ := cells2s Aa
  obtain ⟨AH, AI⟩ := cells2s Ab
  have S3 := box B2.size
  have AJ := ltR Aa
  have AK := ltR Ab
  have AL := ltR Ak
  have Al := heap_alloc_last w2 (Obj.cells (pt c1 m1 X1 r1) 53)
  have B3 := btr B2 (bal w2 (Obj.cells (pt c1 m1 X1 r1) 53))
  have Am := heap_of (bal w2 (Obj.cells (pt c1 m1 X1 r1) 53)) _ _ _ Aa
  have An := heap_of (bal w2 (Obj.cells (pt c1 m1 X1 r1) 53)) _ _ _ Ab
  have Av := heap_of (bal w2 (Obj.cells (pt c1 m1 X1 r1) 53)) _ _ _ Ak
  clear B2 Aa AF AG Ab AH AI Ak
  obtain ⟨AM, AN⟩ := cells2s Am
  obtain ⟨AO, AP⟩ := cells2s An
  have AQ := (pt_cells Al).1
  go_wp2_with fail
  refine (KU2.out _ (fatB FF.out B3)).mono ?_
  rintro r w4 ⟨rfl, b4⟩
  have B4 : Below w.heap.size w w4 := btr B3 b4
  have Ac := heap_of b4 _ _ _ Am
  have Ad := heap_of b4 _ _ _ An
  have Ao := heap_of b4 _ _ _ Av
  have Ae := heap_of b4 _ _ _ Al
  clear b4 B3 Am AM AN An AO AP Av Al AQ
  obtain ⟨AR, AS⟩ := cells2s Ac
  obtain ⟨AT, AU⟩ := cells2s Ad
  have AV := (pt_cells Ae).1
  have S5 := box B4.size
  have AW := ltR Ac
  have AX := ltR Ad
  have AY := ltR Ao
  have AZ := ltR Ae
  have Ap := heap_alloc_last w4 (Obj.cells (pt c2 m2 X2 r2) 53)
  have B5 := btr B4 (bal w4 (Obj.cells (pt c2 m2 X2 r2) 53))
  have Aq := heap_of (bal w4 (Obj.cells (pt c2 m2 X2 r2) 53)) _ _ _ Ac
  have Ar := heap_of (bal w4 (Obj.cells (pt c2 m2 X2 r2) 53)) _ _ _ Ad
  have Aw := heap_of (bal w4 (Obj.cells (pt c2 m2 X2 r2) 53)) _ _ _ Ao
  have As := heap_of (bal w4 (Obj.cells (pt c2 m2 X2 r2) 53)) _ _ _ Ae
  clear B4 Ac AR AS Ad AT AU Ao Ae AV
  obtain ⟨A0, A1⟩ := cells2s Aq
  obtain ⟨A2, A3⟩ := cells2s Ar
  have A4 := (pt_cells As).1
  have A5 := (pt_cells Ap).1
  go_wp2_with fail
  refine (KN.out _ (fatB FF.out B5)).mono ?_
  rintro r w6 ⟨rfl, b6⟩
  have B6 : Below w.heap.size w w6 := btr B5 b6
  have A6 := heap_of b6 _ _ _ Aq
  have A7 := heap_of b6 _ _ _ Ar
  have Af := heap_of b6 _ _ _ Aw
  have A8 := heap_of b6 _ _ _ As
  have A9 := heap_of b6 _ _ _ Ap
  clear b6 B5 Aq A0 A1 Ar A2 A3 Aw As A4 Ap A5
  obtain ⟨Be, Bf⟩ := cells2s A6
  obtain ⟨Bg, Bh⟩ := cells2s A7
  have Bi := (pt_cells A8).1
  have Bj := (pt_cells A9).1
  obtain ⟨Bk, Bl⟩ := cells2s Af
  have q0 := fz (k := 0) Af
  have q1 := fz (k := 1) Af
  obtain ⟨E0, E1⟩ := set2_cells Af (.int .u64 u) (.int .u64 v)
  go_wp2
  exact bodyPost_ret (v := .tuple #[.agg #[.int .u64 u, .int .u64 v], .int .u8 0, .int .i64 0]) (by simp [results, Tryd.results16, go_sem, E0, E1]) rfl ⟨rfl, set2_below B6 (by first | exact Nat.le_refl _ | omega | (have := S3.out; have := AJ.out; have := AK.out; have := AL.out; have := S5.out; have := AW.out; have := AX.out; have := AY.out; have := AZ.out; omega)) _ _⟩
theorem ad_plus_nii (f m : Int) (x1 y1 x2 y2 u v na nb : Nat) (c : Int) (c1 m1 : Nat) (X1 : Int) (r1 c2 m2 : Nat) (X2 : Int) (r2 : Nat) (tn : Bool) (ts : Nat) (tx fl : Int) (w : World) (hc : decide (c < 0) = false) (h18 : ((c1 : Int) == 8) = false) (h28 : ((c2 : Int) == 8) = false) (h19 : ((c1 : Int) == 9) = false) (hd : ((c1 : Int) != (c2 : Int)) = true)
    (KMa : Box (∀ w, FAt w → Calls Tryd.prog 26 #[.int .u8 f, .agg #[.int .u64 x1, .int .u64 y1]] w fun r w' => r = .returned (.agg (cw 6 na)) ∧ Below w.heap.size w w'))
    (KMb : Box (∀ w, FAt w → Calls Tryd.prog 26 #[.int .u8 f, .agg #[.int .u64 x2, .int .u64 y2]] w fun r w' => r = .returned (.agg (cw 6 nb)) ∧ Below w.heap.size w w'))
    (KC : Box (∀ w, Calls Tryd.prog 25 #[.agg (cw 6 na), .agg (cw 6 nb)] w fun r w' => r = .returned (.int .i64 c) ∧ Below w.heap.size w w'))
    (KU1 : Box (∀ w, FAt w → Calls Tryd.prog 27 #[.int .u8 f, .agg #[.int .u64 x1, .int .u64 y1]] w fun r w' => r = .returned (.tuple #[.agg (pt c1 m1 X1 r1), .int .i64 0]) ∧ Below w.heap.size w w'))
    (KU2 : Box (∀ w, FAt w → Calls Tryd.prog 27 #[.int .u8 f, .agg #[.int .u64 x2, .int .u64 y2]] w fun r w' => r = .returned (.tuple #[.agg (pt c2 m2 X2 r2), .int .i64 0]) ∧ Below w.heap.size w w'))
    (KE1 : Box (∀ w, Calls Tryd.prog 29 #[.int .u8 c1] w fun r w' => r = .returned (.bool true) ∧ Below w.heap.size w w'))
    (KE2 : Box (∀ w, Calls Tryd.prog 29 #[.int .u8 c2] w fun r w' => r = .returned (.bool true) ∧ Below w.heap.size w w'))
    (KN : Box (∀ w, FAt w → Calls Tryd.prog 28 #[.int .u8 f] w fun r w' => r = .returned (.agg #[.int .u64 u, .int .u64 v]) ∧ Below w.heap.size w w'))
    (hT : FAt w) : Calls Tryd.prog 16 #[.int .u8 f, .int .u8 m, .agg #[.int .u64 x1, .int .u64 y1], .agg #[.int .u64 x2, .int .u64 y2]] w fun r w' => r = .returned (.tuple #[.agg #[.int .u64 u, .int .u64 v], .int .u8 16, .int .i64 0]) ∧ Below w.heap.size w w' := by
  have FF := box hT
  clear hT
  have hat := cw_at 6
  have hz := cw6z
  have hff := cw6f
  have hs0 := st0
  have hcs : ∀ x, ((cw 6 x).size = 6) = True := fun x => eq_true (cw_size 6 x)
  have hp1 := rgf
  have hp5 : ∀ (c : Bool) (s : Nat) (x : Int) (r : Bool), ((rg c s x r).size = 9) = True := fun _ _ _ _ => eq_true rfl
  have Bw := ptf
  have Bx := ptz
  have By := st_p0
  have Bz : ∀ (c s : Nat) (x : Int) (r : Nat), ((pt c s x r).size = 14) = True := fun _ _ _ _ => eq_true rfl
  obtain ⟨Ag, Ah, AB, B0⟩ := opn3 w (Obj.cells #[.int .u64 x1, .int .u64 y1] 26) (Obj.cells #[.int .u64 x2, .int .u64 y2] 26) (Obj.cells #[.int .u64 0, .int .u64 0] 26)
  go_enter Tryd.func16, Tryd.ntmps16
  obtain ⟨AH, AI⟩ := cells2s Ag
  obtain ⟨AJ, AK⟩ := cells2s Ah
  have sS : Box (∀ W W1 : World, (Below w.heap.size w W ∧ W.heap[w.heap.size]? = some (.cells #[.int .u64 x1, .int .u64 y1] 26) ∧ W.heap[w.heap.size + 1]? = some (.cells #[.int .u64 x2, .int .u64 y2] 26) ∧ W.heap[w.heap.size + 1 + 1]? = some (.cells #[.int .u64 0, .int .u64 0] 26)) → Below W.heap.size W W1 → (Below w.heap.size w W1 ∧ W1.heap[w.heap.size]? = some (.cells #[.int .u64 x1, .int .u64 y1] 26) ∧ W1.heap[w.heap.size + 1]? = some (.cells #[.int .u64 x2, .int .u64 y2] 26) ∧ W1.heap[w.heap.size + 1 + 1]? = some (.cells #[.int .u64 0, .int .u64 0] 26))) := box (fun W W1 h b => ⟨btr h.1 b, heap_of b _ _ _ h.2.1, heap_of b _ _ _ h.2.2.1, heap_of b _ _ _ h.2.2.2⟩)
  have sC : Box (∀ W : World, (Below w.heap.size w W ∧ W.heap[w.heap.size]? = some (.cells #[.int .u64 x1, .int .u64 y1] 26) ∧ W.heap[w.heap.size + 1]? = some (.cells #[.int .u64 x2, .int .u64 y2] 26) ∧ W.heap[w.heap.size + 1 + 1]? = some (.cells #[.int .u64 0, .int .u64 0] 26)) → (Below w.heap.size w W ∧ W.heap[w.heap.size]? = some (.cells #[.int .u64 x1, .int .u64 y1] 26) ∧ W.heap[w.heap.size + 1]? = some (.cells #[.int .u64 x2, .int .u64 y2] 26) ∧ W.heap[w.heap.size + 1 + 1]? = some (.cells #[.int .u64 0, .int .u64 0] 26) ∧ W.cell? ⟨w.heap.size, 0, none⟩ = some (.int .u64 x1) ∧ W.cell? ⟨w.heap.size, 1, none⟩ = some (.int .u64 y1) ∧ W.cell? ⟨w.heap.size + 1, 0, none⟩ = some (.int .u64 x2) ∧ W.cell? ⟨w.heap.size + 1, 1, none⟩ = some (.int .u64 y2) ∧ W.cell? ⟨w.heap.size + 1 + 1, 0, none⟩ = some (.int .u64 0) ∧ W.cell? ⟨w.heap.size + 1 + 1, 1, none⟩ = some (.int .u64 0))) := box (fun W h => ⟨h.1, h.2.1, h.2.2.1, h.2.2.2, cell7 (h.2.1) 0 _ rfl, cell7 (h.2.1) 1 _ rfl, cell7 (h.2.2.1) 0 _ rfl, cell7 (h.2.2.1) 1 _ rfl, cell7 (h.2.2.2) 0 _ rfl, cell7 (h.2.2.2) 1 _ rfl⟩)
  have s0 : Below w.heap.size w ((((w.alloc (Obj.cells #[.int .u64 x1, .int .u64 y1] 26)).alloc (Obj.cells #[.int .u64 x2, .int .u64 y2] 26)).alloc (Obj.cells #[.int .u64 0, .int .u64 0] 26))).drew ∧ ((((w.alloc (Obj.cells #[.int .u64 x1, .int .u64 y1] 26)).alloc (Obj.cells #[.int .u64 x2, .int .u64 y2] 26)).alloc (Obj.cells #[.int .u64 0, .int .u64 0] 26))).drew.heap[w.heap.size]? = some (.cells #[.int .u64 x1, .int .u64 y1] 26) ∧ ((((w.alloc (Obj.cells #[.int .u64 x1, .int .u64 y1] 26)).alloc (Obj.cells #[.int .u64 x2, .int .u64 y2] 26)).alloc (Obj.cells #[.int .u64 0, .int .u64 0] 26))).drew.heap[w.heap.size + 1]? = some (.cells #[.int .u64 x2, .int .u64 y2] 26) ∧ ((((w.alloc (Obj.cells #[.int .u64 x1, .int .u64 y1] 26)).alloc (Obj.cells #[.int .u64 x2, .int .u64 y2] 26)).alloc (Obj.cells #[.int .u64 0, .int .u64 0] 26))).drew.heap[w.heap.size + 1 + 1]? = some (.cells #[.int .u64 0, .int .u64 0] 26) := ⟨B0.drew, Ag, Ah, AB⟩
  go_wp2_with fail
  go_region_held3 (fun W => Below w.heap.size w W ∧ W.heap[w.heap.size]? = some (.cells #[.int .u64 x1, .int .u64 y1] 26) ∧ W.heap[w.heap.size + 1]? = some (.cells #[.int .u64 x2, .int .u64 y2] 26) ∧ W.heap[w.heap.size + 1 + 1]? = some (.cells #[.int .u64 0, .int .u64 0] 26) ∧ W.cell? ⟨w.heap.size, 0, none⟩ = some (.int .u64 x1) ∧ W.cell? ⟨w.heap.size, 1, none⟩ = some (.int .u64 y1) ∧ W.cell? ⟨w.heap.size + 1, 0, none⟩ = some (.int .u64 x2) ∧ W.cell? ⟨w.heap.size + 1, 1, none⟩ = some (.int .u64 y2) ∧ W.cell? ⟨w.heap.size + 1 + 1, 0, none⟩ = some (.int .u64 0) ∧ W.cell? ⟨w.heap.size + 1 + 1, 1, none⟩ = some (.int .u64 0)) (first | exact sC.out _ s1 | exact sC.out _ s0)
    (first | (go_at_call_of 26 (Value.agg #[.int .u64 x1, .int .u64 y1]); (first | refine (KMa.out _ (fatB FF.out (And.left s1))).mono ?_ | refine (KMa.out _ (fatB FF.out (And.left s0))).mono ?_); rintro r wq ⟨rfl, bq⟩; have s1 := (by first | exact sS.out _ _ s1 bq | exact sS.out _ _ s0 bq); clear bq) | (go_at_call_of 26 (Value.agg #[.int .u64 x2, .int .u64 y2]); (first | refine (KMb.out _ (fatB FF.out (And.left s1))).mono ?_ | refine (KMb.out _ (fatB FF.out (And.left s0))).mono ?_); rintro r wq ⟨rfl, bq⟩; have s1 := (by first | exact sS.out _ _ s1 bq | exact sS.out _ _ s0 bq); clear bq) | (go_at_call 25; (first | refine (KC.out _).mono ?_ | refine (KC.out _).mono ?_); rintro r wq ⟨rfl, bq⟩; have s1 := (by first | exact sS.out _ _ s1 bq | exact sS.out _ _ s0 bq); clear bq) | fail)
  have B1 := (And.left s1)
  have Ai := s1.2.1
  have Aj := s1.2.2.1
  have AC := s1.2.2.2
  clear s0 s1 sS sC B0 Ag AH AI Ah AJ AK AB
  obtain ⟨AL, AM⟩ := cells2s Ai
  obtain ⟨AN, AO⟩ := cells2s Aj
  go_wp2_with fail
  refine (KU1.out _ (fatB FF.out B1)).mono ?_
  rintro r w2 ⟨rfl, b2⟩
  have B2 : Below w.heap.size w w2 := btr B1 b2
  have Aa := heap_of b2 _ _ _ Ai
  have Ab := heap_of b2 _ _ _ Aj
  have Ak := heap_of b2 _ _ _ AC
  clear b2 B1 Ai AL AM Aj AN AO AC
  obtain ⟨AP, AQ⟩ := cells2s Aa
  obtain ⟨AR, AS⟩ := cells2s Ab
  have S3 := box B2.size
  have AT := ltR Aa
  have AU := ltR Ab
  have AV := ltR Ak
  have Al := heap_alloc_last w2 (Obj.cells (pt c1 m1 X1 r1) 53)
  have B3 := btr B2 (bal w2 (Obj.cells (pt c1 m1 X1 r1) 53))
  have Am := heap_of (bal w2 (Obj.cells (pt c1 m1 X1 r1) 53)) _ _ _ Aa
  have An := heap_of (bal w2 (Obj.cells (pt c1 m1 X1 r1) 53)) _ _ _ Ab
  have AD := heap_of (bal w2 (Obj.cells (pt c1 m1 X1 r1) 53)) _ _ _ Ak
  clear B2 Aa AP AQ Ab AR AS Ak
  obtain ⟨AW, AX⟩ := cells2s Am
  obtain ⟨AY, AZ⟩ := cells2s An
  have A0 := (pt_cells Al).1
  go_wp2_with fail
  refine (KU2.out _ (fatB FF.out B3)).mono ?_
  rintro r w4 ⟨rfl, b4⟩
  have B4 : Below w.heap.size w w4 := btr B3 b4
  have Ac := heap_of b4 _ _ _ Am
  have Ad := heap_of b4 _ _ _ An
  have Ao := heap_of b4 _ _ _ AD
  have Ae := heap_of b4 _ _ _ Al
  clear b4 B3 Am AW AX An AY AZ AD Al A0
  obtain ⟨A1, A2⟩ := cells2s Ac
  obtain ⟨A3, A4⟩ := cells2s Ad
  have A5 := (pt_cells Ae).1
  have S5 := box B4.size
  have A6 := ltR Ac
  have A7 := ltR Ad
  have A8 := ltR Ao
  have A9 := ltR Ae
  have Ap := heap_alloc_last w4 (Obj.cells (pt c2 m2 X2 r2) 53)
  have B5 := btr B4 (bal w4 (Obj.cells (pt c2 m2 X2 r2) 53))
  have Aq := heap_of (bal w4 (Obj.cells (pt c2 m2 X2 r2) 53)) _ _ _ Ac
  have Ar := heap_of (bal w4 (Obj.cells (pt c2 m2 X2 r2) 53)) _ _ _ Ad
  have AE := heap_of (bal w4 (Obj.cells (pt c2 m2 X2 r2) 53)) _ _ _ Ao
  have As := heap_of (bal w4 (Obj.cells (pt c2 m2 X2 r2) 53)) _ _ _ Ae
  clear B4 Ac A1 A2 Ad A3 A4 Ao Ae A5
  obtain ⟨Ba, Bb⟩ := cells2s Aq
  obtain ⟨Bc, Bd⟩ := cells2s Ar
  have Be := (pt_cells As).1
  have Bf := (pt_cells Ap).1
  go_wp2_with fail
  refine (KE1.out _).mono ?_
  rintro r w6 ⟨rfl, b6⟩
  have B6 : Below w.heap.size w w6 := btr B5 b6
  have At := heap_of b6 _ _ _ Aq
  have Au := heap_of b6 _ _ _ Ar
  have AF := heap_of b6 _ _ _ AE
  have Av := heap_of b6 _ _ _ As
  have Aw := heap_of b6 _ _ _ Ap
  clear b6 B5 Aq Ba Bb Ar Bc Bd AE As Be Ap Bf
  obtain ⟨Bg, Bh⟩ := cells2s At
  obtain ⟨Bi, Bj⟩ := cells2s Au
  have Bk := (pt_cells Av).1
  have Bl := (pt_cells Aw).1
  go_wp2_with fail
  refine (KE2.out _).mono ?_
  rintro r w7 ⟨rfl, b7⟩
  have B7 : Below w.heap.size w w7 := btr B6 b7
  have Ax := heap_of b7 _ _ _ At
  have Ay := heap_of b7 _ _ _ Au
  have AG := heap_of b7 _ _ _ AF
  have Az := heap_of b7 _ _ _ Av
  have AA := heap_of b7 _ _ _ Aw
  clear b7 B6 At Bg Bh Au Bi Bj AF Av Bk Aw Bl
  obtain ⟨Bm, Bn⟩ := cells2s Ax
  obtain ⟨Bo, Bp⟩ := cells2s Ay
  have Bq := (pt_cells Az).1
  have Br := (pt_cells AA).1
  go_wp2_with fail
  refine (KN.out _ (fatB FF.out B7)).mono ?_
  rintro r w8 ⟨rfl, b8⟩
  have B8 : Below w.heap.size w w8 := btr B7 b8
  have Bs := heap_of b8 _ _ _ Ax
  have Bt := heap_of b8 _ _ _ Ay
  have Af := heap_of b8 _ _ _ AG
  have Bu := heap_of b8 _ _ _ Az
  have Bv := heap_of b8 _ _ _ AA
  clear b8 B7 Ax Bm Bn Ay Bo Bp AG Az Bq AA Br
  obtain ⟨BA, BB⟩ := cells2s Bs
  obtain ⟨BC, BD⟩ := cells2s Bt
  have BE := (pt_cells Bu).1
  have BF := (pt_cells Bv).1
  obtain ⟨BG, BH⟩ := cells2s Af
  have q0 := fz (k := 0) Af
  have q1 := fz (k := 1) Af
  obtain ⟨E0, E1⟩ := set2_cells Af (.int .u64 u) (.int .u64 v)
  go_wp2
  exact bodyPost_ret (v := .tuple #[.agg #[.int .u64 u, .int .u64 v], .int .u8 16, .int .i64 0]) (by simp [results, Tryd.results16, go_sem, E0, E1]) rfl ⟨rfl, set2_below B8 (by first | exact Nat.le_refl _ | omega | (have := S3.out; have := AT.out; have := AU.out; have := AV.out; have := S5.out; have := A6.out; have := A7.out; have := A8.out; have := A9.out; omega)) _ _⟩
theorem ad_plus_nis (f m : Int) (x1 y1 x2 y2 u v na nb : Nat) (c : Int) (c1 m1 : Nat) (X1 : Int) (r1 c2 m2 : Nat) (X2 : Int) (r2 : Nat) (tn : Bool) (ts : Nat) (tx fl : Int) (w : World) (hc : decide (c < 0) = false) (h18 : ((c1 : Int) == 8) = false) (h28 : ((c2 : Int) == 8) = false) (h19 : ((c1 : Int) == 9) = false) (hd : ((c1 : Int) != (c2 : Int)) = false)
    (KMa : Box (∀ w, FAt w → Calls Tryd.prog 26 #[.int .u8 f, .agg #[.int .u64 x1, .int .u64 y1]] w fun r w' => r = .returned (.agg (cw 6 na)) ∧ Below w.heap.size w w'))
    (KMb : Box (∀ w, FAt w → Calls Tryd.prog 26 #[.int .u8 f, .agg #[.int .u64 x2, .int .u64 y2]] w fun r w' => r = .returned (.agg (cw 6 nb)) ∧ Below w.heap.size w w'))
    (KC : Box (∀ w, Calls Tryd.prog 25 #[.agg (cw 6 na), .agg (cw 6 nb)] w fun r w' => r = .returned (.int .i64 c) ∧ Below w.heap.size w w'))
    (KU1 : Box (∀ w, FAt w → Calls Tryd.prog 27 #[.int .u8 f, .agg #[.int .u64 x1, .int .u64 y1]] w fun r w' => r = .returned (.tuple #[.agg (pt c1 m1 X1 r1), .int .i64 0]) ∧ Below w.heap.size w w'))
    (KU2 : Box (∀ w, FAt w → Calls Tryd.prog 27 #[.int .u8 f, .agg #[.int .u64 x2, .int .u64 y2]] w fun r w' => r = .returned (.tuple #[.agg (pt c2 m2 X2 r2), .int .i64 0]) ∧ Below w.heap.size w w'))
    (KE1 : Box (∀ w, Calls Tryd.prog 29 #[.int .u8 c1] w fun r w' => r = .returned (.bool true) ∧ Below w.heap.size w w'))
    (KE2 : Box (∀ w, Calls Tryd.prog 29 #[.int .u8 c2] w fun r w' => r = .returned (.bool true) ∧ Below w.heap.size w w'))
    (hT : FAt w) : Calls Tryd.prog 16 #[.int .u8 f, .int .u8 m, .agg #[.int .u64 x1, .int .u64 y1], .agg #[.int .u64 x2, .int .u64 y2]] w fun r w' => r = .returned (.tuple #[.agg #[.int .u64 x1, .int .u64 y1], .int .u8 0, .int .i64 0]) ∧ Below w.heap.size w w' := by
  have FF := box hT
  clear hT
  have hat := cw_at 6
  have hz := cw6z
  have hff := cw6f
  have hs0 := st0
  have hcs : ∀ x, ((cw 6 x).size = 6) = True := fun x => eq_true (cw_size 6 x)
  have hp1 := rgf
  have hp5 : ∀ (c : Bool) (s : Nat) (x : Int) (r : Bool), ((rg c s x r).size = 9) = True := fun _ _ _ _ => eq_true rfl
  have Bw := ptf
  have Bx := ptz
  have By := st_p0
  have Bz : ∀ (c s : Nat) (x : Int) (r : Nat), ((pt c s x r).size = 14) = True := fun _ _ _ _ => eq_true rfl
  obtain ⟨Ag, Ah, AB, B0⟩ := opn3 w (Obj.cells #[.int .u64 x1, .int .u64 y1] 26) (Obj.cells #[.int .u64 x2, .int .u64 y2] 26) (Obj.cells #[.int .u64 0, .int .u64 0] 26)
  go_enter Tryd.func16, Tryd.ntmps16
  obtain ⟨AH, AI⟩ := cells2s Ag
  obtain ⟨AJ, AK⟩ := cells2s Ah
  have sS : Box (∀ W W1 : World, (Below w.heap.size w W ∧ W.heap[w.heap.size]? = some (.cells #[.int .u64 x1, .int .u64 y1] 26) ∧ W.heap[w.heap.size + 1]? = some (.cells #[.int .u64 x2, .int .u64 y2] 26) ∧ W.heap[w.heap.size + 1 + 1]? = some (.cells #[.int .u64 0, .int .u64 0] 26)) → Below W.heap.size W W1 → (Below w.heap.size w W1 ∧ W1.heap[w.heap.size]? = some (.cells #[.int .u64 x1, .int .u64 y1] 26) ∧ W1.heap[w.heap.size + 1]? = some (.cells #[.int .u64 x2, .int .u64 y2] 26) ∧ W1.heap[w.heap.size + 1 + 1]? = some (.cells #[.int .u64 0, .int .u64 0] 26))) := box (fun W W1 h b => ⟨btr h.1 b, heap_of b _ _ _ h.2.1, heap_of b _ _ _ h.2.2.1, heap_of b _ _ _ h.2.2.2⟩)
  have sC : Box (∀ W : World, (Below w.heap.size w W ∧ W.heap[w.heap.size]? = some (.cells #[.int .u64 x1, .int .u64 y1] 26) ∧ W.heap[w.heap.size + 1]? = some (.cells #[.int .u64 x2, .int .u64 y2] 26) ∧ W.heap[w.heap.size + 1 + 1]? = some (.cells #[.int .u64 0, .int .u64 0] 26)) → (Below w.heap.size w W ∧ W.heap[w.heap.size]? = some (.cells #[.int .u64 x1, .int .u64 y1] 26) ∧ W.heap[w.heap.size + 1]? = some (.cells #[.int .u64 x2, .int .u64 y2] 26) ∧ W.heap[w.heap.size + 1 + 1]? = some (.cells #[.int .u64 0, .int .u64 0] 26) ∧ W.cell? ⟨w.heap.size, 0, none⟩ = some (.int .u64 x1) ∧ W.cell? ⟨w.heap.size, 1, none⟩ = some (.int .u64 y1) ∧ W.cell? ⟨w.heap.size + 1, 0, none⟩ = some (.int .u64 x2) ∧ W.cell? ⟨w.heap.size + 1, 1, none⟩ = some (.int .u64 y2) ∧ W.cell? ⟨w.heap.size + 1 + 1, 0, none⟩ = some (.int .u64 0) ∧ W.cell? ⟨w.heap.size + 1 + 1, 1, none⟩ = some (.int .u64 0))) := box (fun W h => ⟨h.1, h.2.1, h.2.2.1, h.2.2.2, cell7 (h.2.1) 0 _ rfl, cell7 (h.2.1) 1 _ rfl, cell7 (h.2.2.1) 0 _ rfl, cell7 (h.2.2.1) 1 _ rfl, cell7 (h.2.2.2) 0 _ rfl, cell7 (h.2.2.2) 1 _ rfl⟩)
  have s0 : Below w.heap.size w ((((w.alloc (Obj.cells #[.int .u64 x1, .int .u64 y1] 26)).alloc (Obj.cells #[.int .u64 x2, .int .u64 y2] 26)).alloc (Obj.cells #[.int .u64 0, .int .u64 0] 26))).drew ∧ ((((w.alloc (Obj.cells #[.int .u64 x1, .int .u64 y1] 26)).alloc (Obj.cells #[.int .u64 x2, .int .u64 y2] 26)).alloc (Obj.cells #[.int .u64 0, .int .u64 0] 26))).drew.heap[w.heap.size]? = some (.cells #[.int .u64 x1, .int .u64 y1] 26) ∧ ((((w.alloc (Obj.cells #[.int .u64 x1, .int .u64 y1] 26)).alloc (Obj.cells #[.int .u64 x2, .int .u64 y2] 26)).alloc (Obj.cells #[.int .u64 0, .int .u64 0] 26))).drew.heap[w.heap.size + 1]? = some (.cells #[.int .u64 x2, .int .u64 y2] 26) ∧ ((((w.alloc (Obj.cells #[.int .u64 x1, .int .u64 y1] 26)).alloc (Obj.cells #[.int .u64 x2, .int .u64 y2] 26)).alloc (Obj.cells #[.int .u64 0, .int .u64 0] 26))).drew.heap[w.heap.size + 1 + 1]? = some (.cells #[.int .u64 0, .int .u64 0] 26) := ⟨B0.drew, Ag, Ah, AB⟩
  go_wp2_with fail
  go_region_held3 (fun W => Below w.heap.size w W ∧ W.heap[w.heap.size]? = some (.cells #[.int .u64 x1, .int .u64 y1] 26) ∧ W.heap[w.heap.size + 1]? = some (.cells #[.int .u64 x2, .int .u64 y2] 26) ∧ W.heap[w.heap.size + 1 + 1]? = some (.cells #[.int .u64 0, .int .u64 0] 26) ∧ W.cell? ⟨w.heap.size, 0, none⟩ = some (.int .u64 x1) ∧ W.cell? ⟨w.heap.size, 1, none⟩ = some (.int .u64 y1) ∧ W.cell? ⟨w.heap.size + 1, 0, none⟩ = some (.int .u64 x2) ∧ W.cell? ⟨w.heap.size + 1, 1, none⟩ = some (.int .u64 y2) ∧ W.cell? ⟨w.heap.size + 1 + 1, 0, none⟩ = some (.int .u64 0) ∧ W.cell? ⟨w.heap.size + 1 + 1, 1, none⟩ = some (.int .u64 0)) (first | exact sC.out _ s1 | exact sC.out _ s0)
    (first | (go_at_call_of 26 (Value.agg #[.int .u64 x1, .int .u64 y1]); (first | refine (KMa.out _ (fatB FF.out (And.left s1))).mono ?_ | refine (KMa.out _ (fatB FF.out (And.left s0))).mono ?_); rintro r wq ⟨rfl, bq⟩; have s1 := (by first | exact sS.out _ _ s1 bq | exact sS.out _ _ s0 bq); clear bq) | (go_at_call_of 26 (Value.agg #[.int .u64 x2, .int .u64 y2]); (first | refine (KMb.out _ (fatB FF.out (And.left s1))).mono ?_ | refine (KMb.out _ (fatB FF.out (And.left s0))).mono ?_); rintro r wq ⟨rfl, bq⟩; have s1 := (by first | exact sS.out _ _ s1 bq | exact sS.out _ _ s0 bq); clear bq) | (go_at_call 25; (first | refine (KC.out _).mono ?_ | refine (KC.out _).mono ?_); rintro r wq ⟨rfl, bq⟩; have s1 := (by first | exact sS.out _ _ s1 bq | exact sS.out _ _ s0 bq); clear bq) | fail)
  have B1 := (And.left s1)
  have Ai := s1.2.1
  have Aj := s1.2.2.1
  have AC := s1.2.2.2
  clear s0 s1 sS sC B0 Ag AH AI Ah AJ AK AB
  obtain ⟨AL, AM⟩ := cells2s Ai
  obtain ⟨AN, AO⟩ := cells2s Aj
  go_wp2_with fail
  refine (KU1.out _ (fatB FF.out B1)).mono ?_
  rintro r w2 ⟨rfl, b2⟩
  have B2 : Below w.heap.size w w2 := btr B1 b2
  have Aa := heap_of b2 _ _ _ Ai
  have Ab := heap_of b2 _ _ _ Aj
  have Ak := heap_of b2 _ _ _ AC
  clear b2 B1 Ai AL AM Aj AN AO AC
  obtain ⟨AP, AQ⟩ := cells2s Aa
  obtain ⟨AR, AS⟩ := cells2s Ab
  have S3 := box B2.size
  have AT := ltR Aa
  have AU := ltR Ab
  have AV := ltR Ak
  have Al := heap_alloc_last w2 (Obj.cells (pt c1 m1 X1 r1) 53)
  have B3 := btr B2 (bal w2 (Obj.cells (pt c1 m1 X1 r1) 53))
  have Am := heap_of (bal w2 (Obj.cells (pt c1 m1 X1 r1) 53)) _ _ _ Aa
  have An := heap_of (bal w2 (Obj.cells (pt c1 m1 X1 r1) 53)) _ _ _ Ab
  have AD := heap_of (bal w2 (Obj.cells (pt c1 m1 X1 r1) 53)) _ _ _ Ak
  clear B2 Aa AP AQ Ab AR AS Ak
  obtain ⟨AW, AX⟩ := cells2s Am
  obtain ⟨AY, AZ⟩ := cells2s An
  have A0 := (pt_cells Al).1
  go_wp2_with fail
  refine (KU2.out _ (fatB FF.out B3)).mono ?_
  rintro r w4 ⟨rfl, b4⟩
  have B4 : Below w.heap.size w w4 := btr B3 b4
  have Ac := heap_of b4 _ _ _ Am
  have Ad := heap_of b4 _ _ _ An
  have Ao := heap_of b4 _ _ _ AD
  have Ae := heap_of b4 _ _ _ Al
  clear b4 B3 Am AW AX An AY AZ AD Al A0
  obtain ⟨A1, A2⟩ := cells2s Ac
  obtain ⟨A3, A4⟩ := cells2s Ad
  have A5 := (pt_cells Ae).1
  have S5 := box B4.size
  have A6 := ltR Ac
  have A7 := ltR Ad
  have A8 := ltR Ao
  have A9 := ltR Ae
  have Ap := heap_alloc_last w4 (Obj.cells (pt c2 m2 X2 r2) 53)
  have B5 := btr B4 (bal w4 (Obj.cells (pt c2 m2 X2 r2) 53))
  have Aq := heap_of (bal w4 (Obj.cells (pt c2 m2 X2 r2) 53)) _ _ _ Ac
  have Ar := heap_of (bal w4 (Obj.cells (pt c2 m2 X2 r2) 53)) _ _ _ Ad
  have AE := heap_of (bal w4 (Obj.cells (pt c2 m2 X2 r2) 53)) _ _ _ Ao
  have As := heap_of (bal w4 (Obj.cells (pt c2 m2 X2 r2) 53)) _ _ _ Ae
  clear B4 Ac A1 A2 Ad A3 A4 Ao Ae A5
  obtain ⟨Ba, Bb⟩ := cells2s Aq
  obtain ⟨Bc, Bd⟩ := cells2s Ar
  have Be := (pt_cells As).1
  have Bf := (pt_cells Ap).1
  go_wp2_with fail
  refine (KE1.out _).mono ?_
  rintro r w6 ⟨rfl, b6⟩
  have B6 : Below w.heap.size w w6 := btr B5 b6
  have At := heap_of b6 _ _ _ Aq
  have Au := heap_of b6 _ _ _ Ar
  have AF := heap_of b6 _ _ _ AE
  have Av := heap_of b6 _ _ _ As
  have Aw := heap_of b6 _ _ _ Ap
  clear b6 B5 Aq Ba Bb Ar Bc Bd AE As Be Ap Bf
  obtain ⟨Bg, Bh⟩ := cells2s At
  obtain ⟨Bi, Bj⟩ := cells2s Au
  have Bk := (pt_cells Av).1
  have Bl := (pt_cells Aw).1
  go_wp2_with fail
  refine (KE2.out _).mono ?_
  rintro r w7 ⟨rfl, b7⟩
  have B7 : Below w.heap.size w w7 := btr B6 b7
  have Ax := heap_of b7 _ _ _ At
  have Ay := heap_of b7 _ _ _ Au
  have AG := heap_of b7 _ _ _ AF
  have Az := heap_of b7 _ _ _ Av
  have AA := heap_of b7 _ _ _ Aw
  clear b7 B6 At Bg Bh Au Bi Bj AF Av Bk Aw Bl
  obtain ⟨Bm, Bn⟩ := cells2s Ax
  obtain ⟨Bo, Bp⟩ := cells2s Ay
  have Bq := (pt_cells Az).1
  have Br := (pt_cells AA).1
  go_wp2_with fail
  refine (KE1.out _).mono ?_
  rintro r w8 ⟨rfl, b8⟩
  have B8 : Below w.heap.size w w8 := btr B7 b8
  have Bs := heap_of b8 _ _ _ Ax
  have Bt := heap_of b8 _ _ _ Ay
  have Af := heap_of b8 _ _ _ AG
  have Bu := heap_of b8 _ _ _ Az
  have Bv := heap_of b8 _ _ _ AA
  clear b8 B7 Ax Bm Bn Ay Bo Bp AG Az Bq AA Br
  obtain ⟨BA, BB⟩ := cells2s Bs
  obtain ⟨BC, BD⟩ := cells2s Bt
  have BE := (pt_cells Bu).1
  have BF := (pt_cells Bv).1
  obtain ⟨BG, BH⟩ := cells2s Af
  have q0 := fz (k := 0) Af
  have q1 := fz (k := 1) Af
  obtain ⟨E0, E1⟩ := set2_cells Af (.int .u64 x1) (.int .u64 y1)
  go_wp2
  exact bodyPost_ret (v := .tuple #[.agg #[.int .u64 x1, .int .u64 y1], .int .u8 0, .int .i64 0]) (by simp [results, Tryd.results16, go_sem, E0, E1]) rfl ⟨rfl, set2_below B8 (by first | exact Nat.le_refl _ | omega | (have := S3.out; have := AT.out; have := AU.out; have := AV.out; have := S5.out; have := A6.out; have := A7.out; have := A8.out; have := A9.out; omega)) _ _⟩
theorem ad_plus_nin (f m : Int) (x1 y1 x2 y2 u v na nb : Nat) (c : Int) (c1 m1 : Nat) (X1 : Int) (r1 c2 m2 : Nat) (X2 : Int) (r2 : Nat) (tn : Bool) (ts : Nat) (tx fl : Int) (w : World) (hc : decide (c < 0) = false) (h18 : ((c1 : Int) == 8) = false) (h28 : ((c2 : Int) == 8) = false) (h19 : ((c1 : Int) == 9) = false) 
    (KMa : Box (∀ w, FAt w → Calls Tryd.prog 26 #[.int .u8 f, .agg #[.int .u64 x1, .int .u64 y1]] w fun r w' => r = .returned (.agg (cw 6 na)) ∧ Below w.heap.size w w'))
    (KMb : Box (∀ w, FAt w → Calls Tryd.prog 26 #[.int .u8 f, .agg #[.int .u64 x2, .int .u64 y2]] w fun r w' => r = .returned (.agg (cw 6 nb)) ∧ Below w.heap.size w w'))
    (KC : Box (∀ w, Calls Tryd.prog 25 #[.agg (cw 6 na), .agg (cw 6 nb)] w fun r w' => r = .returned (.int .i64 c) ∧ Below w.heap.size w w'))
    (KU1 : Box (∀ w, FAt w → Calls Tryd.prog 27 #[.int .u8 f, .agg #[.int .u64 x1, .int .u64 y1]] w fun r w' => r = .returned (.tuple #[.agg (pt c1 m1 X1 r1), .int .i64 0]) ∧ Below w.heap.size w w'))
    (KU2 : Box (∀ w, FAt w → Calls Tryd.prog 27 #[.int .u8 f, .agg #[.int .u64 x2, .int .u64 y2]] w fun r w' => r = .returned (.tuple #[.agg (pt c2 m2 X2 r2), .int .i64 0]) ∧ Below w.heap.size w w'))
    (KE1 : Box (∀ w, Calls Tryd.prog 29 #[.int .u8 c1] w fun r w' => r = .returned (.bool true) ∧ Below w.heap.size w w'))
    (KE2 : Box (∀ w, Calls Tryd.prog 29 #[.int .u8 c2] w fun r w' => r = .returned (.bool false) ∧ Below w.heap.size w w'))
    (hT : FAt w) : Calls Tryd.prog 16 #[.int .u8 f, .int .u8 m, .agg #[.int .u64 x1, .int .u64 y1], .agg #[.int .u64 x2, .int .u64 y2]] w fun r w' => r = .returned (.tuple #[.agg #[.int .u64 x1, .int .u64 y1], .int .u8 0, .int .i64 0]) ∧ Below w.heap.size w w' := by
  have FF := box hT
  clear hT
  have hat := cw_at 6
  have hz := cw6z
  have hff := cw6f
  have hs0 := st0
  have hcs : ∀ x, ((cw 6 x).size = 6) = True := fun x => eq_true (cw_size 6 x)
  have hp1 := rgf
  have hp5 : ∀ (c : Bool) (s : Nat) (x : Int) (r : Bool), ((rg c s x r).size = 9) = True := fun _ _ _ _ => eq_true rfl
  have Bw := ptf
  have Bx := ptz
  have By := st_p0
  have Bz : ∀ (c s : Nat) (x : Int) (r : Nat), ((pt c s x r).size = 14) = True := fun _ _ _ _ => eq_true rfl
  obtain ⟨Ag, Ah, AB, B0⟩ := opn3 w (Obj.cells #[.int .u64 x1, .int .u64 y1] 26) (Obj.cells #[.int .u64 x2, .int .u64 y2] 26) (Obj.cells #[.int .u64 0, .int .u64 0] 26)
  go_enter Tryd.func16, Tryd.ntmps16
  obtain ⟨AH, AI⟩ := cells2s Ag
  obtain ⟨AJ, AK⟩ := cells2s Ah
  have sS : Box (∀ W W1 : World, (Below w.heap.size w W ∧ W.heap[w.heap.size]? = some (.cells #[.int .u64 x1, .int .u64 y1] 26) ∧ W.heap[w.heap.size + 1]? = some (.cells #[.int .u64 x2, .int .u64 y2] 26) ∧ W.heap[w.heap.size + 1 + 1]? = some (.cells #[.int .u64 0, .int .u64 0] 26)) → Below W.heap.size W W1 → (Below w.heap.size w W1 ∧ W1.heap[w.heap.size]? = some (.cells #[.int .u64 x1, .int .u64 y1] 26) ∧ W1.heap[w.heap.size + 1]? = some (.cells #[.int .u64 x2, .int .u64 y2] 26) ∧ W1.heap[w.heap.size + 1 + 1]? = some (.cells #[.int .u64 0, .int .u64 0] 26))) := box (fun W W1 h b => ⟨btr h.1 b, heap_of b _ _ _ h.2.1, heap_of b _ _ _ h.2.2.1, heap_of b _ _ _ h.2.2.2⟩)
  have sC : Box (∀ W : World, (Below w.heap.size w W ∧ W.heap[w.heap.size]? = some (.cells #[.int .u64 x1, .int .u64 y1] 26) ∧ W.heap[w.heap.size + 1]? = some (.cells #[.int .u64 x2, .int .u64 y2] 26) ∧ W.heap[w.heap.size + 1 + 1]? = some (.cells #[.int .u64 0, .int .u64 0] 26)) → (Below w.heap.size w W ∧ W.heap[w.heap.size]? = some (.cells #[.int .u64 x1, .int .u64 y1] 26) ∧ W.heap[w.heap.size + 1]? = some (.cells #[.int .u64 x2, .int .u64 y2] 26) ∧ W.heap[w.heap.size + 1 + 1]? = some (.cells #[.int .u64 0, .int .u64 0] 26) ∧ W.cell? ⟨w.heap.size, 0, none⟩ = some (.int .u64 x1) ∧ W.cell? ⟨w.heap.size, 1, none⟩ = some (.int .u64 y1) ∧ W.cell? ⟨w.heap.size + 1, 0, none⟩ = some (.int .u64 x2) ∧ W.cell? ⟨w.heap.size + 1, 1, none⟩ = some (.int .u64 y2) ∧ W.cell? ⟨w.heap.size + 1 + 1, 0, none⟩ = some (.int .u64 0) ∧ W.cell? ⟨w.heap.size + 1 + 1, 1, none⟩ = some (.int .u64 0))) := box (fun W h => ⟨h.1, h.2.1, h.2.2.1, h.2.2.2, cell7 (h.2.1) 0 _ rfl, cell7 (h.2.1) 1 _ rfl, cell7 (h.2.2.1) 0 _ rfl, cell7 (h.2.2.1) 1 _ rfl, cell7 (h.2.2.2) 0 _ rfl, cell7 (h.2.2.2) 1 _ rfl⟩)
  have s0 : Below w.heap.size w ((((w.alloc (Obj.cells #[.int .u64 x1, .int .u64 y1] 26)).alloc (Obj.cells #[.int .u64 x2, .int .u64 y2] 26)).alloc (Obj.cells #[.int .u64 0, .int .u64 0] 26))).drew ∧ ((((w.alloc (Obj.cells #[.int .u64 x1, .int .u64 y1] 26)).alloc (Obj.cells #[.int .u64 x2, .int .u64 y2] 26)).alloc (Obj.cells #[.int .u64 0, .int .u64 0] 26))).drew.heap[w.heap.size]? = some (.cells #[.int .u64 x1, .int .u64 y1] 26) ∧ ((((w.alloc (Obj.cells #[.int .u64 x1, .int .u64 y1] 26)).alloc (Obj.cells #[.int .u64 x2, .int .u64 y2] 26)).alloc (Obj.cells #[.int .u64 0, .int .u64 0] 26))).drew.heap[w.heap.size + 1]? = some (.cells #[.int .u64 x2, .int .u64 y2] 26) ∧ ((((w.alloc (Obj.cells #[.int .u64 x1, .int .u64 y1] 26)).alloc (Obj.cells #[.int .u64 x2, .int .u64 y2] 26)).alloc (Obj.cells #[.int .u64 0, .int .u64 0] 26))).drew.heap[w.heap.size + 1 + 1]? = some (.cells #[.int .u64 0, .int .u64 0] 26) := ⟨B0.drew, Ag, Ah, AB⟩
  go_wp2_with fail
  go_region_held3 (fun W => Below w.heap.size w W ∧ W.heap[w.heap.size]? = some (.cells #[.int .u64 x1, .int .u64 y1] 26) ∧ W.heap[w.heap.size + 1]? = some (.cells #[.int .u64 x2, .int .u64 y2] 26) ∧ W.heap[w.heap.size + 1 + 1]? = some (.cells #[.int .u64 0, .int .u64 0] 26) ∧ W.cell? ⟨w.heap.size, 0, none⟩ = some (.int .u64 x1) ∧ W.cell? ⟨w.heap.size, 1, none⟩ = some (.int .u64 y1) ∧ W.cell? ⟨w.heap.size + 1, 0, none⟩ = some (.int .u64 x2) ∧ W.cell? ⟨w.heap.size + 1, 1, none⟩ = some (.int .u64 y2) ∧ W.cell? ⟨w.heap.size + 1 + 1, 0, none⟩ = some (.int .u64 0) ∧ W.cell? ⟨w.heap.size + 1 + 1, 1, none⟩ = some (.int .u64 0)) (first | exact sC.out _ s1 | exact sC.out _ s0)
    (first | (go_at_call_of 26 (Value.agg #[.int .u64 x1, .int .u64 y1]); (first | refine (KMa.out _ (fatB FF.out (And.left s1))).mono ?_ | refine (KMa.out _ (fatB FF.out (And.left s0))).mono ?_); rintro r wq ⟨rfl, bq⟩; have s1 := (by first | exact sS.out _ _ s1 bq | exact sS.out _ _ s0 bq); clear bq) | (go_at_call_of 26 (Value.agg #[.int .u64 x2, .int .u64 y2]); (first | refine (KMb.out _ (fatB FF.out (And.left s1))).mono ?_ | refine (KMb.out _ (fatB FF.out (And.left s0))).mono ?_); rintro r wq ⟨rfl, bq⟩; have s1 := (by first | exact sS.out _ _ s1 bq | exact sS.out _ _ s0 bq); clear bq) | (go_at_call 25; (first | refine (KC.out _).mono ?_ | refine (KC.out _).mono ?_); rintro r wq ⟨rfl, bq⟩; have s1 := (by first | exact sS.out _ _ s1 bq | exact sS.out _ _ s0 bq); clear bq) | fail)
  have B1 := (And.left s1)
  have Ai := s1.2.1
  have Aj := s1.2.2.1
  have AC := s1.2.2.2
  clear s0 s1 sS sC B0 Ag AH AI Ah AJ AK AB
  obtain ⟨AL, AM⟩ := cells2s Ai
  obtain ⟨AN, AO⟩ := cells2s Aj
  go_wp2_with fail
  refine (KU1.out _ (fatB FF.out B1)).mono ?_
  rintro r w2 ⟨rfl, b2⟩
  have B2 : Below w.heap.size w w2 := btr B1 b2
  have Aa := heap_of b2 _ _ _ Ai
  have Ab := heap_of b2 _ _ _ Aj
  have Ak := heap_of b2 _ _ _ AC
  clear b2 B1 Ai AL AM Aj AN AO AC
  obtain ⟨AP, AQ⟩ := cells2s Aa
  obtain ⟨AR, AS⟩ := cells2s Ab
  have S3 := box B2.size
  have AT := ltR Aa
  have AU := ltR Ab
  have AV := ltR Ak
  have Al := heap_alloc_last w2 (Obj.cells (pt c1 m1 X1 r1) 53)
  have B3 := btr B2 (bal w2 (Obj.cells (pt c1 m1 X1 r1) 53))
  have Am := heap_of (bal w2 (Obj.cells (pt c1 m1 X1 r1) 53)) _ _ _ Aa
  have An := heap_of (bal w2 (Obj.cells (pt c1 m1 X1 r1) 53)) _ _ _ Ab
  have AD := heap_of (bal w2 (Obj.cells (pt c1 m1 X1 r1) 53)) _ _ _ Ak
  clear B2 Aa AP AQ Ab AR AS Ak
  obtain ⟨AW, AX⟩ := cells2s Am
  obtain ⟨AY, AZ⟩ := cells2s An
  have A0 := (pt_cells Al).1
  go_wp2_with fail
  refine (KU2.out _ (fatB FF.out B3)).mono ?_
  rintro r w4 ⟨rfl, b4⟩
  have B4 : Below w.heap.size w w4 := btr B3 b4
  have Ac := heap_of b4 _ _ _ Am
  have Ad := heap_of b4 _ _ _ An
  have Ao := heap_of b4 _ _ _ AD
  have Ae := heap_of b4 _ _ _ Al
  clear b4 B3 Am AW AX An AY AZ AD Al A0
  obtain ⟨A1, A2⟩ := cells2s Ac
  obtain ⟨A3, A4⟩ := cells2s Ad
  have A5 := (pt_cells Ae).1
  have S5 := box B4.size
  have A6 := ltR Ac
  have A7 := ltR Ad
  have A8 := ltR Ao
  have A9 := ltR Ae
  have Ap := heap_alloc_last w4 (Obj.cells (pt c2 m2 X2 r2) 53)
  have B5 := btr B4 (bal w4 (Obj.cells (pt c2 m2 X2 r2) 53))
  have Aq := heap_of (bal w4 (Obj.cells (pt c2 m2 X2 r2) 53)) _ _ _ Ac
  have Ar := heap_of (bal w4 (Obj.cells (pt c2 m2 X2 r2) 53)) _ _ _ Ad
  have AE := heap_of (bal w4 (Obj.cells (pt c2 m2 X2 r2) 53)) _ _ _ Ao
  have As := heap_of (bal w4 (Obj.cells (pt c2 m2 X2 r2) 53)) _ _ _ Ae
  clear B4 Ac A1 A2 Ad A3 A4 Ao Ae A5
  obtain ⟨Ba, Bb⟩ := cells2s Aq
  obtain ⟨Bc, Bd⟩ := cells2s Ar
  have Be := (pt_cells As).1
  have Bf := (pt_cells Ap).1
  go_wp2_with fail
  refine (KE1.out _).mono ?_
  rintro r w6 ⟨rfl, b6⟩
  have B6 : Below w.heap.size w w6 := btr B5 b6
  have At := heap_of b6 _ _ _ Aq
  have Au := heap_of b6 _ _ _ Ar
  have AF := heap_of b6 _ _ _ AE
  have Av := heap_of b6 _ _ _ As
  have Aw := heap_of b6 _ _ _ Ap
  clear b6 B5 Aq Ba Bb Ar Bc Bd AE As Be Ap Bf
  obtain ⟨Bg, Bh⟩ := cells2s At
  obtain ⟨Bi, Bj⟩ := cells2s Au
  have Bk := (pt_cells Av).1
  have Bl := (pt_cells Aw).1
  go_wp2_with fail
  refine (KE2.out _).mono ?_
  rintro r w7 ⟨rfl, b7⟩
  have B7 : Below w.heap.size w w7 := btr B6 b7
  have Ax := heap_of b7 _ _ _ At
  have Ay := heap_of b7 _ _ _ Au
  have AG := heap_of b7 _ _ _ AF
  have Az := heap_of b7 _ _ _ Av
  have AA := heap_of b7 _ _ _ Aw
  clear b7 B6 At Bg Bh Au Bi Bj AF Av Bk Aw Bl
  obtain ⟨Bm, Bn⟩ := cells2s Ax
  obtain ⟨Bo, Bp⟩ := cells2s Ay
  have Bq := (pt_cells Az).1
  have Br := (pt_cells AA).1
  go_wp2_with fail
  refine (KE1.out _).mono ?_
  rintro r w8 ⟨rfl, b8⟩
  have B8 : Below w.heap.size w w8 := btr B7 b8
  have Bs := heap_of b8 _ _ _ Ax
  have Bt := heap_of b8 _ _ _ Ay
  have Af := heap_of b8 _ _ _ AG
  have Bu := heap_of b8 _ _ _ Az
  have Bv := heap_of b8 _ _ _ AA
  clear b8 B7 Ax Bm Bn Ay Bo Bp AG Az Bq AA Br
  obtain ⟨BA, BB⟩ := cells2s Bs
  obtain ⟨BC, BD⟩ := cells2s Bt
  have BE := (pt_cells Bu).1
  have BF := (pt_cells Bv).1
  obtain ⟨BG, BH⟩ := cells2s Af
  have q0 := fz (k := 0) Af
  have q1 := fz (k := 1) Af
  obtain ⟨E0, E1⟩ := set2_cells Af (.int .u64 x1) (.int .u64 y1)
  go_wp2
  exact bodyPost_ret (v := .tuple #[.agg #[.int .u64 x1, .int .u64 y1], .int .u8 0, .int .i64 0]) (by simp [results, Tryd.results16, go_sem, E0, E1]) rfl ⟨rfl, set2_below B8 (by first | exact Nat.le_refl _ | omega | (have := S3.out; have := AT.out; have := AU.out; have := AV.out; have := S5.out; have := A6.out; have := A7.out; have := A8.out; have := A9.out; omega)) _ _⟩
theorem ad_plus_nfi (f m : Int) (x1 y1 x2 y2 u v na nb : Nat) (c : Int) (c1 m1 : Nat) (X1 : Int) (r1 c2 m2 : Nat) (X2 : Int) (r2 : Nat) (tn : Bool) (ts : Nat) (tx fl : Int) (w : World) (hc : decide (c < 0) = false) (h18 : ((c1 : Int) == 8) = false) (h28 : ((c2 : Int) == 8) = false) (h19 : ((c1 : Int) == 9) = false) 
    (KMa : Box (∀ w, FAt w → Calls Tryd.prog 26 #[.int .u8 f, .agg #[.int .u64 x1, .int .u64 y1]] w fun r w' => r = .returned (.agg (cw 6 na)) ∧ Below w.heap.size w w'))
    (KMb : Box (∀ w, FAt w → Calls Tryd.prog 26 #[.int .u8 f, .agg #[.int .u64 x2, .int .u64 y2]] w fun r w' => r = .returned (.agg (cw 6 nb)) ∧ Below w.heap.size w w'))
    (KC : Box (∀ w, Calls Tryd.prog 25 #[.agg (cw 6 na), .agg (cw 6 nb)] w fun r w' => r = .returned (.int .i64 c) ∧ Below w.heap.size w w'))
    (KU1 : Box (∀ w, FAt w → Calls Tryd.prog 27 #[.int .u8 f, .agg #[.int .u64 x1, .int .u64 y1]] w fun r w' => r = .returned (.tuple #[.agg (pt c1 m1 X1 r1), .int .i64 0]) ∧ Below w.heap.size w w'))
    (KU2 : Box (∀ w, FAt w → Calls Tryd.prog 27 #[.int .u8 f, .agg #[.int .u64 x2, .int .u64 y2]] w fun r w' => r = .returned (.tuple #[.agg (pt c2 m2 X2 r2), .int .i64 0]) ∧ Below w.heap.size w w'))
    (KE1 : Box (∀ w, Calls Tryd.prog 29 #[.int .u8 c1] w fun r w' => r = .returned (.bool false) ∧ Below w.heap.size w w'))
    (KT : Box (∀ w, Calls Tryd.prog 30 #[.int .u8 m, .agg (pt c1 m1 X1 r1), .agg (pt c2 m2 X2 r2)] w fun r w' => r = .returned (.agg (rg tn ts tx false)) ∧ Below w.heap.size w w'))
    (KP : Box (∀ w, FAt w → Calls Tryd.prog 24 #[.int .u8 f, .int .u8 m, .agg (rg tn ts tx false)] w fun r w' => r = .returned (.tuple #[.agg #[.int .u64 u, .int .u64 v], .int .u8 fl, .int .i64 0]) ∧ Below w.heap.size w w'))
    (hT : FAt w) : Calls Tryd.prog 16 #[.int .u8 f, .int .u8 m, .agg #[.int .u64 x1, .int .u64 y1], .agg #[.int .u64 x2, .int .u64 y2]] w fun r w' => r = .returned (.tuple #[.agg #[.int .u64 u, .int .u64 v], .int .u8 fl, .int .i64 0]) ∧ Below w.heap.size w w' := by
  have FF := box hT
  clear hT
  have hat := cw_at 6
  have hz := cw6z
  have hff := cw6f
  have hs0 := st0
  have hcs : ∀ x, ((cw 6 x).size = 6) = True := fun x => eq_true (cw_size 6 x)
  have hp1 := rgf
  have hp5 : ∀ (c : Bool) (s : Nat) (x : Int) (r : Bool), ((rg c s x r).size = 9) = True := fun _ _ _ _ => eq_true rfl
  have Cz := ptf
  have CA := ptz
  have CB := st_p0
  have CC : ∀ (c s : Nat) (x : Int) (r : Nat), ((pt c s x r).size = 14) = True := fun _ _ _ _ => eq_true rfl
  obtain ⟨Ai, Aj, AD, B0⟩ := opn3 w (Obj.cells #[.int .u64 x1, .int .u64 y1] 26) (Obj.cells #[.int .u64 x2, .int .u64 y2] 26) (Obj.cells #[.int .u64 0, .int .u64 0] 26)
  go_enter Tryd.func16, Tryd.ntmps16
  obtain ⟨AO, AP⟩ := cells2s Ai
  obtain ⟨AQ, AR⟩ := cells2s Aj
  have sS : Box (∀ W W1 : World, (Below w.heap.size w W ∧ W.heap[w.heap.size]? = some (.cells #[.int .u64 x1, .int .u64 y1] 26) ∧ W.heap[w.heap.size + 1]? = some (.cells #[.int .u64 x2, .int .u64 y2] 26) ∧ W.heap[w.heap.size + 1 + 1]? = some (.cells #[.int .u64 0, .int .u64 0] 26)) → Below W.heap.size W W1 → (Below w.heap.size w W1 ∧ W1.heap[w.heap.size]? = some (.cells #[.int .u64 x1, .int .u64 y1] 26) ∧ W1.heap[w.heap.size + 1]? = some (.cells #[.int .u64 x2, .int .u64 y2] 26) ∧ W1.heap[w.heap.size + 1 + 1]? = some (.cells #[.int .u64 0, .int .u64 0] 26))) := box (fun W W1 h b => ⟨btr h.1 b, heap_of b _ _ _ h.2.1, heap_of b _ _ _ h.2.2.1, heap_of b _ _ _ h.2.2.2⟩)
  have sC : Box (∀ W : World, (Below w.heap.size w W ∧ W.heap[w.heap.size]? = some (.cells #[.int .u64 x1, .int .u64 y1] 26) ∧ W.heap[w.heap.size + 1]? = some (.cells #[.int .u64 x2, .int .u64 y2] 26) ∧ W.heap[w.heap.size + 1 + 1]? = some (.cells #[.int .u64 0, .int .u64 0] 26)) → (Below w.heap.size w W ∧ W.heap[w.heap.size]? = some (.cells #[.int .u64 x1, .int .u64 y1] 26) ∧ W.heap[w.heap.size + 1]? = some (.cells #[.int .u64 x2, .int .u64 y2] 26) ∧ W.heap[w.heap.size + 1 + 1]? = some (.cells #[.int .u64 0, .int .u64 0] 26) ∧ W.cell? ⟨w.heap.size, 0, none⟩ = some (.int .u64 x1) ∧ W.cell? ⟨w.heap.size, 1, none⟩ = some (.int .u64 y1) ∧ W.cell? ⟨w.heap.size + 1, 0, none⟩ = some (.int .u64 x2) ∧ W.cell? ⟨w.heap.size + 1, 1, none⟩ = some (.int .u64 y2) ∧ W.cell? ⟨w.heap.size + 1 + 1, 0, none⟩ = some (.int .u64 0) ∧ W.cell? ⟨w.heap.size + 1 + 1, 1, none⟩ = some (.int .u64 0))) := box (fun W h => ⟨h.1, h.2.1, h.2.2.1, h.2.2.2, cell7 (h.2.1) 0 _ rfl, cell7 (h.2.1) 1 _ rfl, cell7 (h.2.2.1) 0 _ rfl, cell7 (h.2.2.1) 1 _ rfl, cell7 (h.2.2.2) 0 _ rfl, cell7 (h.2.2.2) 1 _ rfl⟩)
  have s0 : Below w.heap.size w ((((w.alloc (Obj.cells #[.int .u64 x1, .int .u64 y1] 26)).alloc (Obj.cells #[.int .u64 x2, .int .u64 y2] 26)).alloc (Obj.cells #[.int .u64 0, .int .u64 0] 26))).drew ∧ ((((w.alloc (Obj.cells #[.int .u64 x1, .int .u64 y1] 26)).alloc (Obj.cells #[.int .u64 x2, .int .u64 y2] 26)).alloc (Obj.cells #[.int .u64 0, .int .u64 0] 26))).drew.heap[w.heap.size]? = some (.cells #[.int .u64 x1, .int .u64 y1] 26) ∧ ((((w.alloc (Obj.cells #[.int .u64 x1, .int .u64 y1] 26)).alloc (Obj.cells #[.int .u64 x2, .int .u64 y2] 26)).alloc (Obj.cells #[.int .u64 0, .int .u64 0] 26))).drew.heap[w.heap.size + 1]? = some (.cells #[.int .u64 x2, .int .u64 y2] 26) ∧ ((((w.alloc (Obj.cells #[.int .u64 x1, .int .u64 y1] 26)).alloc (Obj.cells #[.int .u64 x2, .int .u64 y2] 26)).alloc (Obj.cells #[.int .u64 0, .int .u64 0] 26))).drew.heap[w.heap.size + 1 + 1]? = some (.cells #[.int .u64 0, .int .u64 0] 26) := ⟨B0.drew, Ai, Aj, AD⟩
  go_wp2_with fail
  go_region_held3 (fun W => Below w.heap.size w W ∧ W.heap[w.heap.size]? = some (.cells #[.int .u64 x1, .int .u64 y1] 26) ∧ W.heap[w.heap.size + 1]? = some (.cells #[.int .u64 x2, .int .u64 y2] 26) ∧ W.heap[w.heap.size + 1 + 1]? = some (.cells #[.int .u64 0, .int .u64 0] 26) ∧ W.cell? ⟨w.heap.size, 0, none⟩ = some (.int .u64 x1) ∧ W.cell? ⟨w.heap.size, 1, none⟩ = some (.int .u64 y1) ∧ W.cell? ⟨w.heap.size + 1, 0, none⟩ = some (.int .u64 x2) ∧ W.cell? ⟨w.heap.size + 1, 1, none⟩ = some (.int .u64 y2) ∧ W.cell? ⟨w.heap.size + 1 + 1, 0, none⟩ = some (.int .u64 0) ∧ W.cell? ⟨w.heap.size + 1 + 1, 1, none⟩ = some (.int .u64 0)) (first | exact sC.out _ s1 | exact sC.out _ s0)
    (first | (go_at_call_of 26 (Value.agg #[.int .u64 x1, .int .u64 y1]); (first | refine (KMa.out _ (fatB FF.out (And.left s1))).mono ?_ | refine (KMa.out _ (fatB FF.out (And.left s0))).mono ?_); rintro r wq ⟨rfl, bq⟩; have s1 := (by first | exact sS.out _ _ s1 bq | exact sS.out _ _ s0 bq); clear bq) | (go_at_call_of 26 (Value.agg #[.int .u64 x2, .int .u64 y2]); (first | refine (KMb.out _ (fatB FF.out (And.left s1))).mono ?_ | refine (KMb.out _ (fatB FF.out (And.left s0))).mono ?_); rintro r wq ⟨rfl, bq⟩; have s1 := (by first | exact sS.out _ _ s1 bq | exact sS.out _ _ s0 bq); clear bq) | (go_at_call 25; (first | refine (KC.out _).mono ?_ | refine (KC.out _).mono ?_); rintro r wq ⟨rfl, bq⟩; have s1 := (by first | exact sS.out _ _ s1 bq | exact sS.out _ _ s0 bq); clear bq) | fail)
  have B1 := (And.left s1)
  have Ak := s1.2.1
  have Al := s1.2.2.1
  have AE := s1.2.2.2
  clear s0 s1 sS sC B0 Ai AO AP Aj AQ AR AD
  obtain ⟨AS, AT⟩ := cells2s Ak
  obtain ⟨AU, AV⟩ := cells2s Al
  go_wp2_with fail
  refine (KU1.out _ (fatB FF.out B1)).mono ?_
  rintro r w2 ⟨rfl, b2⟩
  have B2 : Below w.heap.size w w2 := btr B1 b2
  have Aa := heap_of b2 _ _ _ Ak
  have Ab := heap_of b2 _ _ _ Al
  have Am := heap_of b2 _ _ _ AE
  clear b2 B1 Ak AS AT Al AU AV AE
  obtain ⟨AW, AX⟩ := cells2s Aa
  obtain ⟨AY, AZ⟩ := cells2s Ab
  have S3 := box B2.size
  have A0 := ltR Aa
  have A1 := ltR Ab
  have A2 := ltR Am
  have An := heap_alloc_last w2 (Obj.cells (pt c1 m1 X1 r1) 53)
  have B3 := btr B2 (bal w2 (Obj.cells (pt c1 m1 X1 r1) 53))
  have Ao := heap_of (bal w2 (Obj.cells (pt c1 m1 X1 r1) 53)) _ _ _ Aa
  have Ap := heap_of (bal w2 (Obj.cells (pt c1 m1 X1 r1) 53)) _ _ _ Ab
  have AF := heap_of (bal w2 (Obj.cells (pt c1 m1 X1 r1) 53)) _ _ _ Am
  clear B2 Aa AW AX Ab AY AZ Am
  obtain ⟨A3, A4⟩ := cells2s Ao
  obtain ⟨A5, A6⟩ := cells2s Ap
  have A7 := (pt_cells An).1
  go_wp2_with fail
  refine (KU2.out _ (fatB FF.out B3)).mono ?_
  rintro r w4 ⟨rfl, b4⟩
  have B4 : Below w.heap.size w w4 := btr B3 b4
  have Ac := heap_of b4 _ _ _ Ao
  have Ad := heap_of b4 _ _ _ Ap
  have Aq := heap_of b4 _ _ _ AF
  have Ae := heap_of b4 _ _ _ An
  clear b4 B3 Ao A3 A4 Ap A5 A6 AF An A7
  obtain ⟨A8, A9⟩ := cells2s Ac
  obtain ⟨Ba, Bb⟩ := cells2s Ad
  have Bc := (pt_cells Ae).1
  have S5 := box B4.size
  have Bd := ltR Ac
  have Be := ltR Ad
  have Bf := ltR Aq
  have Bg := ltR Ae
  have Ar := heap_alloc_last w4 (Obj.cells (pt c2 m2 X2 r2) 53)
  have B5 := btr B4 (bal w4 (Obj.cells (pt c2 m2 X2 r2) 53))
  have As := heap_of (bal w4 (Obj.cells (pt c2 m2 X2 r2) 53)) _ _ _ Ac
  have At := heap_of (bal w4 (Obj.cells (pt c2 m2 X2 r2) 53)) _ _ _ Ad
  have AG := heap_of (bal w4 (Obj.cells (pt c2 m2 X2 r2) 53)) _ _ _ Aq
  have Au := heap_of (bal w4 (Obj.cells (pt c2 m2 X2 r2) 53)) _ _ _ Ae
  clear B4 Ac A8 A9 Ad Ba Bb Aq Ae Bc
  obtain ⟨Bh, Bi⟩ := cells2s As
  obtain ⟨Bj, Bk⟩ := cells2s At
  have Bl := (pt_cells Au).1
  have Bm := (pt_cells Ar).1
  go_wp2_with fail
  refine (KE1.out _).mono ?_
  rintro r w6 ⟨rfl, b6⟩
  have B6 : Below w.heap.size w w6 := btr B5 b6
  have Av := heap_of b6 _ _ _ As
  have Aw := heap_of b6 _ _ _ At
  have AH := heap_of b6 _ _ _ AG
  have Ax := heap_of b6 _ _ _ Au
  have Ay := heap_of b6 _ _ _ Ar
  clear b6 B5 As Bh Bi At Bj Bk AG Au Bl Ar Bm
  obtain ⟨Bn, Bo⟩ := cells2s Av
  obtain ⟨Bp, Bq⟩ := cells2s Aw
  have Br := (pt_cells Ax).1
  have Bs := (pt_cells Ay).1
  go_wp2_with fail
  refine (KE1.out _).mono ?_
  rintro r w7 ⟨rfl, b7⟩
  have B7 : Below w.heap.size w w7 := btr B6 b7
  have Az := heap_of b7 _ _ _ Av
  have AA := heap_of b7 _ _ _ Aw
  have AI := heap_of b7 _ _ _ AH
  have Af := heap_of b7 _ _ _ Ax
  have Ag := heap_of b7 _ _ _ Ay
  clear b7 B6 Av Bn Bo Aw Bp Bq AH Ax Br Ay Bs
  obtain ⟨Bt, Bu⟩ := cells2s Az
  obtain ⟨Bv, Bw⟩ := cells2s AA
  have AJ := (pt_cells Af).1
  have AK := (pt_cells Ag).1
  clear Bt Bu
  clear Bv Bw
  obtain ⟨AJ, Bx, By, Bz, BA, BB, BC, BD, BE, BF, BG, BH, BI, BJ⟩ := pt_cells Af
  obtain ⟨AK, BK, BL, BM, BN, BO, BP, BQ, BR, BS, BT, BU, BV, BW⟩ := pt_cells Ag
  go_wp2_with fail
  refine (KT.out _).mono ?_
  rintro r w8 ⟨rfl, b8⟩
  have B8 : Below w.heap.size w w8 := btr B7 b8
  have AL := heap_of b8 _ _ _ Az
  have AM := heap_of b8 _ _ _ AA
  have AN := heap_of b8 _ _ _ AI
  have AB := heap_of b8 _ _ _ Af
  have AC := heap_of b8 _ _ _ Ag
  clear b8 B7 Az AA AI Af AJ Bx By Bz BA BB BC BD BE BF BG BH BI BJ Ag AK BK BL BM BN BO BP BQ BR BS BT BU BV BW
  obtain ⟨BX, BY, BZ, Ca, Cb, Cc, Cd, Ce, Cf, Cg, Ch, Ci, Cj, Ck⟩ := pt_cells AB
  obtain ⟨Cl, Cm, Cn, Co, Cp, Cq, Cr, Cs, Ct, Cu, Cv, Cw, Cx, Cy⟩ := pt_cells AC
  clear BX BY BZ Ca Cb Cc Cd Ce Cf Cg Ch Ci Cj Ck
  clear Cl Cm Cn Co Cp Cq Cr Cs Ct Cu Cv Cw Cx Cy
  go_wp2_with fail
  refine (KP.out _ (fatB FF.out B8)).mono ?_
  rintro r w9 ⟨rfl, b9⟩
  have B9 : Below w.heap.size w w9 := btr B8 b9
  have CD := heap_of b9 _ _ _ AL
  have CE := heap_of b9 _ _ _ AM
  have Ah := heap_of b9 _ _ _ AN
  have CF := heap_of b9 _ _ _ AB
  have CG := heap_of b9 _ _ _ AC
  clear b9 B8 AL AM AN AB AC
  obtain ⟨CH, CI⟩ := cells2s Ah
  have q0 := fz (k := 0) Ah
  have q1 := fz (k := 1) Ah
  obtain ⟨E0, E1⟩ := set2_cells Ah (.int .u64 u) (.int .u64 v)
  go_wp2
  exact bodyPost_ret (v := .tuple #[.agg #[.int .u64 u, .int .u64 v], .int .u8 fl, .int .i64 0]) (by simp [results, Tryd.results16, go_sem, E0, E1]) rfl ⟨rfl, set2_below B9 (by first | exact Nat.le_refl _ | omega | (have := S3.out; have := A0.out; have := A1.out; have := A2.out; have := S5.out; have := Bd.out; have := Be.out; have := Bf.out; have := Bg.out; omega)) _ _⟩
theorem ad_plus_wsx (f m : Int) (x1 y1 x2 y2 u v na nb : Nat) (c : Int) (c1 m1 : Nat) (X1 : Int) (r1 c2 m2 : Nat) (X2 : Int) (r2 : Nat) (tn : Bool) (ts : Nat) (tx fl : Int) (w : World) (hc : decide (c < 0) = true) (h18 : ((c1 : Int) == 8) = true)
    (KMa : Box (∀ w, FAt w → Calls Tryd.prog 26 #[.int .u8 f, .agg #[.int .u64 x1, .int .u64 y1]] w fun r w' => r = .returned (.agg (cw 6 na)) ∧ Below w.heap.size w w'))
    (KMb : Box (∀ w, FAt w → Calls Tryd.prog 26 #[.int .u8 f, .agg #[.int .u64 x2, .int .u64 y2]] w fun r w' => r = .returned (.agg (cw 6 nb)) ∧ Below w.heap.size w w'))
    (KC : Box (∀ w, Calls Tryd.prog 25 #[.agg (cw 6 na), .agg (cw 6 nb)] w fun r w' => r = .returned (.int .i64 c) ∧ Below w.heap.size w w'))
    (KU1 : Box (∀ w, FAt w → Calls Tryd.prog 27 #[.int .u8 f, .agg #[.int .u64 x2, .int .u64 y2]] w fun r w' => r = .returned (.tuple #[.agg (pt c1 m1 X1 r1), .int .i64 0]) ∧ Below w.heap.size w w'))
    (KU2 : Box (∀ w, FAt w → Calls Tryd.prog 27 #[.int .u8 f, .agg #[.int .u64 x1, .int .u64 y1]] w fun r w' => r = .returned (.tuple #[.agg (pt c2 m2 X2 r2), .int .i64 0]) ∧ Below w.heap.size w w'))
    (KN : Box (∀ w, FAt w → Calls Tryd.prog 28 #[.int .u8 f] w fun r w' => r = .returned (.agg #[.int .u64 u, .int .u64 v]) ∧ Below w.heap.size w w'))
    (hT : FAt w) : Calls Tryd.prog 16 #[.int .u8 f, .int .u8 m, .agg #[.int .u64 x1, .int .u64 y1], .agg #[.int .u64 x2, .int .u64 y2]] w fun r w' => r = .returned (.tuple #[.agg #[.int .u64 u, .int .u64 v], .int .u8 16, .int .i64 0]) ∧ Below w.heap.size w w' := by
  have FF := box hT
  clear hT
  have hat := cw_at 6
  have hz := cw6z
  have hff := cw6f
  have hs0 := st0
  have hcs : ∀ x, ((cw 6 x).size = 6) = True := fun x => eq_true (cw_size 6 x)
  have hp1 := rgf
  have hp5 : ∀ (c : Bool) (s : Nat) (x : Int) (r : Bool), ((rg c s x r).size = 9) = True := fun _ _ _ _ => eq_true rfl
  have Bg := ptf
  have Bh := ptz
  have Bi := st_p0
  have Bj : ∀ (c s : Nat) (x : Int) (r : Nat), ((pt c s x r).size = 14) = True := fun _ _ _ _ => eq_true rfl
  obtain ⟨Ai, Aj, Av, B0⟩ := opn3 w (Obj.cells #[.int .u64 x1, .int .u64 y1] 26) (Obj.cells #[.int .u64 x2, .int .u64 y2] 26) (Obj.cells #[.int .u64 0, .int .u64 0] 26)
  go_enter Tryd.func16, Tryd.ntmps16
  obtain ⟨AB, AC⟩ := cells2s Ai
  obtain ⟨AD, AE⟩ := cells2s Aj
  have sS : Box (∀ W W1 : World, (Below w.heap.size w W ∧ W.heap[w.heap.size]? = some (.cells #[.int .u64 x1, .int .u64 y1] 26) ∧ W.heap[w.heap.size + 1]? = some (.cells #[.int .u64 x2, .int .u64 y2] 26) ∧ W.heap[w.heap.size + 1 + 1]? = some (.cells #[.int .u64 0, .int .u64 0] 26)) → Below W.heap.size W W1 → (Below w.heap.size w W1 ∧ W1.heap[w.heap.size]? = some (.cells #[.int .u64 x1, .int .u64 y1] 26) ∧ W1.heap[w.heap.size + 1]? = some (.cells #[.int .u64 x2, .int .u64 y2] 26) ∧ W1.heap[w.heap.size + 1 + 1]? = some (.cells #[.int .u64 0, .int .u64 0] 26))) := box (fun W W1 h b => ⟨btr h.1 b, heap_of b _ _ _ h.2.1, heap_of b _ _ _ h.2.2.1, heap_of b _ _ _ h.2.2.2⟩)
  have sC : Box (∀ W : World, (Below w.heap.size w W ∧ W.heap[w.heap.size]? = some (.cells #[.int .u64 x1, .int .u64 y1] 26) ∧ W.heap[w.heap.size + 1]? = some (.cells #[.int .u64 x2, .int .u64 y2] 26) ∧ W.heap[w.heap.size + 1 + 1]? = some (.cells #[.int .u64 0, .int .u64 0] 26)) → (Below w.heap.size w W ∧ W.heap[w.heap.size]? = some (.cells #[.int .u64 x1, .int .u64 y1] 26) ∧ W.heap[w.heap.size + 1]? = some (.cells #[.int .u64 x2, .int .u64 y2] 26) ∧ W.heap[w.heap.size + 1 + 1]? = some (.cells #[.int .u64 0, .int .u64 0] 26) ∧ W.cell? ⟨w.heap.size, 0, none⟩ = some (.int .u64 x1) ∧ W.cell? ⟨w.heap.size, 1, none⟩ = some (.int .u64 y1) ∧ W.cell? ⟨w.heap.size + 1, 0, none⟩ = some (.int .u64 x2) ∧ W.cell? ⟨w.heap.size + 1, 1, none⟩ = some (.int .u64 y2) ∧ W.cell? ⟨w.heap.size + 1 + 1, 0, none⟩ = some (.int .u64 0) ∧ W.cell? ⟨w.heap.size + 1 + 1, 1, none⟩ = some (.int .u64 0))) := box (fun W h => ⟨h.1, h.2.1, h.2.2.1, h.2.2.2, cell7 (h.2.1) 0 _ rfl, cell7 (h.2.1) 1 _ rfl, cell7 (h.2.2.1) 0 _ rfl, cell7 (h.2.2.1) 1 _ rfl, cell7 (h.2.2.2) 0 _ rfl, cell7 (h.2.2.2) 1 _ rfl⟩)
  have s0 : Below w.heap.size w ((((w.alloc (Obj.cells #[.int .u64 x1, .int .u64 y1] 26)).alloc (Obj.cells #[.int .u64 x2, .int .u64 y2] 26)).alloc (Obj.cells #[.int .u64 0, .int .u64 0] 26))).drew ∧ ((((w.alloc (Obj.cells #[.int .u64 x1, .int .u64 y1] 26)).alloc (Obj.cells #[.int .u64 x2, .int .u64 y2] 26)).alloc (Obj.cells #[.int .u64 0, .int .u64 0] 26))).drew.heap[w.heap.size]? = some (.cells #[.int .u64 x1, .int .u64 y1] 26) ∧ ((((w.alloc (Obj.cells #[.int .u64 x1, .int .u64 y1] 26)).alloc (Obj.cells #[.int .u64 x2, .int .u64 y2] 26)).alloc (Obj.cells #[.int .u64 0, .int .u64 0] 26))).drew.heap[w.heap.size + 1]? = some (.cells #[.int .u64 x2, .int .u64 y2] 26) ∧ ((((w.alloc (Obj.cells #[.int .u64 x1, .int .u64 y1] 26)).alloc (Obj.cells #[.int .u64 x2, .int .u64 y2] 26)).alloc (Obj.cells #[.int .u64 0, .int .u64 0] 26))).drew.heap[w.heap.size + 1 + 1]? = some (.cells #[.int .u64 0, .int .u64 0] 26) := ⟨B0.drew, Ai, Aj, Av⟩
  go_wp2_with fail
  go_region_held3 (fun W => Below w.heap.size w W ∧ W.heap[w.heap.size]? = some (.cells #[.int .u64 x1, .int .u64 y1] 26) ∧ W.heap[w.heap.size + 1]? = some (.cells #[.int .u64 x2, .int .u64 y2] 26) ∧ W.heap[w.heap.size + 1 + 1]? = some (.cells #[.int .u64 0, .int .u64 0] 26) ∧ W.cell? ⟨w.heap.size, 0, none⟩ = some (.int .u64 x1) ∧ W.cell? ⟨w.heap.size, 1, none⟩ = some (.int .u64 y1) ∧ W.cell? ⟨w.heap.size + 1, 0, none⟩ = some (.int .u64 x2) ∧ W.cell? ⟨w.heap.size + 1, 1, none⟩ = some (.int .u64 y2) ∧ W.cell? ⟨w.heap.size + 1 + 1, 0, none⟩ = some (.int .u64 0) ∧ W.cell? ⟨w.heap.size + 1 + 1, 1, none⟩ = some (.int .u64 0)) (first | exact sC.out _ s1 | exact sC.out _ s0)
    (first | (go_at_call_of 26 (Value.agg #[.int .u64 x1, .int .u64 y1]); (first | refine (KMa.out _ (fatB FF.out (And.left s1))).mono ?_ | refine (KMa.out _ (fatB FF.out (And.left s0))).mono ?_); rintro r wq ⟨rfl, bq⟩; have s1 := (by first | exact sS.out _ _ s1 bq | exact sS.out _ _ s0 bq); clear bq) | (go_at_call_of 26 (Value.agg #[.int .u64 x2, .int .u64 y2]); (first | refine (KMb.out _ (fatB FF.out (And.left s1))).mono ?_ | refine (KMb.out _ (fatB FF.out (And.left s0))).mono ?_); rintro r wq ⟨rfl, bq⟩; have s1 := (by first | exact sS.out _ _ s1 bq | exact sS.out _ _ s0 bq); clear bq) | (go_at_call 25; (first | refine (KC.out _).mono ?_ | refine (KC.out _).mono ?_); rintro r wq ⟨rfl, bq⟩; have s1 := (by first | exact sS.out _ _ s1 bq | exact sS.out _ _ s0 bq); clear bq) | fail)
  have B1 := (And.left s1)
  have Aa := s1.2.1
  have Aw := s1.2.2.1
  have AF := s1.2.2.2
  clear s0 s1 sS sC B0 Ai AB AC Aj AD AE Av
  obtain ⟨Bk, Bl⟩ := cells2s Aa
  obtain ⟨Bm, Bn⟩ := cells2s Aw
  have q0_2 := fz (k := 0) Aa
  have q1_2 := fz (k := 1) Aa
  have B2 := set2_below B1 (show w.heap.size ≤ w.heap.size by first | exact Nat.le_refl _ | omega | (skip; omega)) (.int .u64 x2) (.int .u64 y2)
  have Ax : ((wq.setCell ⟨w.heap.size, 0, none⟩ (.int .u64 x2)).setCell ⟨w.heap.size, 1, none⟩ (.int .u64 y2)).heap[w.heap.size]? = some (.cells #[.int .u64 x2, .int .u64 y2] 26) := set2_row Aa _ _
  have Ab : ((wq.setCell ⟨w.heap.size, 0, none⟩ (.int .u64 x2)).setCell ⟨w.heap.size, 1, none⟩ (.int .u64 y2)).heap[w.heap.size + 1]? = some (.cells #[.int .u64 x2, .int .u64 y2] 26) := (setCell_other (by first | omega | (skip; omega))).trans ((setCell_other (by first | omega | (skip; omega))).trans Aw)
  have AG : ((wq.setCell ⟨w.heap.size, 0, none⟩ (.int .u64 x2)).setCell ⟨w.heap.size, 1, none⟩ (.int .u64 y2)).heap[w.heap.size + 1 + 1]? = some (.cells #[.int .u64 0, .int .u64 0] 26) := (setCell_other (by first | omega | (skip; omega))).trans ((setCell_other (by first | omega | (skip; omega))).trans AF)
  obtain ⟨Bo, Bp⟩ := cells2s Ax
  obtain ⟨Bq, Br⟩ := cells2s Ab
  have q0_3 := fz (k := 0) Ab
  have q1_3 := fz (k := 1) Ab
  have B3 := set2_below B2 (show w.heap.size ≤ w.heap.size + 1 by first | exact Nat.le_refl _ | omega | (skip; omega)) (.int .u64 x1) (.int .u64 y1)
  have Ak : ((((wq.setCell ⟨w.heap.size, 0, none⟩ (.int .u64 x2)).setCell ⟨w.heap.size, 1, none⟩ (.int .u64 y2)).setCell ⟨w.heap.size + 1, 0, none⟩ (.int .u64 x1)).setCell ⟨w.heap.size + 1, 1, none⟩ (.int .u64 y1)).heap[w.heap.size + 1]? = some (.cells #[.int .u64 x1, .int .u64 y1] 26) := set2_row Ab _ _
  have Al : ((((wq.setCell ⟨w.heap.size, 0, none⟩ (.int .u64 x2)).setCell ⟨w.heap.size, 1, none⟩ (.int .u64 y2)).setCell ⟨w.heap.size + 1, 0, none⟩ (.int .u64 x1)).setCell ⟨w.heap.size + 1, 1, none⟩ (.int .u64 y1)).heap[w.heap.size]? = some (.cells #[.int .u64 x2, .int .u64 y2] 26) := (setCell_other (by first | omega | (skip; omega))).trans ((setCell_other (by first | omega | (skip; omega))).trans Ax)
  have Ay : ((((wq.setCell ⟨w.heap.size, 0, none⟩ (.int .u64 x2)).setCell ⟨w.heap.size, 1, none⟩ (.int .u64 y2)).setCell ⟨w.heap.size + 1, 0, none⟩ (.int .u64 x1)).setCell ⟨w.heap.size + 1, 1, none⟩ (.int .u64 y1)).heap[w.heap.size + 1 + 1]? = some (.cells #[.int .u64 0, .int .u64 0] 26) := (setCell_other (by first | omega | (skip; omega))).trans ((setCell_other (by first | omega | (skip; omega))).trans AG)
  obtain ⟨AH, AI⟩ := cells2s Al
  obtain ⟨AJ, AK⟩ := cells2s Ak
  go_wp2_with fail
  refine (KU1.out _ (fatB FF.out B3)).mono ?_
  rintro r w4 ⟨rfl, b4⟩
  have B4 : Below w.heap.size w w4 := btr B3 b4
  have Ac := heap_of b4 _ _ _ Al
  have Ad := heap_of b4 _ _ _ Ak
  have Am := heap_of b4 _ _ _ Ay
  clear b4 B3 Al AH AI Ak AJ AK Ay
  obtain ⟨AL, AM⟩ := cells2s Ac
  obtain ⟨AN, AO⟩ := cells2s Ad
  have S5 := box B4.size
  have AP := ltR Ac
  have AQ := ltR Ad
  have AR := ltR Am
  have An := heap_alloc_last w4 (Obj.cells (pt c1 m1 X1 r1) 53)
  have B5 := btr B4 (bal w4 (Obj.cells (pt c1 m1 X1 r1) 53))
  have Ao := heap_of (bal w4 (Obj.cells (pt c1 m1 X1 r1) 53)) _ _ _ Ac
  have Ap := heap_of (bal w4 (Obj.cells (pt c1 m1 X1 r1) 53)) _ _ _ Ad
  have Az := heap_of (bal w4 (Obj.cells (pt c1 m1 X1 r1) 53)) _ _ _ Am
  clear B4 Ac AL AM Ad AN AO Am
  obtain ⟨AS, AT⟩ := cells2s Ao
  obtain ⟨AU, AV⟩ := cells2s Ap
  have AW := (pt_cells An).1
  go_wp2_with fail
  refine (KU2.out _ (fatB FF.out B5)).mono ?_
  rintro r w6 ⟨rfl, b6⟩
  have B6 : Below w.heap.size w w6 := btr B5 b6
  have Ae := heap_of b6 _ _ _ Ao
  have Af := heap_of b6 _ _ _ Ap
  have Aq := heap_of b6 _ _ _ Az
  have Ag := heap_of b6 _ _ _ An
  clear b6 B5 Ao AS AT Ap AU AV Az An AW
  obtain ⟨AX, AY⟩ := cells2s Ae
  obtain ⟨AZ, A0⟩ := cells2s Af
  have A1 := (pt_cells Ag).1
  have S7 := box B6.size
  have A2 := ltR Ae
  have A3 := ltR Af
  have A4 := ltR Aq
  have A5 := ltR Ag
  have Ar := heap_alloc_last w6 (Obj.cells (pt c2 m2 X2 r2) 53)
  have B7 := btr B6 (bal w6 (Obj.cells (pt c2 m2 X2 r2) 53))
  have As := heap_of (bal w6 (Obj.cells (pt c2 m2 X2 r2) 53)) _ _ _ Ae
  have At := heap_of (bal w6 (Obj.cells (pt c2 m2 X2 r2) 53)) _ _ _ Af
  have AA := heap_of (bal w6 (Obj.cells (pt c2 m2 X2 r2) 53)) _ _ _ Aq
  have Au := heap_of (bal w6 (Obj.cells (pt c2 m2 X2 r2) 53)) _ _ _ Ag
  clear B6 Ae AX AY Af AZ A0 Aq Ag A1
  obtain ⟨A6, A7⟩ := cells2s As
  obtain ⟨A8, A9⟩ := cells2s At
  have Ba := (pt_cells Au).1
  have Bb := (pt_cells Ar).1
  go_wp2_with fail
  refine (KN.out _ (fatB FF.out B7)).mono ?_
  rintro r w8 ⟨rfl, b8⟩
  have B8 : Below w.heap.size w w8 := btr B7 b8
  have Bc := heap_of b8 _ _ _ As
  have Bd := heap_of b8 _ _ _ At
  have Ah := heap_of b8 _ _ _ AA
  have Be := heap_of b8 _ _ _ Au
  have Bf := heap_of b8 _ _ _ Ar
  clear b8 B7 As A6 A7 At A8 A9 AA Au Ba Ar Bb
  obtain ⟨Bs, Bt⟩ := cells2s Bc
  obtain ⟨Bu, Bv⟩ := cells2s Bd
  have Bw := (pt_cells Be).1
  have Bx := (pt_cells Bf).1
  obtain ⟨By, Bz⟩ := cells2s Ah
  have q0 := fz (k := 0) Ah
  have q1 := fz (k := 1) Ah
  obtain ⟨E0, E1⟩ := set2_cells Ah (.int .u64 u) (.int .u64 v)
  go_wp2
  exact bodyPost_ret (v := .tuple #[.agg #[.int .u64 u, .int .u64 v], .int .u8 16, .int .i64 0]) (by simp [results, Tryd.results16, go_sem, E0, E1]) rfl ⟨rfl, set2_below B8 (by first | exact Nat.le_refl _ | omega | (have := S5.out; have := AP.out; have := AQ.out; have := AR.out; have := S7.out; have := A2.out; have := A3.out; have := A4.out; have := A5.out; omega)) _ _⟩
theorem ad_plus_wsy (f m : Int) (x1 y1 x2 y2 u v na nb : Nat) (c : Int) (c1 m1 : Nat) (X1 : Int) (r1 c2 m2 : Nat) (X2 : Int) (r2 : Nat) (tn : Bool) (ts : Nat) (tx fl : Int) (w : World) (hc : decide (c < 0) = true) (h18 : ((c1 : Int) == 8) = false) (h28 : ((c2 : Int) == 8) = true)
    (KMa : Box (∀ w, FAt w → Calls Tryd.prog 26 #[.int .u8 f, .agg #[.int .u64 x1, .int .u64 y1]] w fun r w' => r = .returned (.agg (cw 6 na)) ∧ Below w.heap.size w w'))
    (KMb : Box (∀ w, FAt w → Calls Tryd.prog 26 #[.int .u8 f, .agg #[.int .u64 x2, .int .u64 y2]] w fun r w' => r = .returned (.agg (cw 6 nb)) ∧ Below w.heap.size w w'))
    (KC : Box (∀ w, Calls Tryd.prog 25 #[.agg (cw 6 na), .agg (cw 6 nb)] w fun r w' => r = .returned (.int .i64 c) ∧ Below w.heap.size w w'))
    (KU1 : Box (∀ w, FAt w → Calls Tryd.prog 27 #[.int .u8 f, .agg #[.int .u64 x2, .int .u64 y2]] w fun r w' => r = .returned (.tuple #[.agg (pt c1 m1 X1 r1), .int .i64 0]) ∧ Below w.heap.size w w'))
    (KU2 : Box (∀ w, FAt w → Calls Tryd.prog 27 #[.int .u8 f, .agg #[.int .u64 x1, .int .u64 y1]] w fun r w' => r = .returned (.tuple #[.agg (pt c2 m2 X2 r2), .int .i64 0]) ∧ Below w.heap.size w w'))
    (KN : Box (∀ w, FAt w → Calls Tryd.prog 28 #[.int .u8 f] w fun r w' => r = .returned (.agg #[.int .u64 u, .int .u64 v]) ∧ Below w.heap.size w w'))
    (hT : FAt w) : Calls Tryd.prog 16 #[.int .u8 f, .int .u8 m, .agg #[.int .u64 x1, .int .u64 y1], .agg #[.int .u64 x2, .int .u64 y2]] w fun r w' => r = .returned (.tuple #[.agg #[.int .u64 u, .int .u64 v], .int .u8 16, .int .i64 0]) ∧ Below w.heap.size w w' := by
  have FF := box hT
  clear hT
  have hat := cw_at 6
  have hz := cw6z
  have hff := cw6f
  have hs0 := st0
  have hcs : ∀ x, ((cw 6 x).size = 6) = True := fun x => eq_true (cw_size 6 x)
  have hp1 := rgf
  have hp5 : ∀ (c : Bool) (s : Nat) (x : Int) (r : Bool), ((rg c s x r).size = 9) = True := fun _ _ _ _ => eq_true rfl
  have Bg := ptf
  have Bh := ptz
  have Bi := st_p0
  have Bj : ∀ (c s : Nat) (x : Int) (r : Nat), ((pt c s x r).size = 14) = True := fun _ _ _ _ => eq_true rfl
  obtain ⟨Ai, Aj, Av, B0⟩ := opn3 w (Obj.cells #[.int .u64 x1, .int .u64 y1] 26) (Obj.cells #[.int .u64 x2, .int .u64 y2] 26) (Obj.cells #[.int .u64 0, .int .u64 0] 26)
  go_enter Tryd.func16, Tryd.ntmps16
  obtain ⟨AB, AC⟩ := cells2s Ai
  obtain ⟨AD, AE⟩ := cells2s Aj
  have sS : Box (∀ W W1 : World, (Below w.heap.size w W ∧ W.heap[w.heap.size]? = some (.cells #[.int .u64 x1, .int .u64 y1] 26) ∧ W.heap[w.heap.size + 1]? = some (.cells #[.int .u64 x2, .int .u64 y2] 26) ∧ W.heap[w.heap.size + 1 + 1]? = some (.cells #[.int .u64 0, .int .u64 0] 26)) → Below W.heap.size W W1 → (Below w.heap.size w W1 ∧ W1.heap[w.heap.size]? = some (.cells #[.int .u64 x1, .int .u64 y1] 26) ∧ W1.heap[w.heap.size + 1]? = some (.cells #[.int .u64 x2, .int .u64 y2] 26) ∧ W1.heap[w.heap.size + 1 + 1]? = some (.cells #[.int .u64 0, .int .u64 0] 26))) := box (fun W W1 h b => ⟨btr h.1 b, heap_of b _ _ _ h.2.1, heap_of b _ _ _ h.2.2.1, heap_of b _ _ _ h.2.2.2⟩)
  have sC : Box (∀ W : World, (Below w.heap.size w W ∧ W.heap[w.heap.size]? = some (.cells #[.int .u64 x1, .int .u64 y1] 26) ∧ W.heap[w.heap.size + 1]? = some (.cells #[.int .u64 x2, .int .u64 y2] 26) ∧ W.heap[w.heap.size + 1 + 1]? = some (.cells #[.int .u64 0, .int .u64 0] 26)) → (Below w.heap.size w W ∧ W.heap[w.heap.size]? = some (.cells #[.int .u64 x1, .int .u64 y1] 26) ∧ W.heap[w.heap.size + 1]? = some (.cells #[.int .u64 x2, .int .u64 y2] 26) ∧ W.heap[w.heap.size + 1 + 1]? = some (.cells #[.int .u64 0, .int .u64 0] 26) ∧ W.cell? ⟨w.heap.size, 0, none⟩ = some (.int .u64 x1) ∧ W.cell? ⟨w.heap.size, 1, none⟩ = some (.int .u64 y1) ∧ W.cell? ⟨w.heap.size + 1, 0, none⟩ = some (.int .u64 x2) ∧ W.cell? ⟨w.heap.size + 1, 1, none⟩ = some (.int .u64 y2) ∧ W.cell? ⟨w.heap.size + 1 + 1, 0, none⟩ = some (.int .u64 0) ∧ W.cell? ⟨w.heap.size + 1 + 1, 1, none⟩ = some (.int .u64 0))) := box (fun W h => ⟨h.1, h.2.1, h.2.2.1, h.2.2.2, cell7 (h.2.1) 0 _ rfl, cell7 (h.2.1) 1 _ rfl, cell7 (h.2.2.1) 0 _ rfl, cell7 (h.2.2.1) 1 _ rfl, cell7 (h.2.2.2) 0 _ rfl, cell7 (h.2.2.2) 1 _ rfl⟩)
  have s0 : Below w.heap.size w ((((w.alloc (Obj.cells #[.int .u64 x1, .int .u64 y1] 26)).alloc (Obj.cells #[.int .u64 x2, .int .u64 y2] 26)).alloc (Obj.cells #[.int .u64 0, .int .u64 0] 26))).drew ∧ ((((w.alloc (Obj.cells #[.int .u64 x1, .int .u64 y1] 26)).alloc (Obj.cells #[.int .u64 x2, .int .u64 y2] 26)).alloc (Obj.cells #[.int .u64 0, .int .u64 0] 26))).drew.heap[w.heap.size]? = some (.cells #[.int .u64 x1, .int .u64 y1] 26) ∧ ((((w.alloc (Obj.cells #[.int .u64 x1, .int .u64 y1] 26)).alloc (Obj.cells #[.int .u64 x2, .int .u64 y2] 26)).alloc (Obj.cells #[.int .u64 0, .int .u64 0] 26))).drew.heap[w.heap.size + 1]? = some (.cells #[.int .u64 x2, .int .u64 y2] 26) ∧ ((((w.alloc (Obj.cells #[.int .u64 x1, .int .u64 y1] 26)).alloc (Obj.cells #[.int .u64 x2, .int .u64 y2] 26)).alloc (Obj.cells #[.int .u64 0, .int .u64 0] 26))).drew.heap[w.heap.size + 1 + 1]? = some (.cells #[.int .u64 0, .int .u64 0] 26) := ⟨B0.drew, Ai, Aj, Av⟩
  go_wp2_with fail
  go_region_held3 (fun W => Below w.heap.size w W ∧ W.heap[w.heap.size]? = some (.cells #[.int .u64 x1, .int .u64 y1] 26) ∧ W.heap[w.heap.size + 1]? = some (.cells #[.int .u64 x2, .int .u64 y2] 26) ∧ W.heap[w.heap.size + 1 + 1]? = some (.cells #[.int .u64 0, .int .u64 0] 26) ∧ W.cell? ⟨w.heap.size, 0, none⟩ = some (.int .u64 x1) ∧ W.cell? ⟨w.heap.size, 1, none⟩ = some (.int .u64 y1) ∧ W.cell? ⟨w.heap.size + 1, 0, none⟩ = some (.int .u64 x2) ∧ W.cell? ⟨w.heap.size + 1, 1, none⟩ = some (.int .u64 y2) ∧ W.cell? ⟨w.heap.size + 1 + 1, 0, none⟩ = some (.int .u64 0) ∧ W.cell? ⟨w.heap.size + 1 + 1, 1, none⟩ = some (.int .u64 0)) (first | exact sC.out _ s1 | exact sC.out _ s0)
    (first | (go_at_call_of 26 (Value.agg #[.int .u64 x1, .int .u64 y1]); (first | refine (KMa.out _ (fatB FF.out (And.left s1))).mono ?_ | refine (KMa.out _ (fatB FF.out (And.left s0))).mono ?_); rintro r wq ⟨rfl, bq⟩; have s1 := (by first | exact sS.out _ _ s1 bq | exact sS.out _ _ s0 bq); clear bq) | (go_at_call_of 26 (Value.agg #[.int .u64 x2, .int .u64 y2]); (first | refine (KMb.out _ (fatB FF.out (And.left s1))).mono ?_ | refine (KMb.out _ (fatB FF.out (And.left s0))).mono ?_); rintro r wq ⟨rfl, bq⟩; have s1 := (by first | exact sS.out _ _ s1 bq | exact sS.out _ _ s0 bq); clear bq) | (go_at_call 25; (first | refine (KC.out _).mono ?_ | refine (KC.out _).mono ?_); rintro r wq ⟨rfl, bq⟩; have s1 := (by first | exact sS.out _ _ s1 bq | exact sS.out _ _ s0 bq); clear bq) | fail)
  have B1 := (And.left s1)
  have Aa := s1.2.1
  have Aw := s1.2.2.1
  have AF := s1.2.2.2
  clear s0 s1 sS sC B0 Ai AB AC Aj AD AE Av
  obtain ⟨Bk, Bl⟩ := cells2s Aa
  obtain ⟨Bm, Bn⟩ := cells2s Aw
  have q0_2 := fz (k := 0) Aa
  have q1_2 := fz (k := 1) Aa
  have B2 := set2_below B1 (show w.heap.size ≤ w.heap.size by first | exact Nat.le_refl _ | omega | (skip; omega)) (.int .u64 x2) (.int .u64 y2)
  have Ax : ((wq.setCell ⟨w.heap.size, 0, none⟩ (.int .u64 x2)).setCell ⟨w.heap.size, 1, none⟩ (.int .u64 y2)).heap[w.heap.size]? = some (.cells #[.int .u64 x2, .int .u64 y2] 26) := set2_row Aa _ _
  have Ab : ((wq.setCell ⟨w.heap.size, 0, none⟩ (.int .u64 x2)).setCell ⟨w.heap.size, 1, none⟩ (.int .u64 y2)).heap[w.heap.size + 1]? = some (.cells #[.int .u64 x2, .int .u64 y2] 26) := (setCell_other (by first | omega | (skip; omega))).trans ((setCell_other (by first | omega | (skip; omega))).trans Aw)
  have AG : ((wq.setCell ⟨w.heap.size, 0, none⟩ (.int .u64 x2)).setCell ⟨w.heap.size, 1, none⟩ (.int .u64 y2)).heap[w.heap.size + 1 + 1]? = some (.cells #[.int .u64 0, .int .u64 0] 26) := (setCell_other (by first | omega | (skip; omega))).trans ((setCell_other (by first | omega | (skip; omega))).trans AF)
  obtain ⟨Bo, Bp⟩ := cells2s Ax
  obtain ⟨Bq, Br⟩ := cells2s Ab
  have q0_3 := fz (k := 0) Ab
  have q1_3 := fz (k := 1) Ab
  have B3 := set2_below B2 (show w.heap.size ≤ w.heap.size + 1 by first | exact Nat.le_refl _ | omega | (skip; omega)) (.int .u64 x1) (.int .u64 y1)
  have Ak : ((((wq.setCell ⟨w.heap.size, 0, none⟩ (.int .u64 x2)).setCell ⟨w.heap.size, 1, none⟩ (.int .u64 y2)).setCell ⟨w.heap.size + 1, 0, none⟩ (.int .u64 x1)).setCell ⟨w.heap.size + 1, 1, none⟩ (.int .u64 y1)).heap[w.heap.size + 1]? = some (.cells #[.int .u64 x1, .int .u64 y1] 26) := set2_row Ab _ _
  have Al : ((((wq.setCell ⟨w.heap.size, 0, none⟩ (.int .u64 x2)).setCell ⟨w.heap.size, 1, none⟩ (.int .u64 y2)).setCell ⟨w.heap.size + 1, 0, none⟩ (.int .u64 x1)).setCell ⟨w.heap.size + 1, 1, none⟩ (.int .u64 y1)).heap[w.heap.size]? = some (.cells #[.int .u64 x2, .int .u64 y2] 26) := (setCell_other (by first | omega | (skip; omega))).trans ((setCell_other (by first | omega | (skip; omega))).trans Ax)
  have Ay : ((((wq.setCell ⟨w.heap.size, 0, none⟩ (.int .u64 x2)).setCell ⟨w.heap.size, 1, none⟩ (.int .u64 y2)).setCell ⟨w.heap.size + 1, 0, none⟩ (.int .u64 x1)).setCell ⟨w.heap.size + 1, 1, none⟩ (.int .u64 y1)).heap[w.heap.size + 1 + 1]? = some (.cells #[.int .u64 0, .int .u64 0] 26) := (setCell_other (by first | omega | (skip; omega))).trans ((setCell_other (by first | omega | (skip; omega))).trans AG)
  obtain ⟨AH, AI⟩ := cells2s Al
  obtain ⟨AJ, AK⟩ := cells2s Ak
  go_wp2_with fail
  refine (KU1.out _ (fatB FF.out B3)).mono ?_
  rintro r w4 ⟨rfl, b4⟩
  have B4 : Below w.heap.size w w4 := btr B3 b4
  have Ac := heap_of b4 _ _ _ Al
  have Ad := heap_of b4 _ _ _ Ak
  have Am := heap_of b4 _ _ _ Ay
  clear b4 B3 Al AH AI Ak AJ AK Ay
  obtain ⟨AL, AM⟩ := cells2s Ac
  obtain ⟨AN, AO⟩ := cells2s Ad
  have S5 := box B4.size
  have AP := ltR Ac
  have AQ := ltR Ad
  have AR := ltR Am
  have An := heap_alloc_last w4 (Obj.cells (pt c1 m1 X1 r1) 53)
  have B5 := btr B4 (bal w4 (Obj.cells (pt c1 m1 X1 r1) 53))
  have Ao := heap_of (bal w4 (Obj.cells (pt c1 m1 X1 r1) 53)) _ _ _ Ac
  have Ap := heap_of (bal w4 (Obj.cells (pt c1 m1 X1 r1) 53)) _ _ _ Ad
  have Az := heap_of (bal w4 (Obj.cells (pt c1 m1 X1 r1) 53)) _ _ _ Am
  clear B4 Ac AL AM Ad AN AO Am
  obtain ⟨AS, AT⟩ := cells2s Ao
  obtain ⟨AU, AV⟩ := cells2s Ap
  have AW := (pt_cells An).1
  go_wp2_with fail
  refine (KU2.out _ (fatB FF.out B5)).mono ?_
  rintro r w6 ⟨rfl, b6⟩
  have B6 : Below w.heap.size w w6 := btr B5 b6
  have Ae := heap_of b6 _ _ _ Ao
  have Af := heap_of b6 _ _ _ Ap
  have Aq := heap_of b6 _ _ _ Az
  have Ag := heap_of b6 _ _ _ An
  clear b6 B5 Ao AS AT Ap AU AV Az An AW
  obtain ⟨AX, AY⟩ := cells2s Ae
  obtain ⟨AZ, A0⟩ := cells2s Af
  have A1 := (pt_cells Ag).1
  have S7 := box B6.size
  have A2 := ltR Ae
  have A3 := ltR Af
  have A4 := ltR Aq
  have A5 := ltR Ag
  have Ar := heap_alloc_last w6 (Obj.cells (pt c2 m2 X2 r2) 53)
  have B7 := btr B6 (bal w6 (Obj.cells (pt c2 m2 X2 r2) 53))
  have As := heap_of (bal w6 (Obj.cells (pt c2 m2 X2 r2) 53)) _ _ _ Ae
  have At := heap_of (bal w6 (Obj.cells (pt c2 m2 X2 r2) 53)) _ _ _ Af
  have AA := heap_of (bal w6 (Obj.cells (pt c2 m2 X2 r2) 53)) _ _ _ Aq
  have Au := heap_of (bal w6 (Obj.cells (pt c2 m2 X2 r2) 53)) _ _ _ Ag
  clear B6 Ae AX AY Af AZ A0 Aq Ag A1
  obtain ⟨A6, A7⟩ := cells2s As
  obtain ⟨A8, A9⟩ := cells2s At
  have Ba := (pt_cells Au).1
  have Bb := (pt_cells Ar).1
  go_wp2_with fail
  refine (KN.out _ (fatB FF.out B7)).mono ?_
  rintro r w8 ⟨rfl, b8⟩
  have B8 : Below w.heap.size w w8 := btr B7 b8
  have Bc := heap_of b8 _ _ _ As
  have Bd := heap_of b8 _ _ _ At
  have Ah := heap_of b8 _ _ _ AA
  have Be := heap_of b8 _ _ _ Au
  have Bf := heap_of b8 _ _ _ Ar
  clear b8 B7 As A6 A7 At A8 A9 AA Au Ba Ar Bb
  obtain ⟨Bs, Bt⟩ := cells2s Bc
  obtain ⟨Bu, Bv⟩ := cells2s Bd
  have Bw := (pt_cells Be).1
  have Bx := (pt_cells Bf).1
  obtain ⟨By, Bz⟩ := cells2s Ah
  have q0 := fz (k := 0) Ah
  have q1 := fz (k := 1) Ah
  obtain ⟨E0, E1⟩ := set2_cells Ah (.int .u64 u) (.int .u64 v)
  go_wp2
  exact bodyPost_ret (v := .tuple #[.agg #[.int .u64 u, .int .u64 v], .int .u8 16, .int .i64 0]) (by simp [results, Tryd.results16, go_sem, E0, E1]) rfl ⟨rfl, set2_below B8 (by first | exact Nat.le_refl _ | omega | (have := S5.out; have := AP.out; have := AQ.out; have := AR.out; have := S7.out; have := A2.out; have := A3.out; have := A4.out; have := A5.out; omega)) _ _⟩
theorem ad_plus_wq (f m : Int) (x1 y1 x2 y2 u v na nb : Nat) (c : Int) (c1 m1 : Nat) (X1 : Int) (r1 c2 m2 : Nat) (X2 : Int) (r2 : Nat) (tn : Bool) (ts : Nat) (tx fl : Int) (w : World) (hc : decide (c < 0) = true) (h18 : ((c1 : Int) == 8) = false) (h28 : ((c2 : Int) == 8) = false) (h19 : ((c1 : Int) == 9) = true)
    (KMa : Box (∀ w, FAt w → Calls Tryd.prog 26 #[.int .u8 f, .agg #[.int .u64 x1, .int .u64 y1]] w fun r w' => r = .returned (.agg (cw 6 na)) ∧ Below w.heap.size w w'))
    (KMb : Box (∀ w, FAt w → Calls Tryd.prog 26 #[.int .u8 f, .agg #[.int .u64 x2, .int .u64 y2]] w fun r w' => r = .returned (.agg (cw 6 nb)) ∧ Below w.heap.size w w'))
    (KC : Box (∀ w, Calls Tryd.prog 25 #[.agg (cw 6 na), .agg (cw 6 nb)] w fun r w' => r = .returned (.int .i64 c) ∧ Below w.heap.size w w'))
    (KU1 : Box (∀ w, FAt w → Calls Tryd.prog 27 #[.int .u8 f, .agg #[.int .u64 x2, .int .u64 y2]] w fun r w' => r = .returned (.tuple #[.agg (pt c1 m1 X1 r1), .int .i64 0]) ∧ Below w.heap.size w w'))
    (KU2 : Box (∀ w, FAt w → Calls Tryd.prog 27 #[.int .u8 f, .agg #[.int .u64 x1, .int .u64 y1]] w fun r w' => r = .returned (.tuple #[.agg (pt c2 m2 X2 r2), .int .i64 0]) ∧ Below w.heap.size w w'))
    (KN : Box (∀ w, FAt w → Calls Tryd.prog 28 #[.int .u8 f] w fun r w' => r = .returned (.agg #[.int .u64 u, .int .u64 v]) ∧ Below w.heap.size w w'))
    (hT : FAt w) : Calls Tryd.prog 16 #[.int .u8 f, .int .u8 m, .agg #[.int .u64 x1, .int .u64 y1], .agg #[.int .u64 x2, .int .u64 y2]] w fun r w' => r = .returned (.tuple #[.agg #[.int .u64 u, .int .u64 v], .int .u8 0, .int .i64 0]) ∧ Below w.heap.size w w' := by
  have FF := box hT
  clear hT
  have hat := cw_at 6
  have hz := cw6z
  have hff := cw6f
  have hs0 := st0
  have hcs : ∀ x, ((cw 6 x).size = 6) = True := fun x => eq_true (cw_size 6 x)
  have hp1 := rgf
  have hp5 : ∀ (c : Bool) (s : Nat) (x : Int) (r : Bool), ((rg c s x r).size = 9) = True := fun _ _ _ _ => eq_true rfl
  have Bg := ptf
  have Bh := ptz
  have Bi := st_p0
  have Bj : ∀ (c s : Nat) (x : Int) (r : Nat), ((pt c s x r).size = 14) = True := fun _ _ _ _ => eq_true rfl
  obtain ⟨Ai, Aj, Av, B0⟩ := opn3 w (Obj.cells #[.int .u64 x1, .int .u64 y1] 26) (Obj.cells #[.int .u64 x2, .int .u64 y2] 26) (Obj.cells #[.int .u64 0, .int .u64 0] 26)
  go_enter Tryd.func16, Tryd.ntmps16
  obtain ⟨AB, AC⟩ := cells2s Ai
  obtain ⟨AD, AE⟩ := cells2s Aj
  have sS : Box (∀ W W1 : World, (Below w.heap.size w W ∧ W.heap[w.heap.size]? = some (.cells #[.int .u64 x1, .int .u64 y1] 26) ∧ W.heap[w.heap.size + 1]? = some (.cells #[.int .u64 x2, .int .u64 y2] 26) ∧ W.heap[w.heap.size + 1 + 1]? = some (.cells #[.int .u64 0, .int .u64 0] 26)) → Below W.heap.size W W1 → (Below w.heap.size w W1 ∧ W1.heap[w.heap.size]? = some (.cells #[.int .u64 x1, .int .u64 y1] 26) ∧ W1.heap[w.heap.size + 1]? = some (.cells #[.int .u64 x2, .int .u64 y2] 26) ∧ W1.heap[w.heap.size + 1 + 1]? = some (.cells #[.int .u64 0, .int .u64 0] 26))) := box (fun W W1 h b => ⟨btr h.1 b, heap_of b _ _ _ h.2.1, heap_of b _ _ _ h.2.2.1, heap_of b _ _ _ h.2.2.2⟩)
  have sC : Box (∀ W : World, (Below w.heap.size w W ∧ W.heap[w.heap.size]? = some (.cells #[.int .u64 x1, .int .u64 y1] 26) ∧ W.heap[w.heap.size + 1]? = some (.cells #[.int .u64 x2, .int .u64 y2] 26) ∧ W.heap[w.heap.size + 1 + 1]? = some (.cells #[.int .u64 0, .int .u64 0] 26)) → (Below w.heap.size w W ∧ W.heap[w.heap.size]? = some (.cells #[.int .u64 x1, .int .u64 y1] 26) ∧ W.heap[w.heap.size + 1]? = some (.cells #[.int .u64 x2, .int .u64 y2] 26) ∧ W.heap[w.heap.size + 1 + 1]? = some (.cells #[.int .u64 0, .int .u64 0] 26) ∧ W.cell? ⟨w.heap.size, 0, none⟩ = some (.int .u64 x1) ∧ W.cell? ⟨w.heap.size, 1, none⟩ = some (.int .u64 y1) ∧ W.cell? ⟨w.heap.size + 1, 0, none⟩ = some (.int .u64 x2) ∧ W.cell? ⟨w.heap.size + 1, 1, none⟩ = some (.int .u64 y2) ∧ W.cell? ⟨w.heap.size + 1 + 1, 0, none⟩ = some (.int .u64 0) ∧ W.cell? ⟨w.heap.size + 1 + 1, 1, none⟩ = some (.int .u64 0))) := box (fun W h => ⟨h.1, h.2.1, h.2.2.1, h.2.2.2, cell7 (h.2.1) 0 _ rfl, cell7 (h.2.1) 1 _ rfl, cell7 (h.2.2.1) 0 _ rfl, cell7 (h.2.2.1) 1 _ rfl, cell7 (h.2.2.2) 0 _ rfl, cell7 (h.2.2.2) 1 _ rfl⟩)
  have s0 : Below w.heap.size w ((((w.alloc (Obj.cells #[.int .u64 x1, .int .u64 y1] 26)).alloc (Obj.cells #[.int .u64 x2, .int .u64 y2] 26)).alloc (Obj.cells #[.int .u64 0, .int .u64 0] 26))).drew ∧ ((((w.alloc (Obj.cells #[.int .u64 x1, .int .u64 y1] 26)).alloc (Obj.cells #[.int .u64 x2, .int .u64 y2] 26)).alloc (Obj.cells #[.int .u64 0, .int .u64 0] 26))).drew.heap[w.heap.size]? = some (.cells #[.int .u64 x1, .int .u64 y1] 26) ∧ ((((w.alloc (Obj.cells #[.int .u64 x1, .int .u64 y1] 26)).alloc (Obj.cells #[.int .u64 x2, .int .u64 y2] 26)).alloc (Obj.cells #[.int .u64 0, .int .u64 0] 26))).drew.heap[w.heap.size + 1]? = some (.cells #[.int .u64 x2, .int .u64 y2] 26) ∧ ((((w.alloc (Obj.cells #[.int .u64 x1, .int .u64 y1] 26)).alloc (Obj.cells #[.int .u64 x2, .int .u64 y2] 26)).alloc (Obj.cells #[.int .u64 0, .int .u64 0] 26))).drew.heap[w.heap.size + 1 + 1]? = some (.cells #[.int .u64 0, .int .u64 0] 26) := ⟨B0.drew, Ai, Aj, Av⟩
  go_wp2_with fail
  go_region_held3 (fun W => Below w.heap.size w W ∧ W.heap[w.heap.size]? = some (.cells #[.int .u64 x1, .int .u64 y1] 26) ∧ W.heap[w.heap.size + 1]? = some (.cells #[.int .u64 x2, .int .u64 y2] 26) ∧ W.heap[w.heap.size + 1 + 1]? = some (.cells #[.int .u64 0, .int .u64 0] 26) ∧ W.cell? ⟨w.heap.size, 0, none⟩ = some (.int .u64 x1) ∧ W.cell? ⟨w.heap.size, 1, none⟩ = some (.int .u64 y1) ∧ W.cell? ⟨w.heap.size + 1, 0, none⟩ = some (.int .u64 x2) ∧ W.cell? ⟨w.heap.size + 1, 1, none⟩ = some (.int .u64 y2) ∧ W.cell? ⟨w.heap.size + 1 + 1, 0, none⟩ = some (.int .u64 0) ∧ W.cell? ⟨w.heap.size + 1 + 1, 1, none⟩ = some (.int .u64 0)) (first | exact sC.out _ s1 | exact sC.out _ s0)
    (first | (go_at_call_of 26 (Value.agg #[.int .u64 x1, .int .u64 y1]); (first | refine (KMa.out _ (fatB FF.out (And.left s1))).mono ?_ | refine (KMa.out _ (fatB FF.out (And.left s0))).mono ?_); rintro r wq ⟨rfl, bq⟩; have s1 := (by first | exact sS.out _ _ s1 bq | exact sS.out _ _ s0 bq); clear bq) | (go_at_call_of 26 (Value.agg #[.int .u64 x2, .int .u64 y2]); (first | refine (KMb.out _ (fatB FF.out (And.left s1))).mono ?_ | refine (KMb.out _ (fatB FF.out (And.left s0))).mono ?_); rintro r wq ⟨rfl, bq⟩; have s1 := (by first | exact sS.out _ _ s1 bq | exact sS.out _ _ s0 bq); clear bq) | (go_at_call 25; (first | refine (KC.out _).mono ?_ | refine (KC.out _).mono ?_); rintro r wq ⟨rfl, bq⟩; have s1 := (by first | exact sS.out _ _ s1 bq | exact sS.out _ _ s0 bq); clear bq) | fail)
  have B1 := (And.left s1)
  have Aa := s1.2.1
  have Aw := s1.2.2.1
  have AF := s1.2.2.2
  clear s0 s1 sS sC B0 Ai AB AC Aj AD AE Av
  obtain ⟨Bk, Bl⟩ := cells2s Aa
  obtain ⟨Bm, Bn⟩ := cells2s Aw
  have q0_2 := fz (k := 0) Aa
  have q1_2 := fz (k := 1) Aa
  have B2 := set2_below B1 (show w.heap.size ≤ w.heap.size by first | exact Nat.le_refl _ | omega | (skip; omega)) (.int .u64 x2) (.int .u64 y2)
  have Ax : ((wq.setCell ⟨w.heap.size, 0, none⟩ (.int .u64 x2)).setCell ⟨w.heap.size, 1, none⟩ (.int .u64 y2)).heap[w.heap.size]? = some (.cells #[.int .u64 x2, .int .u64 y2] 26) := set2_row Aa _ _
  have Ab : ((wq.setCell ⟨w.heap.size, 0, none⟩ (.int .u64 x2)).setCell ⟨w.heap.size, 1, none⟩ (.int .u64 y2)).heap[w.heap.size + 1]? = some (.cells #[.int .u64 x2, .int .u64 y2] 26) := (setCell_other (by first | omega | (skip; omega))).trans ((setCell_other (by first | omega | (skip; omega))).trans Aw)
  have AG : ((wq.setCell ⟨w.heap.size, 0, none⟩ (.int .u64 x2)).setCell ⟨w.heap.size, 1, none⟩ (.int .u64 y2)).heap[w.heap.size + 1 + 1]? = some (.cells #[.int .u64 0, .int .u64 0] 26) := (setCell_other (by first | omega | (skip; omega))).trans ((setCell_other (by first | omega | (skip; omega))).trans AF)
  obtain ⟨Bo, Bp⟩ := cells2s Ax
  obtain ⟨Bq, Br⟩ := cells2s Ab
  have q0_3 := fz (k := 0) Ab
  have q1_3 := fz (k := 1) Ab
  have B3 := set2_below B2 (show w.heap.size ≤ w.heap.size + 1 by first | exact Nat.le_refl _ | omega | (skip; omega)) (.int .u64 x1) (.int .u64 y1)
  have Ak : ((((wq.setCell ⟨w.heap.size, 0, none⟩ (.int .u64 x2)).setCell ⟨w.heap.size, 1, none⟩ (.int .u64 y2)).setCell ⟨w.heap.size + 1, 0, none⟩ (.int .u64 x1)).setCell ⟨w.heap.size + 1, 1, none⟩ (.int .u64 y1)).heap[w.heap.size + 1]? = some (.cells #[.int .u64 x1, .int .u64 y1] 26) := set2_row Ab _ _
  have Al : ((((wq.setCell ⟨w.heap.size, 0, none⟩ (.int .u64 x2)).setCell ⟨w.heap.size, 1, none⟩ (.int .u64 y2)).setCell ⟨w.heap.size + 1, 0, none⟩ (.int .u64 x1)).setCell ⟨w.heap.size + 1, 1, none⟩ (.int .u64 y1)).heap[w.heap.size]? = some (.cells #[.int .u64 x2, .int .u64 y2] 26) := (setCell_other (by first | omega | (skip; omega))).trans ((setCell_other (by first | omega | (skip; omega))).trans Ax)
  have Ay : ((((wq.setCell ⟨w.heap.size, 0, none⟩ (.int .u64 x2)).setCell ⟨w.heap.size, 1, none⟩ (.int .u64 y2)).setCell ⟨w.heap.size + 1, 0, none⟩ (.int .u64 x1)).setCell ⟨w.heap.size + 1, 1, none⟩ (.int .u64 y1)).heap[w.heap.size + 1 + 1]? = some (.cells #[.int .u64 0, .int .u64 0] 26) := (setCell_other (by first | omega | (skip; omega))).trans ((setCell_other (by first | omega | (skip; omega))).trans AG)
  obtain ⟨AH, AI⟩ := cells2s Al
  obtain ⟨AJ, AK⟩ := cells2s Ak
  go_wp2_with fail
  refine (KU1.out _ (fatB FF.out B3)).mono ?_
  rintro r w4 ⟨rfl, b4⟩
  have B4 : Below w.heap.size w w4 := btr B3 b4
  have Ac := heap_of b4 _ _ _ Al
  have Ad := heap_of b4 _ _ _ Ak
  have Am := heap_of b4 _ _ _ Ay
  clear b4 B3 Al AH AI Ak AJ AK Ay
  obtain ⟨AL, AM⟩ := cells2s Ac
  obtain ⟨AN, AO⟩ := cells2s Ad
  have S5 := box B4.size
  have AP := ltR Ac
  have AQ := ltR Ad
  have AR := ltR Am
  have An := heap_alloc_last w4 (Obj.cells (pt c1 m1 X1 r1) 53)
  have B5 := btr B4 (bal w4 (Obj.cells (pt c1 m1 X1 r1) 53))
  have Ao := heap_of (bal w4 (Obj.cells (pt c1 m1 X1 r1) 53)) _ _ _ Ac
  have Ap := heap_of (bal w4 (Obj.cells (pt c1 m1 X1 r1) 53)) _ _ _ Ad
  have Az := heap_of (bal w4 (Obj.cells (pt c1 m1 X1 r1) 53)) _ _ _ Am
  clear B4 Ac AL AM Ad AN AO Am
  obtain ⟨AS, AT⟩ := cells2s Ao
  obtain ⟨AU, AV⟩ := cells2s Ap
  have AW := (pt_cells An).1
  go_wp2_with fail
  refine (KU2.out _ (fatB FF.out B5)).mono ?_
  rintro r w6 ⟨rfl, b6⟩
  have B6 : Below w.heap.size w w6 := btr B5 b6
  have Ae := heap_of b6 _ _ _ Ao
  have Af := heap_of b6 _ _ _ Ap
  have Aq := heap_of b6 _ _ _ Az
  have Ag := heap_of b6 _ _ _ An
  clear b6 B5 Ao AS AT Ap AU AV Az An AW
  obtain ⟨AX, AY⟩ := cells2s Ae
  obtain ⟨AZ, A0⟩ := cells2s Af
  have A1 := (pt_cells Ag).1
  have S7 := box B6.size
  have A2 := ltR Ae
  have A3 := ltR Af
  have A4 := ltR Aq
  have A5 := ltR Ag
  have Ar := heap_alloc_last w6 (Obj.cells (pt c2 m2 X2 r2) 53)
  have B7 := btr B6 (bal w6 (Obj.cells (pt c2 m2 X2 r2) 53))
  have As := heap_of (bal w6 (Obj.cells (pt c2 m2 X2 r2) 53)) _ _ _ Ae
  have At := heap_of (bal w6 (Obj.cells (pt c2 m2 X2 r2) 53)) _ _ _ Af
  have AA := heap_of (bal w6 (Obj.cells (pt c2 m2 X2 r2) 53)) _ _ _ Aq
  have Au := heap_of (bal w6 (Obj.cells (pt c2 m2 X2 r2) 53)) _ _ _ Ag
  clear B6 Ae AX AY Af AZ A0 Aq Ag A1
  obtain ⟨A6, A7⟩ := cells2s As
  obtain ⟨A8, A9⟩ := cells2s At
  have Ba := (pt_cells Au).1
  have Bb := (pt_cells Ar).1
  go_wp2_with fail
  refine (KN.out _ (fatB FF.out B7)).mono ?_
  rintro r w8 ⟨rfl, b8⟩
  have B8 : Below w.heap.size w w8 := btr B7 b8
  have Bc := heap_of b8 _ _ _ As
  have Bd := heap_of b8 _ _ _ At
  have Ah := heap_of b8 _ _ _ AA
  have Be := heap_of b8 _ _ _ Au
  have Bf := heap_of b8 _ _ _ Ar
  clear b8 B7 As A6 A7 At A8 A9 AA Au Ba Ar Bb
  obtain ⟨Bs, Bt⟩ := cells2s Bc
  obtain ⟨Bu, Bv⟩ := cells2s Bd
  have Bw := (pt_cells Be).1
  have Bx := (pt_cells Bf).1
  obtain ⟨By, Bz⟩ := cells2s Ah
  have q0 := fz (k := 0) Ah
  have q1 := fz (k := 1) Ah
  obtain ⟨E0, E1⟩ := set2_cells Ah (.int .u64 u) (.int .u64 v)
  go_wp2
  exact bodyPost_ret (v := .tuple #[.agg #[.int .u64 u, .int .u64 v], .int .u8 0, .int .i64 0]) (by simp [results, Tryd.results16, go_sem, E0, E1]) rfl ⟨rfl, set2_below B8 (by first | exact Nat.le_refl _ | omega | (have := S5.out; have := AP.out; have := AQ.out; have := AR.out; have := S7.out; have := A2.out; have := A3.out; have := A4.out; have := A5.out; omega)) _ _⟩
theorem ad_plus_wii (f m : Int) (x1 y1 x2 y2 u v na nb : Nat) (c : Int) (c1 m1 : Nat) (X1 : Int) (r1 c2 m2 : Nat) (X2 : Int) (r2 : Nat) (tn : Bool) (ts : Nat) (tx fl : Int) (w : World) (hc : decide (c < 0) = true) (h18 : ((c1 : Int) == 8) = false) (h28 : ((c2 : Int) == 8) = false) (h19 : ((c1 : Int) == 9) = false) (hd : ((c1 : Int) != (c2 : Int)) = true)
    (KMa : Box (∀ w, FAt w → Calls Tryd.prog 26 #[.int .u8 f, .agg #[.int .u64 x1, .int .u64 y1]] w fun r w' => r = .returned (.agg (cw 6 na)) ∧ Below w.heap.size w w'))
    (KMb : Box (∀ w, FAt w → Calls Tryd.prog 26 #[.int .u8 f, .agg #[.int .u64 x2, .int .u64 y2]] w fun r w' => r = .returned (.agg (cw 6 nb)) ∧ Below w.heap.size w w'))
    (KC : Box (∀ w, Calls Tryd.prog 25 #[.agg (cw 6 na), .agg (cw 6 nb)] w fun r w' => r = .returned (.int .i64 c) ∧ Below w.heap.size w w'))
    (KU1 : Box (∀ w, FAt w → Calls Tryd.prog 27 #[.int .u8 f, .agg #[.int .u64 x2, .int .u64 y2]] w fun r w' => r = .returned (.tuple #[.agg (pt c1 m1 X1 r1), .int .i64 0]) ∧ Below w.heap.size w w'))
    (KU2 : Box (∀ w, FAt w → Calls Tryd.prog 27 #[.int .u8 f, .agg #[.int .u64 x1, .int .u64 y1]] w fun r w' => r = .returned (.tuple #[.agg (pt c2 m2 X2 r2), .int .i64 0]) ∧ Below w.heap.size w w'))
    (KE1 : Box (∀ w, Calls Tryd.prog 29 #[.int .u8 c1] w fun r w' => r = .returned (.bool true) ∧ Below w.heap.size w w'))
    (KE2 : Box (∀ w, Calls Tryd.prog 29 #[.int .u8 c2] w fun r w' => r = .returned (.bool true) ∧ Below w.heap.size w w'))
    (KN : Box (∀ w, FAt w → Calls Tryd.prog 28 #[.int .u8 f] w fun r w' => r = .returned (.agg #[.int .u64 u, .int .u64 v]) ∧ Below w.heap.size w w'))
    (hT : FAt w) : Calls Tryd.prog 16 #[.int .u8 f, .int .u8 m, .agg #[.int .u64 x1, .int .u64 y1], .agg #[.int .u64 x2, .int .u64 y2]] w fun r w' => r = .returned (.tuple #[.agg #[.int .u64 u, .int .u64 v], .int .u8 16, .int .i64 0]) ∧ Below w.heap.size w w' := by
  have FF := box hT
  clear hT
  have hat := cw_at 6
  have hz := cw6z
  have hff := cw6f
  have hs0 := st0
  have hcs : ∀ x, ((cw 6 x).size = 6) = True := fun x => eq_true (cw_size 6 x)
  have hp1 := rgf
  have hp5 : ∀ (c : Bool) (s : Nat) (x : Int) (r : Bool), ((rg c s x r).size = 9) = True := fun _ _ _ _ => eq_true rfl
  have BC := ptf
  have BD := ptz
  have BE := st_p0
  have BF : ∀ (c s : Nat) (x : Int) (r : Nat), ((pt c s x r).size = 14) = True := fun _ _ _ _ => eq_true rfl
  obtain ⟨Ai, Aj, AD, B0⟩ := opn3 w (Obj.cells #[.int .u64 x1, .int .u64 y1] 26) (Obj.cells #[.int .u64 x2, .int .u64 y2] 26) (Obj.cells #[.int .u64 0, .int .u64 0] 26)
  go_enter Tryd.func16, Tryd.ntmps16
  obtain ⟨AL, AM⟩ := cells2s Ai
  obtain ⟨AN, AO⟩ := cells2s Aj
  have sS : Box (∀ W W1 : World, (Below w.heap.size w W ∧ W.heap[w.heap.size]? = some (.cells #[.int .u64 x1, .int .u64 y1] 26) ∧ W.heap[w.heap.size + 1]? = some (.cells #[.int .u64 x2, .int .u64 y2] 26) ∧ W.heap[w.heap.size + 1 + 1]? = some (.cells #[.int .u64 0, .int .u64 0] 26)) → Below W.heap.size W W1 → (Below w.heap.size w W1 ∧ W1.heap[w.heap.size]? = some (.cells #[.int .u64 x1, .int .u64 y1] 26) ∧ W1.heap[w.heap.size + 1]? = some (.cells #[.int .u64 x2, .int .u64 y2] 26) ∧ W1.heap[w.heap.size + 1 + 1]? = some (.cells #[.int .u64 0, .int .u64 0] 26))) := box (fun W W1 h b => ⟨btr h.1 b, heap_of b _ _ _ h.2.1, heap_of b _ _ _ h.2.2.1, heap_of b _ _ _ h.2.2.2⟩)
  have sC : Box (∀ W : World, (Below w.heap.size w W ∧ W.heap[w.heap.size]? = some (.cells #[.int .u64 x1, .int .u64 y1] 26) ∧ W.heap[w.heap.size + 1]? = some (.cells #[.int .u64 x2, .int .u64 y2] 26) ∧ W.heap[w.heap.size + 1 + 1]? = some (.cells #[.int .u64 0, .int .u64 0] 26)) → (Below w.heap.size w W ∧ W.heap[w.heap.size]? = some (.cells #[.int .u64 x1, .int .u64 y1] 26) ∧ W.heap[w.heap.size + 1]? = some (.cells #[.int .u64 x2, .int .u64 y2] 26) ∧ W.heap[w.heap.size + 1 + 1]? = some (.cells #[.int .u64 0, .int .u64 0] 26) ∧ W.cell? ⟨w.heap.size, 0, none⟩ = some (.int .u64 x1) ∧ W.cell? ⟨w.heap.size, 1, none⟩ = some (.int .u64 y1) ∧ W.cell? ⟨w.heap.size + 1, 0, none⟩ = some (.int .u64 x2) ∧ W.cell? ⟨w.heap.size + 1, 1, none⟩ = some (.int .u64 y2) ∧ W.cell? ⟨w.heap.size + 1 + 1, 0, none⟩ = some (.int .u64 0) ∧ W.cell? ⟨w.heap.size + 1 + 1, 1, none⟩ = some (.int .u64 0))) := box (fun W h => ⟨h.1, h.2.1, h.2.2.1, h.2.2.2, cell7 (h.2.1) 0 _ rfl, cell7 (h.2.1) 1 _ rfl, cell7 (h.2.2.1) 0 _ rfl, cell7 (h.2.2.1) 1 _ rfl, cell7 (h.2.2.2) 0 _ rfl, cell7 (h.2.2.2) 1 _ rfl⟩)
  have s0 : Below w.heap.size w ((((w.alloc (Obj.cells #[.int .u64 x1, .int .u64 y1] 26)).alloc (Obj.cells #[.int .u64 x2, .int .u64 y2] 26)).alloc (Obj.cells #[.int .u64 0, .int .u64 0] 26))).drew ∧ ((((w.alloc (Obj.cells #[.int .u64 x1, .int .u64 y1] 26)).alloc (Obj.cells #[.int .u64 x2, .int .u64 y2] 26)).alloc (Obj.cells #[.int .u64 0, .int .u64 0] 26))).drew.heap[w.heap.size]? = some (.cells #[.int .u64 x1, .int .u64 y1] 26) ∧ ((((w.alloc (Obj.cells #[.int .u64 x1, .int .u64 y1] 26)).alloc (Obj.cells #[.int .u64 x2, .int .u64 y2] 26)).alloc (Obj.cells #[.int .u64 0, .int .u64 0] 26))).drew.heap[w.heap.size + 1]? = some (.cells #[.int .u64 x2, .int .u64 y2] 26) ∧ ((((w.alloc (Obj.cells #[.int .u64 x1, .int .u64 y1] 26)).alloc (Obj.cells #[.int .u64 x2, .int .u64 y2] 26)).alloc (Obj.cells #[.int .u64 0, .int .u64 0] 26))).drew.heap[w.heap.size + 1 + 1]? = some (.cells #[.int .u64 0, .int .u64 0] 26) := ⟨B0.drew, Ai, Aj, AD⟩
  go_wp2_with fail
  go_region_held3 (fun W => Below w.heap.size w W ∧ W.heap[w.heap.size]? = some (.cells #[.int .u64 x1, .int .u64 y1] 26) ∧ W.heap[w.heap.size + 1]? = some (.cells #[.int .u64 x2, .int .u64 y2] 26) ∧ W.heap[w.heap.size + 1 + 1]? = some (.cells #[.int .u64 0, .int .u64 0] 26) ∧ W.cell? ⟨w.heap.size, 0, none⟩ = some (.int .u64 x1) ∧ W.cell? ⟨w.heap.size, 1, none⟩ = some (.int .u64 y1) ∧ W.cell? ⟨w.heap.size + 1, 0, none⟩ = some (.int .u64 x2) ∧ W.cell? ⟨w.heap.size + 1, 1, none⟩ = some (.int .u64 y2) ∧ W.cell? ⟨w.heap.size + 1 + 1, 0, none⟩ = some (.int .u64 0) ∧ W.cell? ⟨w.heap.size + 1 + 1, 1, none⟩ = some (.int .u64 0)) (first | exact sC.out _ s1 | exact sC.out _ s0)
    (first | (go_at_call_of 26 (Value.agg #[.int .u64 x1, .int .u64 y1]); (first | refine (KMa.out _ (fatB FF.out (And.left s1))).mono ?_ | refine (KMa.out _ (fatB FF.out (And.left s0))).mono ?_); rintro r wq ⟨rfl, bq⟩; have s1 := (by first | exact sS.out _ _ s1 bq | exact sS.out _ _ s0 bq); clear bq) | (go_at_call_of 26 (Value.agg #[.int .u64 x2, .int .u64 y2]); (first | refine (KMb.out _ (fatB FF.out (And.left s1))).mono ?_ | refine (KMb.out _ (fatB FF.out (And.left s0))).mono ?_); rintro r wq ⟨rfl, bq⟩; have s1 := (by first | exact sS.out _ _ s1 bq | exact sS.out _ _ s0 bq); clear bq) | (go_at_call 25; (first | refine (KC.out _).mono ?_ | refine (KC.out _).mono ?_); rintro r wq ⟨rfl, bq⟩; have s1 := (by first | exact sS.out _ _ s1 bq | exact sS.out _ _ s0 bq); clear bq) | fail)
  have B1 := (And.left s1)
  have Aa := s1.2.1
  have AE := s1.2.2.1
  have AP := s1.2.2.2
  clear s0 s1 sS sC B0 Ai AL AM Aj AN AO AD
  obtain ⟨BG, BH⟩ := cells2s Aa
  obtain ⟨BI, BJ⟩ := cells2s AE
  have q0_2 := fz (k := 0) Aa
  have q1_2 := fz (k := 1) Aa
  have B2 := set2_below B1 (show w.heap.size ≤ w.heap.size by first | exact Nat.le_refl _ | omega | (skip; omega)) (.int .u64 x2) (.int .u64 y2)
  have AF : ((wq.setCell ⟨w.heap.size, 0, none⟩ (.int .u64 x2)).setCell ⟨w.heap.size, 1, none⟩ (.int .u64 y2)).heap[w.heap.size]? = some (.cells #[.int .u64 x2, .int .u64 y2] 26) := set2_row Aa _ _
  have Ab : ((wq.setCell ⟨w.heap.size, 0, none⟩ (.int .u64 x2)).setCell ⟨w.heap.size, 1, none⟩ (.int .u64 y2)).heap[w.heap.size + 1]? = some (.cells #[.int .u64 x2, .int .u64 y2] 26) := (setCell_other (by first | omega | (skip; omega))).trans ((setCell_other (by first | omega | (skip; omega))).trans AE)
  have AQ : ((wq.setCell ⟨w.heap.size, 0, none⟩ (.int .u64 x2)).setCell ⟨w.heap.size, 1, none⟩ (.int .u64 y2)).heap[w.heap.size + 1 + 1]? = some (.cells #[.int .u64 0, .int .u64 0] 26) := (setCell_other (by first | omega | (skip; omega))).trans ((setCell_other (by first | omega | (skip; omega))).trans AP)
  obtain ⟨BK, BL⟩ := cells2s AF
  obtain ⟨BM, BN⟩ := cells2s Ab
  have q0_3 := fz (k := 0) Ab
  have q1_3 := fz (k := 1) Ab
  have B3 := set2_below B2 (show w.heap.size ≤ w.heap.size + 1 by first | exact Nat.le_refl _ | omega | (skip; omega)) (.int .u64 x1) (.int .u64 y1)
  have Ak : ((((wq.setCell ⟨w.heap.size, 0, none⟩ (.int .u64 x2)).setCell ⟨w.heap.size, 1, none⟩ (.int .u64 y2)).setCell ⟨w.heap.size + 1, 0, none⟩ (.int .u64 x1)).setCell ⟨w.heap.size + 1, 1, none⟩ (.int .u64 y1)).heap[w.heap.size + 1]? = some (.cells #[.int .u64 x1, .int .u64 y1] 26) := set2_row Ab _ _
  have Al : ((((wq.setCell ⟨w.heap.size, 0, none⟩ (.int .u64 x2)).setCell ⟨w.heap.size, 1, none⟩ (.int .u64 y2)).setCell ⟨w.heap.size + 1, 0, none⟩ (.int .u64 x1)).setCell ⟨w.heap.size + 1, 1, none⟩ (.int .u64 y1)).heap[w.heap.size]? = some (.cells #[.int .u64 x2, .int .u64 y2] 26) := (setCell_other (by first | omega | (skip; omega))).trans ((setCell_other (by first | omega | (skip; omega))).trans AF)
  have AG : ((((wq.setCell ⟨w.heap.size, 0, none⟩ (.int .u64 x2)).setCell ⟨w.heap.size, 1, none⟩ (.int .u64 y2)).setCell ⟨w.heap.size + 1, 0, none⟩ (.int .u64 x1)).setCell ⟨w.heap.size + 1, 1, none⟩ (.int .u64 y1)).heap[w.heap.size + 1 + 1]? = some (.cells #[.int .u64 0, .int .u64 0] 26) := (setCell_other (by first | omega | (skip; omega))).trans ((setCell_other (by first | omega | (skip; omega))).trans AQ)
  obtain ⟨AR, AS⟩ := cells2s Al
  obtain ⟨AT, AU⟩ := cells2s Ak
  go_wp2_with fail
  refine (KU1.out _ (fatB FF.out B3)).mono ?_
  rintro r w4 ⟨rfl, b4⟩
  have B4 : Below w.heap.size w w4 := btr B3 b4
  have Ac := heap_of b4 _ _ _ Al
  have Ad := heap_of b4 _ _ _ Ak
  have Am := heap_of b4 _ _ _ AG
  clear b4 B3 Al AR AS Ak AT AU AG
  obtain ⟨AV, AW⟩ := cells2s Ac
  obtain ⟨AX, AY⟩ := cells2s Ad
  have S5 := box B4.size
  have AZ := ltR Ac
  have A0 := ltR Ad
  have A1 := ltR Am
  have An := heap_alloc_last w4 (Obj.cells (pt c1 m1 X1 r1) 53)
  have B5 := btr B4 (bal w4 (Obj.cells (pt c1 m1 X1 r1) 53))
  have Ao := heap_of (bal w4 (Obj.cells (pt c1 m1 X1 r1) 53)) _ _ _ Ac
  have Ap := heap_of (bal w4 (Obj.cells (pt c1 m1 X1 r1) 53)) _ _ _ Ad
  have AH := heap_of (bal w4 (Obj.cells (pt c1 m1 X1 r1) 53)) _ _ _ Am
  clear B4 Ac AV AW Ad AX AY Am
  obtain ⟨A2, A3⟩ := cells2s Ao
  obtain ⟨A4, A5⟩ := cells2s Ap
  have A6 := (pt_cells An).1
  go_wp2_with fail
  refine (KU2.out _ (fatB FF.out B5)).mono ?_
  rintro r w6 ⟨rfl, b6⟩
  have B6 : Below w.heap.size w w6 := btr B5 b6
  have Ae := heap_of b6 _ _ _ Ao
  have Af := heap_of b6 _ _ _ Ap
  have Aq := heap_of b6 _ _ _ AH
  have Ag := heap_of b6 _ _ _ An
  clear b6 B5 Ao A2 A3 Ap A4 A5 AH An A6
  obtain ⟨A7, A8⟩ := cells2s Ae
  obtain ⟨A9, Ba⟩ := cells2s Af
  have Bb := (pt_cells Ag).1
  have S7 := box B6.size
  have Bc := ltR Ae
  have Bd := ltR Af
  have Be := ltR Aq
  have Bf := ltR Ag
  have Ar := heap_alloc_last w6 (Obj.cells (pt c2 m2 X2 r2) 53)
  have B7 := btr B6 (bal w6 (Obj.cells (pt c2 m2 X2 r2) 53))
  have As := heap_of (bal w6 (Obj.cells (pt c2 m2 X2 r2) 53)) _ _ _ Ae
  have At := heap_of (bal w6 (Obj.cells (pt c2 m2 X2 r2) 53)) _ _ _ Af
  have AI := heap_of (bal w6 (Obj.cells (pt c2 m2 X2 r2) 53)) _ _ _ Aq
  have Au := heap_of (bal w6 (Obj.cells (pt c2 m2 X2 r2) 53)) _ _ _ Ag
  clear B6 Ae A7 A8 Af A9 Ba Aq Ag Bb
  obtain ⟨Bg, Bh⟩ := cells2s As
  obtain ⟨Bi, Bj⟩ := cells2s At
  have Bk := (pt_cells Au).1
  have Bl := (pt_cells Ar).1
  go_wp2_with fail
  refine (KE1.out _).mono ?_
  rintro r w8 ⟨rfl, b8⟩
  have B8 : Below w.heap.size w w8 := btr B7 b8
  have Av := heap_of b8 _ _ _ As
  have Aw := heap_of b8 _ _ _ At
  have AJ := heap_of b8 _ _ _ AI
  have Ax := heap_of b8 _ _ _ Au
  have Ay := heap_of b8 _ _ _ Ar
  clear b8 B7 As Bg Bh At Bi Bj AI Au Bk Ar Bl
  obtain ⟨Bm, Bn⟩ := cells2s Av
  obtain ⟨Bo, Bp⟩ := cells2s Aw
  have Bq := (pt_cells Ax).1
  have Br := (pt_cells Ay).1
  go_wp2_with fail
  refine (KE2.out _).mono ?_
  rintro r w9 ⟨rfl, b9⟩
  have B9 : Below w.heap.size w w9 := btr B8 b9
  have Az := heap_of b9 _ _ _ Av
  have AA := heap_of b9 _ _ _ Aw
  have AK := heap_of b9 _ _ _ AJ
  have AB := heap_of b9 _ _ _ Ax
  have AC := heap_of b9 _ _ _ Ay
  clear b9 B8 Av Bm Bn Aw Bo Bp AJ Ax Bq Ay Br
  obtain ⟨Bs, Bt⟩ := cells2s Az
  obtain ⟨Bu, Bv⟩ := cells2s AA
  have Bw := (pt_cells AB).1
  have Bx := (pt_cells AC).1
  go_wp2_with fail
  refine (KN.out _ (fatB FF.out B9)).mono ?_
  rintro r w10 ⟨rfl, b10⟩
  have B10 : Below w.heap.size w w10 := btr B9 b10
  have By := heap_of b10 _ _ _ Az
  have Bz := heap_of b10 _ _ _ AA
  have Ah := heap_of b10 _ _ _ AK
  have BA := heap_of b10 _ _ _ AB
  have BB := heap_of b10 _ _ _ AC
  clear b10 B9 Az Bs Bt AA Bu Bv AK AB Bw AC Bx
  obtain ⟨BO, BP⟩ := cells2s By
  obtain ⟨BQ, BR⟩ := cells2s Bz
  have BS := (pt_cells BA).1
  have BT := (pt_cells BB).1
  obtain ⟨BU, BV⟩ := cells2s Ah
  have q0 := fz (k := 0) Ah
  have q1 := fz (k := 1) Ah
  obtain ⟨E0, E1⟩ := set2_cells Ah (.int .u64 u) (.int .u64 v)
  go_wp2
  exact bodyPost_ret (v := .tuple #[.agg #[.int .u64 u, .int .u64 v], .int .u8 16, .int .i64 0]) (by simp [results, Tryd.results16, go_sem, E0, E1]) rfl ⟨rfl, set2_below B10 (by first | exact Nat.le_refl _ | omega | (have := S5.out; have := AZ.out; have := A0.out; have := A1.out; have := S7.out; have := Bc.out; have := Bd.out; have := Be.out; have := Bf.out; omega)) _ _⟩
theorem ad_plus_wis (f m : Int) (x1 y1 x2 y2 u v na nb : Nat) (c : Int) (c1 m1 : Nat) (X1 : Int) (r1 c2 m2 : Nat) (X2 : Int) (r2 : Nat) (tn : Bool) (ts : Nat) (tx fl : Int) (w : World) (hc : decide (c < 0) = true) (h18 : ((c1 : Int) == 8) = false) (h28 : ((c2 : Int) == 8) = false) (h19 : ((c1 : Int) == 9) = false) (hd : ((c1 : Int) != (c2 : Int)) = false)
    (KMa : Box (∀ w, FAt w → Calls Tryd.prog 26 #[.int .u8 f, .agg #[.int .u64 x1, .int .u64 y1]] w fun r w' => r = .returned (.agg (cw 6 na)) ∧ Below w.heap.size w w'))
    (KMb : Box (∀ w, FAt w → Calls Tryd.prog 26 #[.int .u8 f, .agg #[.int .u64 x2, .int .u64 y2]] w fun r w' => r = .returned (.agg (cw 6 nb)) ∧ Below w.heap.size w w'))
    (KC : Box (∀ w, Calls Tryd.prog 25 #[.agg (cw 6 na), .agg (cw 6 nb)] w fun r w' => r = .returned (.int .i64 c) ∧ Below w.heap.size w w'))
    (KU1 : Box (∀ w, FAt w → Calls Tryd.prog 27 #[.int .u8 f, .agg #[.int .u64 x2, .int .u64 y2]] w fun r w' => r = .returned (.tuple #[.agg (pt c1 m1 X1 r1), .int .i64 0]) ∧ Below w.heap.size w w'))
    (KU2 : Box (∀ w, FAt w → Calls Tryd.prog 27 #[.int .u8 f, .agg #[.int .u64 x1, .int .u64 y1]] w fun r w' => r = .returned (.tuple #[.agg (pt c2 m2 X2 r2), .int .i64 0]) ∧ Below w.heap.size w w'))
    (KE1 : Box (∀ w, Calls Tryd.prog 29 #[.int .u8 c1] w fun r w' => r = .returned (.bool true) ∧ Below w.heap.size w w'))
    (KE2 : Box (∀ w, Calls Tryd.prog 29 #[.int .u8 c2] w fun r w' => r = .returned (.bool true) ∧ Below w.heap.size w w'))
    (hT : FAt w) : Calls Tryd.prog 16 #[.int .u8 f, .int .u8 m, .agg #[.int .u64 x1, .int .u64 y1], .agg #[.int .u64 x2, .int .u64 y2]] w fun r w' => r = .returned (.tuple #[.agg #[.int .u64 x2, .int .u64 y2], .int .u8 0, .int .i64 0]) ∧ Below w.heap.size w w' := by
  have FF := box hT
  clear hT
  have hat := cw_at 6
  have hz := cw6z
  have hff := cw6f
  have hs0 := st0
  have hcs : ∀ x, ((cw 6 x).size = 6) = True := fun x => eq_true (cw_size 6 x)
  have hp1 := rgf
  have hp5 : ∀ (c : Bool) (s : Nat) (x : Int) (r : Bool), ((rg c s x r).size = 9) = True := fun _ _ _ _ => eq_true rfl
  have BC := ptf
  have BD := ptz
  have BE := st_p0
  have BF : ∀ (c s : Nat) (x : Int) (r : Nat), ((pt c s x r).size = 14) = True := fun _ _ _ _ => eq_true rfl
  obtain ⟨Ai, Aj, AD, B0⟩ := opn3 w (Obj.cells #[.int .u64 x1, .int .u64 y1] 26) (Obj.cells #[.int .u64 x2, .int .u64 y2] 26) (Obj.cells #[.int .u64 0, .int .u64 0] 26)
  go_enter Tryd.func16, Tryd.ntmps16
  obtain ⟨AL, AM⟩ := cells2s Ai
  obtain ⟨AN, AO⟩ := cells2s Aj
  have sS : Box (∀ W W1 : World, (Below w.heap.size w W ∧ W.heap[w.heap.size]? = some (.cells #[.int .u64 x1, .int .u64 y1] 26) ∧ W.heap[w.heap.size + 1]? = some (.cells #[.int .u64 x2, .int .u64 y2] 26) ∧ W.heap[w.heap.size + 1 + 1]? = some (.cells #[.int .u64 0, .int .u64 0] 26)) → Below W.heap.size W W1 → (Below w.heap.size w W1 ∧ W1.heap[w.heap.size]? = some (.cells #[.int .u64 x1, .int .u64 y1] 26) ∧ W1.heap[w.heap.size + 1]? = some (.cells #[.int .u64 x2, .int .u64 y2] 26) ∧ W1.heap[w.heap.size + 1 + 1]? = some (.cells #[.int .u64 0, .int .u64 0] 26))) := box (fun W W1 h b => ⟨btr h.1 b, heap_of b _ _ _ h.2.1, heap_of b _ _ _ h.2.2.1, heap_of b _ _ _ h.2.2.2⟩)
  have sC : Box (∀ W : World, (Below w.heap.size w W ∧ W.heap[w.heap.size]? = some (.cells #[.int .u64 x1, .int .u64 y1] 26) ∧ W.heap[w.heap.size + 1]? = some (.cells #[.int .u64 x2, .int .u64 y2] 26) ∧ W.heap[w.heap.size + 1 + 1]? = some (.cells #[.int .u64 0, .int .u64 0] 26)) → (Below w.heap.size w W ∧ W.heap[w.heap.size]? = some (.cells #[.int .u64 x1, .int .u64 y1] 26) ∧ W.heap[w.heap.size + 1]? = some (.cells #[.int .u64 x2, .int .u64 y2] 26) ∧ W.heap[w.heap.size + 1 + 1]? = some (.cells #[.int .u64 0, .int .u64 0] 26) ∧ W.cell? ⟨w.heap.size, 0, none⟩ = some (.int .u64 x1) ∧ W.cell? ⟨w.heap.size, 1, none⟩ = some (.int .u64 y1) ∧ W.cell? ⟨w.heap.size + 1, 0, none⟩ = some (.int .u64 x2) ∧ W.cell? ⟨w.heap.size + 1, 1, none⟩ = some (.int .u64 y2) ∧ W.cell? ⟨w.heap.size + 1 + 1, 0, none⟩ = some (.int .u64 0) ∧ W.cell? ⟨w.heap.size + 1 + 1, 1, none⟩ = some (.int .u64 0))) := box (fun W h => ⟨h.1, h.2.1, h.2.2.1, h.2.2.2, cell7 (h.2.1) 0 _ rfl, cell7 (h.2.1) 1 _ rfl, cell7 (h.2.2.1) 0 _ rfl, cell7 (h.2.2.1) 1 _ rfl, cell7 (h.2.2.2) 0 _ rfl, cell7 (h.2.2.2) 1 _ rfl⟩)
  have s0 : Below w.heap.size w ((((w.alloc (Obj.cells #[.int .u64 x1, .int .u64 y1] 26)).alloc (Obj.cells #[.int .u64 x2, .int .u64 y2] 26)).alloc (Obj.cells #[.int .u64 0, .int .u64 0] 26))).drew ∧ ((((w.alloc (Obj.cells #[.int .u64 x1, .int .u64 y1] 26)).alloc (Obj.cells #[.int .u64 x2, .int .u64 y2] 26)).alloc (Obj.cells #[.int .u64 0, .int .u64 0] 26))).drew.heap[w.heap.size]? = some (.cells #[.int .u64 x1, .int .u64 y1] 26) ∧ ((((w.alloc (Obj.cells #[.int .u64 x1, .int .u64 y1] 26)).alloc (Obj.cells #[.int .u64 x2, .int .u64 y2] 26)).alloc (Obj.cells #[.int .u64 0, .int .u64 0] 26))).drew.heap[w.heap.size + 1]? = some (.cells #[.int .u64 x2, .int .u64 y2] 26) ∧ ((((w.alloc (Obj.cells #[.int .u64 x1, .int .u64 y1] 26)).alloc (Obj.cells #[.int .u64 x2, .int .u64 y2] 26)).alloc (Obj.cells #[.int .u64 0, .int .u64 0] 26))).drew.heap[w.heap.size + 1 + 1]? = some (.cells #[.int .u64 0, .int .u64 0] 26) := ⟨B0.drew, Ai, Aj, AD⟩
  go_wp2_with fail
  go_region_held3 (fun W => Below w.heap.size w W ∧ W.heap[w.heap.size]? = some (.cells #[.int .u64 x1, .int .u64 y1] 26) ∧ W.heap[w.heap.size + 1]? = some (.cells #[.int .u64 x2, .int .u64 y2] 26) ∧ W.heap[w.heap.size + 1 + 1]? = some (.cells #[.int .u64 0, .int .u64 0] 26) ∧ W.cell? ⟨w.heap.size, 0, none⟩ = some (.int .u64 x1) ∧ W.cell? ⟨w.heap.size, 1, none⟩ = some (.int .u64 y1) ∧ W.cell? ⟨w.heap.size + 1, 0, none⟩ = some (.int .u64 x2) ∧ W.cell? ⟨w.heap.size + 1, 1, none⟩ = some (.int .u64 y2) ∧ W.cell? ⟨w.heap.size + 1 + 1, 0, none⟩ = some (.int .u64 0) ∧ W.cell? ⟨w.heap.size + 1 + 1, 1, none⟩ = some (.int .u64 0)) (first | exact sC.out _ s1 | exact sC.out _ s0)
    (first | (go_at_call_of 26 (Value.agg #[.int .u64 x1, .int .u64 y1]); (first | refine (KMa.out _ (fatB FF.out (And.left s1))).mono ?_ | refine (KMa.out _ (fatB FF.out (And.left s0))).mono ?_); rintro r wq ⟨rfl, bq⟩; have s1 := (by first | exact sS.out _ _ s1 bq | exact sS.out _ _ s0 bq); clear bq) | (go_at_call_of 26 (Value.agg #[.int .u64 x2, .int .u64 y2]); (first | refine (KMb.out _ (fatB FF.out (And.left s1))).mono ?_ | refine (KMb.out _ (fatB FF.out (And.left s0))).mono ?_); rintro r wq ⟨rfl, bq⟩; have s1 := (by first | exact sS.out _ _ s1 bq | exact sS.out _ _ s0 bq); clear bq) | (go_at_call 25; (first | refine (KC.out _).mono ?_ | refine (KC.out _).mono ?_); rintro r wq ⟨rfl, bq⟩; have s1 := (by first | exact sS.out _ _ s1 bq | exact sS.out _ _ s0 bq); clear bq) | fail)
  have B1 := (And.left s1)
  have Aa := s1.2.1
  have AE := s1.2.2.1
  have AP := s1.2.2.2
  clear s0 s1 sS sC B0 Ai AL AM Aj AN AO AD
  obtain ⟨BG, BH⟩ := cells2s Aa
  obtain ⟨BI, BJ⟩ := cells2s AE
  have q0_2 := fz (k := 0) Aa
  have q1_2 := fz (k := 1) Aa
  have B2 := set2_below B1 (show w.heap.size ≤ w.heap.size by first | exact Nat.le_refl _ | omega | (skip; omega)) (.int .u64 x2) (.int .u64 y2)
  have AF : ((wq.setCell ⟨w.heap.size, 0, none⟩ (.int .u64 x2)).setCell ⟨w.heap.size, 1, none⟩ (.int .u64 y2)).heap[w.heap.size]? = some (.cells #[.int .u64 x2, .int .u64 y2] 26) := set2_row Aa _ _
  have Ab : ((wq.setCell ⟨w.heap.size, 0, none⟩ (.int .u64 x2)).setCell ⟨w.heap.size, 1, none⟩ (.int .u64 y2)).heap[w.heap.size + 1]? = some (.cells #[.int .u64 x2, .int .u64 y2] 26) := (setCell_other (by first | omega | (skip; omega))).trans ((setCell_other (by first | omega | (skip; omega))).trans AE)
  have AQ : ((wq.setCell ⟨w.heap.size, 0, none⟩ (.int .u64 x2)).setCell ⟨w.heap.size, 1, none⟩ (.int .u64 y2)).heap[w.heap.size + 1 + 1]? = some (.cells #[.int .u64 0, .int .u64 0] 26) := (setCell_other (by first | omega | (skip; omega))).trans ((setCell_other (by first | omega | (skip; omega))).trans AP)
  obtain ⟨BK, BL⟩ := cells2s AF
  obtain ⟨BM, BN⟩ := cells2s Ab
  have q0_3 := fz (k := 0) Ab
  have q1_3 := fz (k := 1) Ab
  have B3 := set2_below B2 (show w.heap.size ≤ w.heap.size + 1 by first | exact Nat.le_refl _ | omega | (skip; omega)) (.int .u64 x1) (.int .u64 y1)
  have Ak : ((((wq.setCell ⟨w.heap.size, 0, none⟩ (.int .u64 x2)).setCell ⟨w.heap.size, 1, none⟩ (.int .u64 y2)).setCell ⟨w.heap.size + 1, 0, none⟩ (.int .u64 x1)).setCell ⟨w.heap.size + 1, 1, none⟩ (.int .u64 y1)).heap[w.heap.size + 1]? = some (.cells #[.int .u64 x1, .int .u64 y1] 26) := set2_row Ab _ _
  have Al : ((((wq.setCell ⟨w.heap.size, 0, none⟩ (.int .u64 x2)).setCell ⟨w.heap.size, 1, none⟩ (.int .u64 y2)).setCell ⟨w.heap.size + 1, 0, none⟩ (.int .u64 x1)).setCell ⟨w.heap.size + 1, 1, none⟩ (.int .u64 y1)).heap[w.heap.size]? = some (.cells #[.int .u64 x2, .int .u64 y2] 26) := (setCell_other (by first | omega | (skip; omega))).trans ((setCell_other (by first | omega | (skip; omega))).trans AF)
  have AG : ((((wq.setCell ⟨w.heap.size, 0, none⟩ (.int .u64 x2)).setCell ⟨w.heap.size, 1, none⟩ (.int .u64 y2)).setCell ⟨w.heap.size + 1, 0, none⟩ (.int .u64 x1)).setCell ⟨w.heap.size + 1, 1, none⟩ (.int .u64 y1)).heap[w.heap.size + 1 + 1]? = some (.cells #[.int .u64 0, .int .u64 0] 26) := (setCell_other (by first | omega | (skip; omega))).trans ((setCell_other (by first | omega | (skip; omega))).trans AQ)
  obtain ⟨AR, AS⟩ := cells2s Al
  obtain ⟨AT, AU⟩ := cells2s Ak
  go_wp2_with fail
  refine (KU1.out _ (fatB FF.out B3)).mono ?_
  rintro r w4 ⟨rfl, b4⟩
  have B4 : Below w.heap.size w w4 := btr B3 b4
  have Ac := heap_of b4 _ _ _ Al
  have Ad := heap_of b4 _ _ _ Ak
  have Am := heap_of b4 _ _ _ AG
  clear b4 B3 Al AR AS Ak AT AU AG
  obtain ⟨AV, AW⟩ := cells2s Ac
  obtain ⟨AX, AY⟩ := cells2s Ad
  have S5 := box B4.size
  have AZ := ltR Ac
  have A0 := ltR Ad
  have A1 := ltR Am
  have An := heap_alloc_last w4 (Obj.cells (pt c1 m1 X1 r1) 53)
  have B5 := btr B4 (bal w4 (Obj.cells (pt c1 m1 X1 r1) 53))
  have Ao := heap_of (bal w4 (Obj.cells (pt c1 m1 X1 r1) 53)) _ _ _ Ac
  have Ap := heap_of (bal w4 (Obj.cells (pt c1 m1 X1 r1) 53)) _ _ _ Ad
  have AH := heap_of (bal w4 (Obj.cells (pt c1 m1 X1 r1) 53)) _ _ _ Am
  clear B4 Ac AV AW Ad AX AY Am
  obtain ⟨A2, A3⟩ := cells2s Ao
  obtain ⟨A4, A5⟩ := cells2s Ap
  have A6 := (pt_cells An).1
  go_wp2_with fail
  refine (KU2.out _ (fatB FF.out B5)).mono ?_
  rintro r w6 ⟨rfl, b6⟩
  have B6 : Below w.heap.size w w6 := btr B5 b6
  have Ae := heap_of b6 _ _ _ Ao
  have Af := heap_of b6 _ _ _ Ap
  have Aq := heap_of b6 _ _ _ AH
  have Ag := heap_of b6 _ _ _ An
  clear b6 B5 Ao A2 A3 Ap A4 A5 AH An A6
  obtain ⟨A7, A8⟩ := cells2s Ae
  obtain ⟨A9, Ba⟩ := cells2s Af
  have Bb := (pt_cells Ag).1
  have S7 := box B6.size
  have Bc := ltR Ae
  have Bd := ltR Af
  have Be := ltR Aq
  have Bf := ltR Ag
  have Ar := heap_alloc_last w6 (Obj.cells (pt c2 m2 X2 r2) 53)
  have B7 := btr B6 (bal w6 (Obj.cells (pt c2 m2 X2 r2) 53))
  have As := heap_of (bal w6 (Obj.cells (pt c2 m2 X2 r2) 53)) _ _ _ Ae
  have At := heap_of (bal w6 (Obj.cells (pt c2 m2 X2 r2) 53)) _ _ _ Af
  have AI := heap_of (bal w6 (Obj.cells (pt c2 m2 X2 r2) 53)) _ _ _ Aq
  have Au := heap_of (bal w6 (Obj.cells (pt c2 m2 X2 r2) 53)) _ _ _ Ag
  clear B6 Ae A7 A8 Af A9 Ba Aq Ag Bb
  obtain ⟨Bg, Bh⟩ := cells2s As
  obtain ⟨Bi, Bj⟩ := cells2s At
  have Bk := (pt_cells Au).1
  have Bl := (pt_cells Ar).1
  go_wp2_with fail
  refine (KE1.out _).mono ?_
  rintro r w8 ⟨rfl, b8⟩
  have B8 : Below w.heap.size w w8 := btr B7 b8
  have Av := heap_of b8 _ _ _ As
  have Aw := heap_of b8 _ _ _ At
  have AJ := heap_of b8 _ _ _ AI
  have Ax := heap_of b8 _ _ _ Au
  have Ay := heap_of b8 _ _ _ Ar
  clear b8 B7 As Bg Bh At Bi Bj AI Au Bk Ar Bl
  obtain ⟨Bm, Bn⟩ := cells2s Av
  obtain ⟨Bo, Bp⟩ := cells2s Aw
  have Bq := (pt_cells Ax).1
  have Br := (pt_cells Ay).1
  go_wp2_with fail
  refine (KE2.out _).mono ?_
  rintro r w9 ⟨rfl, b9⟩
  have B9 : Below w.heap.size w w9 := btr B8 b9
  have Az := heap_of b9 _ _ _ Av
  have AA := heap_of b9 _ _ _ Aw
  have AK := heap_of b9 _ _ _ AJ
  have AB := heap_of b9 _ _ _ Ax
  have AC := heap_of b9 _ _ _ Ay
  clear b9 B8 Av Bm Bn Aw Bo Bp AJ Ax Bq Ay Br
  obtain ⟨Bs, Bt⟩ := cells2s Az
  obtain ⟨Bu, Bv⟩ := cells2s AA
  have Bw := (pt_cells AB).1
  have Bx := (pt_cells AC).1
  go_wp2_with fail
  refine (KE1.out _).mono ?_
  rintro r w10 ⟨rfl, b10⟩
  have B10 : Below w.heap.size w w10 := btr B9 b10
  have By := heap_of b10 _ _ _ Az
  have Bz := heap_of b10 _ _ _ AA
  have Ah := heap_of b10 _ _ _ AK
  have BA := heap_of b10 _ _ _ AB
  have BB := heap_of b10 _ _ _ AC
  clear b10 B9 Az Bs Bt AA Bu Bv AK AB Bw AC Bx
  obtain ⟨BO, BP⟩ := cells2s By
  obtain ⟨BQ, BR⟩ := cells2s Bz
  have BS := (pt_cells BA).1
  have BT := (pt_cells BB).1
  obtain ⟨BU, BV⟩ := cells2s Ah
  have q0 := fz (k := 0) Ah
  have q1 := fz (k := 1) Ah
  obtain ⟨E0, E1⟩ := set2_cells Ah (.int .u64 x2) (.int .u64 y2)
  go_wp2
  exact bodyPost_ret (v := .tuple #[.agg #[.int .u64 x2, .int .u64 y2], .int .u8 0, .int .i64 0]) (by simp [results, Tryd.results16, go_sem, E0, E1]) rfl ⟨rfl, set2_below B10 (by first | exact Nat.le_refl _ | omega | (have := S5.out; have := AZ.out; have := A0.out; have := A1.out; have := S7.out; have := Bc.out; have := Bd.out; have := Be.out; have := Bf.out; omega)) _ _⟩
theorem ad_plus_win (f m : Int) (x1 y1 x2 y2 u v na nb : Nat) (c : Int) (c1 m1 : Nat) (X1 : Int) (r1 c2 m2 : Nat) (X2 : Int) (r2 : Nat) (tn : Bool) (ts : Nat) (tx fl : Int) (w : World) (hc : decide (c < 0) = true) (h18 : ((c1 : Int) == 8) = false) (h28 : ((c2 : Int) == 8) = false) (h19 : ((c1 : Int) == 9) = false) 
    (KMa : Box (∀ w, FAt w → Calls Tryd.prog 26 #[.int .u8 f, .agg #[.int .u64 x1, .int .u64 y1]] w fun r w' => r = .returned (.agg (cw 6 na)) ∧ Below w.heap.size w w'))
    (KMb : Box (∀ w, FAt w → Calls Tryd.prog 26 #[.int .u8 f, .agg #[.int .u64 x2, .int .u64 y2]] w fun r w' => r = .returned (.agg (cw 6 nb)) ∧ Below w.heap.size w w'))
    (KC : Box (∀ w, Calls Tryd.prog 25 #[.agg (cw 6 na), .agg (cw 6 nb)] w fun r w' => r = .returned (.int .i64 c) ∧ Below w.heap.size w w'))
    (KU1 : Box (∀ w, FAt w → Calls Tryd.prog 27 #[.int .u8 f, .agg #[.int .u64 x2, .int .u64 y2]] w fun r w' => r = .returned (.tuple #[.agg (pt c1 m1 X1 r1), .int .i64 0]) ∧ Below w.heap.size w w'))
    (KU2 : Box (∀ w, FAt w → Calls Tryd.prog 27 #[.int .u8 f, .agg #[.int .u64 x1, .int .u64 y1]] w fun r w' => r = .returned (.tuple #[.agg (pt c2 m2 X2 r2), .int .i64 0]) ∧ Below w.heap.size w w'))
    (KE1 : Box (∀ w, Calls Tryd.prog 29 #[.int .u8 c1] w fun r w' => r = .returned (.bool true) ∧ Below w.heap.size w w'))
    (KE2 : Box (∀ w, Calls Tryd.prog 29 #[.int .u8 c2] w fun r w' => r = .returned (.bool false) ∧ Below w.heap.size w w'))
    (hT : FAt w) : Calls Tryd.prog 16 #[.int .u8 f, .int .u8 m, .agg #[.int .u64 x1, .int .u64 y1], .agg #[.int .u64 x2, .int .u64 y2]] w fun r w' => r = .returned (.tuple #[.agg #[.int .u64 x2, .int .u64 y2], .int .u8 0, .int .i64 0]) ∧ Below w.heap.size w w' := by
  have FF := box hT
  clear hT
  have hat := cw_at 6
  have hz := cw6z
  have hff := cw6f
  have hs0 := st0
  have hcs : ∀ x, ((cw 6 x).size = 6) = True := fun x => eq_true (cw_size 6 x)
  have hp1 := rgf
  have hp5 : ∀ (c : Bool) (s : Nat) (x : Int) (r : Bool), ((rg c s x r).size = 9) = True := fun _ _ _ _ => eq_true rfl
  have BC := ptf
  have BD := ptz
  have BE := st_p0
  have BF : ∀ (c s : Nat) (x : Int) (r : Nat), ((pt c s x r).size = 14) = True := fun _ _ _ _ => eq_true rfl
  obtain ⟨Ai, Aj, AD, B0⟩ := opn3 w (Obj.cells #[.int .u64 x1, .int .u64 y1] 26) (Obj.cells #[.int .u64 x2, .int .u64 y2] 26) (Obj.cells #[.int .u64 0, .int .u64 0] 26)
  go_enter Tryd.func16, Tryd.ntmps16
  obtain ⟨AL, AM⟩ := cells2s Ai
  obtain ⟨AN, AO⟩ := cells2s Aj
  have sS : Box (∀ W W1 : World, (Below w.heap.size w W ∧ W.heap[w.heap.size]? = some (.cells #[.int .u64 x1, .int .u64 y1] 26) ∧ W.heap[w.heap.size + 1]? = some (.cells #[.int .u64 x2, .int .u64 y2] 26) ∧ W.heap[w.heap.size + 1 + 1]? = some (.cells #[.int .u64 0, .int .u64 0] 26)) → Below W.heap.size W W1 → (Below w.heap.size w W1 ∧ W1.heap[w.heap.size]? = some (.cells #[.int .u64 x1, .int .u64 y1] 26) ∧ W1.heap[w.heap.size + 1]? = some (.cells #[.int .u64 x2, .int .u64 y2] 26) ∧ W1.heap[w.heap.size + 1 + 1]? = some (.cells #[.int .u64 0, .int .u64 0] 26))) := box (fun W W1 h b => ⟨btr h.1 b, heap_of b _ _ _ h.2.1, heap_of b _ _ _ h.2.2.1, heap_of b _ _ _ h.2.2.2⟩)
  have sC : Box (∀ W : World, (Below w.heap.size w W ∧ W.heap[w.heap.size]? = some (.cells #[.int .u64 x1, .int .u64 y1] 26) ∧ W.heap[w.heap.size + 1]? = some (.cells #[.int .u64 x2, .int .u64 y2] 26) ∧ W.heap[w.heap.size + 1 + 1]? = some (.cells #[.int .u64 0, .int .u64 0] 26)) → (Below w.heap.size w W ∧ W.heap[w.heap.size]? = some (.cells #[.int .u64 x1, .int .u64 y1] 26) ∧ W.heap[w.heap.size + 1]? = some (.cells #[.int .u64 x2, .int .u64 y2] 26) ∧ W.heap[w.heap.size + 1 + 1]? = some (.cells #[.int .u64 0, .int .u64 0] 26) ∧ W.cell? ⟨w.heap.size, 0, none⟩ = some (.int .u64 x1) ∧ W.cell? ⟨w.heap.size, 1, none⟩ = some (.int .u64 y1) ∧ W.cell? ⟨w.heap.size + 1, 0, none⟩ = some (.int .u64 x2) ∧ W.cell? ⟨w.heap.size + 1, 1, none⟩ = some (.int .u64 y2) ∧ W.cell? ⟨w.heap.size + 1 + 1, 0, none⟩ = some (.int .u64 0) ∧ W.cell? ⟨w.heap.size + 1 + 1, 1, none⟩ = some (.int .u64 0))) := box (fun W h => ⟨h.1, h.2.1, h.2.2.1, h.2.2.2, cell7 (h.2.1) 0 _ rfl, cell7 (h.2.1) 1 _ rfl, cell7 (h.2.2.1) 0 _ rfl, cell7 (h.2.2.1) 1 _ rfl, cell7 (h.2.2.2) 0 _ rfl, cell7 (h.2.2.2) 1 _ rfl⟩)
  have s0 : Below w.heap.size w ((((w.alloc (Obj.cells #[.int .u64 x1, .int .u64 y1] 26)).alloc (Obj.cells #[.int .u64 x2, .int .u64 y2] 26)).alloc (Obj.cells #[.int .u64 0, .int .u64 0] 26))).drew ∧ ((((w.alloc (Obj.cells #[.int .u64 x1, .int .u64 y1] 26)).alloc (Obj.cells #[.int .u64 x2, .int .u64 y2] 26)).alloc (Obj.cells #[.int .u64 0, .int .u64 0] 26))).drew.heap[w.heap.size]? = some (.cells #[.int .u64 x1, .int .u64 y1] 26) ∧ ((((w.alloc (Obj.cells #[.int .u64 x1, .int .u64 y1] 26)).alloc (Obj.cells #[.int .u64 x2, .int .u64 y2] 26)).alloc (Obj.cells #[.int .u64 0, .int .u64 0] 26))).drew.heap[w.heap.size + 1]? = some (.cells #[.int .u64 x2, .int .u64 y2] 26) ∧ ((((w.alloc (Obj.cells #[.int .u64 x1, .int .u64 y1] 26)).alloc (Obj.cells #[.int .u64 x2, .int .u64 y2] 26)).alloc (Obj.cells #[.int .u64 0, .int .u64 0] 26))).drew.heap[w.heap.size + 1 + 1]? = some (.cells #[.int .u64 0, .int .u64 0] 26) := ⟨B0.drew, Ai, Aj, AD⟩
  go_wp2_with fail
  go_region_held3 (fun W => Below w.heap.size w W ∧ W.heap[w.heap.size]? = some (.cells #[.int .u64 x1, .int .u64 y1] 26) ∧ W.heap[w.heap.size + 1]? = some (.cells #[.int .u64 x2, .int .u64 y2] 26) ∧ W.heap[w.heap.size + 1 + 1]? = some (.cells #[.int .u64 0, .int .u64 0] 26) ∧ W.cell? ⟨w.heap.size, 0, none⟩ = some (.int .u64 x1) ∧ W.cell? ⟨w.heap.size, 1, none⟩ = some (.int .u64 y1) ∧ W.cell? ⟨w.heap.size + 1, 0, none⟩ = some (.int .u64 x2) ∧ W.cell? ⟨w.heap.size + 1, 1, none⟩ = some (.int .u64 y2) ∧ W.cell? ⟨w.heap.size + 1 + 1, 0, none⟩ = some (.int .u64 0) ∧ W.cell? ⟨w.heap.size + 1 + 1, 1, none⟩ = some (.int .u64 0)) (first | exact sC.out _ s1 | exact sC.out _ s0)
    (first | (go_at_call_of 26 (Value.agg #[.int .u64 x1, .int .u64 y1]); (first | refine (KMa.out _ (fatB FF.out (And.left s1))).mono ?_ | refine (KMa.out _ (fatB FF.out (And.left s0))).mono ?_); rintro r wq ⟨rfl, bq⟩; have s1 := (by first | exact sS.out _ _ s1 bq | exact sS.out _ _ s0 bq); clear bq) | (go_at_call_of 26 (Value.agg #[.int .u64 x2, .int .u64 y2]); (first | refine (KMb.out _ (fatB FF.out (And.left s1))).mono ?_ | refine (KMb.out _ (fatB FF.out (And.left s0))).mono ?_); rintro r wq ⟨rfl, bq⟩; have s1 := (by first | exact sS.out _ _ s1 bq | exact sS.out _ _ s0 bq); clear bq) | (go_at_call 25; (first | refine (KC.out _).mono ?_ | refine (KC.out _).mono ?_); rintro r wq ⟨rfl, bq⟩; have s1 := (by first | exact sS.out _ _ s1 bq | exact sS.out _ _ s0 bq); clear bq) | fail)
  have B1 := (And.left s1)
  have Aa := s1.2.1
  have AE := s1.2.2.1
  have AP := s1.2.2.2
  clear s0 s1 sS sC B0 Ai AL AM Aj AN AO AD
  obtain ⟨BG, BH⟩ := cells2s Aa
  obtain ⟨BI, BJ⟩ := cells2s AE
  have q0_2 := fz (k := 0) Aa
  have q1_2 := fz (k := 1) Aa
  have B2 := set2_below B1 (show w.heap.size ≤ w.heap.size by first | exact Nat.le_refl _ | omega | (skip; omega)) (.int .u64 x2) (.int .u64 y2)
  have AF : ((wq.setCell ⟨w.heap.size, 0, none⟩ (.int .u64 x2)).setCell ⟨w.heap.size, 1, none⟩ (.int .u64 y2)).heap[w.heap.size]? = some (.cells #[.int .u64 x2, .int .u64 y2] 26) := set2_row Aa _ _
  have Ab : ((wq.setCell ⟨w.heap.size, 0, none⟩ (.int .u64 x2)).setCell ⟨w.heap.size, 1, none⟩ (.int .u64 y2)).heap[w.heap.size + 1]? = some (.cells #[.int .u64 x2, .int .u64 y2] 26) := (setCell_other (by first | omega | (skip; omega))).trans ((setCell_other (by first | omega | (skip; omega))).trans AE)
  have AQ : ((wq.setCell ⟨w.heap.size, 0, none⟩ (.int .u64 x2)).setCell ⟨w.heap.size, 1, none⟩ (.int .u64 y2)).heap[w.heap.size + 1 + 1]? = some (.cells #[.int .u64 0, .int .u64 0] 26) := (setCell_other (by first | omega | (skip; omega))).trans ((setCell_other (by first | omega | (skip; omega))).trans AP)
  obtain ⟨BK, BL⟩ := cells2s AF
  obtain ⟨BM, BN⟩ := cells2s Ab
  have q0_3 := fz (k := 0) Ab
  have q1_3 := fz (k := 1) Ab
  have B3 := set2_below B2 (show w.heap.size ≤ w.heap.size + 1 by first | exact Nat.le_refl _ | omega | (skip; omega)) (.int .u64 x1) (.int .u64 y1)
  have Ak : ((((wq.setCell ⟨w.heap.size, 0, none⟩ (.int .u64 x2)).setCell ⟨w.heap.size, 1, none⟩ (.int .u64 y2)).setCell ⟨w.heap.size + 1, 0, none⟩ (.int .u64 x1)).setCell ⟨w.heap.size + 1, 1, none⟩ (.int .u64 y1)).heap[w.heap.size + 1]? = some (.cells #[.int .u64 x1, .int .u64 y1] 26) := set2_row Ab _ _
  have Al : ((((wq.setCell ⟨w.heap.size, 0, none⟩ (.int .u64 x2)).setCell ⟨w.heap.size, 1, none⟩ (.int .u64 y2)).setCell ⟨w.heap.size + 1, 0, none⟩ (.int .u64 x1)).setCell ⟨w.heap.size + 1, 1, none⟩ (.int .u64 y1)).heap[w.heap.size]? = some (.cells #[.int .u64 x2, .int .u64 y2] 26) := (setCell_other (by first | omega | (skip; omega))).trans ((setCell_other (by first | omega | (skip; omega))).trans AF)
  have AG : ((((wq.setCell ⟨w.heap.size, 0, none⟩ (.int .u64 x2)).setCell ⟨w.heap.size, 1, none⟩ (.int .u64 y2)).setCell ⟨w.heap.size + 1, 0, none⟩ (.int .u64 x1)).setCell ⟨w.heap.size + 1, 1, none⟩ (.int .u64 y1)).heap[w.heap.size + 1 + 1]? = some (.cells #[.int .u64 0, .int .u64 0] 26) := (setCell_other (by first | omega | (skip; omega))).trans ((setCell_other (by first | omega | (skip; omega))).trans AQ)
  obtain ⟨AR, AS⟩ := cells2s Al
  obtain ⟨AT, AU⟩ := cells2s Ak
  go_wp2_with fail
  refine (KU1.out _ (fatB FF.out B3)).mono ?_
  rintro r w4 ⟨rfl, b4⟩
  have B4 : Below w.heap.size w w4 := btr B3 b4
  have Ac := heap_of b4 _ _ _ Al
  have Ad := heap_of b4 _ _ _ Ak
  have Am := heap_of b4 _ _ _ AG
  clear b4 B3 Al AR AS Ak AT AU AG
  obtain ⟨AV, AW⟩ := cells2s Ac
  obtain ⟨AX, AY⟩ := cells2s Ad
  have S5 := box B4.size
  have AZ := ltR Ac
  have A0 := ltR Ad
  have A1 := ltR Am
  have An := heap_alloc_last w4 (Obj.cells (pt c1 m1 X1 r1) 53)
  have B5 := btr B4 (bal w4 (Obj.cells (pt c1 m1 X1 r1) 53))
  have Ao := heap_of (bal w4 (Obj.cells (pt c1 m1 X1 r1) 53)) _ _ _ Ac
  have Ap := heap_of (bal w4 (Obj.cells (pt c1 m1 X1 r1) 53)) _ _ _ Ad
  have AH := heap_of (bal w4 (Obj.cells (pt c1 m1 X1 r1) 53)) _ _ _ Am
  clear B4 Ac AV AW Ad AX AY Am
  obtain ⟨A2, A3⟩ := cells2s Ao
  obtain ⟨A4, A5⟩ := cells2s Ap
  have A6 := (pt_cells An).1
  go_wp2_with fail
  refine (KU2.out _ (fatB FF.out B5)).mono ?_
  rintro r w6 ⟨rfl, b6⟩
  have B6 : Below w.heap.size w w6 := btr B5 b6
  have Ae := heap_of b6 _ _ _ Ao
  have Af := heap_of b6 _ _ _ Ap
  have Aq := heap_of b6 _ _ _ AH
  have Ag := heap_of b6 _ _ _ An
  clear b6 B5 Ao A2 A3 Ap A4 A5 AH An A6
  obtain ⟨A7, A8⟩ := cells2s Ae
  obtain ⟨A9, Ba⟩ := cells2s Af
  have Bb := (pt_cells Ag).1
  have S7 := box B6.size
  have Bc := ltR Ae
  have Bd := ltR Af
  have Be := ltR Aq
  have Bf := ltR Ag
  have Ar := heap_alloc_last w6 (Obj.cells (pt c2 m2 X2 r2) 53)
  have B7 := btr B6 (bal w6 (Obj.cells (pt c2 m2 X2 r2) 53))
  have As := heap_of (bal w6 (Obj.cells (pt c2 m2 X2 r2) 53)) _ _ _ Ae
  have At := heap_of (bal w6 (Obj.cells (pt c2 m2 X2 r2) 53)) _ _ _ Af
  have AI := heap_of (bal w6 (Obj.cells (pt c2 m2 X2 r2) 53)) _ _ _ Aq
  have Au := heap_of (bal w6 (Obj.cells (pt c2 m2 X2 r2) 53)) _ _ _ Ag
  clear B6 Ae A7 A8 Af A9 Ba Aq Ag Bb
  obtain ⟨Bg, Bh⟩ := cells2s As
  obtain ⟨Bi, Bj⟩ := cells2s At
  have Bk := (pt_cells Au).1
  have Bl := (pt_cells Ar).1
  go_wp2_with fail
  refine (KE1.out _).mono ?_
  rintro r w8 ⟨rfl, b8⟩
  have B8 : Below w.heap.size w w8 := btr B7 b8
  have Av := heap_of b8 _ _ _ As
  have Aw := heap_of b8 _ _ _ At
  have AJ := heap_of b8 _ _ _ AI
  have Ax := heap_of b8 _ _ _ Au
  have Ay := heap_of b8 _ _ _ Ar
  clear b8 B7 As Bg Bh At Bi Bj AI Au Bk Ar Bl
  obtain ⟨Bm, Bn⟩ := cells2s Av
  obtain ⟨Bo, Bp⟩ := cells2s Aw
  have Bq := (pt_cells Ax).1
  have Br := (pt_cells Ay).1
  go_wp2_with fail
  refine (KE2.out _).mono ?_
  rintro r w9 ⟨rfl, b9⟩
  have B9 : Below w.heap.size w w9 := btr B8 b9
  have Az := heap_of b9 _ _ _ Av
  have AA := heap_of b9 _ _ _ Aw
  have AK := heap_of b9 _ _ _ AJ
  have AB := heap_of b9 _ _ _ Ax
  have AC := heap_of b9 _ _ _ Ay
  clear b9 B8 Av Bm Bn Aw Bo Bp AJ Ax Bq Ay Br
  obtain ⟨Bs, Bt⟩ := cells2s Az
  obtain ⟨Bu, Bv⟩ := cells2s AA
  have Bw := (pt_cells AB).1
  have Bx := (pt_cells AC).1
  go_wp2_with fail
  refine (KE1.out _).mono ?_
  rintro r w10 ⟨rfl, b10⟩
  have B10 : Below w.heap.size w w10 := btr B9 b10
  have By := heap_of b10 _ _ _ Az
  have Bz := heap_of b10 _ _ _ AA
  have Ah := heap_of b10 _ _ _ AK
  have BA := heap_of b10 _ _ _ AB
  have BB := heap_of b10 _ _ _ AC
  clear b10 B9 Az Bs Bt AA Bu Bv AK AB Bw AC Bx
  obtain ⟨BO, BP⟩ := cells2s By
  obtain ⟨BQ, BR⟩ := cells2s Bz
  have BS := (pt_cells BA).1
  have BT := (pt_cells BB).1
  obtain ⟨BU, BV⟩ := cells2s Ah
  have q0 := fz (k := 0) Ah
  have q1 := fz (k := 1) Ah
  obtain ⟨E0, E1⟩ := set2_cells Ah (.int .u64 x2) (.int .u64 y2)
  go_wp2
  exact bodyPost_ret (v := .tuple #[.agg #[.int .u64 x2, .int .u64 y2], .int .u8 0, .int .i64 0]) (by simp [results, Tryd.results16, go_sem, E0, E1]) rfl ⟨rfl, set2_below B10 (by first | exact Nat.le_refl _ | omega | (have := S5.out; have := AZ.out; have := A0.out; have := A1.out; have := S7.out; have := Bc.out; have := Bd.out; have := Be.out; have := Bf.out; omega)) _ _⟩
theorem ad_plus_wfi (f m : Int) (x1 y1 x2 y2 u v na nb : Nat) (c : Int) (c1 m1 : Nat) (X1 : Int) (r1 c2 m2 : Nat) (X2 : Int) (r2 : Nat) (tn : Bool) (ts : Nat) (tx fl : Int) (w : World) (hc : decide (c < 0) = true) (h18 : ((c1 : Int) == 8) = false) (h28 : ((c2 : Int) == 8) = false) (h19 : ((c1 : Int) == 9) = false) 
    (KMa : Box (∀ w, FAt w → Calls Tryd.prog 26 #[.int .u8 f, .agg #[.int .u64 x1, .int .u64 y1]] w fun r w' => r = .returned (.agg (cw 6 na)) ∧ Below w.heap.size w w'))
    (KMb : Box (∀ w, FAt w → Calls Tryd.prog 26 #[.int .u8 f, .agg #[.int .u64 x2, .int .u64 y2]] w fun r w' => r = .returned (.agg (cw 6 nb)) ∧ Below w.heap.size w w'))
    (KC : Box (∀ w, Calls Tryd.prog 25 #[.agg (cw 6 na), .agg (cw 6 nb)] w fun r w' => r = .returned (.int .i64 c) ∧ Below w.heap.size w w'))
    (KU1 : Box (∀ w, FAt w → Calls Tryd.prog 27 #[.int .u8 f, .agg #[.int .u64 x2, .int .u64 y2]] w fun r w' => r = .returned (.tuple #[.agg (pt c1 m1 X1 r1), .int .i64 0]) ∧ Below w.heap.size w w'))
    (KU2 : Box (∀ w, FAt w → Calls Tryd.prog 27 #[.int .u8 f, .agg #[.int .u64 x1, .int .u64 y1]] w fun r w' => r = .returned (.tuple #[.agg (pt c2 m2 X2 r2), .int .i64 0]) ∧ Below w.heap.size w w'))
    (KE1 : Box (∀ w, Calls Tryd.prog 29 #[.int .u8 c1] w fun r w' => r = .returned (.bool false) ∧ Below w.heap.size w w'))
    (KT : Box (∀ w, Calls Tryd.prog 30 #[.int .u8 m, .agg (pt c1 m1 X1 r1), .agg (pt c2 m2 X2 r2)] w fun r w' => r = .returned (.agg (rg tn ts tx false)) ∧ Below w.heap.size w w'))
    (KP : Box (∀ w, FAt w → Calls Tryd.prog 24 #[.int .u8 f, .int .u8 m, .agg (rg tn ts tx false)] w fun r w' => r = .returned (.tuple #[.agg #[.int .u64 u, .int .u64 v], .int .u8 fl, .int .i64 0]) ∧ Below w.heap.size w w'))
    (hT : FAt w) : Calls Tryd.prog 16 #[.int .u8 f, .int .u8 m, .agg #[.int .u64 x1, .int .u64 y1], .agg #[.int .u64 x2, .int .u64 y2]] w fun r w' => r = .returned (.tuple #[.agg #[.int .u64 u, .int .u64 v], .int .u8 fl, .int .i64 0]) ∧ Below w.heap.size w w' := by
  have FF := box hT
  clear hT
  have hat := cw_at 6
  have hz := cw6z
  have hff := cw6f
  have hs0 := st0
  have hcs : ∀ x, ((cw 6 x).size = 6) = True := fun x => eq_true (cw_size 6 x)
  have hp1 := rgf
  have hp5 : ∀ (c : Bool) (s : Nat) (x : Int) (r : Bool), ((rg c s x r).size = 9) = True := fun _ _ _ _ => eq_true rfl
  have CF := ptf
  have CG := ptz
  have CH := st_p0
  have CI : ∀ (c s : Nat) (x : Int) (r : Nat), ((pt c s x r).size = 14) = True := fun _ _ _ _ => eq_true rfl
  obtain ⟨Ak, Al, AF, B0⟩ := opn3 w (Obj.cells #[.int .u64 x1, .int .u64 y1] 26) (Obj.cells #[.int .u64 x2, .int .u64 y2] 26) (Obj.cells #[.int .u64 0, .int .u64 0] 26)
  go_enter Tryd.func16, Tryd.ntmps16
  obtain ⟨AS, AT⟩ := cells2s Ak
  obtain ⟨AU, AV⟩ := cells2s Al
  have sS : Box (∀ W W1 : World, (Below w.heap.size w W ∧ W.heap[w.heap.size]? = some (.cells #[.int .u64 x1, .int .u64 y1] 26) ∧ W.heap[w.heap.size + 1]? = some (.cells #[.int .u64 x2, .int .u64 y2] 26) ∧ W.heap[w.heap.size + 1 + 1]? = some (.cells #[.int .u64 0, .int .u64 0] 26)) → Below W.heap.size W W1 → (Below w.heap.size w W1 ∧ W1.heap[w.heap.size]? = some (.cells #[.int .u64 x1, .int .u64 y1] 26) ∧ W1.heap[w.heap.size + 1]? = some (.cells #[.int .u64 x2, .int .u64 y2] 26) ∧ W1.heap[w.heap.size + 1 + 1]? = some (.cells #[.int .u64 0, .int .u64 0] 26))) := box (fun W W1 h b => ⟨btr h.1 b, heap_of b _ _ _ h.2.1, heap_of b _ _ _ h.2.2.1, heap_of b _ _ _ h.2.2.2⟩)
  have sC : Box (∀ W : World, (Below w.heap.size w W ∧ W.heap[w.heap.size]? = some (.cells #[.int .u64 x1, .int .u64 y1] 26) ∧ W.heap[w.heap.size + 1]? = some (.cells #[.int .u64 x2, .int .u64 y2] 26) ∧ W.heap[w.heap.size + 1 + 1]? = some (.cells #[.int .u64 0, .int .u64 0] 26)) → (Below w.heap.size w W ∧ W.heap[w.heap.size]? = some (.cells #[.int .u64 x1, .int .u64 y1] 26) ∧ W.heap[w.heap.size + 1]? = some (.cells #[.int .u64 x2, .int .u64 y2] 26) ∧ W.heap[w.heap.size + 1 + 1]? = some (.cells #[.int .u64 0, .int .u64 0] 26) ∧ W.cell? ⟨w.heap.size, 0, none⟩ = some (.int .u64 x1) ∧ W.cell? ⟨w.heap.size, 1, none⟩ = some (.int .u64 y1) ∧ W.cell? ⟨w.heap.size + 1, 0, none⟩ = some (.int .u64 x2) ∧ W.cell? ⟨w.heap.size + 1, 1, none⟩ = some (.int .u64 y2) ∧ W.cell? ⟨w.heap.size + 1 + 1, 0, none⟩ = some (.int .u64 0) ∧ W.cell? ⟨w.heap.size + 1 + 1, 1, none⟩ = some (.int .u64 0))) := box (fun W h => ⟨h.1, h.2.1, h.2.2.1, h.2.2.2, cell7 (h.2.1) 0 _ rfl, cell7 (h.2.1) 1 _ rfl, cell7 (h.2.2.1) 0 _ rfl, cell7 (h.2.2.1) 1 _ rfl, cell7 (h.2.2.2) 0 _ rfl, cell7 (h.2.2.2) 1 _ rfl⟩)
  have s0 : Below w.heap.size w ((((w.alloc (Obj.cells #[.int .u64 x1, .int .u64 y1] 26)).alloc (Obj.cells #[.int .u64 x2, .int .u64 y2] 26)).alloc (Obj.cells #[.int .u64 0, .int .u64 0] 26))).drew ∧ ((((w.alloc (Obj.cells #[.int .u64 x1, .int .u64 y1] 26)).alloc (Obj.cells #[.int .u64 x2, .int .u64 y2] 26)).alloc (Obj.cells #[.int .u64 0, .int .u64 0] 26))).drew.heap[w.heap.size]? = some (.cells #[.int .u64 x1, .int .u64 y1] 26) ∧ ((((w.alloc (Obj.cells #[.int .u64 x1, .int .u64 y1] 26)).alloc (Obj.cells #[.int .u64 x2, .int .u64 y2] 26)).alloc (Obj.cells #[.int .u64 0, .int .u64 0] 26))).drew.heap[w.heap.size + 1]? = some (.cells #[.int .u64 x2, .int .u64 y2] 26) ∧ ((((w.alloc (Obj.cells #[.int .u64 x1, .int .u64 y1] 26)).alloc (Obj.cells #[.int .u64 x2, .int .u64 y2] 26)).alloc (Obj.cells #[.int .u64 0, .int .u64 0] 26))).drew.heap[w.heap.size + 1 + 1]? = some (.cells #[.int .u64 0, .int .u64 0] 26) := ⟨B0.drew, Ak, Al, AF⟩
  go_wp2_with fail
  go_region_held3 (fun W => Below w.heap.size w W ∧ W.heap[w.heap.size]? = some (.cells #[.int .u64 x1, .int .u64 y1] 26) ∧ W.heap[w.heap.size + 1]? = some (.cells #[.int .u64 x2, .int .u64 y2] 26) ∧ W.heap[w.heap.size + 1 + 1]? = some (.cells #[.int .u64 0, .int .u64 0] 26) ∧ W.cell? ⟨w.heap.size, 0, none⟩ = some (.int .u64 x1) ∧ W.cell? ⟨w.heap.size, 1, none⟩ = some (.int .u64 y1) ∧ W.cell? ⟨w.heap.size + 1, 0, none⟩ = some (.int .u64 x2) ∧ W.cell? ⟨w.heap.size + 1, 1, none⟩ = some (.int .u64 y2) ∧ W.cell? ⟨w.heap.size + 1 + 1, 0, none⟩ = some (.int .u64 0) ∧ W.cell? ⟨w.heap.size + 1 + 1, 1, none⟩ = some (.int .u64 0)) (first | exact sC.out _ s1 | exact sC.out _ s0)
    (first | (go_at_call_of 26 (Value.agg #[.int .u64 x1, .int .u64 y1]); (first | refine (KMa.out _ (fatB FF.out (And.left s1))).mono ?_ | refine (KMa.out _ (fatB FF.out (And.left s0))).mono ?_); rintro r wq ⟨rfl, bq⟩; have s1 := (by first | exact sS.out _ _ s1 bq | exact sS.out _ _ s0 bq); clear bq) | (go_at_call_of 26 (Value.agg #[.int .u64 x2, .int .u64 y2]); (first | refine (KMb.out _ (fatB FF.out (And.left s1))).mono ?_ | refine (KMb.out _ (fatB FF.out (And.left s0))).mono ?_); rintro r wq ⟨rfl, bq⟩; have s1 := (by first | exact sS.out _ _ s1 bq | exact sS.out _ _ s0 bq); clear bq) | (go_at_call 25; (first | refine (KC.out _).mono ?_ | refine (KC.out _).mono ?_); rintro r wq ⟨rfl, bq⟩; have s1 := (by first | exact sS.out _ _ s1 bq | exact sS.out _ _ s0 bq); clear bq) | fail)
  have B1 := (And.left s1)
  have Aa := s1.2.1
  have AG := s1.2.2.1
  have AW := s1.2.2.2
  clear s0 s1 sS sC B0 Ak AS AT Al AU AV AF
  obtain ⟨CJ, CK⟩ := cells2s Aa
  obtain ⟨CL, CM⟩ := cells2s AG
  have q0_2 := fz (k := 0) Aa
  have q1_2 := fz (k := 1) Aa
  have B2 := set2_below B1 (show w.heap.size ≤ w.heap.size by first | exact Nat.le_refl _ | omega | (skip; omega)) (.int .u64 x2) (.int .u64 y2)
  have AH : ((wq.setCell ⟨w.heap.size, 0, none⟩ (.int .u64 x2)).setCell ⟨w.heap.size, 1, none⟩ (.int .u64 y2)).heap[w.heap.size]? = some (.cells #[.int .u64 x2, .int .u64 y2] 26) := set2_row Aa _ _
  have Ab : ((wq.setCell ⟨w.heap.size, 0, none⟩ (.int .u64 x2)).setCell ⟨w.heap.size, 1, none⟩ (.int .u64 y2)).heap[w.heap.size + 1]? = some (.cells #[.int .u64 x2, .int .u64 y2] 26) := (setCell_other (by first | omega | (skip; omega))).trans ((setCell_other (by first | omega | (skip; omega))).trans AG)
  have AX : ((wq.setCell ⟨w.heap.size, 0, none⟩ (.int .u64 x2)).setCell ⟨w.heap.size, 1, none⟩ (.int .u64 y2)).heap[w.heap.size + 1 + 1]? = some (.cells #[.int .u64 0, .int .u64 0] 26) := (setCell_other (by first | omega | (skip; omega))).trans ((setCell_other (by first | omega | (skip; omega))).trans AW)
  obtain ⟨CN, CO⟩ := cells2s AH
  obtain ⟨CP, CQ⟩ := cells2s Ab
  have q0_3 := fz (k := 0) Ab
  have q1_3 := fz (k := 1) Ab
  have B3 := set2_below B2 (show w.heap.size ≤ w.heap.size + 1 by first | exact Nat.le_refl _ | omega | (skip; omega)) (.int .u64 x1) (.int .u64 y1)
  have Am : ((((wq.setCell ⟨w.heap.size, 0, none⟩ (.int .u64 x2)).setCell ⟨w.heap.size, 1, none⟩ (.int .u64 y2)).setCell ⟨w.heap.size + 1, 0, none⟩ (.int .u64 x1)).setCell ⟨w.heap.size + 1, 1, none⟩ (.int .u64 y1)).heap[w.heap.size + 1]? = some (.cells #[.int .u64 x1, .int .u64 y1] 26) := set2_row Ab _ _
  have An : ((((wq.setCell ⟨w.heap.size, 0, none⟩ (.int .u64 x2)).setCell ⟨w.heap.size, 1, none⟩ (.int .u64 y2)).setCell ⟨w.heap.size + 1, 0, none⟩ (.int .u64 x1)).setCell ⟨w.heap.size + 1, 1, none⟩ (.int .u64 y1)).heap[w.heap.size]? = some (.cells #[.int .u64 x2, .int .u64 y2] 26) := (setCell_other (by first | omega | (skip; omega))).trans ((setCell_other (by first | omega | (skip; omega))).trans AH)
  have AI : ((((wq.setCell ⟨w.heap.size, 0, none⟩ (.int .u64 x2)).setCell ⟨w.heap.size, 1, none⟩ (.int .u64 y2)).setCell ⟨w.heap.size + 1, 0, none⟩ (.int .u64 x1)).setCell ⟨w.heap.size + 1, 1, none⟩ (.int .u64 y1)).heap[w.heap.size + 1 + 1]? = some (.cells #[.int .u64 0, .int .u64 0] 26) := (setCell_other (by first | omega | (skip; omega))).trans ((setCell_other (by first | omega | (skip; omega))).trans AX)
  obtain ⟨AY, AZ⟩ := cells2s An
  obtain ⟨A0, A1⟩ := cells2s Am
  go_wp2_with fail
  refine (KU1.out _ (fatB FF.out B3)).mono ?_
  rintro r w4 ⟨rfl, b4⟩
  have B4 : Below w.heap.size w w4 := btr B3 b4
  have Ac := heap_of b4 _ _ _ An
  have Ad := heap_of b4 _ _ _ Am
  have Ao := heap_of b4 _ _ _ AI
  clear b4 B3 An AY AZ Am A0 A1 AI
  obtain ⟨A2, A3⟩ := cells2s Ac
  obtain ⟨A4, A5⟩ := cells2s Ad
  have S5 := box B4.size
  have A6 := ltR Ac
  have A7 := ltR Ad
  have A8 := ltR Ao
  have Ap := heap_alloc_last w4 (Obj.cells (pt c1 m1 X1 r1) 53)
  have B5 := btr B4 (bal w4 (Obj.cells (pt c1 m1 X1 r1) 53))
  have Aq := heap_of (bal w4 (Obj.cells (pt c1 m1 X1 r1) 53)) _ _ _ Ac
  have Ar := heap_of (bal w4 (Obj.cells (pt c1 m1 X1 r1) 53)) _ _ _ Ad
  have AJ := heap_of (bal w4 (Obj.cells (pt c1 m1 X1 r1) 53)) _ _ _ Ao
  clear B4 Ac A2 A3 Ad A4 A5 Ao
  obtain ⟨A9, Ba⟩ := cells2s Aq
  obtain ⟨Bb, Bc⟩ := cells2s Ar
  have Bd := (pt_cells Ap).1
  go_wp2_with fail
  refine (KU2.out _ (fatB FF.out B5)).mono ?_
  rintro r w6 ⟨rfl, b6⟩
  have B6 : Below w.heap.size w w6 := btr B5 b6
  have Ae := heap_of b6 _ _ _ Aq
  have Af := heap_of b6 _ _ _ Ar
  have As := heap_of b6 _ _ _ AJ
  have Ag := heap_of b6 _ _ _ Ap
  clear b6 B5 Aq A9 Ba Ar Bb Bc AJ Ap Bd
  obtain ⟨Be, Bf⟩ := cells2s Ae
  obtain ⟨Bg, Bh⟩ := cells2s Af
  have Bi := (pt_cells Ag).1
  have S7 := box B6.size
  have Bj := ltR Ae
  have Bk := ltR Af
  have Bl := ltR As
  have Bm := ltR Ag
  have At := heap_alloc_last w6 (Obj.cells (pt c2 m2 X2 r2) 53)
  have B7 := btr B6 (bal w6 (Obj.cells (pt c2 m2 X2 r2) 53))
  have Au := heap_of (bal w6 (Obj.cells (pt c2 m2 X2 r2) 53)) _ _ _ Ae
  have Av := heap_of (bal w6 (Obj.cells (pt c2 m2 X2 r2) 53)) _ _ _ Af
  have AK := heap_of (bal w6 (Obj.cells (pt c2 m2 X2 r2) 53)) _ _ _ As
  have Aw := heap_of (bal w6 (Obj.cells (pt c2 m2 X2 r2) 53)) _ _ _ Ag
  clear B6 Ae Be Bf Af Bg Bh As Ag Bi
  obtain ⟨Bn, Bo⟩ := cells2s Au
  obtain ⟨Bp, Bq⟩ := cells2s Av
  have Br := (pt_cells Aw).1
  have Bs := (pt_cells At).1
  go_wp2_with fail
  refine (KE1.out _).mono ?_
  rintro r w8 ⟨rfl, b8⟩
  have B8 : Below w.heap.size w w8 := btr B7 b8
  have Ax := heap_of b8 _ _ _ Au
  have Ay := heap_of b8 _ _ _ Av
  have AL := heap_of b8 _ _ _ AK
  have Az := heap_of b8 _ _ _ Aw
  have AA := heap_of b8 _ _ _ At
  clear b8 B7 Au Bn Bo Av Bp Bq AK Aw Br At Bs
  obtain ⟨Bt, Bu⟩ := cells2s Ax
  obtain ⟨Bv, Bw⟩ := cells2s Ay
  have Bx := (pt_cells Az).1
  have By := (pt_cells AA).1
  go_wp2_with fail
  refine (KE1.out _).mono ?_
  rintro r w9 ⟨rfl, b9⟩
  have B9 : Below w.heap.size w w9 := btr B8 b9
  have AB := heap_of b9 _ _ _ Ax
  have AC := heap_of b9 _ _ _ Ay
  have AM := heap_of b9 _ _ _ AL
  have Ah := heap_of b9 _ _ _ Az
  have Ai := heap_of b9 _ _ _ AA
  clear b9 B8 Ax Bt Bu Ay Bv Bw AL Az Bx AA By
  obtain ⟨Bz, BA⟩ := cells2s AB
  obtain ⟨BB, BC⟩ := cells2s AC
  have AN := (pt_cells Ah).1
  have AO := (pt_cells Ai).1
  clear Bz BA
  clear BB BC
  obtain ⟨AN, BD, BE, BF, BG, BH, BI, BJ, BK, BL, BM, BN, BO, BP⟩ := pt_cells Ah
  obtain ⟨AO, BQ, BR, BS, BT, BU, BV, BW, BX, BY, BZ, Ca, Cb, Cc⟩ := pt_cells Ai
  go_wp2_with fail
  refine (KT.out _).mono ?_
  rintro r w10 ⟨rfl, b10⟩
  have B10 : Below w.heap.size w w10 := btr B9 b10
  have AP := heap_of b10 _ _ _ AB
  have AQ := heap_of b10 _ _ _ AC
  have AR := heap_of b10 _ _ _ AM
  have AD := heap_of b10 _ _ _ Ah
  have AE := heap_of b10 _ _ _ Ai
  clear b10 B9 AB AC AM Ah AN BD BE BF BG BH BI BJ BK BL BM BN BO BP Ai AO BQ BR BS BT BU BV BW BX BY BZ Ca Cb Cc
  obtain ⟨Cd, Ce, Cf, Cg, Ch, Ci, Cj, Ck, Cl, Cm, Cn, Co, Cp, Cq⟩ := pt_cells AD
  obtain ⟨Cr, Cs, Ct, Cu, Cv, Cw, Cx, Cy, Cz, CA, CB, CC, CD, CE⟩ := pt_cells AE
  clear Cd Ce Cf Cg Ch Ci Cj Ck Cl Cm Cn Co Cp Cq
  clear Cr Cs Ct Cu Cv Cw Cx Cy Cz CA CB CC CD CE
  go_wp2_with fail
  refine (KP.out _ (fatB FF.out B10)).mono ?_
  rintro r w11 ⟨rfl, b11⟩
  have B11 : Below w.heap.size w w11 := btr B10 b11
  have CR := heap_of b11 _ _ _ AP
  have CS := heap_of b11 _ _ _ AQ
  have Aj := heap_of b11 _ _ _ AR
  have CT := heap_of b11 _ _ _ AD
  have CU := heap_of b11 _ _ _ AE
  clear b11 B10 AP AQ AR AD AE
  obtain ⟨CV, CW⟩ := cells2s Aj
  have q0 := fz (k := 0) Aj
  have q1 := fz (k := 1) Aj
  obtain ⟨E0, E1⟩ := set2_cells Aj (.int .u64 u) (.int .u64 v)
  go_wp2
  exact bodyPost_ret (v := .tuple #[.agg #[.int .u64 u, .int .u64 v], .int .u8 fl, .int .i64 0]) (by simp [results, Tryd.results16, go_sem, E0, E1]) rfl ⟨rfl, set2_below B11 (by first | exact Nat.le_refl _ | omega | (have := S5.out; have := A6.out; have := A7.out; have := A8.out; have := S7.out; have := Bj.out; have := Bk.out; have := Bl.out; have := Bm.out; omega)) _ _⟩
end Go.Proofs.YtoaaajeblhaeoaaDoor
