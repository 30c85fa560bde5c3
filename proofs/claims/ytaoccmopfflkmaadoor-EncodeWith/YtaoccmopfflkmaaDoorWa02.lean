/-
  What the functions that the statement reaches return: part 2 (BB, BC0).
-/
import Derived.Deep.WholeRow
import Derived.Test.YtaoccmopfflkmaaDoorWa01
namespace Go.Proofs.YtaoccmopfflkmaaDoor
set_option maxRecDepth 100000
set_option maxHeartbeats 40000000
set_option maxRecDepth 100000
open Go.RowKit WMath
set_option linter.unusedSimpArgs false
set_option linter.unusedVariables false
set_option maxRecDepth 100000 in
set_option maxHeartbeats 4000000 in
theorem b24_fix0 (a b c d e f g n m e2 f2 : Nat) (hn : (n : Int) % 4294967296 = (n : Int)) (hm : (n : Int) = (m : Int)) (he : bits .or .u32 (e : Int) 127 = (e2 : Int)) (hf : bits .or .u32 (f : Int) (m : Int) = (f2 : Int)) (w : World) : Calls Tryd.prog 44 #[.agg #[.int .u8 (a : Nat), .int .u8 (b : Nat), .int .u8 (c : Nat), .int .u8 (d : Nat), .int .u32 (e : Nat), .int .u32 (f : Nat), .int .u8 (g : Nat)], .int .i64 0, .int .i64 7, .int .i64 (n : Nat)] w fun r w' => r = .returned (.agg #[.int .u8 (a : Nat), .int .u8 (b : Nat), .int .u8 (c : Nat), .int .u8 (d : Nat), .int .u32 (e2 : Nat), .int .u32 (f2 : Nat), .int .u8 (g : Nat)]) ∧ Below w.heap.size w w' := by
  obtain ⟨Rr_0, Rz_0, B0⟩ := opn2 w (Obj.cells #[.int .u8 (a : Nat), .int .u8 (b : Nat), .int .u8 (c : Nat), .int .u8 (d : Nat), .int .u32 (e : Nat), .int .u32 (f : Nat), .int .u8 (g : Nat)] 45) (Obj.cells #[.int .u8 0, .int .u8 0, .int .u8 0, .int .u8 0, .int .u32 0, .int .u32 0, .int .u8 0] 45)
  go_enter Tryd.func44, Tryd.ntmps44
  have cr_0_0 := cells4 Rr_0 0 _ rfl
  have cr_0_1 := cells4 Rr_0 1 _ rfl
  have cr_0_2 := cells4 Rr_0 2 _ rfl
  have cr_0_3 := cells4 Rr_0 3 _ rfl
  have cr_0_4 := cells4 Rr_0 4 _ rfl
  have cr_0_5 := cells4 Rr_0 5 _ rfl
  have cr_0_6 := cells4 Rr_0 6 _ rfl
  have cz_0_0 := cells4 Rz_0 0 _ rfl
  have cz_0_1 := cells4 Rz_0 1 _ rfl
  have cz_0_2 := cells4 Rz_0 2 _ rfl
  have cz_0_3 := cells4 Rz_0 3 _ rfl
  have cz_0_4 := cells4 Rz_0 4 _ rfl
  have cz_0_5 := cells4 Rz_0 5 _ rfl
  have cz_0_6 := cells4 Rz_0 6 _ rfl
  go_wp2_with fail
  obtain ⟨w1, hw1⟩ : ∃ V, ((w.alloc (Obj.cells #[.int .u8 (a : Nat), .int .u8 (b : Nat), .int .u8 (c : Nat), .int .u8 (d : Nat), .int .u32 (e : Nat), .int .u32 (f : Nat), .int .u8 (g : Nat)] 45)).alloc (Obj.cells #[.int .u8 0, .int .u8 0, .int .u8 0, .int .u8 0, .int .u32 0, .int .u32 0, .int .u8 0] 45)) = V := ⟨_, rfl⟩
  have Rr_1 := Rr_0
  have Rz_1 := Rz_0
  have B1 := B0
  rw [hw1] at B1 Rr_1 Rz_1 ⊢
  clear hw1 B0 Rr_0 cr_0_0 cr_0_1 cr_0_2 cr_0_3 cr_0_4 cr_0_5 cr_0_6 Rz_0 cz_0_0 cz_0_1 cz_0_2 cz_0_3 cz_0_4 cz_0_5 cz_0_6
  have cr_1_0 := cells4 Rr_1 0 _ rfl
  have cr_1_1 := cells4 Rr_1 1 _ rfl
  have cr_1_2 := cells4 Rr_1 2 _ rfl
  have cr_1_3 := cells4 Rr_1 3 _ rfl
  have cr_1_4 := cells4 Rr_1 4 _ rfl
  have cr_1_5 := cells4 Rr_1 5 _ rfl
  have cr_1_6 := cells4 Rr_1 6 _ rfl
  have cz_1_0 := cells4 Rz_1 0 _ rfl
  have cz_1_1 := cells4 Rz_1 1 _ rfl
  have cz_1_2 := cells4 Rz_1 2 _ rfl
  have cz_1_3 := cells4 Rz_1 3 _ rfl
  have cz_1_4 := cells4 Rz_1 4 _ rfl
  have cz_1_5 := cells4 Rz_1 5 _ rfl
  have cz_1_6 := cells4 Rz_1 6 _ rfl
  have sT : Box (∀ (W : World) (xA : Value), (Below w.heap.size w W ∧ W.heap[w.heap.size + 1]? = some (Obj.cells #[.int .u8 0, .int .u8 0, .int .u8 0, .int .u8 0, .int .u32 0, .int .u32 0, .int .u8 0] 45)) → (Below w.heap.size w (W.setCell ⟨w.heap.size, 4, none⟩ xA) ∧ (W.setCell ⟨w.heap.size, 4, none⟩ xA).heap[w.heap.size + 1]? = some (Obj.cells #[.int .u8 0, .int .u8 0, .int .u8 0, .int .u8 0, .int .u32 0, .int .u32 0, .int .u8 0] 45))) := box (fun W xA h => ⟨Below.setCell h.1 (show w.heap.size ≤ w.heap.size by first | exact Nat.le_refl _ | omega | (skip; omega)) xA, (setCell_other (by first | omega | (skip; omega))).trans h.2⟩)
  have s0 : Below w.heap.size w w1 ∧ w1.heap[w.heap.size + 1]? = some (Obj.cells #[.int .u8 0, .int .u8 0, .int .u8 0, .int .u8 0, .int .u32 0, .int .u32 0, .int .u8 0] 45) := ⟨B1, Rz_1⟩
  have rz : w1.heap[w.heap.size]? = some (Obj.cells #[.int .u8 (a : Nat), .int .u8 (b : Nat), .int .u8 (c : Nat), .int .u8 (d : Nat), .int .u32 (e : Nat), .int .u32 (f : Nat), .int .u8 (g : Nat)] 45) := Rr_1
  have hqz := fz (k := 4) rz
  have hz0 := cell7 rz 0 _ rfl
  have hz1 := cell7 rz 1 _ rfl
  have hz2 := cell7 rz 2 _ rfl
  have hz3 := cell7 rz 3 _ rfl
  have hz4 := cell7 rz 4 _ rfl
  have hz5 := cell7 rz 5 _ rfl
  have hz6 := cell7 rz 6 _ rfl
  go_wp2_with fail
  go_region
  have s2 : Below w.heap.size w (w1.setCell ⟨w.heap.size, 4, none⟩ (.int .u32 (e2 : Nat))) ∧ (w1.setCell ⟨w.heap.size, 4, none⟩ (.int .u32 (e2 : Nat))).heap[w.heap.size + 1]? = some (Obj.cells #[.int .u8 0, .int .u8 0, .int .u8 0, .int .u8 0, .int .u32 0, .int .u32 0, .int .u8 0] 45) := sT.out _ _ s0
  have Rr_2 : ((w1.setCell ⟨w.heap.size, 4, none⟩ (.int .u32 (e2 : Nat))).drew).heap[w.heap.size]? = some (Obj.cells #[.int .u8 (a : Nat), .int .u8 (b : Nat), .int .u8 (c : Nat), .int .u8 (d : Nat), .int .u32 (e2 : Nat), .int .u32 (f : Nat), .int .u8 (g : Nat)] 45) := (by rw [setCell_row rz]; rfl : (w1.setCell ⟨w.heap.size, 4, none⟩ (.int .u32 (e2 : Nat))).heap[w.heap.size]? = some (Obj.cells #[.int .u8 (a : Nat), .int .u8 (b : Nat), .int .u8 (c : Nat), .int .u8 (d : Nat), .int .u32 (e2 : Nat), .int .u32 (f : Nat), .int .u8 (g : Nat)] 45))
  have B2 : Below w.heap.size w ((w1.setCell ⟨w.heap.size, 4, none⟩ (.int .u32 (e2 : Nat))).drew) := (And.left s2).drew
  have Rz_2 : ((w1.setCell ⟨w.heap.size, 4, none⟩ (.int .u32 (e2 : Nat))).drew).heap[w.heap.size + 1]? = some (Obj.cells #[.int .u8 0, .int .u8 0, .int .u8 0, .int .u8 0, .int .u32 0, .int .u32 0, .int .u8 0] 45) := s2.2
  obtain ⟨w2, hw2⟩ : ∃ V, ((w1.setCell ⟨w.heap.size, 4, none⟩ (.int .u32 (e2 : Nat))).drew) = V := ⟨_, rfl⟩
  rw [hw2] at B2 Rr_2 Rz_2 ⊢
  clear hw2 sT s0 s2 rz hqz hz0 hz1 hz2 hz3 hz4 hz5 hz6 B1 Rr_1 cr_1_0 cr_1_1 cr_1_2 cr_1_3 cr_1_4 cr_1_5 cr_1_6 Rz_1 cz_1_0 cz_1_1 cz_1_2 cz_1_3 cz_1_4 cz_1_5 cz_1_6
  have cr_2_0 := cells4 Rr_2 0 _ rfl
  have cr_2_1 := cells4 Rr_2 1 _ rfl
  have cr_2_2 := cells4 Rr_2 2 _ rfl
  have cr_2_3 := cells4 Rr_2 3 _ rfl
  have cr_2_4 := cells4 Rr_2 4 _ rfl
  have cr_2_5 := cells4 Rr_2 5 _ rfl
  have cr_2_6 := cells4 Rr_2 6 _ rfl
  have cz_2_0 := cells4 Rz_2 0 _ rfl
  have cz_2_1 := cells4 Rz_2 1 _ rfl
  have cz_2_2 := cells4 Rz_2 2 _ rfl
  have cz_2_3 := cells4 Rz_2 3 _ rfl
  have cz_2_4 := cells4 Rz_2 4 _ rfl
  have cz_2_5 := cells4 Rz_2 5 _ rfl
  have cz_2_6 := cells4 Rz_2 6 _ rfl
  have sT : Box (∀ (W : World) (xA : Value), (Below w.heap.size w W ∧ W.heap[w.heap.size + 1]? = some (Obj.cells #[.int .u8 0, .int .u8 0, .int .u8 0, .int .u8 0, .int .u32 0, .int .u32 0, .int .u8 0] 45)) → (Below w.heap.size w (W.setCell ⟨w.heap.size, 5, none⟩ xA) ∧ (W.setCell ⟨w.heap.size, 5, none⟩ xA).heap[w.heap.size + 1]? = some (Obj.cells #[.int .u8 0, .int .u8 0, .int .u8 0, .int .u8 0, .int .u32 0, .int .u32 0, .int .u8 0] 45))) := box (fun W xA h => ⟨Below.setCell h.1 (show w.heap.size ≤ w.heap.size by first | exact Nat.le_refl _ | omega | (skip; omega)) xA, (setCell_other (by first | omega | (skip; omega))).trans h.2⟩)
  have s0 : Below w.heap.size w w2 ∧ w2.heap[w.heap.size + 1]? = some (Obj.cells #[.int .u8 0, .int .u8 0, .int .u8 0, .int .u8 0, .int .u32 0, .int .u32 0, .int .u8 0] 45) := ⟨B2, Rz_2⟩
  have rz : w2.heap[w.heap.size]? = some (Obj.cells #[.int .u8 (a : Nat), .int .u8 (b : Nat), .int .u8 (c : Nat), .int .u8 (d : Nat), .int .u32 (e2 : Nat), .int .u32 (f : Nat), .int .u8 (g : Nat)] 45) := Rr_2
  have hqz := fz (k := 5) rz
  have hz0 := cell7 rz 0 _ rfl
  have hz1 := cell7 rz 1 _ rfl
  have hz2 := cell7 rz 2 _ rfl
  have hz3 := cell7 rz 3 _ rfl
  have hz4 := cell7 rz 4 _ rfl
  have hz5 := cell7 rz 5 _ rfl
  have hz6 := cell7 rz 6 _ rfl
  go_wp2_with fail
  go_region
  have s2 : Below w.heap.size w (w2.setCell ⟨w.heap.size, 5, none⟩ (.int .u32 (f2 : Nat))) ∧ (w2.setCell ⟨w.heap.size, 5, none⟩ (.int .u32 (f2 : Nat))).heap[w.heap.size + 1]? = some (Obj.cells #[.int .u8 0, .int .u8 0, .int .u8 0, .int .u8 0, .int .u32 0, .int .u32 0, .int .u8 0] 45) := sT.out _ _ s0
  have Rr_3 : ((w2.setCell ⟨w.heap.size, 5, none⟩ (.int .u32 (f2 : Nat))).drew).heap[w.heap.size]? = some (Obj.cells #[.int .u8 (a : Nat), .int .u8 (b : Nat), .int .u8 (c : Nat), .int .u8 (d : Nat), .int .u32 (e2 : Nat), .int .u32 (f2 : Nat), .int .u8 (g : Nat)] 45) := (by rw [setCell_row rz]; rfl : (w2.setCell ⟨w.heap.size, 5, none⟩ (.int .u32 (f2 : Nat))).heap[w.heap.size]? = some (Obj.cells #[.int .u8 (a : Nat), .int .u8 (b : Nat), .int .u8 (c : Nat), .int .u8 (d : Nat), .int .u32 (e2 : Nat), .int .u32 (f2 : Nat), .int .u8 (g : Nat)] 45))
  have B3 : Below w.heap.size w ((w2.setCell ⟨w.heap.size, 5, none⟩ (.int .u32 (f2 : Nat))).drew) := (And.left s2).drew
  have Rz_3 : ((w2.setCell ⟨w.heap.size, 5, none⟩ (.int .u32 (f2 : Nat))).drew).heap[w.heap.size + 1]? = some (Obj.cells #[.int .u8 0, .int .u8 0, .int .u8 0, .int .u8 0, .int .u32 0, .int .u32 0, .int .u8 0] 45) := s2.2
  obtain ⟨w3, hw3⟩ : ∃ V, ((w2.setCell ⟨w.heap.size, 5, none⟩ (.int .u32 (f2 : Nat))).drew) = V := ⟨_, rfl⟩
  rw [hw3] at B3 Rr_3 Rz_3 ⊢
  clear hw3 sT s0 s2 rz hqz hz0 hz1 hz2 hz3 hz4 hz5 hz6 B2 Rr_2 cr_2_0 cr_2_1 cr_2_2 cr_2_3 cr_2_4 cr_2_5 cr_2_6 Rz_2 cz_2_0 cz_2_1 cz_2_2 cz_2_3 cz_2_4 cz_2_5 cz_2_6
  have cr_3_0 := cells4 Rr_3 0 _ rfl
  have cr_3_1 := cells4 Rr_3 1 _ rfl
  have cr_3_2 := cells4 Rr_3 2 _ rfl
  have cr_3_3 := cells4 Rr_3 3 _ rfl
  have cr_3_4 := cells4 Rr_3 4 _ rfl
  have cr_3_5 := cells4 Rr_3 5 _ rfl
  have cr_3_6 := cells4 Rr_3 6 _ rfl
  have cz_3_0 := cells4 Rz_3 0 _ rfl
  have cz_3_1 := cells4 Rz_3 1 _ rfl
  have cz_3_2 := cells4 Rz_3 2 _ rfl
  have cz_3_3 := cells4 Rz_3 3 _ rfl
  have cz_3_4 := cells4 Rz_3 4 _ rfl
  have cz_3_5 := cells4 Rz_3 5 _ rfl
  have cz_3_6 := cells4 Rz_3 6 _ rfl
  have q0 := fz (k := 0) Rz_3
  have q1 := fz (k := 1) Rz_3
  have q2 := fz (k := 2) Rz_3
  have q3 := fz (k := 3) Rz_3
  have q4 := fz (k := 4) Rz_3
  have q5 := fz (k := 5) Rz_3
  have q6 := fz (k := 6) Rz_3
  have bz : Below w.heap.size w (((((((w3.setCell ⟨w.heap.size + 1, 0, none⟩ (.int .u8 (a : Nat))).setCell ⟨w.heap.size + 1, 1, none⟩ (.int .u8 (b : Nat))).setCell ⟨w.heap.size + 1, 2, none⟩ (.int .u8 (c : Nat))).setCell ⟨w.heap.size + 1, 3, none⟩ (.int .u8 (d : Nat))).setCell ⟨w.heap.size + 1, 4, none⟩ (.int .u32 (e2 : Nat))).setCell ⟨w.heap.size + 1, 5, none⟩ (.int .u32 (f2 : Nat))).setCell ⟨w.heap.size + 1, 6, none⟩ (.int .u8 (g : Nat))) := (((((((B3.setCell (by first | exact Nat.le_refl _ | (skip; show w.heap.size ≤ w.heap.size + 1; omega)) _).setCell (by first | exact Nat.le_refl _ | (skip; show w.heap.size ≤ w.heap.size + 1; omega)) _).setCell (by first | exact Nat.le_refl _ | (skip; show w.heap.size ≤ w.heap.size + 1; omega)) _).setCell (by first | exact Nat.le_refl _ | (skip; show w.heap.size ≤ w.heap.size + 1; omega)) _).setCell (by first | exact Nat.le_refl _ | (skip; show w.heap.size ≤ w.heap.size + 1; omega)) _).setCell (by first | exact Nat.le_refl _ | (skip; show w.heap.size ≤ w.heap.size + 1; omega)) _).setCell (by first | exact Nat.le_refl _ | (skip; show w.heap.size ≤ w.heap.size + 1; omega)) _)
  have rz : (((((((w3.setCell ⟨w.heap.size + 1, 0, none⟩ (.int .u8 (a : Nat))).setCell ⟨w.heap.size + 1, 1, none⟩ (.int .u8 (b : Nat))).setCell ⟨w.heap.size + 1, 2, none⟩ (.int .u8 (c : Nat))).setCell ⟨w.heap.size + 1, 3, none⟩ (.int .u8 (d : Nat))).setCell ⟨w.heap.size + 1, 4, none⟩ (.int .u32 (e2 : Nat))).setCell ⟨w.heap.size + 1, 5, none⟩ (.int .u32 (f2 : Nat))).setCell ⟨w.heap.size + 1, 6, none⟩ (.int .u8 (g : Nat))).heap[w.heap.size + 1]? = some (Obj.cells #[.int .u8 (a : Nat), .int .u8 (b : Nat), .int .u8 (c : Nat), .int .u8 (d : Nat), .int .u32 (e2 : Nat), .int .u32 (f2 : Nat), .int .u8 (g : Nat)] 45) := (setCell_row (setCell_row (setCell_row (setCell_row (setCell_row (setCell_row (setCell_row Rz_3)))))))
  have E0 := cell7 rz 0 _ rfl
  have E1 := cell7 rz 1 _ rfl
  have E2 := cell7 rz 2 _ rfl
  have E3 := cell7 rz 3 _ rfl
  have E4 := cell7 rz 4 _ rfl
  have E5 := cell7 rz 5 _ rfl
  have E6 := cell7 rz 6 _ rfl
  go_wp2
  exact bodyPost_ret (v := .agg #[.int .u8 (a : Nat), .int .u8 (b : Nat), .int .u8 (c : Nat), .int .u8 (d : Nat), .int .u32 (e2 : Nat), .int .u32 (f2 : Nat), .int .u8 (g : Nat)]) (by simp [results, Tryd.results44, go_sem, E0, E1, E2, E3, E4, E5, E6]) rfl ⟨rfl, bz⟩
set_option maxRecDepth 100000 in
set_option maxHeartbeats 4000000 in
theorem b24_fix27 (a b c d e f g n m e2 f2 : Nat) (hn : (n : Int) % 4294967296 = (n : Int)) (hm : ((n : Int) * 134217728) % 4294967296 = (m : Int)) (he : bits .or .u32 (e : Int) 4160749568 = (e2 : Int)) (hf : bits .or .u32 (f : Int) (m : Int) = (f2 : Int)) (w : World) : Calls Tryd.prog 44 #[.agg #[.int .u8 (a : Nat), .int .u8 (b : Nat), .int .u8 (c : Nat), .int .u8 (d : Nat), .int .u32 (e : Nat), .int .u32 (f : Nat), .int .u8 (g : Nat)], .int .i64 27, .int .i64 5, .int .i64 (n : Nat)] w fun r w' => r = .returned (.agg #[.int .u8 (a : Nat), .int .u8 (b : Nat), .int .u8 (c : Nat), .int .u8 (d : Nat), .int .u32 (e2 : Nat), .int .u32 (f2 : Nat), .int .u8 (g : Nat)]) ∧ Below w.heap.size w w' := by
  obtain ⟨Rr_0, Rz_0, B0⟩ := opn2 w (Obj.cells #[.int .u8 (a : Nat), .int .u8 (b : Nat), .int .u8 (c : Nat), .int .u8 (d : Nat), .int .u32 (e : Nat), .int .u32 (f : Nat), .int .u8 (g : Nat)] 45) (Obj.cells #[.int .u8 0, .int .u8 0, .int .u8 0, .int .u8 0, .int .u32 0, .int .u32 0, .int .u8 0] 45)
  go_enter Tryd.func44, Tryd.ntmps44
  have cr_0_0 := cells4 Rr_0 0 _ rfl
  have cr_0_1 := cells4 Rr_0 1 _ rfl
  have cr_0_2 := cells4 Rr_0 2 _ rfl
  have cr_0_3 := cells4 Rr_0 3 _ rfl
  have cr_0_4 := cells4 Rr_0 4 _ rfl
  have cr_0_5 := cells4 Rr_0 5 _ rfl
  have cr_0_6 := cells4 Rr_0 6 _ rfl
  have cz_0_0 := cells4 Rz_0 0 _ rfl
  have cz_0_1 := cells4 Rz_0 1 _ rfl
  have cz_0_2 := cells4 Rz_0 2 _ rfl
  have cz_0_3 := cells4 Rz_0 3 _ rfl
  have cz_0_4 := cells4 Rz_0 4 _ rfl
  have cz_0_5 := cells4 Rz_0 5 _ rfl
  have cz_0_6 := cells4 Rz_0 6 _ rfl
  go_wp2_with fail
  obtain ⟨w1, hw1⟩ : ∃ V, ((w.alloc (Obj.cells #[.int .u8 (a : Nat), .int .u8 (b : Nat), .int .u8 (c : Nat), .int .u8 (d : Nat), .int .u32 (e : Nat), .int .u32 (f : Nat), .int .u8 (g : Nat)] 45)).alloc (Obj.cells #[.int .u8 0, .int .u8 0, .int .u8 0, .int .u8 0, .int .u32 0, .int .u32 0, .int .u8 0] 45)) = V := ⟨_, rfl⟩
  have Rr_1 := Rr_0
  have Rz_1 := Rz_0
  have B1 := B0
  rw [hw1] at B1 Rr_1 Rz_1 ⊢
  clear hw1 B0 Rr_0 cr_0_0 cr_0_1 cr_0_2 cr_0_3 cr_0_4 cr_0_5 cr_0_6 Rz_0 cz_0_0 cz_0_1 cz_0_2 cz_0_3 cz_0_4 cz_0_5 cz_0_6
  have cr_1_0 := cells4 Rr_1 0 _ rfl
  have cr_1_1 := cells4 Rr_1 1 _ rfl
  have cr_1_2 := cells4 Rr_1 2 _ rfl
  have cr_1_3 := cells4 Rr_1 3 _ rfl
  have cr_1_4 := cells4 Rr_1 4 _ rfl
  have cr_1_5 := cells4 Rr_1 5 _ rfl
  have cr_1_6 := cells4 Rr_1 6 _ rfl
  have cz_1_0 := cells4 Rz_1 0 _ rfl
  have cz_1_1 := cells4 Rz_1 1 _ rfl
  have cz_1_2 := cells4 Rz_1 2 _ rfl
  have cz_1_3 := cells4 Rz_1 3 _ rfl
  have cz_1_4 := cells4 Rz_1 4 _ rfl
  have cz_1_5 := cells4 Rz_1 5 _ rfl
  have cz_1_6 := cells4 Rz_1 6 _ rfl
  have sT : Box (∀ (W : World) (xA : Value), (Below w.heap.size w W ∧ W.heap[w.heap.size + 1]? = some (Obj.cells #[.int .u8 0, .int .u8 0, .int .u8 0, .int .u8 0, .int .u32 0, .int .u32 0, .int .u8 0] 45)) → (Below w.heap.size w (W.setCell ⟨w.heap.size, 4, none⟩ xA) ∧ (W.setCell ⟨w.heap.size, 4, none⟩ xA).heap[w.heap.size + 1]? = some (Obj.cells #[.int .u8 0, .int .u8 0, .int .u8 0, .int .u8 0, .int .u32 0, .int .u32 0, .int .u8 0] 45))) := box (fun W xA h => ⟨Below.setCell h.1 (show w.heap.size ≤ w.heap.size by first | exact Nat.le_refl _ | omega | (skip; omega)) xA, (setCell_other (by first | omega | (skip; omega))).trans h.2⟩)
  have s0 : Below w.heap.size w w1 ∧ w1.heap[w.heap.size + 1]? = some (Obj.cells #[.int .u8 0, .int .u8 0, .int .u8 0, .int .u8 0, .int .u32 0, .int .u32 0, .int .u8 0] 45) := ⟨B1, Rz_1⟩
  have rz : w1.heap[w.heap.size]? = some (Obj.cells #[.int .u8 (a : Nat), .int .u8 (b : Nat), .int .u8 (c : Nat), .int .u8 (d : Nat), .int .u32 (e : Nat), .int .u32 (f : Nat), .int .u8 (g : Nat)] 45) := Rr_1
  have hqz := fz (k := 4) rz
  have hz0 := cell7 rz 0 _ rfl
  have hz1 := cell7 rz 1 _ rfl
  have hz2 := cell7 rz 2 _ rfl
  have hz3 := cell7 rz 3 _ rfl
  have hz4 := cell7 rz 4 _ rfl
  have hz5 := cell7 rz 5 _ rfl
  have hz6 := cell7 rz 6 _ rfl
  go_wp2_with fail
  go_region
  have s2 : Below w.heap.size w (w1.setCell ⟨w.heap.size, 4, none⟩ (.int .u32 (e2 : Nat))) ∧ (w1.setCell ⟨w.heap.size, 4, none⟩ (.int .u32 (e2 : Nat))).heap[w.heap.size + 1]? = some (Obj.cells #[.int .u8 0, .int .u8 0, .int .u8 0, .int .u8 0, .int .u32 0, .int .u32 0, .int .u8 0] 45) := sT.out _ _ s0
  have Rr_2 : ((w1.setCell ⟨w.heap.size, 4, none⟩ (.int .u32 (e2 : Nat))).drew).heap[w.heap.size]? = some (Obj.cells #[.int .u8 (a : Nat), .int .u8 (b : Nat), .int .u8 (c : Nat), .int .u8 (d : Nat), .int .u32 (e2 : Nat), .int .u32 (f : Nat), .int .u8 (g : Nat)] 45) := (by rw [setCell_row rz]; rfl : (w1.setCell ⟨w.heap.size, 4, none⟩ (.int .u32 (e2 : Nat))).heap[w.heap.size]? = some (Obj.cells #[.int .u8 (a : Nat), .int .u8 (b : Nat), .int .u8 (c : Nat), .int .u8 (d : Nat), .int .u32 (e2 : Nat), .int .u32 (f : Nat), .int .u8 (g : Nat)] 45))
  have B2 : Below w.heap.size w ((w1.setCell ⟨w.heap.size, 4, none⟩ (.int .u32 (e2 : Nat))).drew) := (And.left s2).drew
  have Rz_2 : ((w1.setCell ⟨w.heap.size, 4, none⟩ (.int .u32 (e2 : Nat))).drew).heap[w.heap.size + 1]? = some (Obj.cells #[.int .u8 0, .int .u8 0, .int .u8 0, .int .u8 0, .int .u32 0, .int .u32 0, .int .u8 0] 45) := s2.2
  obtain ⟨w2, hw2⟩ : ∃ V, ((w1.setCell ⟨w.heap.size, 4, none⟩ (.int .u32 (e2 : Nat))).drew) = V := ⟨_, rfl⟩
  rw [hw2] at B2 Rr_2 Rz_2 ⊢
  clear hw2 sT s0 s2 rz hqz hz0 hz1 hz2 hz3 hz4 hz5 hz6 B1 Rr_1 cr_1_0 cr_1_1 cr_1_2 cr_1_3 cr_1_4 cr_1_5 cr_1_6 Rz_1 cz_1_0 cz_1_1 cz_1_2 cz_1_3 cz_1_4 cz_1_5 cz_1_6
  have cr_2_0 := cells4 Rr_2 0 _ rfl
  have cr_2_1 := cells4 Rr_2 1 _ rfl
  have cr_2_2 := cells4 Rr_2 2 _ rfl
  have cr_2_3 := cells4 Rr_2 3 _ rfl
  have cr_2_4 := cells4 Rr_2 4 _ rfl
  have cr_2_5 := cells4 Rr_2 5 _ rfl
  have cr_2_6 := cells4 Rr_2 6 _ rfl
  have cz_2_0 := cells4 Rz_2 0 _ rfl
  have cz_2_1 := cells4 Rz_2 1 _ rfl
  have cz_2_2 := cells4 Rz_2 2 _ rfl
  have cz_2_3 := cells4 Rz_2 3 _ rfl
  have cz_2_4 := cells4 Rz_2 4 _ rfl
  have cz_2_5 := cells4 Rz_2 5 _ rfl
  have cz_2_6 := cells4 Rz_2 6 _ rfl
  have sT : Box (∀ (W : World) (xA : Value), (Below w.heap.size w W ∧ W.heap[w.heap.size + 1]? = some (Obj.cells #[.int .u8 0, .int .u8 0, .int .u8 0, .int .u8 0, .int .u32 0, .int .u32 0, .int .u8 0] 45)) → (Below w.heap.size w (W.setCell ⟨w.heap.size, 5, none⟩ xA) ∧ (W.setCell ⟨w.heap.size, 5, none⟩ xA).heap[w.heap.size + 1]? = some (Obj.cells #[.int .u8 0, .int .u8 0, .int .u8 0, .int .u8 0, .int .u32 0, .int .u32 0, .int .u8 0] 45))) := box (fun W xA h => ⟨Below.setCell h.1 (show w.heap.size ≤ w.heap.size by first | exact Nat.le_refl _ | omega | (skip; omega)) xA, (setCell_other (by first | omega | (skip; omega))).trans h.2⟩)
  have s0 : Below w.heap.size w w2 ∧ w2.heap[w.heap.size + 1]? = some (Obj.cells #[.int .u8 0, .int .u8 0, .int .u8 0, .int .u8 0, .int .u32 0, .int .u32 0, .int .u8 0] 45) := ⟨B2, Rz_2⟩
  have rz : w2.heap[w.heap.size]? = some (Obj.cells #[.int .u8 (a : Nat), .int .u8 (b : Nat), .int .u8 (c : Nat), .int .u8 (d : Nat), .int .u32 (e2 : Nat), .int .u32 (f : Nat), .int .u8 (g : Nat)] 45) := Rr_2
  have hqz := fz (k := 5) rz
  have hz0 := cell7 rz 0 _ rfl
  have hz1 := cell7 rz 1 _ rfl
  have hz2 := cell7 rz 2 _ rfl
  have hz3 := cell7 rz 3 _ rfl
  have hz4 := cell7 rz 4 _ rfl
  have hz5 := cell7 rz 5 _ rfl
  have hz6 := cell7 rz 6 _ rfl
  go_wp2_with fail
  go_region
  have s2 : Below w.heap.size w (w2.setCell ⟨w.heap.size, 5, none⟩ (.int .u32 (f2 : Nat))) ∧ (w2.setCell ⟨w.heap.size, 5, none⟩ (.int .u32 (f2 : Nat))).heap[w.heap.size + 1]? = some (Obj.cells #[.int .u8 0, .int .u8 0, .int .u8 0, .int .u8 0, .int .u32 0, .int .u32 0, .int .u8 0] 45) := sT.out _ _ s0
  have Rr_3 : ((w2.setCell ⟨w.heap.size, 5, none⟩ (.int .u32 (f2 : Nat))).drew).heap[w.heap.size]? = some (Obj.cells #[.int .u8 (a : Nat), .int .u8 (b : Nat), .int .u8 (c : Nat), .int .u8 (d : Nat), .int .u32 (e2 : Nat), .int .u32 (f2 : Nat), .int .u8 (g : Nat)] 45) := (by rw [setCell_row rz]; rfl : (w2.setCell ⟨w.heap.size, 5, none⟩ (.int .u32 (f2 : Nat))).heap[w.heap.size]? = some (Obj.cells #[.int .u8 (a : Nat), .int .u8 (b : Nat), .int .u8 (c : Nat), .int .u8 (d : Nat), .int .u32 (e2 : Nat), .int .u32 (f2 : Nat), .int .u8 (g : Nat)] 45))
  have B3 : Below w.heap.size w ((w2.setCell ⟨w.heap.size, 5, none⟩ (.int .u32 (f2 : Nat))).drew) := (And.left s2).drew
  have Rz_3 : ((w2.setCell ⟨w.heap.size, 5, none⟩ (.int .u32 (f2 : Nat))).drew).heap[w.heap.size + 1]? = some (Obj.cells #[.int .u8 0, .int .u8 0, .int .u8 0, .int .u8 0, .int .u32 0, .int .u32 0, .int .u8 0] 45) := s2.2
  obtain ⟨w3, hw3⟩ : ∃ V, ((w2.setCell ⟨w.heap.size, 5, none⟩ (.int .u32 (f2 : Nat))).drew) = V := ⟨_, rfl⟩
  rw [hw3] at B3 Rr_3 Rz_3 ⊢
  clear hw3 sT s0 s2 rz hqz hz0 hz1 hz2 hz3 hz4 hz5 hz6 B2 Rr_2 cr_2_0 cr_2_1 cr_2_2 cr_2_3 cr_2_4 cr_2_5 cr_2_6 Rz_2 cz_2_0 cz_2_1 cz_2_2 cz_2_3 cz_2_4 cz_2_5 cz_2_6
  have cr_3_0 := cells4 Rr_3 0 _ rfl
  have cr_3_1 := cells4 Rr_3 1 _ rfl
  have cr_3_2 := cells4 Rr_3 2 _ rfl
  have cr_3_3 := cells4 Rr_3 3 _ rfl
  have cr_3_4 := cells4 Rr_3 4 _ rfl
  have cr_3_5 := cells4 Rr_3 5 _ rfl
  have cr_3_6 := cells4 Rr_3 6 _ rfl
  have cz_3_0 := cells4 Rz_3 0 _ rfl
  have cz_3_1 := cells4 Rz_3 1 _ rfl
  have cz_3_2 := cells4 Rz_3 2 _ rfl
  have cz_3_3 := cells4 Rz_3 3 _ rfl
  have cz_3_4 := cells4 Rz_3 4 _ rfl
  have cz_3_5 := cells4 Rz_3 5 _ rfl
  have cz_3_6 := cells4 Rz_3 6 _ rfl
  have q0 := fz (k := 0) Rz_3
  have q1 := fz (k := 1) Rz_3
  have q2 := fz (k := 2) Rz_3
  have q3 := fz (k := 3) Rz_3
  have q4 := fz (k := 4) Rz_3
  have q5 := fz (k := 5) Rz_3
  have q6 := fz (k := 6) Rz_3
  have bz : Below w.heap.size w (((((((w3.setCell ⟨w.heap.size + 1, 0, none⟩ (.int .u8 (a : Nat))).setCell ⟨w.heap.size + 1, 1, none⟩ (.int .u8 (b : Nat))).setCell ⟨w.heap.size + 1, 2, none⟩ (.int .u8 (c : Nat))).setCell ⟨w.heap.size + 1, 3, none⟩ (.int .u8 (d : Nat))).setCell ⟨w.heap.size + 1, 4, none⟩ (.int .u32 (e2 : Nat))).setCell ⟨w.heap.size + 1, 5, none⟩ (.int .u32 (f2 : Nat))).setCell ⟨w.heap.size + 1, 6, none⟩ (.int .u8 (g : Nat))) := (((((((B3.setCell (by first | exact Nat.le_refl _ | (skip; show w.heap.size ≤ w.heap.size + 1; omega)) _).setCell (by first | exact Nat.le_refl _ | (skip; show w.heap.size ≤ w.heap.size + 1; omega)) _).setCell (by first | exact Nat.le_refl _ | (skip; show w.heap.size ≤ w.heap.size + 1; omega)) _).setCell (by first | exact Nat.le_refl _ | (skip; show w.heap.size ≤ w.heap.size + 1; omega)) _).setCell (by first | exact Nat.le_refl _ | (skip; show w.heap.size ≤ w.heap.size + 1; omega)) _).setCell (by first | exact Nat.le_refl _ | (skip; show w.heap.size ≤ w.heap.size + 1; omega)) _).setCell (by first | exact Nat.le_refl _ | (skip; show w.heap.size ≤ w.heap.size + 1; omega)) _)
  have rz : (((((((w3.setCell ⟨w.heap.size + 1, 0, none⟩ (.int .u8 (a : Nat))).setCell ⟨w.heap.size + 1, 1, none⟩ (.int .u8 (b : Nat))).setCell ⟨w.heap.size + 1, 2, none⟩ (.int .u8 (c : Nat))).setCell ⟨w.heap.size + 1, 3, none⟩ (.int .u8 (d : Nat))).setCell ⟨w.heap.size + 1, 4, none⟩ (.int .u32 (e2 : Nat))).setCell ⟨w.heap.size + 1, 5, none⟩ (.int .u32 (f2 : Nat))).setCell ⟨w.heap.size + 1, 6, none⟩ (.int .u8 (g : Nat))).heap[w.heap.size + 1]? = some (Obj.cells #[.int .u8 (a : Nat), .int .u8 (b : Nat), .int .u8 (c : Nat), .int .u8 (d : Nat), .int .u32 (e2 : Nat), .int .u32 (f2 : Nat), .int .u8 (g : Nat)] 45) := (setCell_row (setCell_row (setCell_row (setCell_row (setCell_row (setCell_row (setCell_row Rz_3)))))))
  have E0 := cell7 rz 0 _ rfl
  have E1 := cell7 rz 1 _ rfl
  have E2 := cell7 rz 2 _ rfl
  have E3 := cell7 rz 3 _ rfl
  have E4 := cell7 rz 4 _ rfl
  have E5 := cell7 rz 5 _ rfl
  have E6 := cell7 rz 6 _ rfl
  go_wp2
  exact bodyPost_ret (v := .agg #[.int .u8 (a : Nat), .int .u8 (b : Nat), .int .u8 (c : Nat), .int .u8 (d : Nat), .int .u32 (e2 : Nat), .int .u32 (f2 : Nat), .int .u8 (g : Nat)]) (by simp [results, Tryd.results44, go_sem, E0, E1, E2, E3, E4, E5, E6]) rfl ⟨rfl, bz⟩
set_option maxRecDepth 100000 in
set_option maxHeartbeats 4000000 in
theorem b24_fix25 (a b c d e f g n m e2 f2 : Nat) (hn : (n : Int) % 4294967296 = (n : Int)) (hm : ((n : Int) * 33554432) % 4294967296 = (m : Int)) (he : bits .or .u32 (e : Int) 100663296 = (e2 : Int)) (hf : bits .or .u32 (f : Int) (m : Int) = (f2 : Int)) (w : World) : Calls Tryd.prog 44 #[.agg #[.int .u8 (a : Nat), .int .u8 (b : Nat), .int .u8 (c : Nat), .int .u8 (d : Nat), .int .u32 (e : Nat), .int .u32 (f : Nat), .int .u8 (g : Nat)], .int .i64 25, .int .i64 2, .int .i64 (n : Nat)] w fun r w' => r = .returned (.agg #[.int .u8 (a : Nat), .int .u8 (b : Nat), .int .u8 (c : Nat), .int .u8 (d : Nat), .int .u32 (e2 : Nat), .int .u32 (f2 : Nat), .int .u8 (g : Nat)]) ∧ Below w.heap.size w w' := by
  obtain ⟨Rr_0, Rz_0, B0⟩ := opn2 w (Obj.cells #[.int .u8 (a : Nat), .int .u8 (b : Nat), .int .u8 (c : Nat), .int .u8 (d : Nat), .int .u32 (e : Nat), .int .u32 (f : Nat), .int .u8 (g : Nat)] 45) (Obj.cells #[.int .u8 0, .int .u8 0, .int .u8 0, .int .u8 0, .int .u32 0, .int .u32 0, .int .u8 0] 45)
  go_enter Tryd.func44, Tryd.ntmps44
  have cr_0_0 := cells4 Rr_0 0 _ rfl
  have cr_0_1 := cells4 Rr_0 1 _ rfl
  have cr_0_2 := cells4 Rr_0 2 _ rfl
  have cr_0_3 := cells4 Rr_0 3 _ rfl
  have cr_0_4 := cells4 Rr_0 4 _ rfl
  have cr_0_5 := cells4 Rr_0 5 _ rfl
  have cr_0_6 := cells4 Rr_0 6 _ rfl
  have cz_0_0 := cells4 Rz_0 0 _ rfl
  have cz_0_1 := cells4 Rz_0 1 _ rfl
  have cz_0_2 := cells4 Rz_0 2 _ rfl
  have cz_0_3 := cells4 Rz_0 3 _ rfl
  have cz_0_4 := cells4 Rz_0 4 _ rfl
  have cz_0_5 := cells4 Rz_0 5 _ rfl
  have cz_0_6 := cells4 Rz_0 6 _ rfl
  go_wp2_with fail
  obtain ⟨w1, hw1⟩ : ∃ V, ((w.alloc (Obj.cells #[.int .u8 (a : Nat), .int .u8 (b : Nat), .int .u8 (c : Nat), .int .u8 (d : Nat), .int .u32 (e : Nat), .int .u32 (f : Nat), .int .u8 (g : Nat)] 45)).alloc (Obj.cells #[.int .u8 0, .int .u8 0, .int .u8 0, .int .u8 0, .int .u32 0, .int .u32 0, .int .u8 0] 45)) = V := ⟨_, rfl⟩
  have Rr_1 := Rr_0
  have Rz_1 := Rz_0
  have B1 := B0
  rw [hw1] at B1 Rr_1 Rz_1 ⊢
  clear hw1 B0 Rr_0 cr_0_0 cr_0_1 cr_0_2 cr_0_3 cr_0_4 cr_0_5 cr_0_6 Rz_0 cz_0_0 cz_0_1 cz_0_2 cz_0_3 cz_0_4 cz_0_5 cz_0_6
  have cr_1_0 := cells4 Rr_1 0 _ rfl
  have cr_1_1 := cells4 Rr_1 1 _ rfl
  have cr_1_2 := cells4 Rr_1 2 _ rfl
  have cr_1_3 := cells4 Rr_1 3 _ rfl
  have cr_1_4 := cells4 Rr_1 4 _ rfl
  have cr_1_5 := cells4 Rr_1 5 _ rfl
  have cr_1_6 := cells4 Rr_1 6 _ rfl
  have cz_1_0 := cells4 Rz_1 0 _ rfl
  have cz_1_1 := cells4 Rz_1 1 _ rfl
  have cz_1_2 := cells4 Rz_1 2 _ rfl
  have cz_1_3 := cells4 Rz_1 3 _ rfl
  have cz_1_4 := cells4 Rz_1 4 _ rfl
  have cz_1_5 := cells4 Rz_1 5 _ rfl
  have cz_1_6 := cells4 Rz_1 6 _ rfl
  have sT : Box (∀ (W : World) (xA : Value), (Below w.heap.size w W ∧ W.heap[w.heap.size + 1]? = some (Obj.cells #[.int .u8 0, .int .u8 0, .int .u8 0, .int .u8 0, .int .u32 0, .int .u32 0, .int .u8 0] 45)) → (Below w.heap.size w (W.setCell ⟨w.heap.size, 4, none⟩ xA) ∧ (W.setCell ⟨w.heap.size, 4, none⟩ xA).heap[w.heap.size + 1]? = some (Obj.cells #[.int .u8 0, .int .u8 0, .int .u8 0, .int .u8 0, .int .u32 0, .int .u32 0, .int .u8 0] 45))) := box (fun W xA h => ⟨Below.setCell h.1 (show w.heap.size ≤ w.heap.size by first | exact Nat.le_refl _ | omega | (skip; omega)) xA, (setCell_other (by first | omega | (skip; omega))).trans h.2⟩)
  have s0 : Below w.heap.size w w1 ∧ w1.heap[w.heap.size + 1]? = some (Obj.cells #[.int .u8 0, .int .u8 0, .int .u8 0, .int .u8 0, .int .u32 0, .int .u32 0, .int .u8 0] 45) := ⟨B1, Rz_1⟩
  have rz : w1.heap[w.heap.size]? = some (Obj.cells #[.int .u8 (a : Nat), .int .u8 (b : Nat), .int .u8 (c : Nat), .int .u8 (d : Nat), .int .u32 (e : Nat), .int .u32 (f : Nat), .int .u8 (g : Nat)] 45) := Rr_1
  have hqz := fz (k := 4) rz
  have hz0 := cell7 rz 0 _ rfl
  have hz1 := cell7 rz 1 _ rfl
  have hz2 := cell7 rz 2 _ rfl
  have hz3 := cell7 rz 3 _ rfl
  have hz4 := cell7 rz 4 _ rfl
  have hz5 := cell7 rz 5 _ rfl
  have hz6 := cell7 rz 6 _ rfl
  go_wp2_with fail
  go_region
  have s2 : Below w.heap.size w (w1.setCell ⟨w.heap.size, 4, none⟩ (.int .u32 (e2 : Nat))) ∧ (w1.setCell ⟨w.heap.size, 4, none⟩ (.int .u32 (e2 : Nat))).heap[w.heap.size + 1]? = some (Obj.cells #[.int .u8 0, .int .u8 0, .int .u8 0, .int .u8 0, .int .u32 0, .int .u32 0, .int .u8 0] 45) := sT.out _ _ s0
  have Rr_2 : ((w1.setCell ⟨w.heap.size, 4, none⟩ (.int .u32 (e2 : Nat))).drew).heap[w.heap.size]? = some (Obj.cells #[.int .u8 (a : Nat), .int .u8 (b : Nat), .int .u8 (c : Nat), .int .u8 (d : Nat), .int .u32 (e2 : Nat), .int .u32 (f : Nat), .int .u8 (g : Nat)] 45) := (by rw [setCell_row rz]; rfl : (w1.setCell ⟨w.heap.size, 4, none⟩ (.int .u32 (e2 : Nat))).heap[w.heap.size]? = some (Obj.cells #[.int .u8 (a : Nat), .int .u8 (b : Nat), .int .u8 (c : Nat), .int .u8 (d : Nat), .int .u32 (e2 : Nat), .int .u32 (f : Nat), .int .u8 (g : Nat)] 45))
  have B2 : Below w.heap.size w ((w1.setCell ⟨w.heap.size, 4, none⟩ (.int .u32 (e2 : Nat))).drew) := (And.left s2).drew
  have Rz_2 : ((w1.setCell ⟨w.heap.size, 4, none⟩ (.int .u32 (e2 : Nat))).drew).heap[w.heap.size + 1]? = some (Obj.cells #[.int .u8 0, .int .u8 0, .int .u8 0, .int .u8 0, .int .u32 0, .int .u32 0, .int .u8 0] 45) := s2.2
  obtain ⟨w2, hw2⟩ : ∃ V, ((w1.setCell ⟨w.heap.size, 4, none⟩ (.int .u32 (e2 : Nat))).drew) = V := ⟨_, rfl⟩
  rw [hw2] at B2 Rr_2 Rz_2 ⊢
  clear hw2 sT s0 s2 rz hqz hz0 hz1 hz2 hz3 hz4 hz5 hz6 B1 Rr_1 cr_1_0 cr_1_1 cr_1_2 cr_1_3 cr_1_4 cr_1_5 cr_1_6 Rz_1 cz_1_0 cz_1_1 cz_1_2 cz_1_3 cz_1_4 cz_1_5 cz_1_6
  have cr_2_0 := cells4 Rr_2 0 _ rfl
  have cr_2_1 := cells4 Rr_2 1 _ rfl
  have cr_2_2 := cells4 Rr_2 2 _ rfl
  have cr_2_3 := cells4 Rr_2 3 _ rfl
  have cr_2_4 := cells4 Rr_2 4 _ rfl
  have cr_2_5 := cells4 Rr_2 5 _ rfl
  have cr_2_6 := cells4 Rr_2 6 _ rfl
  have cz_2_0 := cells4 Rz_2 0 _ rfl
  have cz_2_1 := cells4 Rz_2 1 _ rfl
  have cz_2_2 := cells4 Rz_2 2 _ rfl
  have cz_2_3 := cells4 Rz_2 3 _ rfl
  have cz_2_4 := cells4 Rz_2 4 _ rfl
  have cz_2_5 := cells4 Rz_2 5 _ rfl
  have cz_2_6 := cells4 Rz_2 6 _ rfl
  have sT : Box (∀ (W : World) (xA : Value), (Below w.heap.size w W ∧ W.heap[w.heap.size + 1]? = some (Obj.cells #[.int .u8 0, .int .u8 0, .int .u8 0, .int .u8 0, .int .u32 0, .int .u32 0, .int .u8 0] 45)) → (Below w.heap.size w (W.setCell ⟨w.heap.size, 5, none⟩ xA) ∧ (W.setCell ⟨w.heap.size, 5, none⟩ xA).heap[w.heap.size + 1]? = some (Obj.cells #[.int .u8 0, .int .u8 0, .int .u8 0, .int .u8 0, .int .u32 0, .int .u32 0, .int .u8 0] 45))) := box (fun W xA h => ⟨Below.setCell h.1 (show w.heap.size ≤ w.heap.size by first | exact Nat.le_refl _ | omega | (skip; omega)) xA, (setCell_other (by first | omega | (skip; omega))).trans h.2⟩)
  have s0 : Below w.heap.size w w2 ∧ w2.heap[w.heap.size + 1]? = some (Obj.cells #[.int .u8 0, .int .u8 0, .int .u8 0, .int .u8 0, .int .u32 0, .int .u32 0, .int .u8 0] 45) := ⟨B2, Rz_2⟩
  have rz : w2.heap[w.heap.size]? = some (Obj.cells #[.int .u8 (a : Nat), .int .u8 (b : Nat), .int .u8 (c : Nat), .int .u8 (d : Nat), .int .u32 (e2 : Nat), .int .u32 (f : Nat), .int .u8 (g : Nat)] 45) := Rr_2
  have hqz := fz (k := 5) rz
  have hz0 := cell7 rz 0 _ rfl
  have hz1 := cell7 rz 1 _ rfl
  have hz2 := cell7 rz 2 _ rfl
  have hz3 := cell7 rz 3 _ rfl
  have hz4 := cell7 rz 4 _ rfl
  have hz5 := cell7 rz 5 _ rfl
  have hz6 := cell7 rz 6 _ rfl
  go_wp2_with fail
  go_region
  have s2 : Below w.heap.size w (w2.setCell ⟨w.heap.size, 5, none⟩ (.int .u32 (f2 : Nat))) ∧ (w2.setCell ⟨w.heap.size, 5, none⟩ (.int .u32 (f2 : Nat))).heap[w.heap.size + 1]? = some (Obj.cells #[.int .u8 0, .int .u8 0, .int .u8 0, .int .u8 0, .int .u32 0, .int .u32 0, .int .u8 0] 45) := sT.out _ _ s0
  have Rr_3 : ((w2.setCell ⟨w.heap.size, 5, none⟩ (.int .u32 (f2 : Nat))).drew).heap[w.heap.size]? = some (Obj.cells #[.int .u8 (a : Nat), .int .u8 (b : Nat), .int .u8 (c : Nat), .int .u8 (d : Nat), .int .u32 (e2 : Nat), .int .u32 (f2 : Nat), .int .u8 (g : Nat)] 45) := (by rw [setCell_row rz]; rfl : (w2.setCell ⟨w.heap.size, 5, none⟩ (.int .u32 (f2 : Nat))).heap[w.heap.size]? = some (Obj.cells #[.int .u8 (a : Nat), .int .u8 (b : Nat), .int .u8 (c : Nat), .int .u8 (d : Nat), .int .u32 (e2 : Nat), .int .u32 (f2 : Nat), .int .u8 (g : Nat)] 45))
  have B3 : Below w.heap.size w ((w2.setCell ⟨w.heap.size, 5, none⟩ (.int .u32 (f2 : Nat))).drew) := (And.left s2).drew
  have Rz_3 : ((w2.setCell ⟨w.heap.size, 5, none⟩ (.int .u32 (f2 : Nat))).drew).heap[w.heap.size + 1]? = some (Obj.cells #[.int .u8 0, .int .u8 0, .int .u8 0, .int .u8 0, .int .u32 0, .int .u32 0, .int .u8 0] 45) := s2.2
  obtain ⟨w3, hw3⟩ : ∃ V, ((w2.setCell ⟨w.heap.size, 5, none⟩ (.int .u32 (f2 : Nat))).drew) = V := ⟨_, rfl⟩
  rw [hw3] at B3 Rr_3 Rz_3 ⊢
  clear hw3 sT s0 s2 rz hqz hz0 hz1 hz2 hz3 hz4 hz5 hz6 B2 Rr_2 cr_2_0 cr_2_1 cr_2_2 cr_2_3 cr_2_4 cr_2_5 cr_2_6 Rz_2 cz_2_0 cz_2_1 cz_2_2 cz_2_3 cz_2_4 cz_2_5 cz_2_6
  have cr_3_0 := cells4 Rr_3 0 _ rfl
  have cr_3_1 := cells4 Rr_3 1 _ rfl
  have cr_3_2 := cells4 Rr_3 2 _ rfl
  have cr_3_3 := cells4 Rr_3 3 _ rfl
  have cr_3_4 := cells4 Rr_3 4 _ rfl
  have cr_3_5 := cells4 Rr_3 5 _ rfl
  have cr_3_6 := cells4 Rr_3 6 _ rfl
  have cz_3_0 := cells4 Rz_3 0 _ rfl
  have cz_3_1 := cells4 Rz_3 1 _ rfl
  have cz_3_2 := cells4 Rz_3 2 _ rfl
  have cz_3_3 := cells4 Rz_3 3 _ rfl
  have cz_3_4 := cells4 Rz_3 4 _ rfl
  have cz_3_5 := cells4 Rz_3 5 _ rfl
  have cz_3_6 := cells4 Rz_3 6 _ rfl
  have q0 := fz (k := 0) Rz_3
  have q1 := fz (k := 1) Rz_3
  have q2 := fz (k := 2) Rz_3
  have q3 := fz (k := 3) Rz_3
  have q4 := fz (k := 4) Rz_3
  have q5 := fz (k := 5) Rz_3
  have q6 := fz (k := 6) Rz_3
  have bz : Below w.heap.size w (((((((w3.setCell ⟨w.heap.size + 1, 0, none⟩ (.int .u8 (a : Nat))).setCell ⟨w.heap.size + 1, 1, none⟩ (.int .u8 (b : Nat))).setCell ⟨w.heap.size + 1, 2, none⟩ (.int .u8 (c : Nat))).setCell ⟨w.heap.size + 1, 3, none⟩ (.int .u8 (d : Nat))).setCell ⟨w.heap.size + 1, 4, none⟩ (.int .u32 (e2 : Nat))).setCell ⟨w.heap.size + 1, 5, none⟩ (.int .u32 (f2 : Nat))).setCell ⟨w.heap.size + 1, 6, none⟩ (.int .u8 (g : Nat))) := (((((((B3.setCell (by first | exact Nat.le_refl _ | (skip; show w.heap.size ≤ w.heap.size + 1; omega)) _).setCell (by first | exact Nat.le_refl _ | (skip; show w.heap.size ≤ w.heap.size + 1; omega)) _).setCell (by first | exact Nat.le_refl _ | (skip; show w.heap.size ≤ w.heap.size + 1; omega)) _).setCell (by first | exact Nat.le_refl _ | (skip; show w.heap.size ≤ w.heap.size + 1; omega)) _).setCell (by first | exact Nat.le_refl _ | (skip; show w.heap.size ≤ w.heap.size + 1; omega)) _).setCell (by first | exact Nat.le_refl _ | (skip; show w.heap.size ≤ w.heap.size + 1; omega)) _).setCell (by first | exact Nat.le_refl _ | (skip; show w.heap.size ≤ w.heap.size + 1; omega)) _)
  have rz : (((((((w3.setCell ⟨w.heap.size + 1, 0, none⟩ (.int .u8 (a : Nat))).setCell ⟨w.heap.size + 1, 1, none⟩ (.int .u8 (b : Nat))).setCell ⟨w.heap.size + 1, 2, none⟩ (.int .u8 (c : Nat))).setCell ⟨w.heap.size + 1, 3, none⟩ (.int .u8 (d : Nat))).setCell ⟨w.heap.size + 1, 4, none⟩ (.int .u32 (e2 : Nat))).setCell ⟨w.heap.size + 1, 5, none⟩ (.int .u32 (f2 : Nat))).setCell ⟨w.heap.size + 1, 6, none⟩ (.int .u8 (g : Nat))).heap[w.heap.size + 1]? = some (Obj.cells #[.int .u8 (a : Nat), .int .u8 (b : Nat), .int .u8 (c : Nat), .int .u8 (d : Nat), .int .u32 (e2 : Nat), .int .u32 (f2 : Nat), .int .u8 (g : Nat)] 45) := (setCell_row (setCell_row (setCell_row (setCell_row (setCell_row (setCell_row (setCell_row Rz_3)))))))
  have E0 := cell7 rz 0 _ rfl
  have E1 := cell7 rz 1 _ rfl
  have E2 := cell7 rz 2 _ rfl
  have E3 := cell7 rz 3 _ rfl
  have E4 := cell7 rz 4 _ rfl
  have E5 := cell7 rz 5 _ rfl
  have E6 := cell7 rz 6 _ rfl
  go_wp2
  exact bodyPost_ret (v := .agg #[.int .u8 (a : Nat), .int .u8 (b : Nat), .int .u8 (c : Nat), .int .u8 (d : Nat), .int .u32 (e2 : Nat), .int .u32 (f2 : Nat), .int .u8 (g : Nat)]) (by simp [results, Tryd.results44, go_sem, E0, E1, E2, E3, E4, E5, E6]) rfl ⟨rfl, bz⟩
set_option maxRecDepth 100000 in
set_option maxHeartbeats 4000000 in
theorem b24_fix12 (a b c d e f g n m e2 f2 : Nat) (hn : (n : Int) % 4294967296 = (n : Int)) (hm : ((n : Int) * 4096) % 4294967296 = (m : Int)) (he : bits .or .u32 (e : Int) 28672 = (e2 : Int)) (hf : bits .or .u32 (f : Int) (m : Int) = (f2 : Int)) (w : World) : Calls Tryd.prog 44 #[.agg #[.int .u8 (a : Nat), .int .u8 (b : Nat), .int .u8 (c : Nat), .int .u8 (d : Nat), .int .u32 (e : Nat), .int .u32 (f : Nat), .int .u8 (g : Nat)], .int .i64 12, .int .i64 3, .int .i64 (n : Nat)] w fun r w' => r = .returned (.agg #[.int .u8 (a : Nat), .int .u8 (b : Nat), .int .u8 (c : Nat), .int .u8 (d : Nat), .int .u32 (e2 : Nat), .int .u32 (f2 : Nat), .int .u8 (g : Nat)]) ∧ Below w.heap.size w w' := by
  obtain ⟨Rr_0, Rz_0, B0⟩ := opn2 w (Obj.cells #[.int .u8 (a : Nat), .int .u8 (b : Nat), .int .u8 (c : Nat), .int .u8 (d : Nat), .int .u32 (e : Nat), .int .u32 (f : Nat), .int .u8 (g : Nat)] 45) (Obj.cells #[.int .u8 0, .int .u8 0, .int .u8 0, .int .u8 0, .int .u32 0, .int .u32 0, .int .u8 0] 45)
  go_enter Tryd.func44, Tryd.ntmps44
  have cr_0_0 := cells4 Rr_0 0 _ rfl
  have cr_0_1 := cells4 Rr_0 1 _ rfl
  have cr_0_2 := cells4 Rr_0 2 _ rfl
  have cr_0_3 := cells4 Rr_0 3 _ rfl
  have cr_0_4 := cells4 Rr_0 4 _ rfl
  have cr_0_5 := cells4 Rr_0 5 _ rfl
  have cr_0_6 := cells4 Rr_0 6 _ rfl
  have cz_0_0 := cells4 Rz_0 0 _ rfl
  have cz_0_1 := cells4 Rz_0 1 _ rfl
  have cz_0_2 := cells4 Rz_0 2 _ rfl
  have cz_0_3 := cells4 Rz_0 3 _ rfl
  have cz_0_4 := cells4 Rz_0 4 _ rfl
  have cz_0_5 := cells4 Rz_0 5 _ rfl
  have cz_0_6 := cells4 Rz_0 6 _ rfl
  go_wp2_with fail
  obtain ⟨w1, hw1⟩ : ∃ V, ((w.alloc (Obj.cells #[.int .u8 (a : Nat), .int .u8 (b : Nat), .int .u8 (c : Nat), .int .u8 (d : Nat), .int .u32 (e : Nat), .int .u32 (f : Nat), .int .u8 (g : Nat)] 45)).alloc (Obj.cells #[.int .u8 0, .int .u8 0, .int .u8 0, .int .u8 0, .int .u32 0, .int .u32 0, .int .u8 0] 45)) = V := ⟨_, rfl⟩
  have Rr_1 := Rr_0
  have Rz_1 := Rz_0
  have B1 := B0
  rw [hw1] at B1 Rr_1 Rz_1 ⊢
  clear hw1 B0 Rr_0 cr_0_0 cr_0_1 cr_0_2 cr_0_3 cr_0_4 cr_0_5 cr_0_6 Rz_0 cz_0_0 cz_0_1 cz_0_2 cz_0_3 cz_0_4 cz_0_5 cz_0_6
  have cr_1_0 := cells4 Rr_1 0 _ rfl
  have cr_1_1 := cells4 Rr_1 1 _ rfl
  have cr_1_2 := cells4 Rr_1 2 _ rfl
  have cr_1_3 := cells4 Rr_1 3 _ rfl
  have cr_1_4 := cells4 Rr_1 4 _ rfl
  have cr_1_5 := cells4 Rr_1 5 _ rfl
  have cr_1_6 := cells4 Rr_1 6 _ rfl
  have cz_1_0 := cells4 Rz_1 0 _ rfl
  have cz_1_1 := cells4 Rz_1 1 _ rfl
  have cz_1_2 := cells4 Rz_1 2 _ rfl
  have cz_1_3 := cells4 Rz_1 3 _ rfl
  have cz_1_4 := cells4 Rz_1 4 _ rfl
  have cz_1_5 := cells4 Rz_1 5 _ rfl
  have cz_1_6 := cells4 Rz_1 6 _ rfl
  have sT : Box (∀ (W : World) (xA : Value), (Below w.heap.size w W ∧ W.heap[w.heap.size + 1]? = some (Obj.cells #[.int .u8 0, .int .u8 0, .int .u8 0, .int .u8 0, .int .u32 0, .int .u32 0, .int .u8 0] 45)) → (Below w.heap.size w (W.setCell ⟨w.heap.size, 4, none⟩ xA) ∧ (W.setCell ⟨w.heap.size, 4, none⟩ xA).heap[w.heap.size + 1]? = some (Obj.cells #[.int .u8 0, .int .u8 0, .int .u8 0, .int .u8 0, .int .u32 0, .int .u32 0, .int .u8 0] 45))) := box (fun W xA h => ⟨Below.setCell h.1 (show w.heap.size ≤ w.heap.size by first | exact Nat.le_refl _ | omega | (skip; omega)) xA, (setCell_other (by first | omega | (skip; omega))).trans h.2⟩)
  have s0 : Below w.heap.size w w1 ∧ w1.heap[w.heap.size + 1]? = some (Obj.cells #[.int .u8 0, .int .u8 0, .int .u8 0, .int .u8 0, .int .u32 0, .int .u32 0, .int .u8 0] 45) := ⟨B1, Rz_1⟩
  have rz : w1.heap[w.heap.size]? = some (Obj.cells #[.int .u8 (a : Nat), .int .u8 (b : Nat), .int .u8 (c : Nat), .int .u8 (d : Nat), .int .u32 (e : Nat), .int .u32 (f : Nat), .int .u8 (g : Nat)] 45) := Rr_1
  have hqz := fz (k := 4) rz
  have hz0 := cell7 rz 0 _ rfl
  have hz1 := cell7 rz 1 _ rfl
  have hz2 := cell7 rz 2 _ rfl
  have hz3 := cell7 rz 3 _ rfl
  have hz4 := cell7 rz 4 _ rfl
  have hz5 := cell7 rz 5 _ rfl
  have hz6 := cell7 rz 6 _ rfl
  go_wp2_with fail
  go_region
  have s2 : Below w.heap.size w (w1.setCell ⟨w.heap.size, 4, none⟩ (.int .u32 (e2 : Nat))) ∧ (w1.setCell ⟨w.heap.size, 4, none⟩ (.int .u32 (e2 : Nat))).heap[w.heap.size + 1]? = some (Obj.cells #[.int .u8 0, .int .u8 0, .int .u8 0, .int .u8 0, .int .u32 0, .int .u32 0, .int .u8 0] 45) := sT.out _ _ s0
  have Rr_2 : ((w1.setCell ⟨w.heap.size, 4, none⟩ (.int .u32 (e2 : Nat))).drew).heap[w.heap.size]? = some (Obj.cells #[.int .u8 (a : Nat), .int .u8 (b : Nat), .int .u8 (c : Nat), .int .u8 (d : Nat), .int .u32 (e2 : Nat), .int .u32 (f : Nat), .int .u8 (g : Nat)] 45) := (by rw [setCell_row rz]; rfl : (w1.setCell ⟨w.heap.size, 4, none⟩ (.int .u32 (e2 : Nat))).heap[w.heap.size]? = some (Obj.cells #[.int .u8 (a : Nat), .int .u8 (b : Nat), .int .u8 (c : Nat), .int .u8 (d : Nat), .int .u32 (e2 : Nat), .int .u32 (f : Nat), .int .u8 (g : Nat)] 45))
  have B2 : Below w.heap.size w ((w1.setCell ⟨w.heap.size, 4, none⟩ (.int .u32 (e2 : Nat))).drew) := (And.left s2).drew
  have Rz_2 : ((w1.setCell ⟨w.heap.size, 4, none⟩ (.int .u32 (e2 : Nat))).drew).heap[w.heap.size + 1]? = some (Obj.cells #[.int .u8 0, .int .u8 0, .int .u8 0, .int .u8 0, .int .u32 0, .int .u32 0, .int .u8 0] 45) := s2.2
  obtain ⟨w2, hw2⟩ : ∃ V, ((w1.setCell ⟨w.heap.size, 4, none⟩ (.int .u32 (e2 : Nat))).drew) = V := ⟨_, rfl⟩
  rw [hw2] at B2 Rr_2 Rz_2 ⊢
  clear hw2 sT s0 s2 rz hqz hz0 hz1 hz2 hz3 hz4 hz5 hz6 B1 Rr_1 cr_1_0 cr_1_1 cr_1_2 cr_1_3 cr_1_4 cr_1_5 cr_1_6 Rz_1 cz_1_0 cz_1_1 cz_1_2 cz_1_3 cz_1_4 cz_1_5 cz_1_6
  have cr_2_0 := cells4 Rr_2 0 _ rfl
  have cr_2_1 := cells4 Rr_2 1 _ rfl
  have cr_2_2 := cells4 Rr_2 2 _ rfl
  have cr_2_3 := cells4 Rr_2 3 _ rfl
  have cr_2_4 := cells4 Rr_2 4 _ rfl
  have cr_2_5 := cells4 Rr_2 5 _ rfl
  have cr_2_6 := cells4 Rr_2 6 _ rfl
  have cz_2_0 := cells4 Rz_2 0 _ rfl
  have cz_2_1 := cells4 Rz_2 1 _ rfl
  have cz_2_2 := cells4 Rz_2 2 _ rfl
  have cz_2_3 := cells4 Rz_2 3 _ rfl
  have cz_2_4 := cells4 Rz_2 4 _ rfl
  have cz_2_5 := cells4 Rz_2 5 _ rfl
  have cz_2_6 := cells4 Rz_2 6 _ rfl
  have sT : Box (∀ (W : World) (xA : Value), (Below w.heap.size w W ∧ W.heap[w.heap.size + 1]? = some (Obj.cells #[.int .u8 0, .int .u8 0, .int .u8 0, .int .u8 0, .int .u32 0, .int .u32 0, .int .u8 0] 45)) → (Below w.heap.size w (W.setCell ⟨w.heap.size, 5, none⟩ xA) ∧ (W.setCell ⟨w.heap.size, 5, none⟩ xA).heap[w.heap.size + 1]? = some (Obj.cells #[.int .u8 0, .int .u8 0, .int .u8 0, .int .u8 0, .int .u32 0, .int .u32 0, .int .u8 0] 45))) := box (fun W xA h => ⟨Below.setCell h.1 (show w.heap.size ≤ w.heap.size by first | exact Nat.le_refl _ | omega | (skip; omega)) xA, (setCell_other (by first | omega | (skip; omega))).trans h.2⟩)
  have s0 : Below w.heap.size w w2 ∧ w2.heap[w.heap.size + 1]? = some (Obj.cells #[.int .u8 0, .int .u8 0, .int .u8 0, .int .u8 0, .int .u32 0, .int .u32 0, .int .u8 0] 45) := ⟨B2, Rz_2⟩
  have rz : w2.heap[w.heap.size]? = some (Obj.cells #[.int .u8 (a : Nat), .int .u8 (b : Nat), .int .u8 (c : Nat), .int .u8 (d : Nat), .int .u32 (e2 : Nat), .int .u32 (f : Nat), .int .u8 (g : Nat)] 45) := Rr_2
  have hqz := fz (k := 5) rz
  have hz0 := cell7 rz 0 _ rfl
  have hz1 := cell7 rz 1 _ rfl
  have hz2 := cell7 rz 2 _ rfl
  have hz3 := cell7 rz 3 _ rfl
  have hz4 := cell7 rz 4 _ rfl
  have hz5 := cell7 rz 5 _ rfl
  have hz6 := cell7 rz 6 _ rfl
  go_wp2_with fail
  go_region
  have s2 : Below w.heap.size w (w2.setCell ⟨w.heap.size, 5, none⟩ (.int .u32 (f2 : Nat))) ∧ (w2.setCell ⟨w.heap.size, 5, none⟩ (.int .u32 (f2 : Nat))).heap[w.heap.size + 1]? = some (Obj.cells #[.int .u8 0, .int .u8 0, .int .u8 0, .int .u8 0, .int .u32 0, .int .u32 0, .int .u8 0] 45) := sT.out _ _ s0
  have Rr_3 : ((w2.setCell ⟨w.heap.size, 5, none⟩ (.int .u32 (f2 : Nat))).drew).heap[w.heap.size]? = some (Obj.cells #[.int .u8 (a : Nat), .int .u8 (b : Nat), .int .u8 (c : Nat), .int .u8 (d : Nat), .int .u32 (e2 : Nat), .int .u32 (f2 : Nat), .int .u8 (g : Nat)] 45) := (by rw [setCell_row rz]; rfl : (w2.setCell ⟨w.heap.size, 5, none⟩ (.int .u32 (f2 : Nat))).heap[w.heap.size]? = some (Obj.cells #[.int .u8 (a : Nat), .int .u8 (b : Nat), .int .u8 (c : Nat), .int .u8 (d : Nat), .int .u32 (e2 : Nat), .int .u32 (f2 : Nat), .int .u8 (g : Nat)] 45))
  have B3 : Below w.heap.size w ((w2.setCell ⟨w.heap.size, 5, none⟩ (.int .u32 (f2 : Nat))).drew) := (And.left s2).drew
  have Rz_3 : ((w2.setCell ⟨w.heap.size, 5, none⟩ (.int .u32 (f2 : Nat))).drew).heap[w.heap.size + 1]? = some (Obj.cells #[.int .u8 0, .int .u8 0, .int .u8 0, .int .u8 0, .int .u32 0, .int .u32 0, .int .u8 0] 45) := s2.2
  obtain ⟨w3, hw3⟩ : ∃ V, ((w2.setCell ⟨w.heap.size, 5, none⟩ (.int .u32 (f2 : Nat))).drew) = V := ⟨_, rfl⟩
  rw [hw3] at B3 Rr_3 Rz_3 ⊢
  clear hw3 sT s0 s2 rz hqz hz0 hz1 hz2 hz3 hz4 hz5 hz6 B2 Rr_2 cr_2_0 cr_2_1 cr_2_2 cr_2_3 cr_2_4 cr_2_5 cr_2_6 Rz_2 cz_2_0 cz_2_1 cz_2_2 cz_2_3 cz_2_4 cz_2_5 cz_2_6
  have cr_3_0 := cells4 Rr_3 0 _ rfl
  have cr_3_1 := cells4 Rr_3 1 _ rfl
  have cr_3_2 := cells4 Rr_3 2 _ rfl
  have cr_3_3 := cells4 Rr_3 3 _ rfl
  have cr_3_4 := cells4 Rr_3 4 _ rfl
  have cr_3_5 := cells4 Rr_3 5 _ rfl
  have cr_3_6 := cells4 Rr_3 6 _ rfl
  have cz_3_0 := cells4 Rz_3 0 _ rfl
  have cz_3_1 := cells4 Rz_3 1 _ rfl
  have cz_3_2 := cells4 Rz_3 2 _ rfl
  have cz_3_3 := cells4 Rz_3 3 _ rfl
  have cz_3_4 := cells4 Rz_3 4 _ rfl
  have cz_3_5 := cells4 Rz_3 5 _ rfl
  have cz_3_6 := cells4 Rz_3 6 _ rfl
  have q0 := fz (k := 0) Rz_3
  have q1 := fz (k := 1) Rz_3
  have q2 := fz (k := 2) Rz_3
  have q3 := fz (k := 3) Rz_3
  have q4 := fz (k := 4) Rz_3
  have q5 := fz (k := 5) Rz_3
  have q6 := fz (k := 6) Rz_3
  have bz : Below w.heap.size w (((((((w3.setCell ⟨w.heap.size + 1, 0, none⟩ (.int .u8 (a : Nat))).setCell ⟨w.heap.size + 1, 1, none⟩ (.int .u8 (b : Nat))).setCell ⟨w.heap.size + 1, 2, none⟩ (.int .u8 (c : Nat))).setCell ⟨w.heap.size + 1, 3, none⟩ (.int .u8 (d : Nat))).setCell ⟨w.heap.size + 1, 4, none⟩ (.int .u32 (e2 : Nat))).setCell ⟨w.heap.size + 1, 5, none⟩ (.int .u32 (f2 : Nat))).setCell ⟨w.heap.size + 1, 6, none⟩ (.int .u8 (g : Nat))) := (((((((B3.setCell (by first | exact Nat.le_refl _ | (skip; show w.heap.size ≤ w.heap.size + 1; omega)) _).setCell (by first | exact Nat.le_refl _ | (skip; show w.heap.size ≤ w.heap.size + 1; omega)) _).setCell (by first | exact Nat.le_refl _ | (skip; show w.heap.size ≤ w.heap.size + 1; omega)) _).setCell (by first | exact Nat.le_refl _ | (skip; show w.heap.size ≤ w.heap.size + 1; omega)) _).setCell (by first | exact Nat.le_refl _ | (skip; show w.heap.size ≤ w.heap.size + 1; omega)) _).setCell (by first | exact Nat.le_refl _ | (skip; show w.heap.size ≤ w.heap.size + 1; omega)) _).setCell (by first | exact Nat.le_refl _ | (skip; show w.heap.size ≤ w.heap.size + 1; omega)) _)
  have rz : (((((((w3.setCell ⟨w.heap.size + 1, 0, none⟩ (.int .u8 (a : Nat))).setCell ⟨w.heap.size + 1, 1, none⟩ (.int .u8 (b : Nat))).setCell ⟨w.heap.size + 1, 2, none⟩ (.int .u8 (c : Nat))).setCell ⟨w.heap.size + 1, 3, none⟩ (.int .u8 (d : Nat))).setCell ⟨w.heap.size + 1, 4, none⟩ (.int .u32 (e2 : Nat))).setCell ⟨w.heap.size + 1, 5, none⟩ (.int .u32 (f2 : Nat))).setCell ⟨w.heap.size + 1, 6, none⟩ (.int .u8 (g : Nat))).heap[w.heap.size + 1]? = some (Obj.cells #[.int .u8 (a : Nat), .int .u8 (b : Nat), .int .u8 (c : Nat), .int .u8 (d : Nat), .int .u32 (e2 : Nat), .int .u32 (f2 : Nat), .int .u8 (g : Nat)] 45) := (setCell_row (setCell_row (setCell_row (setCell_row (setCell_row (setCell_row (setCell_row Rz_3)))))))
  have E0 := cell7 rz 0 _ rfl
  have E1 := cell7 rz 1 _ rfl
  have E2 := cell7 rz 2 _ rfl
  have E3 := cell7 rz 3 _ rfl
  have E4 := cell7 rz 4 _ rfl
  have E5 := cell7 rz 5 _ rfl
  have E6 := cell7 rz 6 _ rfl
  go_wp2
  exact bodyPost_ret (v := .agg #[.int .u8 (a : Nat), .int .u8 (b : Nat), .int .u8 (c : Nat), .int .u8 (d : Nat), .int .u32 (e2 : Nat), .int .u32 (f2 : Nat), .int .u8 (g : Nat)]) (by simp [results, Tryd.results44, go_sem, E0, E1, E2, E3, E4, E5, E6]) rfl ⟨rfl, bz⟩
set_option maxRecDepth 100000 in
set_option maxHeartbeats 4000000 in
theorem b24_fix20 (a b c d e f g n m e2 f2 : Nat) (hn : (n : Int) % 4294967296 = (n : Int)) (hm : ((n : Int) * 1048576) % 4294967296 = (m : Int)) (he : bits .or .u32 (e : Int) 32505856 = (e2 : Int)) (hf : bits .or .u32 (f : Int) (m : Int) = (f2 : Int)) (w : World) : Calls Tryd.prog 44 #[.agg #[.int .u8 (a : Nat), .int .u8 (b : Nat), .int .u8 (c : Nat), .int .u8 (d : Nat), .int .u32 (e : Nat), .int .u32 (f : Nat), .int .u8 (g : Nat)], .int .i64 20, .int .i64 5, .int .i64 (n : Nat)] w fun r w' => r = .returned (.agg #[.int .u8 (a : Nat), .int .u8 (b : Nat), .int .u8 (c : Nat), .int .u8 (d : Nat), .int .u32 (e2 : Nat), .int .u32 (f2 : Nat), .int .u8 (g : Nat)]) ∧ Below w.heap.size w w' := by
  obtain ⟨Rr_0, Rz_0, B0⟩ := opn2 w (Obj.cells #[.int .u8 (a : Nat), .int .u8 (b : Nat), .int .u8 (c : Nat), .int .u8 (d : Nat), .int .u32 (e : Nat), .int .u32 (f : Nat), .int .u8 (g : Nat)] 45) (Obj.cells #[.int .u8 0, .int .u8 0, .int .u8 0, .int .u8 0, .int .u32 0, .int .u32 0, .int .u8 0] 45)
  go_enter Tryd.func44, Tryd.ntmps44
  have cr_0_0 := cells4 Rr_0 0 _ rfl
  have cr_0_1 := cells4 Rr_0 1 _ rfl
  have cr_0_2 := cells4 Rr_0 2 _ rfl
  have cr_0_3 := cells4 Rr_0 3 _ rfl
  have cr_0_4 := cells4 Rr_0 4 _ rfl
  have cr_0_5 := cells4 Rr_0 5 _ rfl
  have cr_0_6 := cells4 Rr_0 6 _ rfl
  have cz_0_0 := cells4 Rz_0 0 _ rfl
  have cz_0_1 := cells4 Rz_0 1 _ rfl
  have cz_0_2 := cells4 Rz_0 2 _ rfl
  have cz_0_3 := cells4 Rz_0 3 _ rfl
  have cz_0_4 := cells4 Rz_0 4 _ rfl
  have cz_0_5 := cells4 Rz_0 5 _ rfl
  have cz_0_6 := cells4 Rz_0 6 _ rfl
  go_wp2_with fail
  obtain ⟨w1, hw1⟩ : ∃ V, ((w.alloc (Obj.cells #[.int .u8 (a : Nat), .int .u8 (b : Nat), .int .u8 (c : Nat), .int .u8 (d : Nat), .int .u32 (e : Nat), .int .u32 (f : Nat), .int .u8 (g : Nat)] 45)).alloc (Obj.cells #[.int .u8 0, .int .u8 0, .int .u8 0, .int .u8 0, .int .u32 0, .int .u32 0, .int .u8 0] 45)) = V := ⟨_, rfl⟩
  have Rr_1 := Rr_0
  have Rz_1 := Rz_0
  have B1 := B0
  rw [hw1] at B1 Rr_1 Rz_1 ⊢
  clear hw1 B0 Rr_0 cr_0_0 cr_0_1 cr_0_2 cr_0_3 cr_0_4 cr_0_5 cr_0_6 Rz_0 cz_0_0 cz_0_1 cz_0_2 cz_0_3 cz_0_4 cz_0_5 cz_0_6
  have cr_1_0 := cells4 Rr_1 0 _ rfl
  have cr_1_1 := cells4 Rr_1 1 _ rfl
  have cr_1_2 := cells4 Rr_1 2 _ rfl
  have cr_1_3 := cells4 Rr_1 3 _ rfl
  have cr_1_4 := cells4 Rr_1 4 _ rfl
  have cr_1_5 := cells4 Rr_1 5 _ rfl
  have cr_1_6 := cells4 Rr_1 6 _ rfl
  have cz_1_0 := cells4 Rz_1 0 _ rfl
  have cz_1_1 := cells4 Rz_1 1 _ rfl
  have cz_1_2 := cells4 Rz_1 2 _ rfl
  have cz_1_3 := cells4 Rz_1 3 _ rfl
  have cz_1_4 := cells4 Rz_1 4 _ rfl
  have cz_1_5 := cells4 Rz_1 5 _ rfl
  have cz_1_6 := cells4 Rz_1 6 _ rfl
  have sT : Box (∀ (W : World) (xA : Value), (Below w.heap.size w W ∧ W.heap[w.heap.size + 1]? = some (Obj.cells #[.int .u8 0, .int .u8 0, .int .u8 0, .int .u8 0, .int .u32 0, .int .u32 0, .int .u8 0] 45)) → (Below w.heap.size w (W.setCell ⟨w.heap.size, 4, none⟩ xA) ∧ (W.setCell ⟨w.heap.size, 4, none⟩ xA).heap[w.heap.size + 1]? = some (Obj.cells #[.int .u8 0, .int .u8 0, .int .u8 0, .int .u8 0, .int .u32 0, .int .u32 0, .int .u8 0] 45))) := box (fun W xA h => ⟨Below.setCell h.1 (show w.heap.size ≤ w.heap.size by first | exact Nat.le_refl _ | omega | (skip; omega)) xA, (setCell_other (by first | omega | (skip; omega))).trans h.2⟩)
  have s0 : Below w.heap.size w w1 ∧ w1.heap[w.heap.size + 1]? = some (Obj.cells #[.int .u8 0, .int .u8 0, .int .u8 0, .int .u8 0, .int .u32 0, .int .u32 0, .int .u8 0] 45) := ⟨B1, Rz_1⟩
  have rz : w1.heap[w.heap.size]? = some (Obj.cells #[.int .u8 (a : Nat), .int .u8 (b : Nat), .int .u8 (c : Nat), .int .u8 (d : Nat), .int .u32 (e : Nat), .int .u32 (f : Nat), .int .u8 (g : Nat)] 45) := Rr_1
  have hqz := fz (k := 4) rz
  have hz0 := cell7 rz 0 _ rfl
  have hz1 := cell7 rz 1 _ rfl
  have hz2 := cell7 rz 2 _ rfl
  have hz3 := cell7 rz 3 _ rfl
  have hz4 := cell7 rz 4 _ rfl
  have hz5 := cell7 rz 5 _ rfl
  have hz6 := cell7 rz 6 _ rfl
  go_wp2_with fail
  go_region
  have s2 : Below w.heap.size w (w1.setCell ⟨w.heap.size, 4, none⟩ (.int .u32 (e2 : Nat))) ∧ (w1.setCell ⟨w.heap.size, 4, none⟩ (.int .u32 (e2 : Nat))).heap[w.heap.size + 1]? = some (Obj.cells #[.int .u8 0, .int .u8 0, .int .u8 0, .int .u8 0, .int .u32 0, .int .u32 0, .int .u8 0] 45) := sT.out _ _ s0
  have Rr_2 : ((w1.setCell ⟨w.heap.size, 4, none⟩ (.int .u32 (e2 : Nat))).drew).heap[w.heap.size]? = some (Obj.cells #[.int .u8 (a : Nat), .int .u8 (b : Nat), .int .u8 (c : Nat), .int .u8 (d : Nat), .int .u32 (e2 : Nat), .int .u32 (f : Nat), .int .u8 (g : Nat)] 45) := (by rw [setCell_row rz]; rfl : (w1.setCell ⟨w.heap.size, 4, none⟩ (.int .u32 (e2 : Nat))).heap[w.heap.size]? = some (Obj.cells #[.int .u8 (a : Nat), .int .u8 (b : Nat), .int .u8 (c : Nat), .int .u8 (d : Nat), .int .u32 (e2 : Nat), .int .u32 (f : Nat), .int .u8 (g : Nat)] 45))
  have B2 : Below w.heap.size w ((w1.setCell ⟨w.heap.size, 4, none⟩ (.int .u32 (e2 : Nat))).drew) := (And.left s2).drew
  have Rz_2 : ((w1.setCell ⟨w.heap.size, 4, none⟩ (.int .u32 (e2 : Nat))).drew).heap[w.heap.size + 1]? = some (Obj.cells #[.int .u8 0, .int .u8 0, .int .u8 0, .int .u8 0, .int .u32 0, .int .u32 0, .int .u8 0] 45) := s2.2
  obtain ⟨w2, hw2⟩ : ∃ V, ((w1.setCell ⟨w.heap.size, 4, none⟩ (.int .u32 (e2 : Nat))).drew) = V := ⟨_, rfl⟩
  rw [hw2] at B2 Rr_2 Rz_2 ⊢
  clear hw2 sT s0 s2 rz hqz hz0 hz1 hz2 hz3 hz4 hz5 hz6 B1 Rr_1 cr_1_0 cr_1_1 cr_1_2 cr_1_3 cr_1_4 cr_1_5 cr_1_6 Rz_1 cz_1_0 cz_1_1 cz_1_2 cz_1_3 cz_1_4 cz_1_5 cz_1_6
  have cr_2_0 := cells4 Rr_2 0 _ rfl
  have cr_2_1 := cells4 Rr_2 1 _ rfl
  have cr_2_2 := cells4 Rr_2 2 _ rfl
  have cr_2_3 := cells4 Rr_2 3 _ rfl
  have cr_2_4 := cells4 Rr_2 4 _ rfl
  have cr_2_5 := cells4 Rr_2 5 _ rfl
  have cr_2_6 := cells4 Rr_2 6 _ rfl
  have cz_2_0 := cells4 Rz_2 0 _ rfl
  have cz_2_1 := cells4 Rz_2 1 _ rfl
  have cz_2_2 := cells4 Rz_2 2 _ rfl
  have cz_2_3 := cells4 Rz_2 3 _ rfl
  have cz_2_4 := cells4 Rz_2 4 _ rfl
  have cz_2_5 := cells4 Rz_2 5 _ rfl
  have cz_2_6 := cells4 Rz_2 6 _ rfl
  have sT : Box (∀ (W : World) (xA : Value), (Below w.heap.size w W ∧ W.heap[w.heap.size + 1]? = some (Obj.cells #[.int .u8 0, .int .u8 0, .int .u8 0, .int .u8 0, .int .u32 0, .int .u32 0, .int .u8 0] 45)) → (Below w.heap.size w (W.setCell ⟨w.heap.size, 5, none⟩ xA) ∧ (W.setCell ⟨w.heap.size, 5, none⟩ xA).heap[w.heap.size + 1]? = some (Obj.cells #[.int .u8 0, .int .u8 0, .int .u8 0, .int .u8 0, .int .u32 0, .int .u32 0, .int .u8 0] 45))) := box (fun W xA h => ⟨Below.setCell h.1 (show w.heap.size ≤ w.heap.size by first | exact Nat.le_refl _ | omega | (skip; omega)) xA, (setCell_other (by first | omega | (skip; omega))).trans h.2⟩)
  have s0 : Below w.heap.size w w2 ∧ w2.heap[w.heap.size + 1]? = some (Obj.cells #[.int .u8 0, .int .u8 0, .int .u8 0, .int .u8 0, .int .u32 0, .int .u32 0, .int .u8 0] 45) := ⟨B2, Rz_2⟩
  have rz : w2.heap[w.heap.size]? = some (Obj.cells #[.int .u8 (a : Nat), .int .u8 (b : Nat), .int .u8 (c : Nat), .int .u8 (d : Nat), .int .u32 (e2 : Nat), .int .u32 (f : Nat), .int .u8 (g : Nat)] 45) := Rr_2
  have hqz := fz (k := 5) rz
  have hz0 := cell7 rz 0 _ rfl
  have hz1 := cell7 rz 1 _ rfl
  have hz2 := cell7 rz 2 _ rfl
  have hz3 := cell7 rz 3 _ rfl
  have hz4 := cell7 rz 4 _ rfl
  have hz5 := cell7 rz 5 _ rfl
  have hz6 := cell7 rz 6 _ rfl
  go_wp2_with fail
  go_region
  have s2 : Below w.heap.size w (w2.setCell ⟨w.heap.size, 5, none⟩ (.int .u32 (f2 : Nat))) ∧ (w2.setCell ⟨w.heap.size, 5, none⟩ (.int .u32 (f2 : Nat))).heap[w.heap.size + 1]? = some (Obj.cells #[.int .u8 0, .int .u8 0, .int .u8 0, .int .u8 0, .int .u32 0, .int .u32 0, .int .u8 0] 45) := sT.out _ _ s0
  have Rr_3 : ((w2.setCell ⟨w.heap.size, 5, none⟩ (.int .u32 (f2 : Nat))).drew).heap[w.heap.size]? = some (Obj.cells #[.int .u8 (a : Nat), .int .u8 (b : Nat), .int .u8 (c : Nat), .int .u8 (d : Nat), .int .u32 (e2 : Nat), .int .u32 (f2 : Nat), .int .u8 (g : Nat)] 45) := (by rw [setCell_row rz]; rfl : (w2.setCell ⟨w.heap.size, 5, none⟩ (.int .u32 (f2 : Nat))).heap[w.heap.size]? = some (Obj.cells #[.int .u8 (a : Nat), .int .u8 (b : Nat), .int .u8 (c : Nat), .int .u8 (d : Nat), .int .u32 (e2 : Nat), .int .u32 (f2 : Nat), .int .u8 (g : Nat)] 45))
  have B3 : Below w.heap.size w ((w2.setCell ⟨w.heap.size, 5, none⟩ (.int .u32 (f2 : Nat))).drew) := (And.left s2).drew
  have Rz_3 : ((w2.setCell ⟨w.heap.size, 5, none⟩ (.int .u32 (f2 : Nat))).drew).heap[w.heap.size + 1]? = some (Obj.cells #[.int .u8 0, .int .u8 0, .int .u8 0, .int .u8 0, .int .u32 0, .int .u32 0, .int .u8 0] 45) := s2.2
  obtain ⟨w3, hw3⟩ : ∃ V, ((w2.setCell ⟨w.heap.size, 5, none⟩ (.int .u32 (f2 : Nat))).drew) = V := ⟨_, rfl⟩
  rw [hw3] at B3 Rr_3 Rz_3 ⊢
  clear hw3 sT s0 s2 rz hqz hz0 hz1 hz2 hz3 hz4 hz5 hz6 B2 Rr_2 cr_2_0 cr_2_1 cr_2_2 cr_2_3 cr_2_4 cr_2_5 cr_2_6 Rz_2 cz_2_0 cz_2_1 cz_2_2 cz_2_3 cz_2_4 cz_2_5 cz_2_6
  have cr_3_0 := cells4 Rr_3 0 _ rfl
  have cr_3_1 := cells4 Rr_3 1 _ rfl
  have cr_3_2 := cells4 Rr_3 2 _ rfl
  have cr_3_3 := cells4 Rr_3 3 _ rfl
  have cr_3_4 := cells4 Rr_3 4 _ rfl
  have cr_3_5 := cells4 Rr_3 5 _ rfl
  have cr_3_6 := cells4 Rr_3 6 _ rfl
  have cz_3_0 := cells4 Rz_3 0 _ rfl
  have cz_3_1 := cells4 Rz_3 1 _ rfl
  have cz_3_2 := cells4 Rz_3 2 _ rfl
  have cz_3_3 := cells4 Rz_3 3 _ rfl
  have cz_3_4 := cells4 Rz_3 4 _ rfl
  have cz_3_5 := cells4 Rz_3 5 _ rfl
  have cz_3_6 := cells4 Rz_3 6 _ rfl
  have q0 := fz (k := 0) Rz_3
  have q1 := fz (k := 1) Rz_3
  have q2 := fz (k := 2) Rz_3
  have q3 := fz (k := 3) Rz_3
  have q4 := fz (k := 4) Rz_3
  have q5 := fz (k := 5) Rz_3
  have q6 := fz (k := 6) Rz_3
  have bz : Below w.heap.size w (((((((w3.setCell ⟨w.heap.size + 1, 0, none⟩ (.int .u8 (a : Nat))).setCell ⟨w.heap.size + 1, 1, none⟩ (.int .u8 (b : Nat))).setCell ⟨w.heap.size + 1, 2, none⟩ (.int .u8 (c : Nat))).setCell ⟨w.heap.size + 1, 3, none⟩ (.int .u8 (d : Nat))).setCell ⟨w.heap.size + 1, 4, none⟩ (.int .u32 (e2 : Nat))).setCell ⟨w.heap.size + 1, 5, none⟩ (.int .u32 (f2 : Nat))).setCell ⟨w.heap.size + 1, 6, none⟩ (.int .u8 (g : Nat))) := (((((((B3.setCell (by first | exact Nat.le_refl _ | (skip; show w.heap.size ≤ w.heap.size + 1; omega)) _).setCell (by first | exact Nat.le_refl _ | (skip; show w.heap.size ≤ w.heap.size + 1; omega)) _).setCell (by first | exact Nat.le_refl _ | (skip; show w.heap.size ≤ w.heap.size + 1; omega)) _).setCell (by first | exact Nat.le_refl _ | (skip; show w.heap.size ≤ w.heap.size + 1; omega)) _).setCell (by first | exact Nat.le_refl _ | (skip; show w.heap.size ≤ w.heap.size + 1; omega)) _).setCell (by first | exact Nat.le_refl _ | (skip; show w.heap.size ≤ w.heap.size + 1; omega)) _).setCell (by first | exact Nat.le_refl _ | (skip; show w.heap.size ≤ w.heap.size + 1; omega)) _)
  have rz : (((((((w3.setCell ⟨w.heap.size + 1, 0, none⟩ (.int .u8 (a : Nat))).setCell ⟨w.heap.size + 1, 1, none⟩ (.int .u8 (b : Nat))).setCell ⟨w.heap.size + 1, 2, none⟩ (.int .u8 (c : Nat))).setCell ⟨w.heap.size + 1, 3, none⟩ (.int .u8 (d : Nat))).setCell ⟨w.heap.size + 1, 4, none⟩ (.int .u32 (e2 : Nat))).setCell ⟨w.heap.size + 1, 5, none⟩ (.int .u32 (f2 : Nat))).setCell ⟨w.heap.size + 1, 6, none⟩ (.int .u8 (g : Nat))).heap[w.heap.size + 1]? = some (Obj.cells #[.int .u8 (a : Nat), .int .u8 (b : Nat), .int .u8 (c : Nat), .int .u8 (d : Nat), .int .u32 (e2 : Nat), .int .u32 (f2 : Nat), .int .u8 (g : Nat)] 45) := (setCell_row (setCell_row (setCell_row (setCell_row (setCell_row (setCell_row (setCell_row Rz_3)))))))
  have E0 := cell7 rz 0 _ rfl
  have E1 := cell7 rz 1 _ rfl
  have E2 := cell7 rz 2 _ rfl
  have E3 := cell7 rz 3 _ rfl
  have E4 := cell7 rz 4 _ rfl
  have E5 := cell7 rz 5 _ rfl
  have E6 := cell7 rz 6 _ rfl
  go_wp2
  exact bodyPost_ret (v := .agg #[.int .u8 (a : Nat), .int .u8 (b : Nat), .int .u8 (c : Nat), .int .u8 (d : Nat), .int .u32 (e2 : Nat), .int .u32 (f2 : Nat), .int .u8 (g : Nat)]) (by simp [results, Tryd.results44, go_sem, E0, E1, E2, E3, E4, E5, E6]) rfl ⟨rfl, bz⟩
set_option maxRecDepth 100000 in
set_option maxHeartbeats 4000000 in
theorem b24_letter (f : Nat) (hf : f < 4) (w : World) : Calls Tryd.prog 46 #[.int .u8 (f : Nat)] w fun r w' => r = .returned (.string ⟨(letL f).toArray⟩) ∧ Below w.heap.size w w' := by
  rcases (show f = 0 ∨ f = 1 ∨ f = 2 ∨ f = 3 by omega) with rfl | rfl | rfl | rfl
  · have B0 : Below w.heap.size w w := (Below.refl _ _)
    go_enter Tryd.func46, Tryd.ntmps46
    go_wp2
    go_ret
    exact ⟨rfl, bal7 _ _⟩
  · have B0 : Below w.heap.size w w := (Below.refl _ _)
    go_enter Tryd.func46, Tryd.ntmps46
    go_wp2
    go_ret
    exact ⟨rfl, bal7 _ _⟩
  · have B0 : Below w.heap.size w w := (Below.refl _ _)
    go_enter Tryd.func46, Tryd.ntmps46
    go_wp2
    go_ret
    exact ⟨rfl, bal7 _ _⟩
  · have B0 : Below w.heap.size w w := (Below.refl _ _)
    go_enter Tryd.func46, Tryd.ntmps46
    go_wp2
    go_ret
    exact ⟨rfl, bal7 _ _⟩
set_option maxRecDepth 100000 in
set_option maxHeartbeats 4000000 in
theorem b24_size (f : Nat) (hf : f < 4) (w : World) : Calls Tryd.prog 45 #[.int .u8 (f : Nat)] w fun r w' => r = .returned (.string ⟨(szL f).toArray⟩) ∧ Below w.heap.size w w' := by
  rcases (show f = 0 ∨ f = 1 ∨ f = 2 ∨ f = 3 by omega) with rfl | rfl | rfl | rfl
  · have B0 : Below w.heap.size w w := (Below.refl _ _)
    go_enter Tryd.func45, Tryd.ntmps45
    go_wp2
    go_ret
    exact ⟨rfl, bal7 _ _⟩
  · have B0 : Below w.heap.size w w := (Below.refl _ _)
    go_enter Tryd.func45, Tryd.ntmps45
    go_wp2
    go_ret
    exact ⟨rfl, bal7 _ _⟩
  · have B0 : Below w.heap.size w w := (Below.refl _ _)
    go_enter Tryd.func45, Tryd.ntmps45
    go_wp2
    go_ret
    exact ⟨rfl, bal7 _ _⟩
  · have B0 : Below w.heap.size w w := (Below.refl _ _)
    go_enter Tryd.func45, Tryd.ntmps45
    go_wp2
    go_ret
    exact ⟨rfl, bal7 _ _⟩
set_option maxRecDepth 100000 in
set_option maxHeartbeats 4000000 in
theorem b24_kind (f : Nat) (hf : f < 4) (w : World) : Calls Tryd.prog 47 #[.int .u8 (f : Nat)] w fun r w' => r = .returned (.string ⟨(knL f).toArray⟩) ∧ Below w.heap.size w w' := by
  rcases (show f = 0 ∨ f = 1 ∨ f = 2 ∨ f = 3 by omega) with rfl | rfl | rfl | rfl
  · have B0 : Below w.heap.size w w := (Below.refl _ _)
    go_enter Tryd.func47, Tryd.ntmps47
    go_wp2
    go_ret
    exact ⟨rfl, bal7 _ _⟩
  · have B0 : Below w.heap.size w w := (Below.refl _ _)
    go_enter Tryd.func47, Tryd.ntmps47
    go_wp2
    go_ret
    exact ⟨rfl, bal7 _ _⟩
  · have B0 : Below w.heap.size w w := (Below.refl _ _)
    go_enter Tryd.func47, Tryd.ntmps47
    go_wp2
    go_ret
    exact ⟨rfl, bal7 _ _⟩
  · have B0 : Below w.heap.size w w := (Below.refl _ _)
    go_enter Tryd.func47, Tryd.ntmps47
    go_wp2
    go_ret
    exact ⟨rfl, bal7 _ _⟩
end Go.Proofs.YtaoccmopfflkmaaDoor
namespace Go.Proofs.YtaoccmopfflkmaaDoor
set_option maxRecDepth 100000
set_option maxHeartbeats 40000000
set_option maxRecDepth 100000
open Go.RowKit WMath
set_option linter.unusedSimpArgs false
set_option linter.unusedVariables false
def lnC (l : Ln) : Array Value := #[.int .u8 (l.op : Nat), .string ⟨l.nm.toArray⟩, .int .i64 (l.opc : Nat), .int .i64 l.rs3, .int .i64 l.rm, .int .i64 l.rs2, .int .u8 (l.lay : Nat), .bool l.noq, .bool l.frm, .bool l.knd, .bool l.nof, .bool l.szs]
def rwC (r : Rw) : Array Value := #[.int .u8 (r.op : Nat), .int .u8 (r.form : Nat), .int .u8 (r.frm : Nat), .int .u8 (r.kind : Nat), .int .u32 (r.mask : Nat), .int .u32 (r.mtch : Nat), .int .u8 (r.lay : Nat)]
theorem lnC_cells {w : World} {b : Nat} {l : Ln} {T : TypeId} (h : w.heap[b]? = some (.cells (lnC l) T)) : w.cell? ⟨b, 0, none⟩ = some (.int .u8 (l.op : Nat)) ∧ w.cell? ⟨b, 1, none⟩ = some (.string ⟨l.nm.toArray⟩) ∧ w.cell? ⟨b, 2, none⟩ = some (.int .i64 (l.opc : Nat)) ∧ w.cell? ⟨b, 3, none⟩ = some (.int .i64 l.rs3) ∧ w.cell? ⟨b, 4, none⟩ = some (.int .i64 l.rm) ∧ w.cell? ⟨b, 5, none⟩ = some (.int .i64 l.rs2) ∧ w.cell? ⟨b, 6, none⟩ = some (.int .u8 (l.lay : Nat)) ∧ w.cell? ⟨b, 7, none⟩ = some (.bool l.noq) ∧ w.cell? ⟨b, 8, none⟩ = some (.bool l.frm) ∧ w.cell? ⟨b, 9, none⟩ = some (.bool l.knd) ∧ w.cell? ⟨b, 10, none⟩ = some (.bool l.nof) ∧ w.cell? ⟨b, 11, none⟩ = some (.bool l.szs) :=
  ⟨cell7 h 0 _ rfl, cell7 h 1 _ rfl, cell7 h 2 _ rfl, cell7 h 3 _ rfl, cell7 h 4 _ rfl, cell7 h 5 _ rfl, cell7 h 6 _ rfl, cell7 h 7 _ rfl, cell7 h 8 _ rfl, cell7 h 9 _ rfl, cell7 h 10 _ rfl, cell7 h 11 _ rfl⟩
theorem rwC_cells {w : World} {b : Nat} {r : Rw} {T : TypeId} (h : w.heap[b]? = some (.cells (rwC r) T)) : w.cell? ⟨b, 0, none⟩ = some (.int .u8 (r.op : Nat)) ∧ w.cell? ⟨b, 1, none⟩ = some (.int .u8 (r.form : Nat)) ∧ w.cell? ⟨b, 2, none⟩ = some (.int .u8 (r.frm : Nat)) ∧ w.cell? ⟨b, 3, none⟩ = some (.int .u8 (r.kind : Nat)) ∧ w.cell? ⟨b, 4, none⟩ = some (.int .u32 (r.mask : Nat)) ∧ w.cell? ⟨b, 5, none⟩ = some (.int .u32 (r.mtch : Nat)) ∧ w.cell? ⟨b, 6, none⟩ = some (.int .u8 (r.lay : Nat)) :=
  ⟨cell7 h 0 _ rfl, cell7 h 1 _ rfl, cell7 h 2 _ rfl, cell7 h 3 _ rfl, cell7 h 4 _ rfl, cell7 h 5 _ rfl, cell7 h 6 _ rfl⟩
theorem rwC_fold (r : Rw) : #[Value.int .u8 (r.op : Nat), .int .u8 (r.form : Nat), .int .u8 (r.frm : Nat), .int .u8 (r.kind : Nat), .int .u32 (r.mask : Nat), .int .u32 (r.mtch : Nat), .int .u8 (r.lay : Nat)] = rwC r := rfl
theorem rwC_store {w : World} {b : Nat} {r q : Rw} {T : TypeId} (h : w.heap[b]? = some (.cells (rwC q) T)) : (storeCells ⟨b, 0, none⟩ (rwC r).toList 0).run Tryd.prog w = .ok () (w.setRow b (rwC r)) := by
  have := run_storeCells_from (P := Tryd.prog) b T (rwC r).toList 0 (rwC q) w h (by simp [rwC]) (fun v hv => by
    simp [rwC] at hv
    rcases hv with rfl | rfl | rfl | rfl | rfl | rfl | rfl <;> rfl)
  simpa [rwC] using this
def ndC (r : Rw) (s : ByteArray) : Array Value := #[.int .u8 (r.op : Nat), .int .u8 (r.form : Nat), .int .u8 (r.frm : Nat), .int .u8 (r.kind : Nat), .int .u32 (r.mask : Nat), .int .u32 (r.mtch : Nat), .int .u8 (r.lay : Nat), .string s]
theorem ndC_fold (r : Rw) (s : ByteArray) : #[Value.int .u8 (r.op : Nat), .int .u8 (r.form : Nat), .int .u8 (r.frm : Nat), .int .u8 (r.kind : Nat), .int .u32 (r.mask : Nat), .int .u32 (r.mtch : Nat), .int .u8 (r.lay : Nat), .string s] = ndC r s := rfl
theorem ndC_store {w : World} {b : Nat} {r : Rw} {s : ByteArray} {c : Array Value} {T : TypeId} (h : w.heap[b]? = some (.cells c T)) (hc : c.size = 8) : (storeCells ⟨b, 0, none⟩ (ndC r s).toList 0).run Tryd.prog w = .ok () (w.setRow b (ndC r s)) := by
  have := run_storeCells_from (P := Tryd.prog) b T (ndC r s).toList 0 c w h (by simp [ndC, hc]) (fun v hv => by
    simp [ndC] at hv
    rcases hv with rfl | rfl | rfl | rfl | rfl | rfl | rfl | rfl <;> rfl)
  have e : List.drop 8 c.toList = [] := List.drop_eq_nil_of_le (by rw [Array.length_toList, hc]; exact Nat.le_refl _)
  simpa [ndC, e] using this
theorem nd_lv {w : World} {b : Nat} {r : Rw} {s : ByteArray} {T : TypeId} (h : w.heap[b]? = some (.cells (ndC r s) T)) : (loadVar 47 ⟨b, 0, none⟩).run Tryd.prog w = .ok (.agg (ndC r s)) w := by
  have ha : (isAgg 47).run Tryd.prog w = .ok true w := by kernel_rfl
  have hs : (sizeOf 47).run Tryd.prog w = .ok 8 w := by kernel_rfl
  have q := run_loadCells_list (P := Tryd.prog) w ⟨b, 0, none⟩ (ndC r s).toList (fun j v hv => by
    have hadd : (⟨b, 0, none⟩ : Addr).add j = ⟨b, j, none⟩ := by unfold Addr.add; split <;> simp_all
    rw [hadd]
    exact cell7 h j v (by simpa using hv))
  rw [Array.length_toList, show (ndC r s).size = 8 from rfl] at q
  simp only [Sem.run_bind, Sem.run_pure, Result.andThen, loadVar, ha, hs, if_true, q]
theorem res_nd {fn : Func} {z : Tmp} (h : fn.results = #[.cell z 47]) {tmps : Array Value} {w : World} {b : Nat} {r : Rw} {s : ByteArray} {T : TypeId} (hz : tmps.getD z undef = .pointer (some ⟨b, 0, none⟩)) (hr : w.heap[b]? = some (.cells (ndC r s) T)) : (results fn tmps).run Tryd.prog w = .ok (.agg (ndC r s)) w := by
  have q := nd_lv hr
  have hz2 : tmps[z]?.getD undef = .pointer (some ⟨b, 0, none⟩) := by rw [← Array.getD_eq_getD_getElem?]; exact hz
  simp [results, h, hz2, asAddr, q, Result.andThen]
theorem rwC_new (w : World) (b : Nat) (r : Rw) (hb : b = w.heap.size) : (storeCells ⟨b, 0, none⟩ (rwC r).toList 0).run Tryd.prog (w.alloc (.cells #[.int .u8 0, .int .u8 0, .int .u8 0, .int .u8 0, .int .u32 0, .int .u32 0, .int .u8 0] 45)) = .ok () (w.alloc (.cells (rwC r) 45)) := by
  subst hb
  exact run_storeCells_new (P := Tryd.prog) w 45 #[.int .u8 0, .int .u8 0, .int .u8 0, .int .u8 0, .int .u32 0, .int .u32 0, .int .u8 0] (rwC r) (by kernel_rfl) rfl (by simp [rwC]; exact ⟨rfl, rfl, rfl, rfl, rfl, rfl, rfl⟩)
end Go.Proofs.YtaoccmopfflkmaaDoor
