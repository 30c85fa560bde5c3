/-
  What the functions that the statement reaches return: part 6 (C8).
-/
import Derived.Deep.RegionHeld3
import Derived.Deep.MidRow
import Derived.Test.YtjbnifhpbdjonaaDoorRp05
namespace Go.Proofs.YtjbnifhpbdjonaaDoor
set_option maxRecDepth 100000
set_option maxHeartbeats 40000000
set_option maxRecDepth 100000
open Go.RowKit WMath
set_option linter.unusedSimpArgs false
set_option linter.unusedVariables false
theorem ebb_own (a b : Int) : ebb a b a b = true := by unfold ebb; simp
theorem rf_range {w : World} {b : Nat} {R : Nat → Nat} {T : TypeId} (h : w.heap[b]? = some (.cells (rf R) T)) : w.rangeAt b 0 (rf R).toList := fun j v hv => cell7 h (0 + j) v (by rw [Nat.zero_add]; simpa using hv)
theorem rf_stn (w : World) (x y : Nat → Nat) : (storeCells ⟨w.heap.size, 0, none⟩ (rf x).toList 0).run Tryd.prog (w.alloc (.cells (rf y) 28)) = .ok () (w.alloc (.cells (rf x) 28)) :=
  run_storeCells_new (P := Tryd.prog) w 28 (rf y) (rf x) (by rw [rf_size]; kernel_rfl) (by rw [rf_size, rf_size]) (rf_one x)
theorem Only.setRow {g z : Nat} {a w : World} {c : Array Value} (h : Only g a w) (hz : a.heap.size ≤ z) : Only g a (w.setRow z c) := by
  refine ⟨h.1, h.2.1, h.2.2.1, ?_, fun k hk hkg => ?_⟩
  · exact Nat.le_trans h.size (Below.setRow (Below.refl 0 w) (Nat.zero_le _)).size
  · rw [setRow_other (by omega)]
    exact h.2.2.2.2 k hk hkg
theorem only_below {g : Nat} {a b c : World} (h : Below a.heap.size a b) (k : Only g b c) : Only g a c := (Only.ofBelow h (Nat.le_refl _)).trans ⟨k.1, k.2.1, k.2.2.1, k.2.2.2.1, k.2.2.2.2⟩
set_option maxRecDepth 100000 in
set_option maxHeartbeats 8000000 in
theorem bt_0 {T : World → Prop} (FB : Box (∀ {w w' : World}, T w → Below w.heap.size w w' → T w')) (rg : (Nat → Nat) → Array Value) (tg : TypeId) (R R' : Nat → Nat) (b : Nat) (on n fm e : Int) (X u v : Nat) (ao : Option Addr) (L cv : Nat) (he : IntKind.i64.wrap e = e)
    (KD : Box (∀ w, Calls Tryd.prog 30 #[.agg (rf R), .int .i64 n, .int .u64 (X : Nat)] w fun r w' => r = .returned (.tuple #[.agg (rf R'), .int .i64 e]) ∧ Below w.heap.size w w'))
    (KP : Box (∀ w, T w → w.heap[b]? = some (.cells (rg R) tg) → Calls Tryd.prog 25 #[.pointer (some ⟨b, 0, none⟩), .int .i64 n, .int .u64 (X : Nat)] w fun r w' => r = .returned (.int .i64 e) ∧ w'.heap[b]? = some (.cells (rg R') tg) ∧ Only b w w'))
    (w : World) (hT : T w) (hb : w.heap[b]? = some (.cells (rg R) tg)) :
    Calls Tryd.prog 11 #[.pointer (some ⟨b, 0, none⟩), .agg (rf R), .agg #[.int .i64 0, .int .i64 on, .int .i64 n, .int .u64 (X : Nat), .int .u64 (u : Nat), .int .u64 (v : Nat), .int .u8 fm, .slice ao L cv]] w fun r w' => r = .returned (.tuple #[.agg (rf R'), .bool true]) ∧ w'.heap[b]? = some (.cells (rg R') tg) ∧ Only b w w' := by
  have FF := box hT
  have hlt : Box (b < w.heap.size) := box (Array.getElem?_eq_some_iff.1 hb).1
  have HB := box hb
  clear hT hb
  have hrz := rf_zero
  have hrs : ∀ R, ((rf R).size = 96) = True := fun R => eq_true (rf_size R)
  have hra := rf_at
  have hsn := rf_stn
  obtain ⟨Rx_0, Rs_0, Rz_0, B0⟩ := opn3 w (Obj.cells (rf R) 28) (Obj.cells #[.int .i64 0, .int .i64 on, .int .i64 n, .int .u64 (X : Nat), .int .u64 (u : Nat), .int .u64 (v : Nat), .int .u8 fm, .slice ao L cv] 39) (Obj.cells (rf fun _ => 0) 28)
  go_enter Tryd.func11, Tryd.ntmps11
  have cs_0_0 := cells4 Rs_0 0 _ rfl
  have cs_0_1 := cells4 Rs_0 1 _ rfl
  have cs_0_2 := cells4 Rs_0 2 _ rfl
  have cs_0_3 := cells4 Rs_0 3 _ rfl
  have cs_0_4 := cells4 Rs_0 4 _ rfl
  have cs_0_5 := cells4 Rs_0 5 _ rfl
  have cs_0_6 := cells4 Rs_0 6 _ rfl
  have cs_0_7 := cells4 Rs_0 7 _ rfl
  go_wp2_with (first | ((with_reducible (refine wpl_rf rfl _ rfl ?_ Rx_0 ?_)); rfl) | ((with_reducible (refine wp_rf _ rfl ?_ Rx_0 ?_)); rfl) | ((with_reducible (refine wpl_rf rfl _ rfl ?_ Rz_0 ?_)); rfl) | ((with_reducible (refine wp_rf _ rfl ?_ Rz_0 ?_)); rfl) | fail)
  refine (KD.out _).mono ?_
  rintro r w1 ⟨rfl, b1⟩
  have B1 : Below w.heap.size w w1 := btr B0 b1
  have Rx_1 := heap_of b1 _ _ _ Rx_0
  have Rs_1 := heap_of b1 _ _ _ Rs_0
  have Rz_1 := heap_of b1 _ _ _ Rz_0
  clear b1 B0 Rx_0 Rs_0 cs_0_0 cs_0_1 cs_0_2 cs_0_3 cs_0_4 cs_0_5 cs_0_6 cs_0_7 Rz_0
  have cs_1_0 := cells4 Rs_1 0 _ rfl
  have cs_1_1 := cells4 Rs_1 1 _ rfl
  have cs_1_2 := cells4 Rs_1 2 _ rfl
  have cs_1_3 := cells4 Rs_1 3 _ rfl
  have cs_1_4 := cells4 Rs_1 4 _ rfl
  have cs_1_5 := cells4 Rs_1 5 _ rfl
  have cs_1_6 := cells4 Rs_1 6 _ rfl
  have cs_1_7 := cells4 Rs_1 7 _ rfl
  have S2 := box B1.size
  have Lx_2 : Box (w.heap.size < w1.heap.size) := box (Array.getElem?_eq_some_iff.1 Rx_1).1
  have Ls_2 : Box (w.heap.size + 1 < w1.heap.size) := box (Array.getElem?_eq_some_iff.1 Rs_1).1
  have Lz_2 : Box (w.heap.size + 1 + 1 < w1.heap.size) := box (Array.getElem?_eq_some_iff.1 Rz_1).1
  have Ry_2 := heap_alloc_last w1 (Obj.cells (rf R') 28)
  have B2 := btr B1 (bal w1 (Obj.cells (rf R') 28))
  have Rx_2 := heap_of (bal w1 (Obj.cells (rf R') 28)) _ _ _ Rx_1
  have Rs_2 := heap_of (bal w1 (Obj.cells (rf R') 28)) _ _ _ Rs_1
  have Rz_2 := heap_of (bal w1 (Obj.cells (rf R') 28)) _ _ _ Rz_1
  clear B1 Rx_1 Rs_1 cs_1_0 cs_1_1 cs_1_2 cs_1_3 cs_1_4 cs_1_5 cs_1_6 cs_1_7 Rz_1
  have cs_2_0 := cells4 Rs_2 0 _ rfl
  have cs_2_1 := cells4 Rs_2 1 _ rfl
  have cs_2_2 := cells4 Rs_2 2 _ rfl
  have cs_2_3 := cells4 Rs_2 3 _ rfl
  have cs_2_4 := cells4 Rs_2 4 _ rfl
  have cs_2_5 := cells4 Rs_2 5 _ rfl
  have cs_2_6 := cells4 Rs_2 6 _ rfl
  have cs_2_7 := cells4 Rs_2 7 _ rfl
  have cy_2_0 := rf_cell Ry_2
  have cy_2_1 := rf_load Ry_2
  clear cy_2_0 cy_2_1
  have e1 : Box (b ≠ w.heap.size + 1 ∧ b ≠ w.heap.size + 1 + 1 ∧ b ≠ w1.heap.size ∧ w.heap.size + 1 + 1 < w1.heap.size) := box ⟨by have := hlt.out; omega, by have := hlt.out; omega, by have := hlt.out; have := S2.out; omega, Lz_2.out⟩
  have sS : Box (∀ W W1 : World, (W.heap[w.heap.size + 1]? = some (.cells #[.int .i64 0, .int .i64 on, .int .i64 n, .int .u64 (X : Nat), .int .u64 (u : Nat), .int .u64 (v : Nat), .int .u8 fm, .slice ao L cv] 39) ∧ W.heap[w1.heap.size]? = some (.cells (rf R') 28) ∧ W.cell? ⟨w.heap.size + 1, 0, none⟩ = some (.int .i64 0) ∧ W.cell? ⟨w.heap.size + 1, 1, none⟩ = some (.int .i64 on) ∧ W.cell? ⟨w.heap.size + 1, 2, none⟩ = some (.int .i64 n) ∧ W.cell? ⟨w.heap.size + 1, 3, none⟩ = some (.int .u64 (X : Nat)) ∧ W.cell? ⟨w.heap.size + 1, 4, none⟩ = some (.int .u64 (u : Nat)) ∧ W.cell? ⟨w.heap.size + 1, 5, none⟩ = some (.int .u64 (v : Nat)) ∧ W.cell? ⟨w.heap.size + 1, 6, none⟩ = some (.int .u8 fm) ∧ W.cell? ⟨w.heap.size + 1, 7, none⟩ = some (.slice ao L cv) ∧ (Instr.loadAt 28 (.pointer (some ⟨w1.heap.size, 0, none⟩))).run Tryd.prog W = .ok (.agg (rf R')) W) → Only b W W1 → (W1.heap[w.heap.size + 1]? = some (.cells #[.int .i64 0, .int .i64 on, .int .i64 n, .int .u64 (X : Nat), .int .u64 (u : Nat), .int .u64 (v : Nat), .int .u8 fm, .slice ao L cv] 39) ∧ W1.heap[w1.heap.size]? = some (.cells (rf R') 28) ∧ W1.cell? ⟨w.heap.size + 1, 0, none⟩ = some (.int .i64 0) ∧ W1.cell? ⟨w.heap.size + 1, 1, none⟩ = some (.int .i64 on) ∧ W1.cell? ⟨w.heap.size + 1, 2, none⟩ = some (.int .i64 n) ∧ W1.cell? ⟨w.heap.size + 1, 3, none⟩ = some (.int .u64 (X : Nat)) ∧ W1.cell? ⟨w.heap.size + 1, 4, none⟩ = some (.int .u64 (u : Nat)) ∧ W1.cell? ⟨w.heap.size + 1, 5, none⟩ = some (.int .u64 (v : Nat)) ∧ W1.cell? ⟨w.heap.size + 1, 6, none⟩ = some (.int .u8 fm) ∧ W1.cell? ⟨w.heap.size + 1, 7, none⟩ = some (.slice ao L cv) ∧ (Instr.loadAt 28 (.pointer (some ⟨w1.heap.size, 0, none⟩))).run Tryd.prog W1 = .ok (.agg (rf R')) W1)) := box (fun W W1 h o => ⟨Only.row o (Ne.symm e1.out.1) h.1, Only.row o (Ne.symm e1.out.2.2.1) h.2.1, cell7 (Only.row o (Ne.symm e1.out.1) h.1) 0 _ rfl, cell7 (Only.row o (Ne.symm e1.out.1) h.1) 1 _ rfl, cell7 (Only.row o (Ne.symm e1.out.1) h.1) 2 _ rfl, cell7 (Only.row o (Ne.symm e1.out.1) h.1) 3 _ rfl, cell7 (Only.row o (Ne.symm e1.out.1) h.1) 4 _ rfl, cell7 (Only.row o (Ne.symm e1.out.1) h.1) 5 _ rfl, cell7 (Only.row o (Ne.symm e1.out.1) h.1) 6 _ rfl, cell7 (Only.row o (Ne.symm e1.out.1) h.1) 7 _ rfl, rf_la (Only.row o (Ne.symm e1.out.2.2.1) h.2.1)⟩)
  have sT : Box (∀ (W : World) (xA : Array Value), (W.heap[w.heap.size + 1]? = some (.cells #[.int .i64 0, .int .i64 on, .int .i64 n, .int .u64 (X : Nat), .int .u64 (u : Nat), .int .u64 (v : Nat), .int .u8 fm, .slice ao L cv] 39) ∧ W.heap[w1.heap.size]? = some (.cells (rf R') 28) ∧ W.cell? ⟨w.heap.size + 1, 0, none⟩ = some (.int .i64 0) ∧ W.cell? ⟨w.heap.size + 1, 1, none⟩ = some (.int .i64 on) ∧ W.cell? ⟨w.heap.size + 1, 2, none⟩ = some (.int .i64 n) ∧ W.cell? ⟨w.heap.size + 1, 3, none⟩ = some (.int .u64 (X : Nat)) ∧ W.cell? ⟨w.heap.size + 1, 4, none⟩ = some (.int .u64 (u : Nat)) ∧ W.cell? ⟨w.heap.size + 1, 5, none⟩ = some (.int .u64 (v : Nat)) ∧ W.cell? ⟨w.heap.size + 1, 6, none⟩ = some (.int .u8 fm) ∧ W.cell? ⟨w.heap.size + 1, 7, none⟩ = some (.slice ao L cv) ∧ (Instr.loadAt 28 (.pointer (some ⟨w1.heap.size, 0, none⟩))).run Tryd.prog W = .ok (.agg (rf R')) W) → ((W.setRow (w.heap.size + 1 + 1) xA).heap[w.heap.size + 1]? = some (.cells #[.int .i64 0, .int .i64 on, .int .i64 n, .int .u64 (X : Nat), .int .u64 (u : Nat), .int .u64 (v : Nat), .int .u8 fm, .slice ao L cv] 39) ∧ (W.setRow (w.heap.size + 1 + 1) xA).heap[w1.heap.size]? = some (.cells (rf R') 28) ∧ (W.setRow (w.heap.size + 1 + 1) xA).cell? ⟨w.heap.size + 1, 0, none⟩ = some (.int .i64 0) ∧ (W.setRow (w.heap.size + 1 + 1) xA).cell? ⟨w.heap.size + 1, 1, none⟩ = some (.int .i64 on) ∧ (W.setRow (w.heap.size + 1 + 1) xA).cell? ⟨w.heap.size + 1, 2, none⟩ = some (.int .i64 n) ∧ (W.setRow (w.heap.size + 1 + 1) xA).cell? ⟨w.heap.size + 1, 3, none⟩ = some (.int .u64 (X : Nat)) ∧ (W.setRow (w.heap.size + 1 + 1) xA).cell? ⟨w.heap.size + 1, 4, none⟩ = some (.int .u64 (u : Nat)) ∧ (W.setRow (w.heap.size + 1 + 1) xA).cell? ⟨w.heap.size + 1, 5, none⟩ = some (.int .u64 (v : Nat)) ∧ (W.setRow (w.heap.size + 1 + 1) xA).cell? ⟨w.heap.size + 1, 6, none⟩ = some (.int .u8 fm) ∧ (W.setRow (w.heap.size + 1 + 1) xA).cell? ⟨w.heap.size + 1, 7, none⟩ = some (.slice ao L cv) ∧ (Instr.loadAt 28 (.pointer (some ⟨w1.heap.size, 0, none⟩))).run Tryd.prog (W.setRow (w.heap.size + 1 + 1) xA) = .ok (.agg (rf R')) (W.setRow (w.heap.size + 1 + 1) xA))) := box (fun W xA h => ⟨(setRow_other (by omega)).trans h.1, (setRow_other (by have := e1.out; omega)).trans h.2.1, cell7 ((setRow_other (by omega)).trans h.1) 0 _ rfl, cell7 ((setRow_other (by omega)).trans h.1) 1 _ rfl, cell7 ((setRow_other (by omega)).trans h.1) 2 _ rfl, cell7 ((setRow_other (by omega)).trans h.1) 3 _ rfl, cell7 ((setRow_other (by omega)).trans h.1) 4 _ rfl, cell7 ((setRow_other (by omega)).trans h.1) 5 _ rfl, cell7 ((setRow_other (by omega)).trans h.1) 6 _ rfl, cell7 ((setRow_other (by omega)).trans h.1) 7 _ rfl, rf_la ((setRow_other (by have := e1.out; omega)).trans h.2.1)⟩)
  have s0 : (w1.alloc (Obj.cells (rf R') 28)).drew.heap[w.heap.size + 1]? = some (.cells #[.int .i64 0, .int .i64 on, .int .i64 n, .int .u64 (X : Nat), .int .u64 (u : Nat), .int .u64 (v : Nat), .int .u8 fm, .slice ao L cv] 39) ∧ (w1.alloc (Obj.cells (rf R') 28)).drew.heap[w1.heap.size]? = some (.cells (rf R') 28) ∧ (w1.alloc (Obj.cells (rf R') 28)).drew.cell? ⟨w.heap.size + 1, 0, none⟩ = some (.int .i64 0) ∧ (w1.alloc (Obj.cells (rf R') 28)).drew.cell? ⟨w.heap.size + 1, 1, none⟩ = some (.int .i64 on) ∧ (w1.alloc (Obj.cells (rf R') 28)).drew.cell? ⟨w.heap.size + 1, 2, none⟩ = some (.int .i64 n) ∧ (w1.alloc (Obj.cells (rf R') 28)).drew.cell? ⟨w.heap.size + 1, 3, none⟩ = some (.int .u64 (X : Nat)) ∧ (w1.alloc (Obj.cells (rf R') 28)).drew.cell? ⟨w.heap.size + 1, 4, none⟩ = some (.int .u64 (u : Nat)) ∧ (w1.alloc (Obj.cells (rf R') 28)).drew.cell? ⟨w.heap.size + 1, 5, none⟩ = some (.int .u64 (v : Nat)) ∧ (w1.alloc (Obj.cells (rf R') 28)).drew.cell? ⟨w.heap.size + 1, 6, none⟩ = some (.int .u8 fm) ∧ (w1.alloc (Obj.cells (rf R') 28)).drew.cell? ⟨w.heap.size + 1, 7, none⟩ = some (.slice ao L cv) ∧ (Instr.loadAt 28 (.pointer (some ⟨w1.heap.size, 0, none⟩))).run Tryd.prog (w1.alloc (Obj.cells (rf R') 28)).drew = .ok (.agg (rf R')) (w1.alloc (Obj.cells (rf R') 28)).drew := ⟨Rs_2, Ry_2, cell7 (Rs_2) 0 _ rfl, cell7 (Rs_2) 1 _ rfl, cell7 (Rs_2) 2 _ rfl, cell7 (Rs_2) 3 _ rfl, cell7 (Rs_2) 4 _ rfl, cell7 (Rs_2) 5 _ rfl, cell7 (Rs_2) 6 _ rfl, cell7 (Rs_2) 7 _ rfl, rf_la (Ry_2)⟩
  have rz : (w1.alloc (Obj.cells (rf R') 28)).drew.heap[w.heap.size + 1 + 1]? = some (.cells (rf fun _ => 0) 28) := Rz_2
  have hst := rf_store (R := R') rz
  have T2 := box (FB.out FF.out B2.drew)
  have H2 : Box ((w1.alloc (Obj.cells (rf R') 28)).drew.heap[b]? = some (.cells (rg R) tg)) := box (heap_of B2.drew _ _ _ HB.out)
  have BB := box B2.drew
  clear Rx_2 Rs_2 Ry_2 Rz_2 cs_2_0 cs_2_1 cs_2_2 cs_2_3 cs_2_4 cs_2_5 cs_2_6 cs_2_7
  have hu := Tryd.underlying28
  have hi : (Tryd.prog.info? 28).map (·.size) = some (rf R').toList.length := by rw [Array.length_toList, rf_size]; kernel_rfl
  go_wp2_with fail
  refine wp_region_held_drew (S := fun W => W.heap[w.heap.size + 1]? = some (.cells #[.int .i64 0, .int .i64 on, .int .i64 n, .int .u64 (X : Nat), .int .u64 (u : Nat), .int .u64 (v : Nat), .int .u8 fm, .slice ao L cv] 39) ∧ W.heap[w1.heap.size]? = some (.cells (rf R') 28) ∧ W.cell? ⟨w.heap.size + 1, 0, none⟩ = some (.int .i64 0) ∧ W.cell? ⟨w.heap.size + 1, 1, none⟩ = some (.int .i64 on) ∧ W.cell? ⟨w.heap.size + 1, 2, none⟩ = some (.int .i64 n) ∧ W.cell? ⟨w.heap.size + 1, 3, none⟩ = some (.int .u64 (X : Nat)) ∧ W.cell? ⟨w.heap.size + 1, 4, none⟩ = some (.int .u64 (u : Nat)) ∧ W.cell? ⟨w.heap.size + 1, 5, none⟩ = some (.int .u64 (v : Nat)) ∧ W.cell? ⟨w.heap.size + 1, 6, none⟩ = some (.int .u8 fm) ∧ W.cell? ⟨w.heap.size + 1, 7, none⟩ = some (.slice ao L cv) ∧ (Instr.loadAt 28 (.pointer (some ⟨w1.heap.size, 0, none⟩))).run Tryd.prog W = .ok (.agg (rf R')) W) (by kernel_rfl) s0 (fun hHeld => ?_)
  refine wpAnyH_take (i := 0) rfl (by kernel_rfl) (by kernel_rfl) (by kernel_rfl) (fun _ _ _ h => h) (yieldsIf_load_mid (by rfl) _ _ rfl _ _ rfl (rf R').toList _ (fun W h => rf_range h.2.1) hu rfl hi) (by assumption) ?_
  simp only [Array.toArray_toList]
  (try simp only [Act.put, List.getElem_toArray, List.getElem_cons_zero, List.getElem_cons_succ, List.setIfInBounds_toArray, List.set_cons_zero, List.set_cons_succ])
  refine wpAnyH_take (i := 1) (v := ?_) rfl (by kernel_rfl) (by kernel_rfl) (by kernel_rfl) (fun _ _ _ h => h) (Or.inl ⟨by rfl, ?_⟩) (by assumption) ?_
  rotate_left 1
  · intro W hSw
    try dsimp only at hSw
    go_simp
    try with_reducible rfl
  (try simp only [Act.put, List.getElem_toArray, List.getElem_cons_zero, List.getElem_cons_succ, List.setIfInBounds_toArray, List.set_cons_zero, List.set_cons_succ])
  refine wpAnyH_take (i := 2) (v := ?_) rfl (by kernel_rfl) (by kernel_rfl) (by kernel_rfl) (fun _ _ _ h => h) (Or.inl ⟨by rfl, ?_⟩) (by assumption) ?_
  rotate_left 1
  · intro W hSw
    try dsimp only at hSw
    go_simp
    try with_reducible rfl
  (try simp only [Act.put, List.getElem_toArray, List.getElem_cons_zero, List.getElem_cons_succ, List.setIfInBounds_toArray, List.set_cons_zero, List.set_cons_succ])
  refine wpAnyH_take (i := 3) (v := ?_) rfl (by kernel_rfl) (by kernel_rfl) (by kernel_rfl) (fun _ _ _ h => h) (Or.inl ⟨by rfl, ?_⟩) (by assumption) ?_
  rotate_left 1
  · intro W hSw
    try dsimp only at hSw
    go_simp
    try with_reducible rfl
  (try simp only [Act.put, List.getElem_toArray, List.getElem_cons_zero, List.getElem_cons_succ, List.setIfInBounds_toArray, List.set_cons_zero, List.set_cons_succ])
  refine wpAnyH_take (i := 4) (v := ?_) rfl (by kernel_rfl) (by kernel_rfl) (by kernel_rfl) (fun _ _ _ h => h) (Or.inl ⟨by rfl, ?_⟩) (by assumption) ?_
  rotate_left 1
  · intro W hSw
    try dsimp only at hSw
    go_simp
    try with_reducible rfl
  (try simp only [Act.put, List.getElem_toArray, List.getElem_cons_zero, List.getElem_cons_succ, List.setIfInBounds_toArray, List.set_cons_zero, List.set_cons_succ])
  refine wpAnyH_take (i := 5) (v := ?_) rfl (by kernel_rfl) (by kernel_rfl) (by kernel_rfl) (fun _ _ _ h => h) (Or.inl ⟨by rfl, ?_⟩) (by assumption) ?_
  rotate_left 1
  · intro W hSw
    try dsimp only at hSw
    go_simp
    try with_reducible rfl
  (try simp only [Act.put, List.getElem_toArray, List.getElem_cons_zero, List.getElem_cons_succ, List.setIfInBounds_toArray, List.set_cons_zero, List.set_cons_succ])
  refine wpAnyH_take (i := 7) (v := ?_) rfl (by kernel_rfl) (by kernel_rfl) (by kernel_rfl) (fun _ _ _ h => h) (Or.inl ⟨by rfl, ?_⟩) (by assumption) ?_
  rotate_left 1
  · intro W hSw
    try dsimp only at hSw
    go_simp
    try with_reducible rfl
  (try simp only [Act.put, List.getElem_toArray, List.getElem_cons_zero, List.getElem_cons_succ, List.setIfInBounds_toArray, List.set_cons_zero, List.set_cons_succ])
  refine wpAnyH_ready (rs := [6]) (by kernel_rfl) (by simp) ?_
  refine AllReadyH.cons rfl (fun K hK => ?_) AllReadyH.nil
  go_simp
  refine (KP.out _ T2.out H2.out).mono ?_
  rintro r wq ⟨rfl, rb, oq⟩
  have s1 := sS.out _ _ s0 oq
  have rz := Only.row oq (Ne.symm e1.out.2.1) rz
  have hst := rf_store (R := R') rz
  (try go_wp2_with fail)
  refine hK.out _ _ s1 (fun hHeld => ?_)
  clear hK K
  (try simp only [Act.put, List.getElem_toArray, List.getElem_cons_zero, List.getElem_cons_succ, List.setIfInBounds_toArray, List.set_cons_zero, List.set_cons_succ])
  refine wpAnyH_take (i := 8) (v := ?_) rfl (by kernel_rfl) (by kernel_rfl) (by kernel_rfl) (fun _ _ _ h => h) (Or.inl ⟨by rfl, ?_⟩) (by assumption) ?_
  rotate_left 1
  · intro W hSw
    try dsimp only at hSw
    go_simp
    try with_reducible rfl
  (try simp only [Act.put, List.getElem_toArray, List.getElem_cons_zero, List.getElem_cons_succ, List.setIfInBounds_toArray, List.set_cons_zero, List.set_cons_succ])
  refine wpAnyH_ready (rs := [9]) (by kernel_rfl) (by simp) ?_
  refine AllReadyH.cons rfl (fun K hK => ?_) AllReadyH.nil
  go_simp
  refine hK.out _ _ (sT.out _ _ s1) (fun hHeld => ?_)
  clear hK K
  (try simp only [Act.put, List.getElem_toArray, List.getElem_cons_zero, List.getElem_cons_succ, List.setIfInBounds_toArray, List.set_cons_zero, List.set_cons_succ])
  refine wpAnyH_take (i := 10) (v := ?_) rfl (by kernel_rfl) (by kernel_rfl) (by kernel_rfl) (fun _ _ _ h => h) (Or.inl ⟨by rfl, ?_⟩) (by assumption) ?_
  rotate_left 1
  · intro W hSw
    try dsimp only at hSw
    go_simp
    try with_reducible rfl
  (try simp only [Act.put, List.getElem_toArray, List.getElem_cons_zero, List.getElem_cons_succ, List.setIfInBounds_toArray, List.set_cons_zero, List.set_cons_succ])
  refine wpAnyH_done (by kernel_rfl) ?_ _
  go_wp2
  exact bodyPost_ret (v := .tuple #[.agg (rf R'), .bool true]) (res_rf2 Tryd.results11 (T := 28) rfl (setRow_row rz)) rfl ⟨rfl, (setRow_other (Ne.symm e1.out.2.1)).trans rb, (only_below BB.out oq).setRow (by omega)⟩
set_option maxRecDepth 100000 in
set_option maxHeartbeats 8000000 in
theorem bt_1 {T : World → Prop} (FB : Box (∀ {w w' : World}, T w → Below w.heap.size w w' → T w')) (rg : (Nat → Nat) → Array Value) (tg : TypeId) (R R' : Nat → Nat) (b : Nat) (on n fm e : Int) (X u v : Nat) (ao : Option Addr) (L cv : Nat) (he : IntKind.i64.wrap e = e)
    (KD : Box (∀ w, Calls Tryd.prog 31 #[.agg (rf R), .int .i64 n, .agg #[.int .u64 (u : Nat), .int .u64 (v : Nat)]] w fun r w' => r = .returned (.tuple #[.agg (rf R'), .int .i64 e]) ∧ Below w.heap.size w w'))
    (KP : Box (∀ w, T w → w.heap[b]? = some (.cells (rg R) tg) → Calls Tryd.prog 26 #[.pointer (some ⟨b, 0, none⟩), .int .i64 n, .agg #[.int .u64 (u : Nat), .int .u64 (v : Nat)]] w fun r w' => r = .returned (.int .i64 e) ∧ w'.heap[b]? = some (.cells (rg R') tg) ∧ Only b w w'))
    (w : World) (hT : T w) (hb : w.heap[b]? = some (.cells (rg R) tg)) :
    Calls Tryd.prog 11 #[.pointer (some ⟨b, 0, none⟩), .agg (rf R), .agg #[.int .i64 1, .int .i64 on, .int .i64 n, .int .u64 (X : Nat), .int .u64 (u : Nat), .int .u64 (v : Nat), .int .u8 fm, .slice ao L cv]] w fun r w' => r = .returned (.tuple #[.agg (rf R'), .bool true]) ∧ w'.heap[b]? = some (.cells (rg R') tg) ∧ Only b w w' := by
  have FF := box hT
  have hlt : Box (b < w.heap.size) := box (Array.getElem?_eq_some_iff.1 hb).1
  have HB := box hb
  clear hT hb
  have hrz := rf_zero
  have hrs : ∀ R, ((rf R).size = 96) = True := fun R => eq_true (rf_size R)
  have hra := rf_at
  have hsn := rf_stn
  obtain ⟨Rx_0, Rs_0, Rz_0, B0⟩ := opn3 w (Obj.cells (rf R) 28) (Obj.cells #[.int .i64 1, .int .i64 on, .int .i64 n, .int .u64 (X : Nat), .int .u64 (u : Nat), .int .u64 (v : Nat), .int .u8 fm, .slice ao L cv] 39) (Obj.cells (rf fun _ => 0) 28)
  go_enter Tryd.func11, Tryd.ntmps11
  have cs_0_0 := cells4 Rs_0 0 _ rfl
  have cs_0_1 := cells4 Rs_0 1 _ rfl
  have cs_0_2 := cells4 Rs_0 2 _ rfl
  have cs_0_3 := cells4 Rs_0 3 _ rfl
  have cs_0_4 := cells4 Rs_0 4 _ rfl
  have cs_0_5 := cells4 Rs_0 5 _ rfl
  have cs_0_6 := cells4 Rs_0 6 _ rfl
  have cs_0_7 := cells4 Rs_0 7 _ rfl
  go_wp2_with (first | ((with_reducible (refine wpl_rf rfl _ rfl ?_ Rx_0 ?_)); rfl) | ((with_reducible (refine wp_rf _ rfl ?_ Rx_0 ?_)); rfl) | ((with_reducible (refine wpl_rf rfl _ rfl ?_ Rz_0 ?_)); rfl) | ((with_reducible (refine wp_rf _ rfl ?_ Rz_0 ?_)); rfl) | fail)
  refine (KD.out _).mono ?_
  rintro r w1 ⟨rfl, b1⟩
  have B1 : Below w.heap.size w w1 := btr B0 b1
  have Rx_1 := heap_of b1 _ _ _ Rx_0
  have Rs_1 := heap_of b1 _ _ _ Rs_0
  have Rz_1 := heap_of b1 _ _ _ Rz_0
  clear b1 B0 Rx_0 Rs_0 cs_0_0 cs_0_1 cs_0_2 cs_0_3 cs_0_4 cs_0_5 cs_0_6 cs_0_7 Rz_0
  have cs_1_0 := cells4 Rs_1 0 _ rfl
  have cs_1_1 := cells4 Rs_1 1 _ rfl
  have cs_1_2 := cells4 Rs_1 2 _ rfl
  have cs_1_3 := cells4 Rs_1 3 _ rfl
  have cs_1_4 := cells4 Rs_1 4 _ rfl
  have cs_1_5 := cells4 Rs_1 5 _ rfl
  have cs_1_6 := cells4 Rs_1 6 _ rfl
  have cs_1_7 := cells4 Rs_1 7 _ rfl
  have S2 := box B1.size
  have Lx_2 : Box (w.heap.size < w1.heap.size) := box (Array.getElem?_eq_some_iff.1 Rx_1).1
  have Ls_2 : Box (w.heap.size + 1 < w1.heap.size) := box (Array.getElem?_eq_some_iff.1 Rs_1).1
  have Lz_2 : Box (w.heap.size + 1 + 1 < w1.heap.size) := box (Array.getElem?_eq_some_iff.1 Rz_1).1
  have Ry_2 := heap_alloc_last w1 (Obj.cells (rf R') 28)
  have B2 := btr B1 (bal w1 (Obj.cells (rf R') 28))
  have Rx_2 := heap_of (bal w1 (Obj.cells (rf R') 28)) _ _ _ Rx_1
  have Rs_2 := heap_of (bal w1 (Obj.cells (rf R') 28)) _ _ _ Rs_1
  have Rz_2 := heap_of (bal w1 (Obj.cells (rf R') 28)) _ _ _ Rz_1
  clear B1 Rx_1 Rs_1 cs_1_0 cs_1_1 cs_1_2 cs_1_3 cs_1_4 cs_1_5 cs_1_6 cs_1_7 Rz_1
  have cs_2_0 := cells4 Rs_2 0 _ rfl
  have cs_2_1 := cells4 Rs_2 1 _ rfl
  have cs_2_2 := cells4 Rs_2 2 _ rfl
  have cs_2_3 := cells4 Rs_2 3 _ rfl
  have cs_2_4 := cells4 Rs_2 4 _ rfl
  have cs_2_5 := cells4 Rs_2 5 _ rfl
  have cs_2_6 := cells4 Rs_2 6 _ rfl
  have cs_2_7 := cells4 Rs_2 7 _ rfl
  have cy_2_0 := rf_cell Ry_2
  have cy_2_1 := rf_load Ry_2
  clear cy_2_0 cy_2_1
  have e1 : Box (b ≠ w.heap.size + 1 ∧ b ≠ w.heap.size + 1 + 1 ∧ b ≠ w1.heap.size ∧ w.heap.size + 1 + 1 < w1.heap.size) := box ⟨by have := hlt.out; omega, by have := hlt.out; omega, by have := hlt.out; have := S2.out; omega, Lz_2.out⟩
  have sS : Box (∀ W W1 : World, (W.heap[w.heap.size + 1]? = some (.cells #[.int .i64 1, .int .i64 on, .int .i64 n, .int .u64 (X : Nat), .int .u64 (u : Nat), .int .u64 (v : Nat), .int .u8 fm, .slice ao L cv] 39) ∧ W.heap[w1.heap.size]? = some (.cells (rf R') 28) ∧ W.cell? ⟨w.heap.size + 1, 0, none⟩ = some (.int .i64 1) ∧ W.cell? ⟨w.heap.size + 1, 1, none⟩ = some (.int .i64 on) ∧ W.cell? ⟨w.heap.size + 1, 2, none⟩ = some (.int .i64 n) ∧ W.cell? ⟨w.heap.size + 1, 3, none⟩ = some (.int .u64 (X : Nat)) ∧ W.cell? ⟨w.heap.size + 1, 4, none⟩ = some (.int .u64 (u : Nat)) ∧ W.cell? ⟨w.heap.size + 1, 5, none⟩ = some (.int .u64 (v : Nat)) ∧ W.cell? ⟨w.heap.size + 1, 6, none⟩ = some (.int .u8 fm) ∧ W.cell? ⟨w.heap.size + 1, 7, none⟩ = some (.slice ao L cv) ∧ (Instr.loadAt 28 (.pointer (some ⟨w1.heap.size, 0, none⟩))).run Tryd.prog W = .ok (.agg (rf R')) W) → Only b W W1 → (W1.heap[w.heap.size + 1]? = some (.cells #[.int .i64 1, .int .i64 on, .int .i64 n, .int .u64 (X : Nat), .int .u64 (u : Nat), .int .u64 (v : Nat), .int .u8 fm, .slice ao L cv] 39) ∧ W1.heap[w1.heap.size]? = some (.cells (rf R') 28) ∧ W1.cell? ⟨w.heap.size + 1, 0, none⟩ = some (.int .i64 1) ∧ W1.cell? ⟨w.heap.size + 1, 1, none⟩ = some (.int .i64 on) ∧ W1.cell? ⟨w.heap.size + 1, 2, none⟩ = some (.int .i64 n) ∧ W1.cell? ⟨w.heap.size + 1, 3, none⟩ = some (.int .u64 (X : Nat)) ∧ W1.cell? ⟨w.heap.size + 1, 4, none⟩ = some (.int .u64 (u : Nat)) ∧ W1.cell? ⟨w.heap.size + 1, 5, none⟩ = some (.int .u64 (v : Nat)) ∧ W1.cell? ⟨w.heap.size + 1, 6, none⟩ = some (.int .u8 fm) ∧ W1.cell? ⟨w.heap.size + 1, 7, none⟩ = some (.slice ao L cv) ∧ (Instr.loadAt 28 (.pointer (some ⟨w1.heap.size, 0, none⟩))).run Tryd.prog W1 = .ok (.agg (rf R')) W1)) := box (fun W W1 h o => ⟨Only.row o (Ne.symm e1.out.1) h.1, Only.row o (Ne.symm e1.out.2.2.1) h.2.1, cell7 (Only.row o (Ne.symm e1.out.1) h.1) 0 _ rfl, cell7 (Only.row o (Ne.symm e1.out.1) h.1) 1 _ rfl, cell7 (Only.row o (Ne.symm e1.out.1) h.1) 2 _ rfl, cell7 (Only.row o (Ne.symm e1.out.1) h.1) 3 _ rfl, cell7 (Only.row o (Ne.symm e1.out.1) h.1) 4 _ rfl, cell7 (Only.row o (Ne.symm e1.out.1) h.1) 5 _ rfl, cell7 (Only.row o (Ne.symm e1.out.1) h.1) 6 _ rfl, cell7 (Only.row o (Ne.symm e1.out.1) h.1) 7 _ rfl, rf_la (Only.row o (Ne.symm e1.out.2.2.1) h.2.1)⟩)
  have sT : Box (∀ (W : World) (xA : Array Value), (W.heap[w.heap.size + 1]? = some (.cells #[.int .i64 1, .int .i64 on, .int .i64 n, .int .u64 (X : Nat), .int .u64 (u : Nat), .int .u64 (v : Nat), .int .u8 fm, .slice ao L cv] 39) ∧ W.heap[w1.heap.size]? = some (.cells (rf R') 28) ∧ W.cell? ⟨w.heap.size + 1, 0, none⟩ = some (.int .i64 1) ∧ W.cell? ⟨w.heap.size + 1, 1, none⟩ = some (.int .i64 on) ∧ W.cell? ⟨w.heap.size + 1, 2, none⟩ = some (.int .i64 n) ∧ W.cell? ⟨w.heap.size + 1, 3, none⟩ = some (.int .u64 (X : Nat)) ∧ W.cell? ⟨w.heap.size + 1, 4, none⟩ = some (.int .u64 (u : Nat)) ∧ W.cell? ⟨w.heap.size + 1, 5, none⟩ = some (.int .u64 (v : Nat)) ∧ W.cell? ⟨w.heap.size + 1, 6, none⟩ = some (.int .u8 fm) ∧ W.cell? ⟨w.heap.size + 1, 7, none⟩ = some (.slice ao L cv) ∧ (Instr.loadAt 28 (.pointer (some ⟨w1.heap.size, 0, none⟩))).run Tryd.prog W = .ok (.agg (rf R')) W) → ((W.setRow (w.heap.size + 1 + 1) xA).heap[w.heap.size + 1]? = some (.cells #[.int .i64 1, .int .i64 on, .int .i64 n, .int .u64 (X : Nat), .int .u64 (u : Nat), .int .u64 (v : Nat), .int .u8 fm, .slice ao L cv] 39) ∧ (W.setRow (w.heap.size + 1 + 1) xA).heap[w1.heap.size]? = some (.cells (rf R') 28) ∧ (W.setRow (w.heap.size + 1 + 1) xA).cell? ⟨w.heap.size + 1, 0, none⟩ = some (.int .i64 1) ∧ (W.setRow (w.heap.size + 1 + 1) xA).cell? ⟨w.heap.size + 1, 1, none⟩ = some (.int .i64 on) ∧ (W.setRow (w.heap.size + 1 + 1) xA).cell? ⟨w.heap.size + 1, 2, none⟩ = some (.int .i64 n) ∧ (W.setRow (w.heap.size + 1 + 1) xA).cell? ⟨w.heap.size + 1, 3, none⟩ = some (.int .u64 (X : Nat)) ∧ (W.setRow (w.heap.size + 1 + 1) xA).cell? ⟨w.heap.size + 1, 4, none⟩ = some (.int .u64 (u : Nat)) ∧ (W.setRow (w.heap.size + 1 + 1) xA).cell? ⟨w.heap.size + 1, 5, none⟩ = some (.int .u64 (v : Nat)) ∧ (W.setRow (w.heap.size + 1 + 1) xA).cell? ⟨w.heap.size + 1, 6, none⟩ = some (.int .u8 fm) ∧ (W.setRow (w.heap.size + 1 + 1) xA).cell? ⟨w.heap.size + 1, 7, none⟩ = some (.slice ao L cv) ∧ (Instr.loadAt 28 (.pointer (some ⟨w1.heap.size, 0, none⟩))).run Tryd.prog (W.setRow (w.heap.size + 1 + 1) xA) = .ok (.agg (rf R')) (W.setRow (w.heap.size + 1 + 1) xA))) := box (fun W xA h => ⟨(setRow_other (by omega)).trans h.1, (setRow_other (by have := e1.out; omega)).trans h.2.1, cell7 ((setRow_other (by omega)).trans h.1) 0 _ rfl, cell7 ((setRow_other (by omega)).trans h.1) 1 _ rfl, cell7 ((setRow_other (by omega)).trans h.1) 2 _ rfl, cell7 ((setRow_other (by omega)).trans h.1) 3 _ rfl, cell7 ((setRow_other (by omega)).trans h.1) 4 _ rfl, cell7 ((setRow_other (by omega)).trans h.1) 5 _ rfl, cell7 ((setRow_other (by omega)).trans h.1) 6 _ rfl, cell7 ((setRow_other (by omega)).trans h.1) 7 _ rfl, rf_la ((setRow_other (by have := e1.out; omega)).trans h.2.1)⟩)
  have s0 : (w1.alloc (Obj.cells (rf R') 28)).drew.heap[w.heap.size + 1]? = some (.cells #[.int .i64 1, .int .i64 on, .int .i64 n, .int .u64 (X : Nat), .int .u64 (u : Nat), .int .u64 (v : Nat), .int .u8 fm, .slice ao L cv] 39) ∧ (w1.alloc (Obj.cells (rf R') 28)).drew.heap[w1.heap.size]? = some (.cells (rf R') 28) ∧ (w1.alloc (Obj.cells (rf R') 28)).drew.cell? ⟨w.heap.size + 1, 0, none⟩ = some (.int .i64 1) ∧ (w1.alloc (Obj.cells (rf R') 28)).drew.cell? ⟨w.heap.size + 1, 1, none⟩ = some (.int .i64 on) ∧ (w1.alloc (Obj.cells (rf R') 28)).drew.cell? ⟨w.heap.size + 1, 2, none⟩ = some (.int .i64 n) ∧ (w1.alloc (Obj.cells (rf R') 28)).drew.cell? ⟨w.heap.size + 1, 3, none⟩ = some (.int .u64 (X : Nat)) ∧ (w1.alloc (Obj.cells (rf R') 28)).drew.cell? ⟨w.heap.size + 1, 4, none⟩ = some (.int .u64 (u : Nat)) ∧ (w1.alloc (Obj.cells (rf R') 28)).drew.cell? ⟨w.heap.size + 1, 5, none⟩ = some (.int .u64 (v : Nat)) ∧ (w1.alloc (Obj.cells (rf R') 28)).drew.cell? ⟨w.heap.size + 1, 6, none⟩ = some (.int .u8 fm) ∧ (w1.alloc (Obj.cells (rf R') 28)).drew.cell? ⟨w.heap.size + 1, 7, none⟩ = some (.slice ao L cv) ∧ (Instr.loadAt 28 (.pointer (some ⟨w1.heap.size, 0, none⟩))).run Tryd.prog (w1.alloc (Obj.cells (rf R') 28)).drew = .ok (.agg (rf R')) (w1.alloc (Obj.cells (rf R') 28)).drew := ⟨Rs_2, Ry_2, cell7 (Rs_2) 0 _ rfl, cell7 (Rs_2) 1 _ rfl, cell7 (Rs_2) 2 _ rfl, cell7 (Rs_2) 3 _ rfl, cell7 (Rs_2) 4 _ rfl, cell7 (Rs_2) 5 _ rfl, cell7 (Rs_2) 6 _ rfl, cell7 (Rs_2) 7 _ rfl, rf_la (Ry_2)⟩
  have rz : (w1.alloc (Obj.cells (rf R') 28)).drew.heap[w.heap.size + 1 + 1]? = some (.cells (rf fun _ => 0) 28) := Rz_2
  have hst := rf_store (R := R') rz
  have T2 := box (FB.out FF.out B2.drew)
  have H2 : Box ((w1.alloc (Obj.cells (rf R') 28)).drew.heap[b]? = some (.cells (rg R) tg)) := box (heap_of B2.drew _ _ _ HB.out)
  have BB := box B2.drew
  clear Rx_2 Rs_2 Ry_2 Rz_2 cs_2_0 cs_2_1 cs_2_2 cs_2_3 cs_2_4 cs_2_5 cs_2_6 cs_2_7
  have hu := Tryd.underlying28
  have hi : (Tryd.prog.info? 28).map (·.size) = some (rf R').toList.length := by rw [Array.length_toList, rf_size]; kernel_rfl
  go_wp2_with fail
  refine wp_region_held_drew (S := fun W => W.heap[w.heap.size + 1]? = some (.cells #[.int .i64 1, .int .i64 on, .int .i64 n, .int .u64 (X : Nat), .int .u64 (u : Nat), .int .u64 (v : Nat), .int .u8 fm, .slice ao L cv] 39) ∧ W.heap[w1.heap.size]? = some (.cells (rf R') 28) ∧ W.cell? ⟨w.heap.size + 1, 0, none⟩ = some (.int .i64 1) ∧ W.cell? ⟨w.heap.size + 1, 1, none⟩ = some (.int .i64 on) ∧ W.cell? ⟨w.heap.size + 1, 2, none⟩ = some (.int .i64 n) ∧ W.cell? ⟨w.heap.size + 1, 3, none⟩ = some (.int .u64 (X : Nat)) ∧ W.cell? ⟨w.heap.size + 1, 4, none⟩ = some (.int .u64 (u : Nat)) ∧ W.cell? ⟨w.heap.size + 1, 5, none⟩ = some (.int .u64 (v : Nat)) ∧ W.cell? ⟨w.heap.size + 1, 6, none⟩ = some (.int .u8 fm) ∧ W.cell? ⟨w.heap.size + 1, 7, none⟩ = some (.slice ao L cv) ∧ (Instr.loadAt 28 (.pointer (some ⟨w1.heap.size, 0, none⟩))).run Tryd.prog W = .ok (.agg (rf R')) W) (by kernel_rfl) s0 (fun hHeld => ?_)
  refine wpAnyH_take (i := 0) rfl (by kernel_rfl) (by kernel_rfl) (by kernel_rfl) (fun _ _ _ h => h) (yieldsIf_load_mid (by rfl) _ _ rfl _ _ rfl (rf R').toList _ (fun W h => rf_range h.2.1) hu rfl hi) (by assumption) ?_
  simp only [Array.toArray_toList]
  (try simp only [Act.put, List.getElem_toArray, List.getElem_cons_zero, List.getElem_cons_succ, List.setIfInBounds_toArray, List.set_cons_zero, List.set_cons_succ])
  refine wpAnyH_take (i := 1) (v := ?_) rfl (by kernel_rfl) (by kernel_rfl) (by kernel_rfl) (fun _ _ _ h => h) (Or.inl ⟨by rfl, ?_⟩) (by assumption) ?_
  rotate_left 1
  · intro W hSw
    try dsimp only at hSw
    go_simp
    try with_reducible rfl
  (try simp only [Act.put, List.getElem_toArray, List.getElem_cons_zero, List.getElem_cons_succ, List.setIfInBounds_toArray, List.set_cons_zero, List.set_cons_succ])
  refine wpAnyH_take (i := 2) (v := ?_) rfl (by kernel_rfl) (by kernel_rfl) (by kernel_rfl) (fun _ _ _ h => h) (Or.inl ⟨by rfl, ?_⟩) (by assumption) ?_
  rotate_left 1
  · intro W hSw
    try dsimp only at hSw
    go_simp
    try with_reducible rfl
  (try simp only [Act.put, List.getElem_toArray, List.getElem_cons_zero, List.getElem_cons_succ, List.setIfInBounds_toArray, List.set_cons_zero, List.set_cons_succ])
  refine wpAnyH_take (i := 3) (v := ?_) rfl (by kernel_rfl) (by kernel_rfl) (by kernel_rfl) (fun _ _ _ h => h) (Or.inl ⟨by rfl, ?_⟩) (by assumption) ?_
  rotate_left 1
  · intro W hSw
    try dsimp only at hSw
    go_simp
    try with_reducible rfl
  (try simp only [Act.put, List.getElem_toArray, List.getElem_cons_zero, List.getElem_cons_succ, List.setIfInBounds_toArray, List.set_cons_zero, List.set_cons_succ])
  refine wpAnyH_take (i := 4) (v := ?_) rfl (by kernel_rfl) (by kernel_rfl) (by kernel_rfl) (fun _ _ _ h => h) (Or.inl ⟨by rfl, ?_⟩) (by assumption) ?_
  rotate_left 1
  · intro W hSw
    try dsimp only at hSw
    go_simp
    try with_reducible rfl
  (try simp only [Act.put, List.getElem_toArray, List.getElem_cons_zero, List.getElem_cons_succ, List.setIfInBounds_toArray, List.set_cons_zero, List.set_cons_succ])
  refine wpAnyH_take (i := 5) (v := ?_) rfl (by kernel_rfl) (by kernel_rfl) (by kernel_rfl) (fun _ _ _ h => h) (Or.inl ⟨by rfl, ?_⟩) (by assumption) ?_
  rotate_left 1
  · intro W hSw
    try dsimp only at hSw
    go_simp
    try with_reducible rfl
  (try simp only [Act.put, List.getElem_toArray, List.getElem_cons_zero, List.getElem_cons_succ, List.setIfInBounds_toArray, List.set_cons_zero, List.set_cons_succ])
  refine wpAnyH_take (i := 7) (v := ?_) rfl (by kernel_rfl) (by kernel_rfl) (by kernel_rfl) (fun _ _ _ h => h) (Or.inl ⟨by rfl, ?_⟩) (by assumption) ?_
  rotate_left 1
  · intro W hSw
    try dsimp only at hSw
    go_simp
    try with_reducible rfl
  (try simp only [Act.put, List.getElem_toArray, List.getElem_cons_zero, List.getElem_cons_succ, List.setIfInBounds_toArray, List.set_cons_zero, List.set_cons_succ])
  refine wpAnyH_ready (rs := [6]) (by kernel_rfl) (by simp) ?_
  refine AllReadyH.cons rfl (fun K hK => ?_) AllReadyH.nil
  go_simp
  refine (KP.out _ T2.out H2.out).mono ?_
  rintro r wq ⟨rfl, rb, oq⟩
  have s1 := sS.out _ _ s0 oq
  have rz := Only.row oq (Ne.symm e1.out.2.1) rz
  have hst := rf_store (R := R') rz
  (try go_wp2_with fail)
  refine hK.out _ _ s1 (fun hHeld => ?_)
  clear hK K
  (try simp only [Act.put, List.getElem_toArray, List.getElem_cons_zero, List.getElem_cons_succ, List.setIfInBounds_toArray, List.set_cons_zero, List.set_cons_succ])
  refine wpAnyH_take (i := 8) (v := ?_) rfl (by kernel_rfl) (by kernel_rfl) (by kernel_rfl) (fun _ _ _ h => h) (Or.inl ⟨by rfl, ?_⟩) (by assumption) ?_
  rotate_left 1
  · intro W hSw
    try dsimp only at hSw
    go_simp
    try with_reducible rfl
  (try simp only [Act.put, List.getElem_toArray, List.getElem_cons_zero, List.getElem_cons_succ, List.setIfInBounds_toArray, List.set_cons_zero, List.set_cons_succ])
  refine wpAnyH_ready (rs := [9]) (by kernel_rfl) (by simp) ?_
  refine AllReadyH.cons rfl (fun K hK => ?_) AllReadyH.nil
  go_simp
  refine hK.out _ _ (sT.out _ _ s1) (fun hHeld => ?_)
  clear hK K
  (try simp only [Act.put, List.getElem_toArray, List.getElem_cons_zero, List.getElem_cons_succ, List.setIfInBounds_toArray, List.set_cons_zero, List.set_cons_succ])
  refine wpAnyH_take (i := 10) (v := ?_) rfl (by kernel_rfl) (by kernel_rfl) (by kernel_rfl) (fun _ _ _ h => h) (Or.inl ⟨by rfl, ?_⟩) (by assumption) ?_
  rotate_left 1
  · intro W hSw
    try dsimp only at hSw
    go_simp
    try with_reducible rfl
  (try simp only [Act.put, List.getElem_toArray, List.getElem_cons_zero, List.getElem_cons_succ, List.setIfInBounds_toArray, List.set_cons_zero, List.set_cons_succ])
  refine wpAnyH_done (by kernel_rfl) ?_ _
  go_wp2
  exact bodyPost_ret (v := .tuple #[.agg (rf R'), .bool true]) (res_rf2 Tryd.results11 (T := 28) rfl (setRow_row rz)) rfl ⟨rfl, (setRow_other (Ne.symm e1.out.2.1)).trans rb, (only_below BB.out oq).setRow (by omega)⟩
set_option maxRecDepth 100000 in
set_option maxHeartbeats 8000000 in
theorem bt_2 {T : World → Prop} (FB : Box (∀ {w w' : World}, T w → Below w.heap.size w w' → T w')) (rg : (Nat → Nat) → Array Value) (tg : TypeId) (R R' : Nat → Nat) (b : Nat) (on n fm e : Int) (X u v : Nat) (ao : Option Addr) (L cv : Nat) (he : IntKind.i64.wrap e = e)
    (KD : Box (∀ w, Calls Tryd.prog 32 #[.agg (rf R), .int .u8 fm, .int .i64 n, .agg #[.int .u64 (u : Nat), .int .u64 (v : Nat)]] w fun r w' => r = .returned (.tuple #[.agg (rf R'), .int .i64 e]) ∧ Below w.heap.size w w'))
    (KP : Box (∀ w, T w → w.heap[b]? = some (.cells (rg R) tg) → Calls Tryd.prog 27 #[.pointer (some ⟨b, 0, none⟩), .int .u8 fm, .int .i64 n, .agg #[.int .u64 (u : Nat), .int .u64 (v : Nat)]] w fun r w' => r = .returned (.int .i64 e) ∧ w'.heap[b]? = some (.cells (rg R') tg) ∧ Only b w w'))
    (w : World) (hT : T w) (hb : w.heap[b]? = some (.cells (rg R) tg)) :
    Calls Tryd.prog 11 #[.pointer (some ⟨b, 0, none⟩), .agg (rf R), .agg #[.int .i64 2, .int .i64 on, .int .i64 n, .int .u64 (X : Nat), .int .u64 (u : Nat), .int .u64 (v : Nat), .int .u8 fm, .slice ao L cv]] w fun r w' => r = .returned (.tuple #[.agg (rf R'), .bool true]) ∧ w'.heap[b]? = some (.cells (rg R') tg) ∧ Only b w w' := by
  have FF := box hT
  have hlt : Box (b < w.heap.size) := box (Array.getElem?_eq_some_iff.1 hb).1
  have HB := box hb
  clear hT hb
  have hrz := rf_zero
  have hrs : ∀ R, ((rf R).size = 96) = True := fun R => eq_true (rf_size R)
  have hra := rf_at
  have hsn := rf_stn
  obtain ⟨Rx_0, Rs_0, Rz_0, B0⟩ := opn3 w (Obj.cells (rf R) 28) (Obj.cells #[.int .i64 2, .int .i64 on, .int .i64 n, .int .u64 (X : Nat), .int .u64 (u : Nat), .int .u64 (v : Nat), .int .u8 fm, .slice ao L cv] 39) (Obj.cells (rf fun _ => 0) 28)
  go_enter Tryd.func11, Tryd.ntmps11
  have cs_0_0 := cells4 Rs_0 0 _ rfl
  have cs_0_1 := cells4 Rs_0 1 _ rfl
  have cs_0_2 := cells4 Rs_0 2 _ rfl
  have cs_0_3 := cells4 Rs_0 3 _ rfl
  have cs_0_4 := cells4 Rs_0 4 _ rfl
  have cs_0_5 := cells4 Rs_0 5 _ rfl
  have cs_0_6 := cells4 Rs_0 6 _ rfl
  have cs_0_7 := cells4 Rs_0 7 _ rfl
  go_wp2_with (first | ((with_reducible (refine wpl_rf rfl _ rfl ?_ Rx_0 ?_)); rfl) | ((with_reducible (refine wp_rf _ rfl ?_ Rx_0 ?_)); rfl) | ((with_reducible (refine wpl_rf rfl _ rfl ?_ Rz_0 ?_)); rfl) | ((with_reducible (refine wp_rf _ rfl ?_ Rz_0 ?_)); rfl) | fail)
  refine (KD.out _).mono ?_
  rintro r w1 ⟨rfl, b1⟩
  have B1 : Below w.heap.size w w1 := btr B0 b1
  have Rx_1 := heap_of b1 _ _ _ Rx_0
  have Rs_1 := heap_of b1 _ _ _ Rs_0
  have Rz_1 := heap_of b1 _ _ _ Rz_0
  clear b1 B0 Rx_0 Rs_0 cs_0_0 cs_0_1 cs_0_2 cs_0_3 cs_0_4 cs_0_5 cs_0_6 cs_0_7 Rz_0
  have cs_1_0 := cells4 Rs_1 0 _ rfl
  have cs_1_1 := cells4 Rs_1 1 _ rfl
  have cs_1_2 := cells4 Rs_1 2 _ rfl
  have cs_1_3 := cells4 Rs_1 3 _ rfl
  have cs_1_4 := cells4 Rs_1 4 _ rfl
  have cs_1_5 := cells4 Rs_1 5 _ rfl
  have cs_1_6 := cells4 Rs_1 6 _ rfl
  have cs_1_7 := cells4 Rs_1 7 _ rfl
  have S2 := box B1.size
  have Lx_2 : Box (w.heap.size < w1.heap.size) := box (Array.getElem?_eq_some_iff.1 Rx_1).1
  have Ls_2 : Box (w.heap.size + 1 < w1.heap.size) := box (Array.getElem?_eq_some_iff.1 Rs_1).1
  have Lz_2 : Box (w.heap.size + 1 + 1 < w1.heap.size) := box (Array.getElem?_eq_some_iff.1 Rz_1).1
  have Ry_2 := heap_alloc_last w1 (Obj.cells (rf R') 28)
  have B2 := btr B1 (bal w1 (Obj.cells (rf R') 28))
  have Rx_2 := heap_of (bal w1 (Obj.cells (rf R') 28)) _ _ _ Rx_1
  have Rs_2 := heap_of (bal w1 (Obj.cells (rf R') 28)) _ _ _ Rs_1
  have Rz_2 := heap_of (bal w1 (Obj.cells (rf R') 28)) _ _ _ Rz_1
  clear B1 Rx_1 Rs_1 cs_1_0 cs_1_1 cs_1_2 cs_1_3 cs_1_4 cs_1_5 cs_1_6 cs_1_7 Rz_1
  have cs_2_0 := cells4 Rs_2 0 _ rfl
  have cs_2_1 := cells4 Rs_2 1 _ rfl
  have cs_2_2 := cells4 Rs_2 2 _ rfl
  have cs_2_3 := cells4 Rs_2 3 _ rfl
  have cs_2_4 := cells4 Rs_2 4 _ rfl
  have cs_2_5 := cells4 Rs_2 5 _ rfl
  have cs_2_6 := cells4 Rs_2 6 _ rfl
  have cs_2_7 := cells4 Rs_2 7 _ rfl
  have cy_2_0 := rf_cell Ry_2
  have cy_2_1 := rf_load Ry_2
  clear cy_2_0 cy_2_1
  have e1 : Box (b ≠ w.heap.size + 1 ∧ b ≠ w.heap.size + 1 + 1 ∧ b ≠ w1.heap.size ∧ w.heap.size + 1 + 1 < w1.heap.size) := box ⟨by have := hlt.out; omega, by have := hlt.out; omega, by have := hlt.out; have := S2.out; omega, Lz_2.out⟩
  have sS : Box (∀ W W1 : World, (W.heap[w.heap.size + 1]? = some (.cells #[.int .i64 2, .int .i64 on, .int .i64 n, .int .u64 (X : Nat), .int .u64 (u : Nat), .int .u64 (v : Nat), .int .u8 fm, .slice ao L cv] 39) ∧ W.heap[w1.heap.size]? = some (.cells (rf R') 28) ∧ W.cell? ⟨w.heap.size + 1, 0, none⟩ = some (.int .i64 2) ∧ W.cell? ⟨w.heap.size + 1, 1, none⟩ = some (.int .i64 on) ∧ W.cell? ⟨w.heap.size + 1, 2, none⟩ = some (.int .i64 n) ∧ W.cell? ⟨w.heap.size + 1, 3, none⟩ = some (.int .u64 (X : Nat)) ∧ W.cell? ⟨w.heap.size + 1, 4, none⟩ = some (.int .u64 (u : Nat)) ∧ W.cell? ⟨w.heap.size + 1, 5, none⟩ = some (.int .u64 (v : Nat)) ∧ W.cell? ⟨w.heap.size + 1, 6, none⟩ = some (.int .u8 fm) ∧ W.cell? ⟨w.heap.size + 1, 7, none⟩ = some (.slice ao L cv) ∧ (Instr.loadAt 28 (.pointer (some ⟨w1.heap.size, 0, none⟩))).run Tryd.prog W = .ok (.agg (rf R')) W) → Only b W W1 → (W1.heap[w.heap.size + 1]? = some (.cells #[.int .i64 2, .int .i64 on, .int .i64 n, .int .u64 (X : Nat), .int .u64 (u : Nat), .int .u64 (v : Nat), .int .u8 fm, .slice ao L cv] 39) ∧ W1.heap[w1.heap.size]? = some (.cells (rf R') 28) ∧ W1.cell? ⟨w.heap.size + 1, 0, none⟩ = some (.int .i64 2) ∧ W1.cell? ⟨w.heap.size + 1, 1, none⟩ = some (.int .i64 on) ∧ W1.cell? ⟨w.heap.size + 1, 2, none⟩ = some (.int .i64 n) ∧ W1.cell? ⟨w.heap.size + 1, 3, none⟩ = some (.int .u64 (X : Nat)) ∧ W1.cell? ⟨w.heap.size + 1, 4, none⟩ = some (.int .u64 (u : Nat)) ∧ W1.cell? ⟨w.heap.size + 1, 5, none⟩ = some (.int .u64 (v : Nat)) ∧ W1.cell? ⟨w.heap.size + 1, 6, none⟩ = some (.int .u8 fm) ∧ W1.cell? ⟨w.heap.size + 1, 7, none⟩ = some (.slice ao L cv) ∧ (Instr.loadAt 28 (.pointer (some ⟨w1.heap.size, 0, none⟩))).run Tryd.prog W1 = .ok (.agg (rf R')) W1)) := box (fun W W1 h o => ⟨Only.row o (Ne.symm e1.out.1) h.1, Only.row o (Ne.symm e1.out.2.2.1) h.2.1, cell7 (Only.row o (Ne.symm e1.out.1) h.1) 0 _ rfl, cell7 (Only.row o (Ne.symm e1.out.1) h.1) 1 _ rfl, cell7 (Only.row o (Ne.symm e1.out.1) h.1) 2 _ rfl, cell7 (Only.row o (Ne.symm e1.out.1) h.1) 3 _ rfl, cell7 (Only.row o (Ne.symm e1.out.1) h.1) 4 _ rfl, cell7 (Only.row o (Ne.symm e1.out.1) h.1) 5 _ rfl, cell7 (Only.row o (Ne.symm e1.out.1) h.1) 6 _ rfl, cell7 (Only.row o (Ne.symm e1.out.1) h.1) 7 _ rfl, rf_la (Only.row o (Ne.symm e1.out.2.2.1) h.2.1)⟩)
  have sT : Box (∀ (W : World) (xA : Array Value), (W.heap[w.heap.size + 1]? = some (.cells #[.int .i64 2, .int .i64 on, .int .i64 n, .int .u64 (X : Nat), .int .u64 (u : Nat), .int .u64 (v : Nat), .int .u8 fm, .slice ao L cv] 39) ∧ W.heap[w1.heap.size]? = some (.cells (rf R') 28) ∧ W.cell? ⟨w.heap.size + 1, 0, none⟩ = some (.int .i64 2) ∧ W.cell? ⟨w.heap.size + 1, 1, none⟩ = some (.int .i64 on) ∧ W.cell? ⟨w.heap.size + 1, 2, none⟩ = some (.int .i64 n) ∧ W.cell? ⟨w.heap.size + 1, 3, none⟩ = some (.int .u64 (X : Nat)) ∧ W.cell? ⟨w.heap.size + 1, 4, none⟩ = some (.int .u64 (u : Nat)) ∧ W.cell? ⟨w.heap.size + 1, 5, none⟩ = some (.int .u64 (v : Nat)) ∧ W.cell? ⟨w.heap.size + 1, 6, none⟩ = some (.int .u8 fm) ∧ W.cell? ⟨w.heap.size + 1, 7, none⟩ = some (.slice ao L cv) ∧ (Instr.loadAt 28 (.pointer (some ⟨w1.heap.size, 0, none⟩))).run Tryd.prog W = .ok (.agg (rf R')) W) → ((W.setRow (w.heap.size + 1 + 1) xA).heap[w.heap.size + 1]? = some (.cells #[.int .i64 2, .int .i64 on, .int .i64 n, .int .u64 (X : Nat), .int .u64 (u : Nat), .int .u64 (v : Nat), .int .u8 fm, .slice ao L cv] 39) ∧ (W.setRow (w.heap.size + 1 + 1) xA).heap[w1.heap.size]? = some (.cells (rf R') 28) ∧ (W.setRow (w.heap.size + 1 + 1) xA).cell? ⟨w.heap.size + 1, 0, none⟩ = some (.int .i64 2) ∧ (W.setRow (w.heap.size + 1 + 1) xA).cell? ⟨w.heap.size + 1, 1, none⟩ = some (.int .i64 on) ∧ (W.setRow (w.heap.size + 1 + 1) xA).cell? ⟨w.heap.size + 1, 2, none⟩ = some (.int .i64 n) ∧ (W.setRow (w.heap.size + 1 + 1) xA).cell? ⟨w.heap.size + 1, 3, none⟩ = some (.int .u64 (X : Nat)) ∧ (W.setRow (w.heap.size + 1 + 1) xA).cell? ⟨w.heap.size + 1, 4, none⟩ = some (.int .u64 (u : Nat)) ∧ (W.setRow (w.heap.size + 1 + 1) xA).cell? ⟨w.heap.size + 1, 5, none⟩ = some (.int .u64 (v : Nat)) ∧ (W.setRow (w.heap.size + 1 + 1) xA).cell? ⟨w.heap.size + 1, 6, none⟩ = some (.int .u8 fm) ∧ (W.setRow (w.heap.size + 1 + 1) xA).cell? ⟨w.heap.size + 1, 7, none⟩ = some (.slice ao L cv) ∧ (Instr.loadAt 28 (.pointer (some ⟨w1.heap.size, 0, none⟩))).run Tryd.prog (W.setRow (w.heap.size + 1 + 1) xA) = .ok (.agg (rf R')) (W.setRow (w.heap.size + 1 + 1) xA))) := box (fun W xA h => ⟨(setRow_other (by omega)).trans h.1, (setRow_other (by have := e1.out; omega)).trans h.2.1, cell7 ((setRow_other (by omega)).trans h.1) 0 _ rfl, cell7 ((setRow_other (by omega)).trans h.1) 1 _ rfl, cell7 ((setRow_other (by omega)).trans h.1) 2 _ rfl, cell7 ((setRow_other (by omega)).trans h.1) 3 _ rfl, cell7 ((setRow_other (by omega)).trans h.1) 4 _ rfl, cell7 ((setRow_other (by omega)).trans h.1) 5 _ rfl, cell7 ((setRow_other (by omega)).trans h.1) 6 _ rfl, cell7 ((setRow_other (by omega)).trans h.1) 7 _ rfl, rf_la ((setRow_other (by have := e1.out; omega)).trans h.2.1)⟩)
  have s0 : (w1.alloc (Obj.cells (rf R') 28)).drew.heap[w.heap.size + 1]? = some (.cells #[.int .i64 2, .int .i64 on, .int .i64 n, .int .u64 (X : Nat), .int .u64 (u : Nat), .int .u64 (v : Nat), .int .u8 fm, .slice ao L cv] 39) ∧ (w1.alloc (Obj.cells (rf R') 28)).drew.heap[w1.heap.size]? = some (.cells (rf R') 28) ∧ (w1.alloc (Obj.cells (rf R') 28)).drew.cell? ⟨w.heap.size + 1, 0, none⟩ = some (.int .i64 2) ∧ (w1.alloc (Obj.cells (rf R') 28)).drew.cell? ⟨w.heap.size + 1, 1, none⟩ = some (.int .i64 on) ∧ (w1.alloc (Obj.cells (rf R') 28)).drew.cell? ⟨w.heap.size + 1, 2, none⟩ = some (.int .i64 n) ∧ (w1.alloc (Obj.cells (rf R') 28)).drew.cell? ⟨w.heap.size + 1, 3, none⟩ = some (.int .u64 (X : Nat)) ∧ (w1.alloc (Obj.cells (rf R') 28)).drew.cell? ⟨w.heap.size + 1, 4, none⟩ = some (.int .u64 (u : Nat)) ∧ (w1.alloc (Obj.cells (rf R') 28)).drew.cell? ⟨w.heap.size + 1, 5, none⟩ = some (.int .u64 (v : Nat)) ∧ (w1.alloc (Obj.cells (rf R') 28)).drew.cell? ⟨w.heap.size + 1, 6, none⟩ = some (.int .u8 fm) ∧ (w1.alloc (Obj.cells (rf R') 28)).drew.cell? ⟨w.heap.size + 1, 7, none⟩ = some (.slice ao L cv) ∧ (Instr.loadAt 28 (.pointer (some ⟨w1.heap.size, 0, none⟩))).run Tryd.prog (w1.alloc (Obj.cells (rf R') 28)).drew = .ok (.agg (rf R')) (w1.alloc (Obj.cells (rf R') 28)).drew := ⟨Rs_2, Ry_2, cell7 (Rs_2) 0 _ rfl, cell7 (Rs_2) 1 _ rfl, cell7 (Rs_2) 2 _ rfl, cell7 (Rs_2) 3 _ rfl, cell7 (Rs_2) 4 _ rfl, cell7 (Rs_2) 5 _ rfl, cell7 (Rs_2) 6 _ rfl, cell7 (Rs_2) 7 _ rfl, rf_la (Ry_2)⟩
  have rz : (w1.alloc (Obj.cells (rf R') 28)).drew.heap[w.heap.size + 1 + 1]? = some (.cells (rf fun _ => 0) 28) := Rz_2
  have hst := rf_store (R := R') rz
  have T2 := box (FB.out FF.out B2.drew)
  have H2 : Box ((w1.alloc (Obj.cells (rf R') 28)).drew.heap[b]? = some (.cells (rg R) tg)) := box (heap_of B2.drew _ _ _ HB.out)
  have BB := box B2.drew
  clear Rx_2 Rs_2 Ry_2 Rz_2 cs_2_0 cs_2_1 cs_2_2 cs_2_3 cs_2_4 cs_2_5 cs_2_6 cs_2_7
  have hu := Tryd.underlying28
  have hi : (Tryd.prog.info? 28).map (·.size) = some (rf R').toList.length := by rw [Array.length_toList, rf_size]; kernel_rfl
  go_wp2_with fail
  refine wp_region_held_drew (S := fun W => W.heap[w.heap.size + 1]? = some (.cells #[.int .i64 2, .int .i64 on, .int .i64 n, .int .u64 (X : Nat), .int .u64 (u : Nat), .int .u64 (v : Nat), .int .u8 fm, .slice ao L cv] 39) ∧ W.heap[w1.heap.size]? = some (.cells (rf R') 28) ∧ W.cell? ⟨w.heap.size + 1, 0, none⟩ = some (.int .i64 2) ∧ W.cell? ⟨w.heap.size + 1, 1, none⟩ = some (.int .i64 on) ∧ W.cell? ⟨w.heap.size + 1, 2, none⟩ = some (.int .i64 n) ∧ W.cell? ⟨w.heap.size + 1, 3, none⟩ = some (.int .u64 (X : Nat)) ∧ W.cell? ⟨w.heap.size + 1, 4, none⟩ = some (.int .u64 (u : Nat)) ∧ W.cell? ⟨w.heap.size + 1, 5, none⟩ = some (.int .u64 (v : Nat)) ∧ W.cell? ⟨w.heap.size + 1, 6, none⟩ = some (.int .u8 fm) ∧ W.cell? ⟨w.heap.size + 1, 7, none⟩ = some (.slice ao L cv) ∧ (Instr.loadAt 28 (.pointer (some ⟨w1.heap.size, 0, none⟩))).run Tryd.prog W = .ok (.agg (rf R')) W) (by kernel_rfl) s0 (fun hHeld => ?_)
  refine wpAnyH_take (i := 0) rfl (by kernel_rfl) (by kernel_rfl) (by kernel_rfl) (fun _ _ _ h => h) (yieldsIf_load_mid (by rfl) _ _ rfl _ _ rfl (rf R').toList _ (fun W h => rf_range h.2.1) hu rfl hi) (by assumption) ?_
  simp only [Array.toArray_toList]
  (try simp only [Act.put, List.getElem_toArray, List.getElem_cons_zero, List.getElem_cons_succ, List.setIfInBounds_toArray, List.set_cons_zero, List.set_cons_succ])
  refine wpAnyH_take (i := 1) (v := ?_) rfl (by kernel_rfl) (by kernel_rfl) (by kernel_rfl) (fun _ _ _ h => h) (Or.inl ⟨by rfl, ?_⟩) (by assumption) ?_
  rotate_left 1
  · intro W hSw
    try dsimp only at hSw
    go_simp
    try with_reducible rfl
  (try simp only [Act.put, List.getElem_toArray, List.getElem_cons_zero, List.getElem_cons_succ, List.setIfInBounds_toArray, List.set_cons_zero, List.set_cons_succ])
  refine wpAnyH_take (i := 2) (v := ?_) rfl (by kernel_rfl) (by kernel_rfl) (by kernel_rfl) (fun _ _ _ h => h) (Or.inl ⟨by rfl, ?_⟩) (by assumption) ?_
  rotate_left 1
  · intro W hSw
    try dsimp only at hSw
    go_simp
    try with_reducible rfl
  (try simp only [Act.put, List.getElem_toArray, List.getElem_cons_zero, List.getElem_cons_succ, List.setIfInBounds_toArray, List.set_cons_zero, List.set_cons_succ])
  refine wpAnyH_take (i := 3) (v := ?_) rfl (by kernel_rfl) (by kernel_rfl) (by kernel_rfl) (fun _ _ _ h => h) (Or.inl ⟨by rfl, ?_⟩) (by assumption) ?_
  rotate_left 1
  · intro W hSw
    try dsimp only at hSw
    go_simp
    try with_reducible rfl
  (try simp only [Act.put, List.getElem_toArray, List.getElem_cons_zero, List.getElem_cons_succ, List.setIfInBounds_toArray, List.set_cons_zero, List.set_cons_succ])
  refine wpAnyH_take (i := 4) (v := ?_) rfl (by kernel_rfl) (by kernel_rfl) (by kernel_rfl) (fun _ _ _ h => h) (Or.inl ⟨by rfl, ?_⟩) (by assumption) ?_
  rotate_left 1
  · intro W hSw
    try dsimp only at hSw
    go_simp
    try with_reducible rfl
  (try simp only [Act.put, List.getElem_toArray, List.getElem_cons_zero, List.getElem_cons_succ, List.setIfInBounds_toArray, List.set_cons_zero, List.set_cons_succ])
  refine wpAnyH_take (i := 5) (v := ?_) rfl (by kernel_rfl) (by kernel_rfl) (by kernel_rfl) (fun _ _ _ h => h) (Or.inl ⟨by rfl, ?_⟩) (by assumption) ?_
  rotate_left 1
  · intro W hSw
    try dsimp only at hSw
    go_simp
    try with_reducible rfl
  (try simp only [Act.put, List.getElem_toArray, List.getElem_cons_zero, List.getElem_cons_succ, List.setIfInBounds_toArray, List.set_cons_zero, List.set_cons_succ])
  refine wpAnyH_take (i := 6) (v := ?_) rfl (by kernel_rfl) (by kernel_rfl) (by kernel_rfl) (fun _ _ _ h => h) (Or.inl ⟨by rfl, ?_⟩) (by assumption) ?_
  rotate_left 1
  · intro W hSw
    try dsimp only at hSw
    go_simp
    try with_reducible rfl
  (try simp only [Act.put, List.getElem_toArray, List.getElem_cons_zero, List.getElem_cons_succ, List.setIfInBounds_toArray, List.set_cons_zero, List.set_cons_succ])
  refine wpAnyH_take (i := 7) (v := ?_) rfl (by kernel_rfl) (by kernel_rfl) (by kernel_rfl) (fun _ _ _ h => h) (Or.inl ⟨by rfl, ?_⟩) (by assumption) ?_
  rotate_left 1
  · intro W hSw
    try dsimp only at hSw
    go_simp
    try with_reducible rfl
  (try simp only [Act.put, List.getElem_toArray, List.getElem_cons_zero, List.getElem_cons_succ, List.setIfInBounds_toArray, List.set_cons_zero, List.set_cons_succ])
  refine wpAnyH_take (i := 9) (v := ?_) rfl (by kernel_rfl) (by kernel_rfl) (by kernel_rfl) (fun _ _ _ h => h) (Or.inl ⟨by rfl, ?_⟩) (by assumption) ?_
  rotate_left 1
  · intro W hSw
    try dsimp only at hSw
    go_simp
    try with_reducible rfl
  (try simp only [Act.put, List.getElem_toArray, List.getElem_cons_zero, List.getElem_cons_succ, List.setIfInBounds_toArray, List.set_cons_zero, List.set_cons_succ])
  refine wpAnyH_ready (rs := [8]) (by kernel_rfl) (by simp) ?_
  refine AllReadyH.cons rfl (fun K hK => ?_) AllReadyH.nil
  go_simp
  refine (KP.out _ T2.out H2.out).mono ?_
  rintro r wq ⟨rfl, rb, oq⟩
  have s1 := sS.out _ _ s0 oq
  have rz := Only.row oq (Ne.symm e1.out.2.1) rz
  have hst := rf_store (R := R') rz
  (try go_wp2_with fail)
  refine hK.out _ _ s1 (fun hHeld => ?_)
  clear hK K
  (try simp only [Act.put, List.getElem_toArray, List.getElem_cons_zero, List.getElem_cons_succ, List.setIfInBounds_toArray, List.set_cons_zero, List.set_cons_succ])
  refine wpAnyH_take (i := 10) (v := ?_) rfl (by kernel_rfl) (by kernel_rfl) (by kernel_rfl) (fun _ _ _ h => h) (Or.inl ⟨by rfl, ?_⟩) (by assumption) ?_
  rotate_left 1
  · intro W hSw
    try dsimp only at hSw
    go_simp
    try with_reducible rfl
  (try simp only [Act.put, List.getElem_toArray, List.getElem_cons_zero, List.getElem_cons_succ, List.setIfInBounds_toArray, List.set_cons_zero, List.set_cons_succ])
  refine wpAnyH_ready (rs := [11]) (by kernel_rfl) (by simp) ?_
  refine AllReadyH.cons rfl (fun K hK => ?_) AllReadyH.nil
  go_simp
  refine hK.out _ _ (sT.out _ _ s1) (fun hHeld => ?_)
  clear hK K
  (try simp only [Act.put, List.getElem_toArray, List.getElem_cons_zero, List.getElem_cons_succ, List.setIfInBounds_toArray, List.set_cons_zero, List.set_cons_succ])
  refine wpAnyH_take (i := 12) (v := ?_) rfl (by kernel_rfl) (by kernel_rfl) (by kernel_rfl) (fun _ _ _ h => h) (Or.inl ⟨by rfl, ?_⟩) (by assumption) ?_
  rotate_left 1
  · intro W hSw
    try dsimp only at hSw
    go_simp
    try with_reducible rfl
  (try simp only [Act.put, List.getElem_toArray, List.getElem_cons_zero, List.getElem_cons_succ, List.setIfInBounds_toArray, List.set_cons_zero, List.set_cons_succ])
  refine wpAnyH_done (by kernel_rfl) ?_ _
  go_wp2
  exact bodyPost_ret (v := .tuple #[.agg (rf R'), .bool true]) (res_rf2 Tryd.results11 (T := 28) rfl (setRow_row rz)) rfl ⟨rfl, (setRow_other (Ne.symm e1.out.2.1)).trans rb, (only_below BB.out oq).setRow (by omega)⟩
set_option maxRecDepth 100000 in
set_option maxHeartbeats 8000000 in
theorem bt_3 {T : World → Prop} (FB : Box (∀ {w w' : World}, T w → Below w.heap.size w w' → T w')) (rg : (Nat → Nat) → Array Value) (tg : TypeId) (R : Nat → Nat) (b : Nat) (on n fm e : Int) (X u v p q : Nat) (ao : Option Addr) (L cv : Nat) (he : IntKind.i64.wrap e = e)
    (KD : Box (∀ w, Calls Tryd.prog 33 #[.agg (rf R), .int .i64 n] w fun r w' => r = .returned (.tuple #[.int .u64 (p : Nat), .int .i64 e]) ∧ Below w.heap.size w w'))
    (KP : Box (∀ w, T w → w.heap[b]? = some (.cells (rg R) tg) → Calls Tryd.prog 20 #[.pointer (some ⟨b, 0, none⟩), .int .i64 n] w fun r w' => r = .returned (.tuple #[.int .u64 (p : Nat), .int .i64 e]) ∧ Below w.heap.size w w'))
    (w : World) (hT : T w) (hb : w.heap[b]? = some (.cells (rg R) tg)) :
    Calls Tryd.prog 11 #[.pointer (some ⟨b, 0, none⟩), .agg (rf R), .agg #[.int .i64 3, .int .i64 on, .int .i64 n, .int .u64 (X : Nat), .int .u64 (u : Nat), .int .u64 (v : Nat), .int .u8 fm, .slice ao L cv]] w fun r w' => r = .returned (.tuple #[.agg (rf R), .bool true]) ∧ Below w.heap.size w w' := by
  have FF := box hT
  have HB := box hb
  clear hT hb
  have hrz := rf_zero
  have hrs : ∀ R, ((rf R).size = 96) = True := fun R => eq_true (rf_size R)
  have hra := rf_at
  have hsn := rf_stn
  have heq := eqb
  have heb := ebb_own (p : Nat) (q : Nat)
  obtain ⟨Rx_0, Rs_0, Rz_0, B0⟩ := opn3 w (Obj.cells (rf R) 28) (Obj.cells #[.int .i64 3, .int .i64 on, .int .i64 n, .int .u64 (X : Nat), .int .u64 (u : Nat), .int .u64 (v : Nat), .int .u8 fm, .slice ao L cv] 39) (Obj.cells (rf fun _ => 0) 28)
  go_enter Tryd.func11, Tryd.ntmps11
  have cs_0_0 := cells4 Rs_0 0 _ rfl
  have cs_0_1 := cells4 Rs_0 1 _ rfl
  have cs_0_2 := cells4 Rs_0 2 _ rfl
  have cs_0_3 := cells4 Rs_0 3 _ rfl
  have cs_0_4 := cells4 Rs_0 4 _ rfl
  have cs_0_5 := cells4 Rs_0 5 _ rfl
  have cs_0_6 := cells4 Rs_0 6 _ rfl
  have cs_0_7 := cells4 Rs_0 7 _ rfl
  go_wp2_with (first | ((with_reducible (refine wpl_rf rfl _ rfl ?_ Rx_0 ?_)); rfl) | ((with_reducible (refine wp_rf _ rfl ?_ Rx_0 ?_)); rfl) | ((with_reducible (refine wpl_rf rfl _ rfl ?_ Rz_0 ?_)); rfl) | ((with_reducible (refine wp_rf _ rfl ?_ Rz_0 ?_)); rfl) | fail)
  refine (KP.out _ (FB.out FF.out B0) (heap_of B0 _ _ _ HB.out)).mono ?_
  rintro r w1 ⟨rfl, b1⟩
  have B1 : Below w.heap.size w w1 := btr B0 b1
  have Rx_1 := heap_of b1 _ _ _ Rx_0
  have Rs_1 := heap_of b1 _ _ _ Rs_0
  have Rz_1 := heap_of b1 _ _ _ Rz_0
  clear b1 B0 Rx_0 Rs_0 cs_0_0 cs_0_1 cs_0_2 cs_0_3 cs_0_4 cs_0_5 cs_0_6 cs_0_7 Rz_0
  have cs_1_0 := cells4 Rs_1 0 _ rfl
  have cs_1_1 := cells4 Rs_1 1 _ rfl
  have cs_1_2 := cells4 Rs_1 2 _ rfl
  have cs_1_3 := cells4 Rs_1 3 _ rfl
  have cs_1_4 := cells4 Rs_1 4 _ rfl
  have cs_1_5 := cells4 Rs_1 5 _ rfl
  have cs_1_6 := cells4 Rs_1 6 _ rfl
  have cs_1_7 := cells4 Rs_1 7 _ rfl
  go_wp2_with (first | ((with_reducible (refine wpl_rf rfl _ rfl ?_ Rx_1 ?_)); rfl) | ((with_reducible (refine wp_rf _ rfl ?_ Rx_1 ?_)); rfl) | ((with_reducible (refine wpl_rf rfl _ rfl ?_ Rz_1 ?_)); rfl) | ((with_reducible (refine wp_rf _ rfl ?_ Rz_1 ?_)); rfl) | fail)
  refine (KD.out _).mono ?_
  rintro r w2 ⟨rfl, b2⟩
  have B2 : Below w.heap.size w w2 := btr B1 b2
  have Rx_2 := heap_of b2 _ _ _ Rx_1
  have Rs_2 := heap_of b2 _ _ _ Rs_1
  have Rz_2 := heap_of b2 _ _ _ Rz_1
  clear b2 B1 Rx_1 Rs_1 cs_1_0 cs_1_1 cs_1_2 cs_1_3 cs_1_4 cs_1_5 cs_1_6 cs_1_7 Rz_1
  have cs_2_0 := cells4 Rs_2 0 _ rfl
  have cs_2_1 := cells4 Rs_2 1 _ rfl
  have cs_2_2 := cells4 Rs_2 2 _ rfl
  have cs_2_3 := cells4 Rs_2 3 _ rfl
  have cs_2_4 := cells4 Rs_2 4 _ rfl
  have cs_2_5 := cells4 Rs_2 5 _ rfl
  have cs_2_6 := cells4 Rs_2 6 _ rfl
  have cs_2_7 := cells4 Rs_2 7 _ rfl
  have hst := rf_store (R := R) Rz_2
  go_wp2_with (first | ((with_reducible (refine wpl_rf rfl _ rfl ?_ Rx_2 ?_)); rfl) | ((with_reducible (refine wp_rf _ rfl ?_ Rx_2 ?_)); rfl) | ((with_reducible (refine wpl_rf rfl _ rfl ?_ Rz_2 ?_)); rfl) | ((with_reducible (refine wp_rf _ rfl ?_ Rz_2 ?_)); rfl) | fail)
  exact bodyPost_ret (v := .tuple #[.agg (rf R), .bool true]) (res_rf2 Tryd.results11 (T := 28) rfl (setRow_row Rz_2)) rfl ⟨rfl, Below.setRow B2 (by omega)⟩
set_option maxRecDepth 100000 in
set_option maxHeartbeats 8000000 in
theorem bt_4 {T : World → Prop} (FB : Box (∀ {w w' : World}, T w → Below w.heap.size w w' → T w')) (rg : (Nat → Nat) → Array Value) (tg : TypeId) (R : Nat → Nat) (b : Nat) (on n fm e : Int) (X u v p q : Nat) (ao : Option Addr) (L cv : Nat) (he : IntKind.i64.wrap e = e)
    (KD : Box (∀ w, Calls Tryd.prog 34 #[.agg (rf R), .int .i64 n] w fun r w' => r = .returned (.tuple #[.agg #[.int .u64 (p : Nat), .int .u64 (q : Nat)], .int .i64 e]) ∧ Below w.heap.size w w'))
    (KP : Box (∀ w, T w → w.heap[b]? = some (.cells (rg R) tg) → Calls Tryd.prog 21 #[.pointer (some ⟨b, 0, none⟩), .int .i64 n] w fun r w' => r = .returned (.tuple #[.agg #[.int .u64 (p : Nat), .int .u64 (q : Nat)], .int .i64 e]) ∧ Below w.heap.size w w'))
    (w : World) (hT : T w) (hb : w.heap[b]? = some (.cells (rg R) tg)) :
    Calls Tryd.prog 11 #[.pointer (some ⟨b, 0, none⟩), .agg (rf R), .agg #[.int .i64 4, .int .i64 on, .int .i64 n, .int .u64 (X : Nat), .int .u64 (u : Nat), .int .u64 (v : Nat), .int .u8 fm, .slice ao L cv]] w fun r w' => r = .returned (.tuple #[.agg (rf R), .bool true]) ∧ Below w.heap.size w w' := by
  have FF := box hT
  have HB := box hb
  clear hT hb
  have hrz := rf_zero
  have hrs : ∀ R, ((rf R).size = 96) = True := fun R => eq_true (rf_size R)
  have hra := rf_at
  have hsn := rf_stn
  have heq := eqb
  have heb := ebb_own (p : Nat) (q : Nat)
  obtain ⟨Rx_0, Rs_0, Rz_0, B0⟩ := opn3 w (Obj.cells (rf R) 28) (Obj.cells #[.int .i64 4, .int .i64 on, .int .i64 n, .int .u64 (X : Nat), .int .u64 (u : Nat), .int .u64 (v : Nat), .int .u8 fm, .slice ao L cv] 39) (Obj.cells (rf fun _ => 0) 28)
  go_enter Tryd.func11, Tryd.ntmps11
  have cs_0_0 := cells4 Rs_0 0 _ rfl
  have cs_0_1 := cells4 Rs_0 1 _ rfl
  have cs_0_2 := cells4 Rs_0 2 _ rfl
  have cs_0_3 := cells4 Rs_0 3 _ rfl
  have cs_0_4 := cells4 Rs_0 4 _ rfl
  have cs_0_5 := cells4 Rs_0 5 _ rfl
  have cs_0_6 := cells4 Rs_0 6 _ rfl
  have cs_0_7 := cells4 Rs_0 7 _ rfl
  go_wp2_with (first | ((with_reducible (refine wpl_rf rfl _ rfl ?_ Rx_0 ?_)); rfl) | ((with_reducible (refine wp_rf _ rfl ?_ Rx_0 ?_)); rfl) | ((with_reducible (refine wpl_rf rfl _ rfl ?_ Rz_0 ?_)); rfl) | ((with_reducible (refine wp_rf _ rfl ?_ Rz_0 ?_)); rfl) | fail)
  refine (KP.out _ (FB.out FF.out B0) (heap_of B0 _ _ _ HB.out)).mono ?_
  rintro r w1 ⟨rfl, b1⟩
  have B1 : Below w.heap.size w w1 := btr B0 b1
  have Rx_1 := heap_of b1 _ _ _ Rx_0
  have Rs_1 := heap_of b1 _ _ _ Rs_0
  have Rz_1 := heap_of b1 _ _ _ Rz_0
  clear b1 B0 Rx_0 Rs_0 cs_0_0 cs_0_1 cs_0_2 cs_0_3 cs_0_4 cs_0_5 cs_0_6 cs_0_7 Rz_0
  have cs_1_0 := cells4 Rs_1 0 _ rfl
  have cs_1_1 := cells4 Rs_1 1 _ rfl
  have cs_1_2 := cells4 Rs_1 2 _ rfl
  have cs_1_3 := cells4 Rs_1 3 _ rfl
  have cs_1_4 := cells4 Rs_1 4 _ rfl
  have cs_1_5 := cells4 Rs_1 5 _ rfl
  have cs_1_6 := cells4 Rs_1 6 _ rfl
  have cs_1_7 := cells4 Rs_1 7 _ rfl
  have S2 := box B1.size
  have Lx_2 : Box (w.heap.size < w1.heap.size) := box (Array.getElem?_eq_some_iff.1 Rx_1).1
  have Ls_2 : Box (w.heap.size + 1 < w1.heap.size) := box (Array.getElem?_eq_some_iff.1 Rs_1).1
  have Lz_2 : Box (w.heap.size + 1 + 1 < w1.heap.size) := box (Array.getElem?_eq_some_iff.1 Rz_1).1
  have Ra_2 := heap_alloc_last w1 (Obj.cells #[.int .u64 (p : Nat), .int .u64 (q : Nat)] 25)
  have B2 := btr B1 (bal w1 (Obj.cells #[.int .u64 (p : Nat), .int .u64 (q : Nat)] 25))
  have Rx_2 := heap_of (bal w1 (Obj.cells #[.int .u64 (p : Nat), .int .u64 (q : Nat)] 25)) _ _ _ Rx_1
  have Rs_2 := heap_of (bal w1 (Obj.cells #[.int .u64 (p : Nat), .int .u64 (q : Nat)] 25)) _ _ _ Rs_1
  have Rz_2 := heap_of (bal w1 (Obj.cells #[.int .u64 (p : Nat), .int .u64 (q : Nat)] 25)) _ _ _ Rz_1
  clear B1 Rx_1 Rs_1 cs_1_0 cs_1_1 cs_1_2 cs_1_3 cs_1_4 cs_1_5 cs_1_6 cs_1_7 Rz_1
  have cs_2_0 := cells4 Rs_2 0 _ rfl
  have cs_2_1 := cells4 Rs_2 1 _ rfl
  have cs_2_2 := cells4 Rs_2 2 _ rfl
  have cs_2_3 := cells4 Rs_2 3 _ rfl
  have cs_2_4 := cells4 Rs_2 4 _ rfl
  have cs_2_5 := cells4 Rs_2 5 _ rfl
  have cs_2_6 := cells4 Rs_2 6 _ rfl
  have cs_2_7 := cells4 Rs_2 7 _ rfl
  obtain ⟨ca_2_0, ca_2_1⟩ := cells2s Ra_2
  go_wp2_with (first | ((with_reducible (refine wpl_rf rfl _ rfl ?_ Rx_2 ?_)); rfl) | ((with_reducible (refine wp_rf _ rfl ?_ Rx_2 ?_)); rfl) | ((with_reducible (refine wpl_rf rfl _ rfl ?_ Rz_2 ?_)); rfl) | ((with_reducible (refine wp_rf _ rfl ?_ Rz_2 ?_)); rfl) | fail)
  refine (KD.out _).mono ?_
  rintro r w3 ⟨rfl, b3⟩
  have B3 : Below w.heap.size w w3 := btr B2 b3
  have Rx_3 := heap_of b3 _ _ _ Rx_2
  have Rs_3 := heap_of b3 _ _ _ Rs_2
  have Rz_3 := heap_of b3 _ _ _ Rz_2
  have Ra_3 := heap_of b3 _ _ _ Ra_2
  clear b3 B2 Rx_2 Rs_2 cs_2_0 cs_2_1 cs_2_2 cs_2_3 cs_2_4 cs_2_5 cs_2_6 cs_2_7 Rz_2 Ra_2 ca_2_0 ca_2_1
  have cs_3_0 := cells4 Rs_3 0 _ rfl
  have cs_3_1 := cells4 Rs_3 1 _ rfl
  have cs_3_2 := cells4 Rs_3 2 _ rfl
  have cs_3_3 := cells4 Rs_3 3 _ rfl
  have cs_3_4 := cells4 Rs_3 4 _ rfl
  have cs_3_5 := cells4 Rs_3 5 _ rfl
  have cs_3_6 := cells4 Rs_3 6 _ rfl
  have cs_3_7 := cells4 Rs_3 7 _ rfl
  obtain ⟨ca_3_0, ca_3_1⟩ := cells2s Ra_3
  have S4 := box B3.size
  have Lx_4 : Box (w.heap.size < w3.heap.size) := box (Array.getElem?_eq_some_iff.1 Rx_3).1
  have Ls_4 : Box (w.heap.size + 1 < w3.heap.size) := box (Array.getElem?_eq_some_iff.1 Rs_3).1
  have Lz_4 : Box (w.heap.size + 1 + 1 < w3.heap.size) := box (Array.getElem?_eq_some_iff.1 Rz_3).1
  have La_4 : Box (w1.heap.size < w3.heap.size) := box (Array.getElem?_eq_some_iff.1 Ra_3).1
  have Rd_4 := heap_alloc_last w3 (Obj.cells #[.int .u64 (p : Nat), .int .u64 (q : Nat)] 25)
  have B4 := btr B3 (bal w3 (Obj.cells #[.int .u64 (p : Nat), .int .u64 (q : Nat)] 25))
  have Rx_4 := heap_of (bal w3 (Obj.cells #[.int .u64 (p : Nat), .int .u64 (q : Nat)] 25)) _ _ _ Rx_3
  have Rs_4 := heap_of (bal w3 (Obj.cells #[.int .u64 (p : Nat), .int .u64 (q : Nat)] 25)) _ _ _ Rs_3
  have Rz_4 := heap_of (bal w3 (Obj.cells #[.int .u64 (p : Nat), .int .u64 (q : Nat)] 25)) _ _ _ Rz_3
  have Ra_4 := heap_of (bal w3 (Obj.cells #[.int .u64 (p : Nat), .int .u64 (q : Nat)] 25)) _ _ _ Ra_3
  clear B3 Rx_3 Rs_3 cs_3_0 cs_3_1 cs_3_2 cs_3_3 cs_3_4 cs_3_5 cs_3_6 cs_3_7 Rz_3 Ra_3 ca_3_0 ca_3_1
  have cs_4_0 := cells4 Rs_4 0 _ rfl
  have cs_4_1 := cells4 Rs_4 1 _ rfl
  have cs_4_2 := cells4 Rs_4 2 _ rfl
  have cs_4_3 := cells4 Rs_4 3 _ rfl
  have cs_4_4 := cells4 Rs_4 4 _ rfl
  have cs_4_5 := cells4 Rs_4 5 _ rfl
  have cs_4_6 := cells4 Rs_4 6 _ rfl
  have cs_4_7 := cells4 Rs_4 7 _ rfl
  obtain ⟨ca_4_0, ca_4_1⟩ := cells2s Ra_4
  obtain ⟨cd_4_0, cd_4_1⟩ := cells2s Rd_4
  have e1 : Box (w.heap.size + 1 + 1 < w1.heap.size ∧ w.heap.size + 1 + 1 < w3.heap.size) := box ⟨Lz_2.out, Lz_4.out⟩
  have s0 : (w3.alloc (Obj.cells #[.int .u64 (p : Nat), .int .u64 (q : Nat)] 25)).drew.heap[w.heap.size]? = some (.cells (rf R) 28) ∧ (w3.alloc (Obj.cells #[.int .u64 (p : Nat), .int .u64 (q : Nat)] 25)).drew.cell? ⟨w1.heap.size, 0, none⟩ = some (.int .u64 (p : Nat)) ∧ (w3.alloc (Obj.cells #[.int .u64 (p : Nat), .int .u64 (q : Nat)] 25)).drew.cell? ⟨w1.heap.size, 1, none⟩ = some (.int .u64 (q : Nat)) ∧ (w3.alloc (Obj.cells #[.int .u64 (p : Nat), .int .u64 (q : Nat)] 25)).drew.cell? ⟨w3.heap.size, 0, none⟩ = some (.int .u64 (p : Nat)) ∧ (w3.alloc (Obj.cells #[.int .u64 (p : Nat), .int .u64 (q : Nat)] 25)).drew.cell? ⟨w3.heap.size, 1, none⟩ = some (.int .u64 (q : Nat)) := ⟨Rx_4, cell7 Ra_4 0 _ rfl, cell7 Ra_4 1 _ rfl, cell7 Rd_4 0 _ rfl, cell7 Rd_4 1 _ rfl⟩
  have s1 : ((w3.alloc (Obj.cells #[.int .u64 (p : Nat), .int .u64 (q : Nat)] 25)).drew.setRow (w.heap.size + 1 + 1) (rf R)).heap[w.heap.size]? = some (.cells (rf R) 28) ∧ ((w3.alloc (Obj.cells #[.int .u64 (p : Nat), .int .u64 (q : Nat)] 25)).drew.setRow (w.heap.size + 1 + 1) (rf R)).cell? ⟨w1.heap.size, 0, none⟩ = some (.int .u64 (p : Nat)) ∧ ((w3.alloc (Obj.cells #[.int .u64 (p : Nat), .int .u64 (q : Nat)] 25)).drew.setRow (w.heap.size + 1 + 1) (rf R)).cell? ⟨w1.heap.size, 1, none⟩ = some (.int .u64 (q : Nat)) ∧ ((w3.alloc (Obj.cells #[.int .u64 (p : Nat), .int .u64 (q : Nat)] 25)).drew.setRow (w.heap.size + 1 + 1) (rf R)).cell? ⟨w3.heap.size, 0, none⟩ = some (.int .u64 (p : Nat)) ∧ ((w3.alloc (Obj.cells #[.int .u64 (p : Nat), .int .u64 (q : Nat)] 25)).drew.setRow (w.heap.size + 1 + 1) (rf R)).cell? ⟨w3.heap.size, 1, none⟩ = some (.int .u64 (q : Nat)) := ⟨(setRow_other (by omega)).trans Rx_4, cell7 ((setRow_other (by have := e1.out; omega)).trans Ra_4) 0 _ rfl, cell7 ((setRow_other (by have := e1.out; omega)).trans Ra_4) 1 _ rfl, cell7 ((setRow_other (by have := e1.out; omega)).trans Rd_4) 0 _ rfl, cell7 ((setRow_other (by have := e1.out; omega)).trans Rd_4) 1 _ rfl⟩
  have rz : (w3.alloc (Obj.cells #[.int .u64 (p : Nat), .int .u64 (q : Nat)] 25)).drew.heap[w.heap.size + 1 + 1]? = some (.cells (rf fun _ => 0) 28) := Rz_4
  have hst := rf_store (R := R) rz
  have BB := box B4.drew
  clear Rx_4 Rs_4 Ra_4 Rd_4 Rz_4 cs_4_0 cs_4_1 cs_4_2 cs_4_3 cs_4_4 cs_4_5 cs_4_6 cs_4_7 ca_4_0 ca_4_1 cd_4_0 cd_4_1
  have hu := Tryd.underlying28
  have hi : (Tryd.prog.info? 28).map (·.size) = some (rf R).toList.length := by rw [Array.length_toList, rf_size]; kernel_rfl
  go_wp2_with fail
  refine wp_region_held_drew (S := fun W => W.heap[w.heap.size]? = some (.cells (rf R) 28) ∧ W.cell? ⟨w1.heap.size, 0, none⟩ = some (.int .u64 (p : Nat)) ∧ W.cell? ⟨w1.heap.size, 1, none⟩ = some (.int .u64 (q : Nat)) ∧ W.cell? ⟨w3.heap.size, 0, none⟩ = some (.int .u64 (p : Nat)) ∧ W.cell? ⟨w3.heap.size, 1, none⟩ = some (.int .u64 (q : Nat))) (by kernel_rfl) s0 (fun hHeld => ?_)
  refine wpAnyH_take (i := 0) rfl (by kernel_rfl) (by kernel_rfl) (by kernel_rfl) (fun _ _ _ h => h) (yieldsIf_load_mid (by rfl) _ _ rfl _ _ rfl (rf R).toList _ (fun W h => rf_range h.1) hu rfl hi) (by assumption) ?_
  simp only [Array.toArray_toList]
  (try simp only [Act.put, List.getElem_toArray, List.getElem_cons_zero, List.getElem_cons_succ, List.setIfInBounds_toArray, List.set_cons_zero, List.set_cons_succ])
  refine wpAnyH_take (i := 1) (v := ?_) rfl (by kernel_rfl) (by kernel_rfl) (by kernel_rfl) (fun _ _ _ h => h) (Or.inl ⟨by rfl, ?_⟩) (by assumption) ?_
  rotate_left 1
  · intro W hSw
    try dsimp only at hSw
    go_simp
    try with_reducible rfl
  (try simp only [Act.put, List.getElem_toArray, List.getElem_cons_zero, List.getElem_cons_succ, List.setIfInBounds_toArray, List.set_cons_zero, List.set_cons_succ])
  refine wpAnyH_take (i := 2) (v := ?_) rfl (by kernel_rfl) (by kernel_rfl) (by kernel_rfl) (fun _ _ _ h => h) (Or.inl ⟨by rfl, ?_⟩) (by assumption) ?_
  rotate_left 1
  · intro W hSw
    try dsimp only at hSw
    go_simp
    try with_reducible rfl
  (try simp only [Act.put, List.getElem_toArray, List.getElem_cons_zero, List.getElem_cons_succ, List.setIfInBounds_toArray, List.set_cons_zero, List.set_cons_succ])
  refine wpAnyH_take (i := 3) (v := ?_) rfl (by kernel_rfl) (by kernel_rfl) (by kernel_rfl) (fun _ _ _ h => h) (Or.inl ⟨by rfl, ?_⟩) (by assumption) ?_
  rotate_left 1
  · intro W hSw
    try dsimp only at hSw
    go_simp
    try with_reducible rfl
  (try simp only [Act.put, List.getElem_toArray, List.getElem_cons_zero, List.getElem_cons_succ, List.setIfInBounds_toArray, List.set_cons_zero, List.set_cons_succ])
  refine wpAnyH_take (i := 4) (v := ?_) rfl (by kernel_rfl) (by kernel_rfl) (by kernel_rfl) (fun _ _ _ h => h) (Or.inl ⟨by rfl, ?_⟩) (by assumption) ?_
  rotate_left 1
  · intro W hSw
    try dsimp only at hSw
    go_simp
    try with_reducible rfl
  (try simp only [Act.put, List.getElem_toArray, List.getElem_cons_zero, List.getElem_cons_succ, List.setIfInBounds_toArray, List.set_cons_zero, List.set_cons_succ])
  refine wpAnyH_take (i := 5) (v := ?_) rfl (by kernel_rfl) (by kernel_rfl) (by kernel_rfl) (fun _ _ _ h => h) (Or.inl ⟨by rfl, ?_⟩) (by assumption) ?_
  rotate_left 1
  · intro W hSw
    try dsimp only at hSw
    go_simp
    try with_reducible rfl
  (try simp only [Act.put, List.getElem_toArray, List.getElem_cons_zero, List.getElem_cons_succ, List.setIfInBounds_toArray, List.set_cons_zero, List.set_cons_succ])
  refine wpAnyH_take (i := 6) (v := ?_) rfl (by kernel_rfl) (by kernel_rfl) (by kernel_rfl) (fun _ _ _ h => h) (Or.inl ⟨by rfl, ?_⟩) (by assumption) ?_
  rotate_left 1
  · intro W hSw
    try dsimp only at hSw
    go_simp
    try with_reducible rfl
  (try simp only [Act.put, List.getElem_toArray, List.getElem_cons_zero, List.getElem_cons_succ, List.setIfInBounds_toArray, List.set_cons_zero, List.set_cons_succ])
  refine wpAnyH_take (i := 7) (v := ?_) rfl (by kernel_rfl) (by kernel_rfl) (by kernel_rfl) (fun _ _ _ h => h) (Or.inl ⟨by rfl, ?_⟩) (by assumption) ?_
  rotate_left 1
  · intro W hSw
    try dsimp only at hSw
    go_simp
    try with_reducible rfl
  (try simp only [Act.put, List.getElem_toArray, List.getElem_cons_zero, List.getElem_cons_succ, List.setIfInBounds_toArray, List.set_cons_zero, List.set_cons_succ])
  refine wpAnyH_take (i := 8) (v := ?_) rfl (by kernel_rfl) (by kernel_rfl) (by kernel_rfl) (fun _ _ _ h => h) (Or.inl ⟨by rfl, ?_⟩) (by assumption) ?_
  rotate_left 1
  · intro W hSw
    try dsimp only at hSw
    go_simp
    try with_reducible rfl
  (try simp only [Act.put, List.getElem_toArray, List.getElem_cons_zero, List.getElem_cons_succ, List.setIfInBounds_toArray, List.set_cons_zero, List.set_cons_succ])
  refine wpAnyH_ready (rs := [9]) (by kernel_rfl) (by simp) ?_
  refine AllReadyH.cons rfl (fun K hK => ?_) AllReadyH.nil
  go_simp
  refine hK.out _ _ s1 (fun hHeld => ?_)
  clear hK K
  (try simp only [Act.put, List.getElem_toArray, List.getElem_cons_zero, List.getElem_cons_succ, List.setIfInBounds_toArray, List.set_cons_zero, List.set_cons_succ])
  refine wpAnyH_take (i := 10) (v := ?_) rfl (by kernel_rfl) (by kernel_rfl) (by kernel_rfl) (fun _ _ _ h => h) (Or.inl ⟨by rfl, ?_⟩) (by assumption) ?_
  rotate_left 1
  · intro W hSw
    try dsimp only at hSw
    go_simp
    try with_reducible rfl
  (try simp only [Act.put, List.getElem_toArray, List.getElem_cons_zero, List.getElem_cons_succ, List.setIfInBounds_toArray, List.set_cons_zero, List.set_cons_succ])
  refine wpAnyH_done (by kernel_rfl) ?_ _
  go_wp2
  exact bodyPost_ret (v := .tuple #[.agg (rf R), .bool true]) (res_rf2 Tryd.results11 (T := 28) rfl (setRow_row rz)) rfl ⟨rfl, Below.setRow BB.out (by omega)⟩
set_option maxRecDepth 100000 in
set_option maxHeartbeats 8000000 in
theorem bt_5 {T : World → Prop} (FB : Box (∀ {w w' : World}, T w → Below w.heap.size w w' → T w')) (rg : (Nat → Nat) → Array Value) (tg : TypeId) (R : Nat → Nat) (b : Nat) (on n fm e : Int) (X u v p q : Nat) (ao : Option Addr) (L cv : Nat) (he : IntKind.i64.wrap e = e)
    (KD : Box (∀ w, Calls Tryd.prog 35 #[.agg (rf R), .int .u8 fm, .int .i64 n] w fun r w' => r = .returned (.tuple #[.agg #[.int .u64 (p : Nat), .int .u64 (q : Nat)], .int .i64 e]) ∧ Below w.heap.size w w'))
    (KP : Box (∀ w, T w → w.heap[b]? = some (.cells (rg R) tg) → Calls Tryd.prog 22 #[.pointer (some ⟨b, 0, none⟩), .int .u8 fm, .int .i64 n] w fun r w' => r = .returned (.tuple #[.agg #[.int .u64 (p : Nat), .int .u64 (q : Nat)], .int .i64 e]) ∧ Below w.heap.size w w'))
    (w : World) (hT : T w) (hb : w.heap[b]? = some (.cells (rg R) tg)) :
    Calls Tryd.prog 11 #[.pointer (some ⟨b, 0, none⟩), .agg (rf R), .agg #[.int .i64 5, .int .i64 on, .int .i64 n, .int .u64 (X : Nat), .int .u64 (u : Nat), .int .u64 (v : Nat), .int .u8 fm, .slice ao L cv]] w fun r w' => r = .returned (.tuple #[.agg (rf R), .bool true]) ∧ Below w.heap.size w w' := by
  have FF := box hT
  have HB := box hb
  clear hT hb
  have hrz := rf_zero
  have hrs : ∀ R, ((rf R).size = 96) = True := fun R => eq_true (rf_size R)
  have hra := rf_at
  have hsn := rf_stn
  have heq := eqb
  have heb := ebb_own (p : Nat) (q : Nat)
  obtain ⟨Rx_0, Rs_0, Rz_0, B0⟩ := opn3 w (Obj.cells (rf R) 28) (Obj.cells #[.int .i64 5, .int .i64 on, .int .i64 n, .int .u64 (X : Nat), .int .u64 (u : Nat), .int .u64 (v : Nat), .int .u8 fm, .slice ao L cv] 39) (Obj.cells (rf fun _ => 0) 28)
  go_enter Tryd.func11, Tryd.ntmps11
  have cs_0_0 := cells4 Rs_0 0 _ rfl
  have cs_0_1 := cells4 Rs_0 1 _ rfl
  have cs_0_2 := cells4 Rs_0 2 _ rfl
  have cs_0_3 := cells4 Rs_0 3 _ rfl
  have cs_0_4 := cells4 Rs_0 4 _ rfl
  have cs_0_5 := cells4 Rs_0 5 _ rfl
  have cs_0_6 := cells4 Rs_0 6 _ rfl
  have cs_0_7 := cells4 Rs_0 7 _ rfl
  go_wp2_with (first | ((with_reducible (refine wpl_rf rfl _ rfl ?_ Rx_0 ?_)); rfl) | ((with_reducible (refine wp_rf _ rfl ?_ Rx_0 ?_)); rfl) | ((with_reducible (refine wpl_rf rfl _ rfl ?_ Rz_0 ?_)); rfl) | ((with_reducible (refine wp_rf _ rfl ?_ Rz_0 ?_)); rfl) | fail)
  refine (KP.out _ (FB.out FF.out B0) (heap_of B0 _ _ _ HB.out)).mono ?_
  rintro r w1 ⟨rfl, b1⟩
  have B1 : Below w.heap.size w w1 := btr B0 b1
  have Rx_1 := heap_of b1 _ _ _ Rx_0
  have Rs_1 := heap_of b1 _ _ _ Rs_0
  have Rz_1 := heap_of b1 _ _ _ Rz_0
  clear b1 B0 Rx_0 Rs_0 cs_0_0 cs_0_1 cs_0_2 cs_0_3 cs_0_4 cs_0_5 cs_0_6 cs_0_7 Rz_0
  have cs_1_0 := cells4 Rs_1 0 _ rfl
  have cs_1_1 := cells4 Rs_1 1 _ rfl
  have cs_1_2 := cells4 Rs_1 2 _ rfl
  have cs_1_3 := cells4 Rs_1 3 _ rfl
  have cs_1_4 := cells4 Rs_1 4 _ rfl
  have cs_1_5 := cells4 Rs_1 5 _ rfl
  have cs_1_6 := cells4 Rs_1 6 _ rfl
  have cs_1_7 := cells4 Rs_1 7 _ rfl
  have S2 := box B1.size
  have Lx_2 : Box (w.heap.size < w1.heap.size) := box (Array.getElem?_eq_some_iff.1 Rx_1).1
  have Ls_2 : Box (w.heap.size + 1 < w1.heap.size) := box (Array.getElem?_eq_some_iff.1 Rs_1).1
  have Lz_2 : Box (w.heap.size + 1 + 1 < w1.heap.size) := box (Array.getElem?_eq_some_iff.1 Rz_1).1
  have Ra_2 := heap_alloc_last w1 (Obj.cells #[.int .u64 (p : Nat), .int .u64 (q : Nat)] 25)
  have B2 := btr B1 (bal w1 (Obj.cells #[.int .u64 (p : Nat), .int .u64 (q : Nat)] 25))
  have Rx_2 := heap_of (bal w1 (Obj.cells #[.int .u64 (p : Nat), .int .u64 (q : Nat)] 25)) _ _ _ Rx_1
  have Rs_2 := heap_of (bal w1 (Obj.cells #[.int .u64 (p : Nat), .int .u64 (q : Nat)] 25)) _ _ _ Rs_1
  have Rz_2 := heap_of (bal w1 (Obj.cells #[.int .u64 (p : Nat), .int .u64 (q : Nat)] 25)) _ _ _ Rz_1
  clear B1 Rx_1 Rs_1 cs_1_0 cs_1_1 cs_1_2 cs_1_3 cs_1_4 cs_1_5 cs_1_6 cs_1_7 Rz_1
  have cs_2_0 := cells4 Rs_2 0 _ rfl
  have cs_2_1 := cells4 Rs_2 1 _ rfl
  have cs_2_2 := cells4 Rs_2 2 _ rfl
  have cs_2_3 := cells4 Rs_2 3 _ rfl
  have cs_2_4 := cells4 Rs_2 4 _ rfl
  have cs_2_5 := cells4 Rs_2 5 _ rfl
  have cs_2_6 := cells4 Rs_2 6 _ rfl
  have cs_2_7 := cells4 Rs_2 7 _ rfl
  obtain ⟨ca_2_0, ca_2_1⟩ := cells2s Ra_2
  go_wp2_with (first | ((with_reducible (refine wpl_rf rfl _ rfl ?_ Rx_2 ?_)); rfl) | ((with_reducible (refine wp_rf _ rfl ?_ Rx_2 ?_)); rfl) | ((with_reducible (refine wpl_rf rfl _ rfl ?_ Rz_2 ?_)); rfl) | ((with_reducible (refine wp_rf _ rfl ?_ Rz_2 ?_)); rfl) | fail)
  refine (KD.out _).mono ?_
  rintro r w3 ⟨rfl, b3⟩
  have B3 : Below w.heap.size w w3 := btr B2 b3
  have Rx_3 := heap_of b3 _ _ _ Rx_2
  have Rs_3 := heap_of b3 _ _ _ Rs_2
  have Rz_3 := heap_of b3 _ _ _ Rz_2
  have Ra_3 := heap_of b3 _ _ _ Ra_2
  clear b3 B2 Rx_2 Rs_2 cs_2_0 cs_2_1 cs_2_2 cs_2_3 cs_2_4 cs_2_5 cs_2_6 cs_2_7 Rz_2 Ra_2 ca_2_0 ca_2_1
  have cs_3_0 := cells4 Rs_3 0 _ rfl
  have cs_3_1 := cells4 Rs_3 1 _ rfl
  have cs_3_2 := cells4 Rs_3 2 _ rfl
  have cs_3_3 := cells4 Rs_3 3 _ rfl
  have cs_3_4 := cells4 Rs_3 4 _ rfl
  have cs_3_5 := cells4 Rs_3 5 _ rfl
  have cs_3_6 := cells4 Rs_3 6 _ rfl
  have cs_3_7 := cells4 Rs_3 7 _ rfl
  obtain ⟨ca_3_0, ca_3_1⟩ := cells2s Ra_3
  have S4 := box B3.size
  have Lx_4 : Box (w.heap.size < w3.heap.size) := box (Array.getElem?_eq_some_iff.1 Rx_3).1
  have Ls_4 : Box (w.heap.size + 1 < w3.heap.size) := box (Array.getElem?_eq_some_iff.1 Rs_3).1
  have Lz_4 : Box (w.heap.size + 1 + 1 < w3.heap.size) := box (Array.getElem?_eq_some_iff.1 Rz_3).1
  have La_4 : Box (w1.heap.size < w3.heap.size) := box (Array.getElem?_eq_some_iff.1 Ra_3).1
  have Rd_4 := heap_alloc_last w3 (Obj.cells #[.int .u64 (p : Nat), .int .u64 (q : Nat)] 25)
  have B4 := btr B3 (bal w3 (Obj.cells #[.int .u64 (p : Nat), .int .u64 (q : Nat)] 25))
  have Rx_4 := heap_of (bal w3 (Obj.cells #[.int .u64 (p : Nat), .int .u64 (q : Nat)] 25)) _ _ _ Rx_3
  have Rs_4 := heap_of (bal w3 (Obj.cells #[.int .u64 (p : Nat), .int .u64 (q : Nat)] 25)) _ _ _ Rs_3
  have Rz_4 := heap_of (bal w3 (Obj.cells #[.int .u64 (p : Nat), .int .u64 (q : Nat)] 25)) _ _ _ Rz_3
  have Ra_4 := heap_of (bal w3 (Obj.cells #[.int .u64 (p : Nat), .int .u64 (q : Nat)] 25)) _ _ _ Ra_3
  clear B3 Rx_3 Rs_3 cs_3_0 cs_3_1 cs_3_2 cs_3_3 cs_3_4 cs_3_5 cs_3_6 cs_3_7 Rz_3 Ra_3 ca_3_0 ca_3_1
  have cs_4_0 := cells4 Rs_4 0 _ rfl
  have cs_4_1 := cells4 Rs_4 1 _ rfl
  have cs_4_2 := cells4 Rs_4 2 _ rfl
  have cs_4_3 := cells4 Rs_4 3 _ rfl
  have cs_4_4 := cells4 Rs_4 4 _ rfl
  have cs_4_5 := cells4 Rs_4 5 _ rfl
  have cs_4_6 := cells4 Rs_4 6 _ rfl
  have cs_4_7 := cells4 Rs_4 7 _ rfl
  obtain ⟨ca_4_0, ca_4_1⟩ := cells2s Ra_4
  obtain ⟨cd_4_0, cd_4_1⟩ := cells2s Rd_4
  have e1 : Box (w.heap.size + 1 + 1 < w1.heap.size ∧ w.heap.size + 1 + 1 < w3.heap.size) := box ⟨Lz_2.out, Lz_4.out⟩
  have s0 : (w3.alloc (Obj.cells #[.int .u64 (p : Nat), .int .u64 (q : Nat)] 25)).drew.heap[w.heap.size]? = some (.cells (rf R) 28) ∧ (w3.alloc (Obj.cells #[.int .u64 (p : Nat), .int .u64 (q : Nat)] 25)).drew.cell? ⟨w1.heap.size, 0, none⟩ = some (.int .u64 (p : Nat)) ∧ (w3.alloc (Obj.cells #[.int .u64 (p : Nat), .int .u64 (q : Nat)] 25)).drew.cell? ⟨w1.heap.size, 1, none⟩ = some (.int .u64 (q : Nat)) ∧ (w3.alloc (Obj.cells #[.int .u64 (p : Nat), .int .u64 (q : Nat)] 25)).drew.cell? ⟨w3.heap.size, 0, none⟩ = some (.int .u64 (p : Nat)) ∧ (w3.alloc (Obj.cells #[.int .u64 (p : Nat), .int .u64 (q : Nat)] 25)).drew.cell? ⟨w3.heap.size, 1, none⟩ = some (.int .u64 (q : Nat)) := ⟨Rx_4, cell7 Ra_4 0 _ rfl, cell7 Ra_4 1 _ rfl, cell7 Rd_4 0 _ rfl, cell7 Rd_4 1 _ rfl⟩
  have s1 : ((w3.alloc (Obj.cells #[.int .u64 (p : Nat), .int .u64 (q : Nat)] 25)).drew.setRow (w.heap.size + 1 + 1) (rf R)).heap[w.heap.size]? = some (.cells (rf R) 28) ∧ ((w3.alloc (Obj.cells #[.int .u64 (p : Nat), .int .u64 (q : Nat)] 25)).drew.setRow (w.heap.size + 1 + 1) (rf R)).cell? ⟨w1.heap.size, 0, none⟩ = some (.int .u64 (p : Nat)) ∧ ((w3.alloc (Obj.cells #[.int .u64 (p : Nat), .int .u64 (q : Nat)] 25)).drew.setRow (w.heap.size + 1 + 1) (rf R)).cell? ⟨w1.heap.size, 1, none⟩ = some (.int .u64 (q : Nat)) ∧ ((w3.alloc (Obj.cells #[.int .u64 (p : Nat), .int .u64 (q : Nat)] 25)).drew.setRow (w.heap.size + 1 + 1) (rf R)).cell? ⟨w3.heap.size, 0, none⟩ = some (.int .u64 (p : Nat)) ∧ ((w3.alloc (Obj.cells #[.int .u64 (p : Nat), .int .u64 (q : Nat)] 25)).drew.setRow (w.heap.size + 1 + 1) (rf R)).cell? ⟨w3.heap.size, 1, none⟩ = some (.int .u64 (q : Nat)) := ⟨(setRow_other (by omega)).trans Rx_4, cell7 ((setRow_other (by have := e1.out; omega)).trans Ra_4) 0 _ rfl, cell7 ((setRow_other (by have := e1.out; omega)).trans Ra_4) 1 _ rfl, cell7 ((setRow_other (by have := e1.out; omega)).trans Rd_4) 0 _ rfl, cell7 ((setRow_other (by have := e1.out; omega)).trans Rd_4) 1 _ rfl⟩
  have rz : (w3.alloc (Obj.cells #[.int .u64 (p : Nat), .int .u64 (q : Nat)] 25)).drew.heap[w.heap.size + 1 + 1]? = some (.cells (rf fun _ => 0) 28) := Rz_4
  have hst := rf_store (R := R) rz
  have BB := box B4.drew
  clear Rx_4 Rs_4 Ra_4 Rd_4 Rz_4 cs_4_0 cs_4_1 cs_4_2 cs_4_3 cs_4_4 cs_4_5 cs_4_6 cs_4_7 ca_4_0 ca_4_1 cd_4_0 cd_4_1
  have hu := Tryd.underlying28
  have hi : (Tryd.prog.info? 28).map (·.size) = some (rf R).toList.length := by rw [Array.length_toList, rf_size]; kernel_rfl
  go_wp2_with fail
  refine wp_region_held_drew (S := fun W => W.heap[w.heap.size]? = some (.cells (rf R) 28) ∧ W.cell? ⟨w1.heap.size, 0, none⟩ = some (.int .u64 (p : Nat)) ∧ W.cell? ⟨w1.heap.size, 1, none⟩ = some (.int .u64 (q : Nat)) ∧ W.cell? ⟨w3.heap.size, 0, none⟩ = some (.int .u64 (p : Nat)) ∧ W.cell? ⟨w3.heap.size, 1, none⟩ = some (.int .u64 (q : Nat))) (by kernel_rfl) s0 (fun hHeld => ?_)
  refine wpAnyH_take (i := 0) rfl (by kernel_rfl) (by kernel_rfl) (by kernel_rfl) (fun _ _ _ h => h) (yieldsIf_load_mid (by rfl) _ _ rfl _ _ rfl (rf R).toList _ (fun W h => rf_range h.1) hu rfl hi) (by assumption) ?_
  simp only [Array.toArray_toList]
  (try simp only [Act.put, List.getElem_toArray, List.getElem_cons_zero, List.getElem_cons_succ, List.setIfInBounds_toArray, List.set_cons_zero, List.set_cons_succ])
  refine wpAnyH_take (i := 1) (v := ?_) rfl (by kernel_rfl) (by kernel_rfl) (by kernel_rfl) (fun _ _ _ h => h) (Or.inl ⟨by rfl, ?_⟩) (by assumption) ?_
  rotate_left 1
  · intro W hSw
    try dsimp only at hSw
    go_simp
    try with_reducible rfl
  (try simp only [Act.put, List.getElem_toArray, List.getElem_cons_zero, List.getElem_cons_succ, List.setIfInBounds_toArray, List.set_cons_zero, List.set_cons_succ])
  refine wpAnyH_take (i := 2) (v := ?_) rfl (by kernel_rfl) (by kernel_rfl) (by kernel_rfl) (fun _ _ _ h => h) (Or.inl ⟨by rfl, ?_⟩) (by assumption) ?_
  rotate_left 1
  · intro W hSw
    try dsimp only at hSw
    go_simp
    try with_reducible rfl
  (try simp only [Act.put, List.getElem_toArray, List.getElem_cons_zero, List.getElem_cons_succ, List.setIfInBounds_toArray, List.set_cons_zero, List.set_cons_succ])
  refine wpAnyH_take (i := 3) (v := ?_) rfl (by kernel_rfl) (by kernel_rfl) (by kernel_rfl) (fun _ _ _ h => h) (Or.inl ⟨by rfl, ?_⟩) (by assumption) ?_
  rotate_left 1
  · intro W hSw
    try dsimp only at hSw
    go_simp
    try with_reducible rfl
  (try simp only [Act.put, List.getElem_toArray, List.getElem_cons_zero, List.getElem_cons_succ, List.setIfInBounds_toArray, List.set_cons_zero, List.set_cons_succ])
  refine wpAnyH_take (i := 4) (v := ?_) rfl (by kernel_rfl) (by kernel_rfl) (by kernel_rfl) (fun _ _ _ h => h) (Or.inl ⟨by rfl, ?_⟩) (by assumption) ?_
  rotate_left 1
  · intro W hSw
    try dsimp only at hSw
    go_simp
    try with_reducible rfl
  (try simp only [Act.put, List.getElem_toArray, List.getElem_cons_zero, List.getElem_cons_succ, List.setIfInBounds_toArray, List.set_cons_zero, List.set_cons_succ])
  refine wpAnyH_take (i := 5) (v := ?_) rfl (by kernel_rfl) (by kernel_rfl) (by kernel_rfl) (fun _ _ _ h => h) (Or.inl ⟨by rfl, ?_⟩) (by assumption) ?_
  rotate_left 1
  · intro W hSw
    try dsimp only at hSw
    go_simp
    try with_reducible rfl
  (try simp only [Act.put, List.getElem_toArray, List.getElem_cons_zero, List.getElem_cons_succ, List.setIfInBounds_toArray, List.set_cons_zero, List.set_cons_succ])
  refine wpAnyH_take (i := 6) (v := ?_) rfl (by kernel_rfl) (by kernel_rfl) (by kernel_rfl) (fun _ _ _ h => h) (Or.inl ⟨by rfl, ?_⟩) (by assumption) ?_
  rotate_left 1
  · intro W hSw
    try dsimp only at hSw
    go_simp
    try with_reducible rfl
  (try simp only [Act.put, List.getElem_toArray, List.getElem_cons_zero, List.getElem_cons_succ, List.setIfInBounds_toArray, List.set_cons_zero, List.set_cons_succ])
  refine wpAnyH_take (i := 7) (v := ?_) rfl (by kernel_rfl) (by kernel_rfl) (by kernel_rfl) (fun _ _ _ h => h) (Or.inl ⟨by rfl, ?_⟩) (by assumption) ?_
  rotate_left 1
  · intro W hSw
    try dsimp only at hSw
    go_simp
    try with_reducible rfl
  (try simp only [Act.put, List.getElem_toArray, List.getElem_cons_zero, List.getElem_cons_succ, List.setIfInBounds_toArray, List.set_cons_zero, List.set_cons_succ])
  refine wpAnyH_take (i := 8) (v := ?_) rfl (by kernel_rfl) (by kernel_rfl) (by kernel_rfl) (fun _ _ _ h => h) (Or.inl ⟨by rfl, ?_⟩) (by assumption) ?_
  rotate_left 1
  · intro W hSw
    try dsimp only at hSw
    go_simp
    try with_reducible rfl
  (try simp only [Act.put, List.getElem_toArray, List.getElem_cons_zero, List.getElem_cons_succ, List.setIfInBounds_toArray, List.set_cons_zero, List.set_cons_succ])
  refine wpAnyH_ready (rs := [9]) (by kernel_rfl) (by simp) ?_
  refine AllReadyH.cons rfl (fun K hK => ?_) AllReadyH.nil
  go_simp
  refine hK.out _ _ s1 (fun hHeld => ?_)
  clear hK K
  (try simp only [Act.put, List.getElem_toArray, List.getElem_cons_zero, List.getElem_cons_succ, List.setIfInBounds_toArray, List.set_cons_zero, List.set_cons_succ])
  refine wpAnyH_take (i := 10) (v := ?_) rfl (by kernel_rfl) (by kernel_rfl) (by kernel_rfl) (fun _ _ _ h => h) (Or.inl ⟨by rfl, ?_⟩) (by assumption) ?_
  rotate_left 1
  · intro W hSw
    try dsimp only at hSw
    go_simp
    try with_reducible rfl
  (try simp only [Act.put, List.getElem_toArray, List.getElem_cons_zero, List.getElem_cons_succ, List.setIfInBounds_toArray, List.set_cons_zero, List.set_cons_succ])
  refine wpAnyH_done (by kernel_rfl) ?_ _
  go_wp2
  exact bodyPost_ret (v := .tuple #[.agg (rf R), .bool true]) (res_rf2 Tryd.results11 (T := 28) rfl (setRow_row rz)) rfl ⟨rfl, Below.setRow BB.out (by omega)⟩
set_option maxRecDepth 100000 in
set_option maxHeartbeats 8000000 in
theorem bt_6 {T : World → Prop} (FB : Box (∀ {w w' : World}, T w → Below w.heap.size w w' → T w')) (rg : (Nat → Nat) → Array Value) (tg : TypeId) (R : Nat → Nat) (b : Nat) (on n fm e : Int) (X u v p q : Nat) (ao : Option Addr) (L cv : Nat) (he : IntKind.i64.wrap e = e)
    (KD : Box (∀ w, Calls Tryd.prog 36 #[.agg (rf R), .int .u8 fm, .int .i64 n] w fun r w' => r = .returned (.tuple #[.agg #[.int .u64 (p : Nat), .int .u64 (q : Nat)], .int .i64 e]) ∧ Below w.heap.size w w'))
    (KP : Box (∀ w, T w → w.heap[b]? = some (.cells (rg R) tg) → Calls Tryd.prog 23 #[.pointer (some ⟨b, 0, none⟩), .int .u8 fm, .int .i64 n] w fun r w' => r = .returned (.tuple #[.agg #[.int .u64 (p : Nat), .int .u64 (q : Nat)], .int .i64 e]) ∧ Below w.heap.size w w'))
    (w : World) (hT : T w) (hb : w.heap[b]? = some (.cells (rg R) tg)) :
    Calls Tryd.prog 11 #[.pointer (some ⟨b, 0, none⟩), .agg (rf R), .agg #[.int .i64 6, .int .i64 on, .int .i64 n, .int .u64 (X : Nat), .int .u64 (u : Nat), .int .u64 (v : Nat), .int .u8 fm, .slice ao L cv]] w fun r w' => r = .returned (.tuple #[.agg (rf R), .bool true]) ∧ Below w.heap.size w w' := by
  have FF := box hT
  have HB := box hb
  clear hT hb
  have hrz := rf_zero
  have hrs : ∀ R, ((rf R).size = 96) = True := fun R => eq_true (rf_size R)
  have hra := rf_at
  have hsn := rf_stn
  have heq := eqb
  have heb := ebb_own (p : Nat) (q : Nat)
  obtain ⟨Rx_0, Rs_0, Rz_0, B0⟩ := opn3 w (Obj.cells (rf R) 28) (Obj.cells #[.int .i64 6, .int .i64 on, .int .i64 n, .int .u64 (X : Nat), .int .u64 (u : Nat), .int .u64 (v : Nat), .int .u8 fm, .slice ao L cv] 39) (Obj.cells (rf fun _ => 0) 28)
  go_enter Tryd.func11, Tryd.ntmps11
  have cs_0_0 := cells4 Rs_0 0 _ rfl
  have cs_0_1 := cells4 Rs_0 1 _ rfl
  have cs_0_2 := cells4 Rs_0 2 _ rfl
  have cs_0_3 := cells4 Rs_0 3 _ rfl
  have cs_0_4 := cells4 Rs_0 4 _ rfl
  have cs_0_5 := cells4 Rs_0 5 _ rfl
  have cs_0_6 := cells4 Rs_0 6 _ rfl
  have cs_0_7 := cells4 Rs_0 7 _ rfl
  go_wp2_with (first | ((with_reducible (refine wpl_rf rfl _ rfl ?_ Rx_0 ?_)); rfl) | ((with_reducible (refine wp_rf _ rfl ?_ Rx_0 ?_)); rfl) | ((with_reducible (refine wpl_rf rfl _ rfl ?_ Rz_0 ?_)); rfl) | ((with_reducible (refine wp_rf _ rfl ?_ Rz_0 ?_)); rfl) | fail)
  refine (KP.out _ (FB.out FF.out B0) (heap_of B0 _ _ _ HB.out)).mono ?_
  rintro r w1 ⟨rfl, b1⟩
  have B1 : Below w.heap.size w w1 := btr B0 b1
  have Rx_1 := heap_of b1 _ _ _ Rx_0
  have Rs_1 := heap_of b1 _ _ _ Rs_0
  have Rz_1 := heap_of b1 _ _ _ Rz_0
  clear b1 B0 Rx_0 Rs_0 cs_0_0 cs_0_1 cs_0_2 cs_0_3 cs_0_4 cs_0_5 cs_0_6 cs_0_7 Rz_0
  have cs_1_0 := cells4 Rs_1 0 _ rfl
  have cs_1_1 := cells4 Rs_1 1 _ rfl
  have cs_1_2 := cells4 Rs_1 2 _ rfl
  have cs_1_3 := cells4 Rs_1 3 _ rfl
  have cs_1_4 := cells4 Rs_1 4 _ rfl
  have cs_1_5 := cells4 Rs_1 5 _ rfl
  have cs_1_6 := cells4 Rs_1 6 _ rfl
  have cs_1_7 := cells4 Rs_1 7 _ rfl
  have S2 := box B1.size
  have Lx_2 : Box (w.heap.size < w1.heap.size) := box (Array.getElem?_eq_some_iff.1 Rx_1).1
  have Ls_2 : Box (w.heap.size + 1 < w1.heap.size) := box (Array.getElem?_eq_some_iff.1 Rs_1).1
  have Lz_2 : Box (w.heap.size + 1 + 1 < w1.heap.size) := box (Array.getElem?_eq_some_iff.1 Rz_1).1
  have Ra_2 := heap_alloc_last w1 (Obj.cells #[.int .u64 (p : Nat), .int .u64 (q : Nat)] 25)
  have B2 := btr B1 (bal w1 (Obj.cells #[.int .u64 (p : Nat), .int .u64 (q : Nat)] 25))
  have Rx_2 := heap_of (bal w1 (Obj.cells #[.int .u64 (p : Nat), .int .u64 (q : Nat)] 25)) _ _ _ Rx_1
  have Rs_2 := heap_of (bal w1 (Obj.cells #[.int .u64 (p : Nat), .int .u64 (q : Nat)] 25)) _ _ _ Rs_1
  have Rz_2 := heap_of (bal w1 (Obj.cells #[.int .u64 (p : Nat), .int .u64 (q : Nat)] 25)) _ _ _ Rz_1
  clear B1 Rx_1 Rs_1 cs_1_0 cs_1_1 cs_1_2 cs_1_3 cs_1_4 cs_1_5 cs_1_6 cs_1_7 Rz_1
  have cs_2_0 := cells4 Rs_2 0 _ rfl
  have cs_2_1 := cells4 Rs_2 1 _ rfl
  have cs_2_2 := cells4 Rs_2 2 _ rfl
  have cs_2_3 := cells4 Rs_2 3 _ rfl
  have cs_2_4 := cells4 Rs_2 4 _ rfl
  have cs_2_5 := cells4 Rs_2 5 _ rfl
  have cs_2_6 := cells4 Rs_2 6 _ rfl
  have cs_2_7 := cells4 Rs_2 7 _ rfl
  obtain ⟨ca_2_0, ca_2_1⟩ := cells2s Ra_2
  go_wp2_with (first | ((with_reducible (refine wpl_rf rfl _ rfl ?_ Rx_2 ?_)); rfl) | ((with_reducible (refine wp_rf _ rfl ?_ Rx_2 ?_)); rfl) | ((with_reducible (refine wpl_rf rfl _ rfl ?_ Rz_2 ?_)); rfl) | ((with_reducible (refine wp_rf _ rfl ?_ Rz_2 ?_)); rfl) | fail)
  refine (KD.out _).mono ?_
  rintro r w3 ⟨rfl, b3⟩
  have B3 : Below w.heap.size w w3 := btr B2 b3
  have Rx_3 := heap_of b3 _ _ _ Rx_2
  have Rs_3 := heap_of b3 _ _ _ Rs_2
  have Rz_3 := heap_of b3 _ _ _ Rz_2
  have Ra_3 := heap_of b3 _ _ _ Ra_2
  clear b3 B2 Rx_2 Rs_2 cs_2_0 cs_2_1 cs_2_2 cs_2_3 cs_2_4 cs_2_5 cs_2_6 cs_2_7 Rz_2 Ra_2 ca_2_0 ca_2_1
  have cs_3_0 := cells4 Rs_3 0 _ rfl
  have cs_3_1 := cells4 Rs_3 1 _ rfl
  have cs_3_2 := cells4 Rs_3 2 _ rfl
  have cs_3_3 := cells4 Rs_3 3 _ rfl
  have cs_3_4 := cells4 Rs_3 4 _ rfl
  have cs_3_5 := cells4 Rs_3 5 _ rfl
  have cs_3_6 := cells4 Rs_3 6 _ rfl
  have cs_3_7 := cells4 Rs_3 7 _ rfl
  obtain ⟨ca_3_0, ca_3_1⟩ := cells2s Ra_3
  have S4 := box B3.size
  have Lx_4 : Box (w.heap.size < w3.heap.size) := box (Array.getElem?_eq_some_iff.1 Rx_3).1
  have Ls_4 : Box (w.heap.size + 1 < w3.heap.size) := box (Array.getElem?_eq_some_iff.1 Rs_3).1
  have Lz_4 : Box (w.heap.size + 1 + 1 < w3.heap.size) := box (Array.getElem?_eq_some_iff.1 Rz_3).1
  have La_4 : Box (w1.heap.size < w3.heap.size) := box (Array.getElem?_eq_some_iff.1 Ra_3).1
  have Rd_4 := heap_alloc_last w3 (Obj.cells #[.int .u64 (p : Nat), .int .u64 (q : Nat)] 25)
  have B4 := btr B3 (bal w3 (Obj.cells #[.int .u64 (p : Nat), .int .u64 (q : Nat)] 25))
  have Rx_4 := heap_of (bal w3 (Obj.cells #[.int .u64 (p : Nat), .int .u64 (q : Nat)] 25)) _ _ _ Rx_3
  have Rs_4 := heap_of (bal w3 (Obj.cells #[.int .u64 (p : Nat), .int .u64 (q : Nat)] 25)) _ _ _ Rs_3
  have Rz_4 := heap_of (bal w3 (Obj.cells #[.int .u64 (p : Nat), .int .u64 (q : Nat)] 25)) _ _ _ Rz_3
  have Ra_4 := heap_of (bal w3 (Obj.cells #[.int .u64 (p : Nat), .int .u64 (q : Nat)] 25)) _ _ _ Ra_3
  clear B3 Rx_3 Rs_3 cs_3_0 cs_3_1 cs_3_2 cs_3_3 cs_3_4 cs_3_5 cs_3_6 cs_3_7 Rz_3 Ra_3 ca_3_0 ca_3_1
  have cs_4_0 := cells4 Rs_4 0 _ rfl
  have cs_4_1 := cells4 Rs_4 1 _ rfl
  have cs_4_2 := cells4 Rs_4 2 _ rfl
  have cs_4_3 := cells4 Rs_4 3 _ rfl
  have cs_4_4 := cells4 Rs_4 4 _ rfl
  have cs_4_5 := cells4 Rs_4 5 _ rfl
  have cs_4_6 := cells4 Rs_4 6 _ rfl
  have cs_4_7 := cells4 Rs_4 7 _ rfl
  obtain ⟨ca_4_0, ca_4_1⟩ := cells2s Ra_4
  obtain ⟨cd_4_0, cd_4_1⟩ := cells2s Rd_4
  have e1 : Box (w.heap.size + 1 + 1 < w1.heap.size ∧ w.heap.size + 1 + 1 < w3.heap.size) := box ⟨Lz_2.out, Lz_4.out⟩
  have s0 : (w3.alloc (Obj.cells #[.int .u64 (p : Nat), .int .u64 (q : Nat)] 25)).drew.heap[w.heap.size]? = some (.cells (rf R) 28) ∧ (w3.alloc (Obj.cells #[.int .u64 (p : Nat), .int .u64 (q : Nat)] 25)).drew.cell? ⟨w1.heap.size, 0, none⟩ = some (.int .u64 (p : Nat)) ∧ (w3.alloc (Obj.cells #[.int .u64 (p : Nat), .int .u64 (q : Nat)] 25)).drew.cell? ⟨w1.heap.size, 1, none⟩ = some (.int .u64 (q : Nat)) ∧ (w3.alloc (Obj.cells #[.int .u64 (p : Nat), .int .u64 (q : Nat)] 25)).drew.cell? ⟨w3.heap.size, 0, none⟩ = some (.int .u64 (p : Nat)) ∧ (w3.alloc (Obj.cells #[.int .u64 (p : Nat), .int .u64 (q : Nat)] 25)).drew.cell? ⟨w3.heap.size, 1, none⟩ = some (.int .u64 (q : Nat)) := ⟨Rx_4, cell7 Ra_4 0 _ rfl, cell7 Ra_4 1 _ rfl, cell7 Rd_4 0 _ rfl, cell7 Rd_4 1 _ rfl⟩
  have s1 : ((w3.alloc (Obj.cells #[.int .u64 (p : Nat), .int .u64 (q : Nat)] 25)).drew.setRow (w.heap.size + 1 + 1) (rf R)).heap[w.heap.size]? = some (.cells (rf R) 28) ∧ ((w3.alloc (Obj.cells #[.int .u64 (p : Nat), .int .u64 (q : Nat)] 25)).drew.setRow (w.heap.size + 1 + 1) (rf R)).cell? ⟨w1.heap.size, 0, none⟩ = some (.int .u64 (p : Nat)) ∧ ((w3.alloc (Obj.cells #[.int .u64 (p : Nat), .int .u64 (q : Nat)] 25)).drew.setRow (w.heap.size + 1 + 1) (rf R)).cell? ⟨w1.heap.size, 1, none⟩ = some (.int .u64 (q : Nat)) ∧ ((w3.alloc (Obj.cells #[.int .u64 (p : Nat), .int .u64 (q : Nat)] 25)).drew.setRow (w.heap.size + 1 + 1) (rf R)).cell? ⟨w3.heap.size, 0, none⟩ = some (.int .u64 (p : Nat)) ∧ ((w3.alloc (Obj.cells #[.int .u64 (p : Nat), .int .u64 (q : Nat)] 25)).drew.setRow (w.heap.size + 1 + 1) (rf R)).cell? ⟨w3.heap.size, 1, none⟩ = some (.int .u64 (q : Nat)) := ⟨(setRow_other (by omega)).trans Rx_4, cell7 ((setRow_other (by have := e1.out; omega)).trans Ra_4) 0 _ rfl, cell7 ((setRow_other (by have := e1.out; omega)).trans Ra_4) 1 _ rfl, cell7 ((setRow_other (by have := e1.out; omega)).trans Rd_4) 0 _ rfl, cell7 ((setRow_other (by have := e1.out; omega)).trans Rd_4) 1 _ rfl⟩
  have rz : (w3.alloc (Obj.cells #[.int .u64 (p : Nat), .int .u64 (q : Nat)] 25)).drew.heap[w.heap.size + 1 + 1]? = some (.cells (rf fun _ => 0) 28) := Rz_4
  have hst := rf_store (R := R) rz
  have BB := box B4.drew
  clear Rx_4 Rs_4 Ra_4 Rd_4 Rz_4 cs_4_0 cs_4_1 cs_4_2 cs_4_3 cs_4_4 cs_4_5 cs_4_6 cs_4_7 ca_4_0 ca_4_1 cd_4_0 cd_4_1
  have hu := Tryd.underlying28
  have hi : (Tryd.prog.info? 28).map (·.size) = some (rf R).toList.length := by rw [Array.length_toList, rf_size]; kernel_rfl
  go_wp2_with fail
  refine wp_region_held_drew (S := fun W => W.heap[w.heap.size]? = some (.cells (rf R) 28) ∧ W.cell? ⟨w1.heap.size, 0, none⟩ = some (.int .u64 (p : Nat)) ∧ W.cell? ⟨w1.heap.size, 1, none⟩ = some (.int .u64 (q : Nat)) ∧ W.cell? ⟨w3.heap.size, 0, none⟩ = some (.int .u64 (p : Nat)) ∧ W.cell? ⟨w3.heap.size, 1, none⟩ = some (.int .u64 (q : Nat))) (by kernel_rfl) s0 (fun hHeld => ?_)
  refine wpAnyH_take (i := 0) rfl (by kernel_rfl) (by kernel_rfl) (by kernel_rfl) (fun _ _ _ h => h) (yieldsIf_load_mid (by rfl) _ _ rfl _ _ rfl (rf R).toList _ (fun W h => rf_range h.1) hu rfl hi) (by assumption) ?_
  simp only [Array.toArray_toList]
  (try simp only [Act.put, List.getElem_toArray, List.getElem_cons_zero, List.getElem_cons_succ, List.setIfInBounds_toArray, List.set_cons_zero, List.set_cons_succ])
  refine wpAnyH_take (i := 1) (v := ?_) rfl (by kernel_rfl) (by kernel_rfl) (by kernel_rfl) (fun _ _ _ h => h) (Or.inl ⟨by rfl, ?_⟩) (by assumption) ?_
  rotate_left 1
  · intro W hSw
    try dsimp only at hSw
    go_simp
    try with_reducible rfl
  (try simp only [Act.put, List.getElem_toArray, List.getElem_cons_zero, List.getElem_cons_succ, List.setIfInBounds_toArray, List.set_cons_zero, List.set_cons_succ])
  refine wpAnyH_take (i := 2) (v := ?_) rfl (by kernel_rfl) (by kernel_rfl) (by kernel_rfl) (fun _ _ _ h => h) (Or.inl ⟨by rfl, ?_⟩) (by assumption) ?_
  rotate_left 1
  · intro W hSw
    try dsimp only at hSw
    go_simp
    try with_reducible rfl
  (try simp only [Act.put, List.getElem_toArray, List.getElem_cons_zero, List.getElem_cons_succ, List.setIfInBounds_toArray, List.set_cons_zero, List.set_cons_succ])
  refine wpAnyH_take (i := 3) (v := ?_) rfl (by kernel_rfl) (by kernel_rfl) (by kernel_rfl) (fun _ _ _ h => h) (Or.inl ⟨by rfl, ?_⟩) (by assumption) ?_
  rotate_left 1
  · intro W hSw
    try dsimp only at hSw
    go_simp
    try with_reducible rfl
  (try simp only [Act.put, List.getElem_toArray, List.getElem_cons_zero, List.getElem_cons_succ, List.setIfInBounds_toArray, List.set_cons_zero, List.set_cons_succ])
  refine wpAnyH_take (i := 4) (v := ?_) rfl (by kernel_rfl) (by kernel_rfl) (by kernel_rfl) (fun _ _ _ h => h) (Or.inl ⟨by rfl, ?_⟩) (by assumption) ?_
  rotate_left 1
  · intro W hSw
    try dsimp only at hSw
    go_simp
    try with_reducible rfl
  (try simp only [Act.put, List.getElem_toArray, List.getElem_cons_zero, List.getElem_cons_succ, List.setIfInBounds_toArray, List.set_cons_zero, List.set_cons_succ])
  refine wpAnyH_take (i := 5) (v := ?_) rfl (by kernel_rfl) (by kernel_rfl) (by kernel_rfl) (fun _ _ _ h => h) (Or.inl ⟨by rfl, ?_⟩) (by assumption) ?_
  rotate_left 1
  · intro W hSw
    try dsimp only at hSw
    go_simp
    try with_reducible rfl
  (try simp only [Act.put, List.getElem_toArray, List.getElem_cons_zero, List.getElem_cons_succ, List.setIfInBounds_toArray, List.set_cons_zero, List.set_cons_succ])
  refine wpAnyH_take (i := 6) (v := ?_) rfl (by kernel_rfl) (by kernel_rfl) (by kernel_rfl) (fun _ _ _ h => h) (Or.inl ⟨by rfl, ?_⟩) (by assumption) ?_
  rotate_left 1
  · intro W hSw
    try dsimp only at hSw
    go_simp
    try with_reducible rfl
  (try simp only [Act.put, List.getElem_toArray, List.getElem_cons_zero, List.getElem_cons_succ, List.setIfInBounds_toArray, List.set_cons_zero, List.set_cons_succ])
  refine wpAnyH_take (i := 7) (v := ?_) rfl (by kernel_rfl) (by kernel_rfl) (by kernel_rfl) (fun _ _ _ h => h) (Or.inl ⟨by rfl, ?_⟩) (by assumption) ?_
  rotate_left 1
  · intro W hSw
    try dsimp only at hSw
    go_simp
    try with_reducible rfl
  (try simp only [Act.put, List.getElem_toArray, List.getElem_cons_zero, List.getElem_cons_succ, List.setIfInBounds_toArray, List.set_cons_zero, List.set_cons_succ])
  refine wpAnyH_take (i := 8) (v := ?_) rfl (by kernel_rfl) (by kernel_rfl) (by kernel_rfl) (fun _ _ _ h => h) (Or.inl ⟨by rfl, ?_⟩) (by assumption) ?_
  rotate_left 1
  · intro W hSw
    try dsimp only at hSw
    go_simp
    try with_reducible rfl
  (try simp only [Act.put, List.getElem_toArray, List.getElem_cons_zero, List.getElem_cons_succ, List.setIfInBounds_toArray, List.set_cons_zero, List.set_cons_succ])
  refine wpAnyH_ready (rs := [9]) (by kernel_rfl) (by simp) ?_
  refine AllReadyH.cons rfl (fun K hK => ?_) AllReadyH.nil
  go_simp
  refine hK.out _ _ s1 (fun hHeld => ?_)
  clear hK K
  (try simp only [Act.put, List.getElem_toArray, List.getElem_cons_zero, List.getElem_cons_succ, List.setIfInBounds_toArray, List.set_cons_zero, List.set_cons_succ])
  refine wpAnyH_take (i := 10) (v := ?_) rfl (by kernel_rfl) (by kernel_rfl) (by kernel_rfl) (fun _ _ _ h => h) (Or.inl ⟨by rfl, ?_⟩) (by assumption) ?_
  rotate_left 1
  · intro W hSw
    try dsimp only at hSw
    go_simp
    try with_reducible rfl
  (try simp only [Act.put, List.getElem_toArray, List.getElem_cons_zero, List.getElem_cons_succ, List.setIfInBounds_toArray, List.set_cons_zero, List.set_cons_succ])
  refine wpAnyH_done (by kernel_rfl) ?_ _
  go_wp2
  exact bodyPost_ret (v := .tuple #[.agg (rf R), .bool true]) (res_rf2 Tryd.results11 (T := 28) rfl (setRow_row rz)) rfl ⟨rfl, Below.setRow BB.out (by omega)⟩
end Go.Proofs.YtjbnifhpbdjonaaDoor
