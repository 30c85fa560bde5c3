/-
  Package kind: what is put together of parts.
-/
import Derived.Test.YtkmlbjlaahcahaaDoorKE
namespace Go.Proofs.YtkmlbjlaahcahaaDoor
open Go.RowKit WMath
set_option linter.unusedSimpArgs false
set_option linter.unusedVariables false

theorem lt_128 {s : Nat} (hs : s < Q) : (wd s 0 + 18446744073709551616 * wd s 1 = s) ↔ s < 340282366920938463463374607431768211456 := by
  constructor
  · intro h
    have := wd_lt s 0
    have := wd_lt s 1
    omega
  · intro h
    rw [(wd01 h).1, (wd01 h).2]; omega
theorem ktobits_is (s u v : Nat) (hs : s < Q) (huv : bv7 (toB s) = (u, v)) (w : World) : ∃ o, Calls Tryd.prog 69 #[.agg (cw 6 s)] w fun r w' => r = .returned (.tuple #[.agg #[.int .u64 (u : Nat), .int .u64 (v : Nat)], .bool o]) ∧ Below w.heap.size w w' := by
  unfold toB bv7 at huv
  by_cases h : s < 340282366920938463463374607431768211456
  · rw [if_pos h] at huv
    injection huv with h1 h2
    refine ⟨true, ?_⟩
    have k := wtobits_yes s hs ((lt_128 hs).2 h) w
    rw [(wd01 h).1, (wd01 h).2, h1, h2] at k
    exact k
  · rw [if_neg h] at huv
    injection huv with h1 h2
    refine ⟨false, ?_⟩
    have k := wtobits_no s hs (fun e => h ((lt_128 hs).1 e)) w
    rw [← h1, ← h2]
    exact k
theorem ktobits_one (s u v : Nat) (hs : s < Q) (huv : bv7 (toB s) = (u, v)) : ∃ o, ∀ w, Calls Tryd.prog 69 #[.agg (cw 6 s)] w fun r w' => r = .returned (.tuple #[.agg #[.int .u64 (u : Nat), .int .u64 (v : Nat)], .bool o]) ∧ Below w.heap.size w w' := by
  unfold toB bv7 at huv
  by_cases h : s < 340282366920938463463374607431768211456
  · rw [if_pos h] at huv
    injection huv with h1 h2
    refine ⟨true, fun w => ?_⟩
    have k := wtobits_yes s hs ((lt_128 hs).2 h) w
    rw [(wd01 h).1, (wd01 h).2, h1, h2] at k
    exact k
  · rw [if_neg h] at huv
    injection huv with h1 h2
    refine ⟨false, fun w => ?_⟩
    have k := wtobits_no s hs (fun e => h ((lt_128 hs).1 e)) w
    rw [← h1, ← h2]
    exact k
theorem toB_lt (s : Nat) : toB s < 340282366920938463463374607431768211456 := by unfold toB; split <;> omega
theorem plN_lt (f : Int) (u : Nat) : plN f u < 340282366920938463463374607431768211456 := by
  unfold plN
  split
  · exact Nat.mod_lt _ (by decide)
  · exact Nat.lt_trans (Nat.mod_lt _ (by decide)) (by decide)
set_option maxHeartbeats 1000000 in
theorem kfinite_is (f : Int) (hf : Is4 f) (s a b : Nat) (X : Int) (hs : s < Q) (x1 : -9223372036854775808 ≤ X) (x2 : X ≤ 9223372036854775807) (hv : bv7 (fb f s X) = (a, b)) (w : World) (hT : FAt w) :
    Calls Tryd.prog 56 #[.int .u8 f, .agg (cw 6 s), .int .i64 X] w fun r w' => r = .returned (.agg #[.int .u64 (a : Nat), .int .u64 (b : Nat)]) ∧ Below w.heap.size w w' := by
  have hat := cw_at 6
  have hz := cw6z
  have hff := cw6f
  have hs0 := st0
  have hcs : ∀ x, ((cw 6 x).size = 6) = True := fun x => eq_true (cw_size 6 x)
  obtain ⟨u, v, huv⟩ : ∃ u v, bv7 (toB s) = (u, v) := ⟨_, _, rfl⟩
  obtain ⟨o, ho⟩ := ktobits_one s u v hs huv
  have K1 := box ho
  obtain ⟨u1, v1, uv⟩ := bv_lt (toB_lt s) huv
  have K2 := box (fun w hT => kleast_is f hf (lx f) rfl w hT)
  obtain ⟨_, _, _, p4, _⟩ := pV_lim hf
  obtain ⟨_, _, l3, l4, _⟩ := lx_lim hf
  have K3 := box (fun w hT => kfw f hf (pV f) rfl w hT)
  obtain ⟨c, d, hcd⟩ : ∃ u v, bv7 (plN f (u64w (X - lx f))) = (u, v) := ⟨_, _, rfl⟩
  have ul : u64w (X - lx f) < 18446744073709551616 := by unfold u64w; omega
  have K4 := box (kplaced_is (u64w (X - lx f)) (pV f) c d ul p4 (by rw [plG_is hf]; exact hcd))
  obtain ⟨c1, d1, cd⟩ := bv_lt (plN_lt f _) hcd
  have K5 := box (kplus_is c d u v _ _ a b c1 d1 cd u1 v1 uv hv)
  have e1 : IntKind.u64.wrap (IntKind.i64.wrap (X - lx f)) = (u64w (X - lx f) : Int) := by
    unfold u64w
    rw [IntKind.wrap_u64, IntKind.wrap_i64]
    omega
  obtain ⟨L, hL⟩ : ∃ q, lx f = q := ⟨_, rfl⟩
  rw [hL] at K2 K4 e1
  obtain ⟨U, hU⟩ : ∃ q, u64w (X - L) = q := ⟨_, rfl⟩
  rw [hU] at K4 e1
  obtain ⟨P, hP⟩ : ∃ q, pV f = q := ⟨_, rfl⟩
  rw [hP] at K3 K4
  have TT := box hT
  clear hT hf hs x1 x2 hv huv ho u1 v1 uv p4 l3 l4 hcd ul c1 d1 cd hL hU hP
  obtain ⟨Rs_0, Rz_0, B0⟩ := kopn2 w (Obj.cells (cw 6 s) 28) (Obj.cells #[.int .u64 0, .int .u64 0] 25)
  go_enter Tryd.func56, Tryd.ntmps56
  go_wp2_with fail
  refine (K1.out _).mono ?_
  rintro r w1 ⟨rfl, b1⟩
  have B1 : Below w.heap.size w w1 := btr7 B0 b1
  have Rs_1 := heap_of b1 _ _ _ Rs_0
  have Rz_1 := heap_of b1 _ _ _ Rz_0
  clear b1 B0 Rs_0 Rz_0
  have cs_1_0 := row_cell Rs_1
  obtain ⟨cz_1_0, cz_1_1⟩ := cell7t Rz_1
  have S2 := box B1.size
  have Ls_2 : Box (w.heap.size < w1.heap.size) := box (Array.getElem?_eq_some_iff.1 Rs_1).1
  have Lz_2 : Box (w.heap.size + 1 < w1.heap.size) := box (Array.getElem?_eq_some_iff.1 Rz_1).1
  have Rlow_2 := heap_alloc_last w1 (Obj.cells #[.int .u64 (u : Nat), .int .u64 (v : Nat)] 25)
  have B2 := btr7 B1 (bal7 w1 (Obj.cells #[.int .u64 (u : Nat), .int .u64 (v : Nat)] 25))
  have Rs_2 := heap_of (bal7 w1 (Obj.cells #[.int .u64 (u : Nat), .int .u64 (v : Nat)] 25)) _ _ _ Rs_1
  have Rz_2 := heap_of (bal7 w1 (Obj.cells #[.int .u64 (u : Nat), .int .u64 (v : Nat)] 25)) _ _ _ Rz_1
  clear B1 Rs_1 cs_1_0 Rz_1 cz_1_0 cz_1_1
  have cs_2_0 := row_cell Rs_2
  obtain ⟨cz_2_0, cz_2_1⟩ := cell7t Rz_2
  obtain ⟨clow_2_0, clow_2_1⟩ := cell7t Rlow_2
  have sS : Box (∀ W W1 : World, (Below w.heap.size w W ∧ W.heap[w.heap.size]? = some (Obj.cells (cw 6 s) 28) ∧ W.heap[w1.heap.size]? = some (Obj.cells #[.int .u64 (u : Nat), .int .u64 (v : Nat)] 25) ∧ W.cell? ⟨w.heap.size, 0, none⟩ = some (.int .u64 ((wd s 0 : Nat) : Int)) ∧ W.cell? ⟨w.heap.size, 1, none⟩ = some (.int .u64 ((wd s 1 : Nat) : Int)) ∧ W.cell? ⟨w.heap.size, 2, none⟩ = some (.int .u64 ((wd s 2 : Nat) : Int)) ∧ W.cell? ⟨w.heap.size, 3, none⟩ = some (.int .u64 ((wd s 3 : Nat) : Int)) ∧ W.cell? ⟨w.heap.size, 4, none⟩ = some (.int .u64 ((wd s 4 : Nat) : Int)) ∧ W.cell? ⟨w.heap.size, 5, none⟩ = some (.int .u64 ((wd s 5 : Nat) : Int)) ∧ W.cell? ⟨w1.heap.size, 0, none⟩ = some (.int .u64 (u : Nat)) ∧ W.cell? ⟨w1.heap.size, 1, none⟩ = some (.int .u64 (v : Nat))) → Below W.heap.size W W1 → (Below w.heap.size w W1 ∧ W1.heap[w.heap.size]? = some (Obj.cells (cw 6 s) 28) ∧ W1.heap[w1.heap.size]? = some (Obj.cells #[.int .u64 (u : Nat), .int .u64 (v : Nat)] 25) ∧ W1.cell? ⟨w.heap.size, 0, none⟩ = some (.int .u64 ((wd s 0 : Nat) : Int)) ∧ W1.cell? ⟨w.heap.size, 1, none⟩ = some (.int .u64 ((wd s 1 : Nat) : Int)) ∧ W1.cell? ⟨w.heap.size, 2, none⟩ = some (.int .u64 ((wd s 2 : Nat) : Int)) ∧ W1.cell? ⟨w.heap.size, 3, none⟩ = some (.int .u64 ((wd s 3 : Nat) : Int)) ∧ W1.cell? ⟨w.heap.size, 4, none⟩ = some (.int .u64 ((wd s 4 : Nat) : Int)) ∧ W1.cell? ⟨w.heap.size, 5, none⟩ = some (.int .u64 ((wd s 5 : Nat) : Int)) ∧ W1.cell? ⟨w1.heap.size, 0, none⟩ = some (.int .u64 (u : Nat)) ∧ W1.cell? ⟨w1.heap.size, 1, none⟩ = some (.int .u64 (v : Nat)))) := box (fun W W1 h b => ⟨btr7 h.1 b, heap_of b _ _ _ h.2.1, heap_of b _ _ _ h.2.2.1, row_cell (heap_of b _ _ _ h.2.1) 0 (by decide), row_cell (heap_of b _ _ _ h.2.1) 1 (by decide), row_cell (heap_of b _ _ _ h.2.1) 2 (by decide), row_cell (heap_of b _ _ _ h.2.1) 3 (by decide), row_cell (heap_of b _ _ _ h.2.1) 4 (by decide), row_cell (heap_of b _ _ _ h.2.1) 5 (by decide), cell7 (heap_of b _ _ _ h.2.2.1) 0 _ rfl, cell7 (heap_of b _ _ _ h.2.2.1) 1 _ rfl⟩)
  have sT : Box (∀ (W : World) (xA xB : Value), (Below w.heap.size w W ∧ W.heap[w.heap.size]? = some (Obj.cells (cw 6 s) 28) ∧ W.heap[w1.heap.size]? = some (Obj.cells #[.int .u64 (u : Nat), .int .u64 (v : Nat)] 25) ∧ W.cell? ⟨w.heap.size, 0, none⟩ = some (.int .u64 ((wd s 0 : Nat) : Int)) ∧ W.cell? ⟨w.heap.size, 1, none⟩ = some (.int .u64 ((wd s 1 : Nat) : Int)) ∧ W.cell? ⟨w.heap.size, 2, none⟩ = some (.int .u64 ((wd s 2 : Nat) : Int)) ∧ W.cell? ⟨w.heap.size, 3, none⟩ = some (.int .u64 ((wd s 3 : Nat) : Int)) ∧ W.cell? ⟨w.heap.size, 4, none⟩ = some (.int .u64 ((wd s 4 : Nat) : Int)) ∧ W.cell? ⟨w.heap.size, 5, none⟩ = some (.int .u64 ((wd s 5 : Nat) : Int)) ∧ W.cell? ⟨w1.heap.size, 0, none⟩ = some (.int .u64 (u : Nat)) ∧ W.cell? ⟨w1.heap.size, 1, none⟩ = some (.int .u64 (v : Nat))) → (Below w.heap.size w ((W.setCell ⟨w.heap.size + 1, 0, none⟩ xA).setCell ⟨w.heap.size + 1, 1, none⟩ xB) ∧ ((W.setCell ⟨w.heap.size + 1, 0, none⟩ xA).setCell ⟨w.heap.size + 1, 1, none⟩ xB).heap[w.heap.size]? = some (Obj.cells (cw 6 s) 28) ∧ ((W.setCell ⟨w.heap.size + 1, 0, none⟩ xA).setCell ⟨w.heap.size + 1, 1, none⟩ xB).heap[w1.heap.size]? = some (Obj.cells #[.int .u64 (u : Nat), .int .u64 (v : Nat)] 25) ∧ ((W.setCell ⟨w.heap.size + 1, 0, none⟩ xA).setCell ⟨w.heap.size + 1, 1, none⟩ xB).cell? ⟨w.heap.size, 0, none⟩ = some (.int .u64 ((wd s 0 : Nat) : Int)) ∧ ((W.setCell ⟨w.heap.size + 1, 0, none⟩ xA).setCell ⟨w.heap.size + 1, 1, none⟩ xB).cell? ⟨w.heap.size, 1, none⟩ = some (.int .u64 ((wd s 1 : Nat) : Int)) ∧ ((W.setCell ⟨w.heap.size + 1, 0, none⟩ xA).setCell ⟨w.heap.size + 1, 1, none⟩ xB).cell? ⟨w.heap.size, 2, none⟩ = some (.int .u64 ((wd s 2 : Nat) : Int)) ∧ ((W.setCell ⟨w.heap.size + 1, 0, none⟩ xA).setCell ⟨w.heap.size + 1, 1, none⟩ xB).cell? ⟨w.heap.size, 3, none⟩ = some (.int .u64 ((wd s 3 : Nat) : Int)) ∧ ((W.setCell ⟨w.heap.size + 1, 0, none⟩ xA).setCell ⟨w.heap.size + 1, 1, none⟩ xB).cell? ⟨w.heap.size, 4, none⟩ = some (.int .u64 ((wd s 4 : Nat) : Int)) ∧ ((W.setCell ⟨w.heap.size + 1, 0, none⟩ xA).setCell ⟨w.heap.size + 1, 1, none⟩ xB).cell? ⟨w.heap.size, 5, none⟩ = some (.int .u64 ((wd s 5 : Nat) : Int)) ∧ ((W.setCell ⟨w.heap.size + 1, 0, none⟩ xA).setCell ⟨w.heap.size + 1, 1, none⟩ xB).cell? ⟨w1.heap.size, 0, none⟩ = some (.int .u64 (u : Nat)) ∧ ((W.setCell ⟨w.heap.size + 1, 0, none⟩ xA).setCell ⟨w.heap.size + 1, 1, none⟩ xB).cell? ⟨w1.heap.size, 1, none⟩ = some (.int .u64 (v : Nat)))) := box (fun W xA xB h => ⟨set2_below h.1 (by first | exact Nat.le_refl _ | omega | (have := S2.out; have := Ls_2.out; have := Lz_2.out; omega)) xA xB, (setCell_other (by first | omega | (have := S2.out; have := Ls_2.out; have := Lz_2.out; omega))).trans ((setCell_other (by first | omega | (have := S2.out; have := Ls_2.out; have := Lz_2.out; omega))).trans h.2.1), (setCell_other (by first | omega | (have := S2.out; have := Ls_2.out; have := Lz_2.out; omega))).trans ((setCell_other (by first | omega | (have := S2.out; have := Ls_2.out; have := Lz_2.out; omega))).trans h.2.2.1), row_cell ((setCell_other (by first | omega | (have := S2.out; have := Ls_2.out; have := Lz_2.out; omega))).trans ((setCell_other (by first | omega | (have := S2.out; have := Ls_2.out; have := Lz_2.out; omega))).trans h.2.1)) 0 (by decide), row_cell ((setCell_other (by first | omega | (have := S2.out; have := Ls_2.out; have := Lz_2.out; omega))).trans ((setCell_other (by first | omega | (have := S2.out; have := Ls_2.out; have := Lz_2.out; omega))).trans h.2.1)) 1 (by decide), row_cell ((setCell_other (by first | omega | (have := S2.out; have := Ls_2.out; have := Lz_2.out; omega))).trans ((setCell_other (by first | omega | (have := S2.out; have := Ls_2.out; have := Lz_2.out; omega))).trans h.2.1)) 2 (by decide), row_cell ((setCell_other (by first | omega | (have := S2.out; have := Ls_2.out; have := Lz_2.out; omega))).trans ((setCell_other (by first | omega | (have := S2.out; have := Ls_2.out; have := Lz_2.out; omega))).trans h.2.1)) 3 (by decide), row_cell ((setCell_other (by first | omega | (have := S2.out; have := Ls_2.out; have := Lz_2.out; omega))).trans ((setCell_other (by first | omega | (have := S2.out; have := Ls_2.out; have := Lz_2.out; omega))).trans h.2.1)) 4 (by decide), row_cell ((setCell_other (by first | omega | (have := S2.out; have := Ls_2.out; have := Lz_2.out; omega))).trans ((setCell_other (by first | omega | (have := S2.out; have := Ls_2.out; have := Lz_2.out; omega))).trans h.2.1)) 5 (by decide), cell7 ((setCell_other (by first | omega | (have := S2.out; have := Ls_2.out; have := Lz_2.out; omega))).trans ((setCell_other (by first | omega | (have := S2.out; have := Ls_2.out; have := Lz_2.out; omega))).trans h.2.2.1)) 0 _ rfl, cell7 ((setCell_other (by first | omega | (have := S2.out; have := Ls_2.out; have := Lz_2.out; omega))).trans ((setCell_other (by first | omega | (have := S2.out; have := Ls_2.out; have := Lz_2.out; omega))).trans h.2.2.1)) 1 _ rfl⟩)
  have s0 : Below w.heap.size w ((w1.alloc (Obj.cells #[.int .u64 (u : Nat), .int .u64 (v : Nat)] 25))).drew ∧ ((w1.alloc (Obj.cells #[.int .u64 (u : Nat), .int .u64 (v : Nat)] 25))).drew.heap[w.heap.size]? = some (Obj.cells (cw 6 s) 28) ∧ ((w1.alloc (Obj.cells #[.int .u64 (u : Nat), .int .u64 (v : Nat)] 25))).drew.heap[w1.heap.size]? = some (Obj.cells #[.int .u64 (u : Nat), .int .u64 (v : Nat)] 25) ∧ ((w1.alloc (Obj.cells #[.int .u64 (u : Nat), .int .u64 (v : Nat)] 25))).drew.cell? ⟨w.heap.size, 0, none⟩ = some (.int .u64 ((wd s 0 : Nat) : Int)) ∧ ((w1.alloc (Obj.cells #[.int .u64 (u : Nat), .int .u64 (v : Nat)] 25))).drew.cell? ⟨w.heap.size, 1, none⟩ = some (.int .u64 ((wd s 1 : Nat) : Int)) ∧ ((w1.alloc (Obj.cells #[.int .u64 (u : Nat), .int .u64 (v : Nat)] 25))).drew.cell? ⟨w.heap.size, 2, none⟩ = some (.int .u64 ((wd s 2 : Nat) : Int)) ∧ ((w1.alloc (Obj.cells #[.int .u64 (u : Nat), .int .u64 (v : Nat)] 25))).drew.cell? ⟨w.heap.size, 3, none⟩ = some (.int .u64 ((wd s 3 : Nat) : Int)) ∧ ((w1.alloc (Obj.cells #[.int .u64 (u : Nat), .int .u64 (v : Nat)] 25))).drew.cell? ⟨w.heap.size, 4, none⟩ = some (.int .u64 ((wd s 4 : Nat) : Int)) ∧ ((w1.alloc (Obj.cells #[.int .u64 (u : Nat), .int .u64 (v : Nat)] 25))).drew.cell? ⟨w.heap.size, 5, none⟩ = some (.int .u64 ((wd s 5 : Nat) : Int)) ∧ ((w1.alloc (Obj.cells #[.int .u64 (u : Nat), .int .u64 (v : Nat)] 25))).drew.cell? ⟨w1.heap.size, 0, none⟩ = some (.int .u64 (u : Nat)) ∧ ((w1.alloc (Obj.cells #[.int .u64 (u : Nat), .int .u64 (v : Nat)] 25))).drew.cell? ⟨w1.heap.size, 1, none⟩ = some (.int .u64 (v : Nat)) := ⟨B2.drew, Rs_2, Rlow_2, row_cell (Rs_2) 0 (by decide), row_cell (Rs_2) 1 (by decide), row_cell (Rs_2) 2 (by decide), row_cell (Rs_2) 3 (by decide), row_cell (Rs_2) 4 (by decide), row_cell (Rs_2) 5 (by decide), cell7 (Rlow_2) 0 _ rfl, cell7 (Rlow_2) 1 _ rfl⟩
  have rz : ((w1.alloc (Obj.cells #[.int .u64 (u : Nat), .int .u64 (v : Nat)] 25))).drew.heap[w.heap.size + 1]? = some (Obj.cells #[.int .u64 0, .int .u64 0] 25) := Rz_2
  have hq0 := fz (k := 0) rz
  have hq1 := fz (k := 1) rz
  have hc0 := cell7 rz 0 _ rfl
  have hc1 := cell7 rz 1 _ rfl
  go_wp2_with fail
  go_region_held3 (fun W => Below w.heap.size w W ∧ W.heap[w.heap.size]? = some (Obj.cells (cw 6 s) 28) ∧ W.heap[w1.heap.size]? = some (Obj.cells #[.int .u64 (u : Nat), .int .u64 (v : Nat)] 25) ∧ W.cell? ⟨w.heap.size, 0, none⟩ = some (.int .u64 ((wd s 0 : Nat) : Int)) ∧ W.cell? ⟨w.heap.size, 1, none⟩ = some (.int .u64 ((wd s 1 : Nat) : Int)) ∧ W.cell? ⟨w.heap.size, 2, none⟩ = some (.int .u64 ((wd s 2 : Nat) : Int)) ∧ W.cell? ⟨w.heap.size, 3, none⟩ = some (.int .u64 ((wd s 3 : Nat) : Int)) ∧ W.cell? ⟨w.heap.size, 4, none⟩ = some (.int .u64 ((wd s 4 : Nat) : Int)) ∧ W.cell? ⟨w.heap.size, 5, none⟩ = some (.int .u64 ((wd s 5 : Nat) : Int)) ∧ W.cell? ⟨w1.heap.size, 0, none⟩ = some (.int .u64 (u : Nat)) ∧ W.cell? ⟨w1.heap.size, 1, none⟩ = some (.int .u64 (v : Nat))) (first | exact s1 | exact s0 | exact sT.out _ _ _ s1 | exact sT.out _ _ _ s0)
    (first | (go_at_call 44; (first | refine (K2.out _ (fatB TT.out (And.left s1))).mono ?_ | refine (K2.out _ (fatB TT.out (And.left s0))).mono ?_); rintro r wq ⟨rfl, bq⟩; have s1 := (by first | exact sS.out _ _ s1 bq | exact sS.out _ _ s0 bq); have rz := heap_of bq _ _ _ rz; have hq0 := fz (k := 0) rz; have hq1 := fz (k := 1) rz; have hc0 := cell7 rz 0 _ rfl; have hc1 := cell7 rz 1 _ rfl; clear bq) | (go_at_call 41; (first | refine (K3.out _ (fatB TT.out (And.left s1))).mono ?_ | refine (K3.out _ (fatB TT.out (And.left s0))).mono ?_); rintro r wq ⟨rfl, bq⟩; have s1 := (by first | exact sS.out _ _ s1 bq | exact sS.out _ _ s0 bq); have rz := heap_of bq _ _ _ rz; have hq0 := fz (k := 0) rz; have hq1 := fz (k := 1) rz; have hc0 := cell7 rz 0 _ rfl; have hc1 := cell7 rz 1 _ rfl; clear bq) | (go_at_call 71; (first | refine (K4.out _).mono ?_ | refine (K4.out _).mono ?_); rintro r wq ⟨rfl, bq⟩; have s1 := (by first | exact sS.out _ _ s1 bq | exact sS.out _ _ s0 bq); have rz := heap_of bq _ _ _ rz; have hq0 := fz (k := 0) rz; have hq1 := fz (k := 1) rz; have hc0 := cell7 rz 0 _ rfl; have hc1 := cell7 rz 1 _ rfl; clear bq) | (go_at_call 70; (first | refine (K5.out _).mono ?_ | refine (K5.out _).mono ?_); rintro r wq ⟨rfl, bq⟩; have s1 := (by first | exact sS.out _ _ s1 bq | exact sS.out _ _ s0 bq); have rz := heap_of bq _ _ _ rz; have hq0 := fz (k := 0) rz; have hq1 := fz (k := 1) rz; have hc0 := cell7 rz 0 _ rfl; have hc1 := cell7 rz 1 _ rfl; clear bq) | fail)
  obtain ⟨E0, E1⟩ := set2_cells rz (.int .u64 (a : Nat)) (.int .u64 (b : Nat))
  have BZ := (by first | exact And.left s1 | exact And.left s0 : Below w.heap.size w _)
  go_wp2
  exact bodyPost_ret (v := .agg #[.int .u64 (a : Nat), .int .u64 (b : Nat)]) (by simp [results, Tryd.results56, go_sem, E0, E1]) rfl ⟨rfl, set2_below BZ (by first | exact Nat.le_refl _ | omega | (have := S2.out; have := Ls_2.out; have := Lz_2.out; omega)) _ _⟩
set_option maxHeartbeats 1000000 in
theorem kendless_is (f : Int) (hf : Is4 f) (s a b : Nat) (hs : s < Q) (hv : bv7 (eb f s) = (a, b)) (w : World) (hT : FAt w) :
    Calls Tryd.prog 57 #[.int .u8 f, .agg (cw 6 s)] w fun r w' => r = .returned (.agg #[.int .u64 (a : Nat), .int .u64 (b : Nat)]) ∧ Below w.heap.size w w' := by
  have hat := cw_at 6
  have hz := cw6z
  have hff := cw6f
  have hs0 := st0
  have hcs : ∀ x, ((cw 6 x).size = 6) = True := fun x => eq_true (cw_size 6 x)
  obtain ⟨u, v, huv⟩ : ∃ u v, bv7 (toB s) = (u, v) := ⟨_, _, rfl⟩
  obtain ⟨o, ho⟩ := ktobits_one s u v hs huv
  have K1 := box ho
  obtain ⟨u1, v1, uv⟩ := bv_lt (toB_lt s) huv
  obtain ⟨c, d, hcd⟩ : ∃ u v, bv7 (eInf f false) = (u, v) := ⟨_, _, rfl⟩
  have K4 := box (fun w hT => sk_inf f false hf c d hcd w hT)
  obtain ⟨c1, d1, cd⟩ := bv_lt (einf_k hf).2 hcd
  have K5 := box (kplus_is c d u v _ _ a b c1 d1 cd u1 v1 uv hv)
  have TT := box hT
  clear hT hf hs hv huv ho u1 v1 uv hcd c1 d1 cd
  obtain ⟨Rs_0, Rz_0, B0⟩ := kopn2 w (Obj.cells (cw 6 s) 28) (Obj.cells #[.int .u64 0, .int .u64 0] 25)
  go_enter Tryd.func57, Tryd.ntmps57
  go_wp2_with fail
  refine (K1.out _).mono ?_
  rintro r w1 ⟨rfl, b1⟩
  have B1 : Below w.heap.size w w1 := btr7 B0 b1
  have Rs_1 := heap_of b1 _ _ _ Rs_0
  have Rz_1 := heap_of b1 _ _ _ Rz_0
  clear b1 B0 Rs_0 Rz_0
  have cs_1_0 := row_cell Rs_1
  obtain ⟨cz_1_0, cz_1_1⟩ := cell7t Rz_1
  have S2 := box B1.size
  have Ls_2 : Box (w.heap.size < w1.heap.size) := box (Array.getElem?_eq_some_iff.1 Rs_1).1
  have Lz_2 : Box (w.heap.size + 1 < w1.heap.size) := box (Array.getElem?_eq_some_iff.1 Rz_1).1
  have Rlow_2 := heap_alloc_last w1 (Obj.cells #[.int .u64 (u : Nat), .int .u64 (v : Nat)] 25)
  have B2 := btr7 B1 (bal7 w1 (Obj.cells #[.int .u64 (u : Nat), .int .u64 (v : Nat)] 25))
  have Rs_2 := heap_of (bal7 w1 (Obj.cells #[.int .u64 (u : Nat), .int .u64 (v : Nat)] 25)) _ _ _ Rs_1
  have Rz_2 := heap_of (bal7 w1 (Obj.cells #[.int .u64 (u : Nat), .int .u64 (v : Nat)] 25)) _ _ _ Rz_1
  clear B1 Rs_1 cs_1_0 Rz_1 cz_1_0 cz_1_1
  have cs_2_0 := row_cell Rs_2
  obtain ⟨cz_2_0, cz_2_1⟩ := cell7t Rz_2
  obtain ⟨clow_2_0, clow_2_1⟩ := cell7t Rlow_2
  have sS : Box (∀ W W1 : World, (Below w.heap.size w W ∧ W.heap[w.heap.size]? = some (Obj.cells (cw 6 s) 28) ∧ W.heap[w1.heap.size]? = some (Obj.cells #[.int .u64 (u : Nat), .int .u64 (v : Nat)] 25) ∧ W.cell? ⟨w.heap.size, 0, none⟩ = some (.int .u64 ((wd s 0 : Nat) : Int)) ∧ W.cell? ⟨w.heap.size, 1, none⟩ = some (.int .u64 ((wd s 1 : Nat) : Int)) ∧ W.cell? ⟨w.heap.size, 2, none⟩ = some (.int .u64 ((wd s 2 : Nat) : Int)) ∧ W.cell? ⟨w.heap.size, 3, none⟩ = some (.int .u64 ((wd s 3 : Nat) : Int)) ∧ W.cell? ⟨w.heap.size, 4, none⟩ = some (.int .u64 ((wd s 4 : Nat) : Int)) ∧ W.cell? ⟨w.heap.size, 5, none⟩ = some (.int .u64 ((wd s 5 : Nat) : Int)) ∧ W.cell? ⟨w1.heap.size, 0, none⟩ = some (.int .u64 (u : Nat)) ∧ W.cell? ⟨w1.heap.size, 1, none⟩ = some (.int .u64 (v : Nat))) → Below W.heap.size W W1 → (Below w.heap.size w W1 ∧ W1.heap[w.heap.size]? = some (Obj.cells (cw 6 s) 28) ∧ W1.heap[w1.heap.size]? = some (Obj.cells #[.int .u64 (u : Nat), .int .u64 (v : Nat)] 25) ∧ W1.cell? ⟨w.heap.size, 0, none⟩ = some (.int .u64 ((wd s 0 : Nat) : Int)) ∧ W1.cell? ⟨w.heap.size, 1, none⟩ = some (.int .u64 ((wd s 1 : Nat) : Int)) ∧ W1.cell? ⟨w.heap.size, 2, none⟩ = some (.int .u64 ((wd s 2 : Nat) : Int)) ∧ W1.cell? ⟨w.heap.size, 3, none⟩ = some (.int .u64 ((wd s 3 : Nat) : Int)) ∧ W1.cell? ⟨w.heap.size, 4, none⟩ = some (.int .u64 ((wd s 4 : Nat) : Int)) ∧ W1.cell? ⟨w.heap.size, 5, none⟩ = some (.int .u64 ((wd s 5 : Nat) : Int)) ∧ W1.cell? ⟨w1.heap.size, 0, none⟩ = some (.int .u64 (u : Nat)) ∧ W1.cell? ⟨w1.heap.size, 1, none⟩ = some (.int .u64 (v : Nat)))) := box (fun W W1 h b => ⟨btr7 h.1 b, heap_of b _ _ _ h.2.1, heap_of b _ _ _ h.2.2.1, row_cell (heap_of b _ _ _ h.2.1) 0 (by decide), row_cell (heap_of b _ _ _ h.2.1) 1 (by decide), row_cell (heap_of b _ _ _ h.2.1) 2 (by decide), row_cell (heap_of b _ _ _ h.2.1) 3 (by decide), row_cell (heap_of b _ _ _ h.2.1) 4 (by decide), row_cell (heap_of b _ _ _ h.2.1) 5 (by decide), cell7 (heap_of b _ _ _ h.2.2.1) 0 _ rfl, cell7 (heap_of b _ _ _ h.2.2.1) 1 _ rfl⟩)
  have sT : Box (∀ (W : World) (xA xB : Value), (Below w.heap.size w W ∧ W.heap[w.heap.size]? = some (Obj.cells (cw 6 s) 28) ∧ W.heap[w1.heap.size]? = some (Obj.cells #[.int .u64 (u : Nat), .int .u64 (v : Nat)] 25) ∧ W.cell? ⟨w.heap.size, 0, none⟩ = some (.int .u64 ((wd s 0 : Nat) : Int)) ∧ W.cell? ⟨w.heap.size, 1, none⟩ = some (.int .u64 ((wd s 1 : Nat) : Int)) ∧ W.cell? ⟨w.heap.size, 2, none⟩ = some (.int .u64 ((wd s 2 : Nat) : Int)) ∧ W.cell? ⟨w.heap.size, 3, none⟩ = some (.int .u64 ((wd s 3 : Nat) : Int)) ∧ W.cell? ⟨w.heap.size, 4, none⟩ = some (.int .u64 ((wd s 4 : Nat) : Int)) ∧ W.cell? ⟨w.heap.size, 5, none⟩ = some (.int .u64 ((wd s 5 : Nat) : Int)) ∧ W.cell? ⟨w1.heap.size, 0, none⟩ = some (.int .u64 (u : Nat)) ∧ W.cell? ⟨w1.heap.size, 1, none⟩ = some (.int .u64 (v : Nat))) → (Below w.heap.size w ((W.setCell ⟨w.heap.size + 1, 0, none⟩ xA).setCell ⟨w.heap.size + 1, 1, none⟩ xB) ∧ ((W.setCell ⟨w.heap.size + 1, 0, none⟩ xA).setCell ⟨w.heap.size + 1, 1, none⟩ xB).heap[w.heap.size]? = some (Obj.cells (cw 6 s) 28) ∧ ((W.setCell ⟨w.heap.size + 1, 0, none⟩ xA).setCell ⟨w.heap.size + 1, 1, none⟩ xB).heap[w1.heap.size]? = some (Obj.cells #[.int .u64 (u : Nat), .int .u64 (v : Nat)] 25) ∧ ((W.setCell ⟨w.heap.size + 1, 0, none⟩ xA).setCell ⟨w.heap.size + 1, 1, none⟩ xB).cell? ⟨w.heap.size, 0, none⟩ = some (.int .u64 ((wd s 0 : Nat) : Int)) ∧ ((W.setCell ⟨w.heap.size + 1, 0, none⟩ xA).setCell ⟨w.heap.size + 1, 1, none⟩ xB).cell? ⟨w.heap.size, 1, none⟩ = some (.int .u64 ((wd s 1 : Nat) : Int)) ∧ ((W.setCell ⟨w.heap.size + 1, 0, none⟩ xA).setCell ⟨w.heap.size + 1, 1, none⟩ xB).cell? ⟨w.heap.size, 2, none⟩ = some (.int .u64 ((wd s 2 : Nat) : Int)) ∧ ((W.setCell ⟨w.heap.size + 1, 0, none⟩ xA).setCell ⟨w.heap.size + 1, 1, none⟩ xB).cell? ⟨w.heap.size, 3, none⟩ = some (.int .u64 ((wd s 3 : Nat) : Int)) ∧ ((W.setCell ⟨w.heap.size + 1, 0, none⟩ xA).setCell ⟨w.heap.size + 1, 1, none⟩ xB).cell? ⟨w.heap.size, 4, none⟩ = some (.int .u64 ((wd s 4 : Nat) : Int)) ∧ ((W.setCell ⟨w.heap.size + 1, 0, none⟩ xA).setCell ⟨w.heap.size + 1, 1, none⟩ xB).cell? ⟨w.heap.size, 5, none⟩ = some (.int .u64 ((wd s 5 : Nat) : Int)) ∧ ((W.setCell ⟨w.heap.size + 1, 0, none⟩ xA).setCell ⟨w.heap.size + 1, 1, none⟩ xB).cell? ⟨w1.heap.size, 0, none⟩ = some (.int .u64 (u : Nat)) ∧ ((W.setCell ⟨w.heap.size + 1, 0, none⟩ xA).setCell ⟨w.heap.size + 1, 1, none⟩ xB).cell? ⟨w1.heap.size, 1, none⟩ = some (.int .u64 (v : Nat)))) := box (fun W xA xB h => ⟨set2_below h.1 (by first | exact Nat.le_refl _ | omega | (have := S2.out; have := Ls_2.out; have := Lz_2.out; omega)) xA xB, (setCell_other (by first | omega | (have := S2.out; have := Ls_2.out; have := Lz_2.out; omega))).trans ((setCell_other (by first | omega | (have := S2.out; have := Ls_2.out; have := Lz_2.out; omega))).trans h.2.1), (setCell_other (by first | omega | (have := S2.out; have := Ls_2.out; have := Lz_2.out; omega))).trans ((setCell_other (by first | omega | (have := S2.out; have := Ls_2.out; have := Lz_2.out; omega))).trans h.2.2.1), row_cell ((setCell_other (by first | omega | (have := S2.out; have := Ls_2.out; have := Lz_2.out; omega))).trans ((setCell_other (by first | omega | (have := S2.out; have := Ls_2.out; have := Lz_2.out; omega))).trans h.2.1)) 0 (by decide), row_cell ((setCell_other (by first | omega | (have := S2.out; have := Ls_2.out; have := Lz_2.out; omega))).trans ((setCell_other (by first | omega | (have := S2.out; have := Ls_2.out; have := Lz_2.out; omega))).trans h.2.1)) 1 (by decide), row_cell ((setCell_other (by first | omega | (have := S2.out; have := Ls_2.out; have := Lz_2.out; omega))).trans ((setCell_other (by first | omega | (have := S2.out; have := Ls_2.out; have := Lz_2.out; omega))).trans h.2.1)) 2 (by decide), row_cell ((setCell_other (by first | omega | (have := S2.out; have := Ls_2.out; have := Lz_2.out; omega))).trans ((setCell_other (by first | omega | (have := S2.out; have := Ls_2.out; have := Lz_2.out; omega))).trans h.2.1)) 3 (by decide), row_cell ((setCell_other (by first | omega | (have := S2.out; have := Ls_2.out; have := Lz_2.out; omega))).trans ((setCell_other (by first | omega | (have := S2.out; have := Ls_2.out; have := Lz_2.out; omega))).trans h.2.1)) 4 (by decide), row_cell ((setCell_other (by first | omega | (have := S2.out; have := Ls_2.out; have := Lz_2.out; omega))).trans ((setCell_other (by first | omega | (have := S2.out; have := Ls_2.out; have := Lz_2.out; omega))).trans h.2.1)) 5 (by decide), cell7 ((setCell_other (by first | omega | (have := S2.out; have := Ls_2.out; have := Lz_2.out; omega))).trans ((setCell_other (by first | omega | (have := S2.out; have := Ls_2.out; have := Lz_2.out; omega))).trans h.2.2.1)) 0 _ rfl, cell7 ((setCell_other (by first | omega | (have := S2.out; have := Ls_2.out; have := Lz_2.out; omega))).trans ((setCell_other (by first | omega | (have := S2.out; have := Ls_2.out; have := Lz_2.out; omega))).trans h.2.2.1)) 1 _ rfl⟩)
  have s0 : Below w.heap.size w ((w1.alloc (Obj.cells #[.int .u64 (u : Nat), .int .u64 (v : Nat)] 25))).drew ∧ ((w1.alloc (Obj.cells #[.int .u64 (u : Nat), .int .u64 (v : Nat)] 25))).drew.heap[w.heap.size]? = some (Obj.cells (cw 6 s) 28) ∧ ((w1.alloc (Obj.cells #[.int .u64 (u : Nat), .int .u64 (v : Nat)] 25))).drew.heap[w1.heap.size]? = some (Obj.cells #[.int .u64 (u : Nat), .int .u64 (v : Nat)] 25) ∧ ((w1.alloc (Obj.cells #[.int .u64 (u : Nat), .int .u64 (v : Nat)] 25))).drew.cell? ⟨w.heap.size, 0, none⟩ = some (.int .u64 ((wd s 0 : Nat) : Int)) ∧ ((w1.alloc (Obj.cells #[.int .u64 (u : Nat), .int .u64 (v : Nat)] 25))).drew.cell? ⟨w.heap.size, 1, none⟩ = some (.int .u64 ((wd s 1 : Nat) : Int)) ∧ ((w1.alloc (Obj.cells #[.int .u64 (u : Nat), .int .u64 (v : Nat)] 25))).drew.cell? ⟨w.heap.size, 2, none⟩ = some (.int .u64 ((wd s 2 : Nat) : Int)) ∧ ((w1.alloc (Obj.cells #[.int .u64 (u : Nat), .int .u64 (v : Nat)] 25))).drew.cell? ⟨w.heap.size, 3, none⟩ = some (.int .u64 ((wd s 3 : Nat) : Int)) ∧ ((w1.alloc (Obj.cells #[.int .u64 (u : Nat), .int .u64 (v : Nat)] 25))).drew.cell? ⟨w.heap.size, 4, none⟩ = some (.int .u64 ((wd s 4 : Nat) : Int)) ∧ ((w1.alloc (Obj.cells #[.int .u64 (u : Nat), .int .u64 (v : Nat)] 25))).drew.cell? ⟨w.heap.size, 5, none⟩ = some (.int .u64 ((wd s 5 : Nat) : Int)) ∧ ((w1.alloc (Obj.cells #[.int .u64 (u : Nat), .int .u64 (v : Nat)] 25))).drew.cell? ⟨w1.heap.size, 0, none⟩ = some (.int .u64 (u : Nat)) ∧ ((w1.alloc (Obj.cells #[.int .u64 (u : Nat), .int .u64 (v : Nat)] 25))).drew.cell? ⟨w1.heap.size, 1, none⟩ = some (.int .u64 (v : Nat)) := ⟨B2.drew, Rs_2, Rlow_2, row_cell (Rs_2) 0 (by decide), row_cell (Rs_2) 1 (by decide), row_cell (Rs_2) 2 (by decide), row_cell (Rs_2) 3 (by decide), row_cell (Rs_2) 4 (by decide), row_cell (Rs_2) 5 (by decide), cell7 (Rlow_2) 0 _ rfl, cell7 (Rlow_2) 1 _ rfl⟩
  have rz : ((w1.alloc (Obj.cells #[.int .u64 (u : Nat), .int .u64 (v : Nat)] 25))).drew.heap[w.heap.size + 1]? = some (Obj.cells #[.int .u64 0, .int .u64 0] 25) := Rz_2
  have hq0 := fz (k := 0) rz
  have hq1 := fz (k := 1) rz
  have hc0 := cell7 rz 0 _ rfl
  have hc1 := cell7 rz 1 _ rfl
  go_wp2_with fail
  go_region_held3 (fun W => Below w.heap.size w W ∧ W.heap[w.heap.size]? = some (Obj.cells (cw 6 s) 28) ∧ W.heap[w1.heap.size]? = some (Obj.cells #[.int .u64 (u : Nat), .int .u64 (v : Nat)] 25) ∧ W.cell? ⟨w.heap.size, 0, none⟩ = some (.int .u64 ((wd s 0 : Nat) : Int)) ∧ W.cell? ⟨w.heap.size, 1, none⟩ = some (.int .u64 ((wd s 1 : Nat) : Int)) ∧ W.cell? ⟨w.heap.size, 2, none⟩ = some (.int .u64 ((wd s 2 : Nat) : Int)) ∧ W.cell? ⟨w.heap.size, 3, none⟩ = some (.int .u64 ((wd s 3 : Nat) : Int)) ∧ W.cell? ⟨w.heap.size, 4, none⟩ = some (.int .u64 ((wd s 4 : Nat) : Int)) ∧ W.cell? ⟨w.heap.size, 5, none⟩ = some (.int .u64 ((wd s 5 : Nat) : Int)) ∧ W.cell? ⟨w1.heap.size, 0, none⟩ = some (.int .u64 (u : Nat)) ∧ W.cell? ⟨w1.heap.size, 1, none⟩ = some (.int .u64 (v : Nat))) (first | exact s1 | exact s0 | exact sT.out _ _ _ s1 | exact sT.out _ _ _ s0)
    (first | (go_at_call 39; (first | refine (K4.out _ (fatB TT.out (And.left s1))).mono ?_ | refine (K4.out _ (fatB TT.out (And.left s0))).mono ?_); rintro r wq ⟨rfl, bq⟩; have s1 := (by first | exact sS.out _ _ s1 bq | exact sS.out _ _ s0 bq); have rz := heap_of bq _ _ _ rz; have hq0 := fz (k := 0) rz; have hq1 := fz (k := 1) rz; have hc0 := cell7 rz 0 _ rfl; have hc1 := cell7 rz 1 _ rfl; clear bq) | (go_at_call 70; (first | refine (K5.out _).mono ?_ | refine (K5.out _).mono ?_); rintro r wq ⟨rfl, bq⟩; have s1 := (by first | exact sS.out _ _ s1 bq | exact sS.out _ _ s0 bq); have rz := heap_of bq _ _ _ rz; have hq0 := fz (k := 0) rz; have hq1 := fz (k := 1) rz; have hc0 := cell7 rz 0 _ rfl; have hc1 := cell7 rz 1 _ rfl; clear bq) | fail)
  obtain ⟨E0, E1⟩ := set2_cells rz (.int .u64 (a : Nat)) (.int .u64 (b : Nat))
  have BZ := (by first | exact And.left s1 | exact And.left s0 : Below w.heap.size w _)
  go_wp2
  exact bodyPost_ret (v := .agg #[.int .u64 (a : Nat), .int .u64 (b : Nat)]) (by simp [results, Tryd.results57, go_sem, E0, E1]) rfl ⟨rfl, set2_below BZ (by first | exact Nat.le_refl _ | omega | (have := S2.out; have := Ls_2.out; have := Lz_2.out; omega)) _ _⟩
end Go.Proofs.YtkmlbjlaahcahaaDoor
