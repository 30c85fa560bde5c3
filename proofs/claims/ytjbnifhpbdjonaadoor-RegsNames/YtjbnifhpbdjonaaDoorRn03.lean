/-
  What the functions that the statement reaches return: part 3 (ED, EF, EI, EN, EH, EL, SL22, SL23).
-/
import Derived.Lib.AtoiTie
import Derived.Test.YtjbnifhpbdjonaaDoorRows
import Derived.OpenShut
import Derived.LaidMore
import Derived.Lib.LaidTab
import Derived.Stop.Joined
import Derived.Stop.LaidErr
import Derived.Handed
import Derived.Shelf.Vars
import Derived.Test.YtjbnifhpbdjonaaDoorRn02
namespace Go.Proofs.YtjbnifhpbdjonaaDoor
set_option maxRecDepth 100000
set_option maxHeartbeats 40000000
set_option maxRecDepth 100000
open Go.RowKit WMath
set_option linter.unusedSimpArgs false
set_option linter.unusedVariables false
theorem rh_f0 {w : World} {b : Nat} {o : Bool} {R : Nat → Nat} {T : TypeId} (h : w.heap[b]? = some (.cells (rh o R) T)) (n : Nat) (hn : n < 32) : w.cell? ⟨b, 33 + n * 2, none⟩ = some (.int .u64 (R (32 + n * 2) : Nat)) := by
  have := rh_cell h (32 + n * 2) (by omega)
  rw [show 1 + (32 + n * 2) = 33 + n * 2 by omega] at this
  exact this
theorem rh_f1 {w : World} {b : Nat} {o : Bool} {R : Nat → Nat} {T : TypeId} (h : w.heap[b]? = some (.cells (rh o R) T)) (n : Nat) (hn : n < 32) : w.cell? ⟨b, 33 + n * 2 + 1, none⟩ = some (.int .u64 (R (32 + n * 2 + 1) : Nat)) := by
  have := rh_cell h (32 + n * 2 + 1) (by omega)
  rw [show 1 + (32 + n * 2 + 1) = 33 + n * 2 + 1 by omega] at this
  exact this
set_option maxRecDepth 100000 in
set_option maxHeartbeats 4000000 in
theorem g_F_e (p : Value) (n e : Int) (w : World) (he : e = 1 ∨ e = 2) (K : Box (∀ W, Below w.heap.size w W → Calls Tryd.prog 46 #[p, .int .i64 n] W fun r w' => r = .returned (.tuple #[.pointer none, .int .i64 e]) ∧ w' = W)) : Calls Tryd.prog 21 #[p, .int .i64 n] w fun r w' => r = .returned (.tuple #[.agg #[.int .u64 0, .int .u64 0], .int .i64 e]) ∧ Below w.heap.size w w' := by
  obtain ⟨Rz_0, B0⟩ := opn1 w (Obj.cells #[.int .u64 0, .int .u64 0] 25)
  go_enter Tryd.func21, Tryd.ntmps21
  obtain ⟨cz_0_0, cz_0_1⟩ := cells2s Rz_0
  rcases he with rfl | rfl
  · go_wp2_with fail
    refine (K.out _ B0).mono ?_
    rintro r w' ⟨rfl, rfl⟩
    clear B0 Rz_0
    go_wp2
    exact bodyPost_ret (v := .tuple #[.agg #[.int .u64 0, .int .u64 0], .int .i64 1]) (by simp [results, Tryd.results21, go_sem]) rfl ⟨rfl, ((Below.refl _ _).alloc (by first | omega | (simp only [size_al]; omega)) _)⟩
  · go_wp2_with fail
    refine (K.out _ B0).mono ?_
    rintro r w' ⟨rfl, rfl⟩
    clear B0 Rz_0
    go_wp2
    exact bodyPost_ret (v := .tuple #[.agg #[.int .u64 0, .int .u64 0], .int .i64 2]) (by simp [results, Tryd.results21, go_sem]) rfl ⟨rfl, ((Below.refl _ _).alloc (by first | omega | (simp only [size_al]; omega)) _)⟩
set_option maxRecDepth 100000 in
set_option maxHeartbeats 4000000 in
theorem g_F (R : Nat → Nat) (b n : Nat) (hn : n < 32) (w : World) (hr : w.heap[b]? = some (.cells (rh true R) 58)) : Calls Tryd.prog 21 #[.pointer (some ⟨b, 0, none⟩), .int .i64 (n : Nat)] w fun r w' => r = .returned (.tuple #[.agg #[.int .u64 (R (32 + n * 2) : Nat), .int .u64 (R (32 + n * 2 + 1) : Nat)], .int .i64 0]) ∧ Below w.heap.size w w' := by
  obtain ⟨Rz_0, B0⟩ := opn1 w (Obj.cells #[.int .u64 0, .int .u64 0] 25)
  go_enter Tryd.func21, Tryd.ntmps21
  have hr1 := row_al hr (Obj.cells #[.int .u64 0, .int .u64 0] 25)
  have c0 := rh_f0 hr1 n hn
  have c1 := rh_f1 hr1 n hn
  obtain ⟨cz_0_0, cz_0_1⟩ := cells2s Rz_0
  go_wp2_with fail
  refine (g_fA R b n hn _ hr1).mono ?_
  rintro r w' ⟨rfl, rfl⟩
  clear hr hr1 hn
  clear B0 Rz_0
  go_wp2
  exact bodyPost_ret (v := .tuple #[.agg #[.int .u64 (R (32 + n * 2) : Nat), .int .u64 (R (32 + n * 2 + 1) : Nat)], .int .i64 0]) (by simp [results, Tryd.results21, go_sem]) rfl ⟨rfl, ((Below.refl _ _).alloc (by first | omega | (simp only [size_al]; omega)) _)⟩
theorem only_set {b k : Nat} {v : Value} {a w : World} (h : Only b a w) : Only b a (w.setCell ⟨b, k, none⟩ v) := by
  refine ⟨h.1, h.2.1, h.2.2.1, ?_, fun i hi hib => ?_⟩
  · exact Nat.le_trans h.2.2.2.1 ((Below.refl 0 w).setCell (p := ⟨b, k, none⟩) (Nat.zero_le _) v).size
  · rw [setCell_other (by omega)]
    exact h.2.2.2.2 i hi hib
theorem rh_setF {w : World} {b : Nat} {o : Bool} {R : Nat → Nat} {T : TypeId} (h : w.heap[b]? = some (.cells (rh o R) T)) (n u v : Nat) (hn : n < 32) : ((w.setCell ⟨b, 33 + n * 2, none⟩ (.int .u64 (u : Nat))).setCell ⟨b, 33 + n * 2 + 1, none⟩ (.int .u64 (v : Nat))).heap[b]? = some (.cells (rh o (up (up R (32 + n * 2) u) (32 + n * 2 + 1) v)) T) := by
  have h1 := setCell_row (k := 33 + n * 2) (v := .int .u64 (u : Nat)) h
  rw [show 33 + n * 2 = 1 + (32 + n * 2) by omega, rh_set _ _ _ _ (by omega), ← show 33 + n * 2 = 1 + (32 + n * 2) by omega] at h1
  have h2 := setCell_row (k := 33 + n * 2 + 1) (v := .int .u64 (v : Nat)) h1
  rw [show 33 + n * 2 + 1 = 1 + (32 + n * 2 + 1) by omega, rh_set _ _ _ _ (by omega)] at h2
  rw [show 33 + n * 2 + 1 = 1 + (32 + n * 2 + 1) by omega]
  exact h2
set_option maxRecDepth 100000 in
set_option maxHeartbeats 4000000 in
theorem g_Put_e (p : Value) (f n e : Int) (u v : Nat) (w : World) (he : e = 1 ∨ e = 2) (K : Box (∀ W, Below w.heap.size w W → Calls Tryd.prog 46 #[p, .int .i64 n] W fun r w' => r = .returned (.tuple #[.pointer none, .int .i64 e]) ∧ w' = W)) : Calls Tryd.prog 27 #[p, .int .u8 f, .int .i64 n, .agg #[.int .u64 (u : Nat), .int .u64 (v : Nat)]] w fun r w' => r = .returned (.int .i64 e) ∧ Below w.heap.size w w' := by
  obtain ⟨Rc_0, B0⟩ := opn1 w (Obj.cells #[.int .u64 (u : Nat), .int .u64 (v : Nat)] 25)
  go_enter Tryd.func27, Tryd.ntmps27
  rcases he with rfl | rfl
  · go_wp2_with fail
    refine (K.out _ B0).mono ?_
    rintro r w' ⟨rfl, rfl⟩
    go_wp2
    go_ret
    exact ⟨rfl, B0⟩
  · go_wp2_with fail
    refine (K.out _ B0).mono ?_
    rintro r w' ⟨rfl, rfl⟩
    go_wp2
    go_ret
    exact ⟨rfl, B0⟩
set_option maxRecDepth 100000 in
set_option maxHeartbeats 4000000 in
theorem g_Put_n (R : Nat → Nat) (b n u v : Nat) (f : Int) (hn : n < 32) (w : World) (hr : w.heap[b]? = some (.cells (rh true R) 58)) (hT : FAt w) (KB : Box (∀ w, FAt w → Calls Tryd.prog 50 #[.int .u8 f, .agg #[.int .u64 (u : Nat), .int .u64 (v : Nat)]] w fun r w' => r = .returned (.tuple #[.agg #[.int .u64 0, .int .u64 0], .int .i64 2]) ∧ Below w.heap.size w w')) : Calls Tryd.prog 27 #[.pointer (some ⟨b, 0, none⟩), .int .u8 f, .int .i64 (n : Nat), .agg #[.int .u64 (u : Nat), .int .u64 (v : Nat)]] w fun r w' => r = .returned (.int .i64 2) ∧ Below w.heap.size w w' := by
  have FF := box hT
  clear hT
  obtain ⟨Rc_0, B0⟩ := opn1 w (Obj.cells #[.int .u64 (u : Nat), .int .u64 (v : Nat)] 25)
  go_enter Tryd.func27, Tryd.ntmps27
  have hr1 := row_al hr (Obj.cells #[.int .u64 (u : Nat), .int .u64 (v : Nat)] 25)
  obtain ⟨cc_0_0, cc_0_1⟩ := cells2s Rc_0
  go_wp2_with fail
  refine (g_fA R b n hn _ hr1).mono ?_
  rintro r w' ⟨rfl, rfl⟩
  go_wp2_with fail
  refine (KB.out _ (fatB FF.out B0)).mono ?_
  rintro r w1 ⟨rfl, b1⟩
  have B1 : Below w.heap.size w w1 := btr B0 b1
  have Rc_1 := heap_of b1 _ _ _ Rc_0
  clear b1 B0 Rc_0 cc_0_0 cc_0_1
  obtain ⟨cc_1_0, cc_1_1⟩ := cells2s Rc_1
  have S2 := box B1.size
  have Lc_2 : Box (w.heap.size < w1.heap.size) := box (Array.getElem?_eq_some_iff.1 Rc_1).1
  have Ry_2 := heap_alloc_last w1 (Obj.cells #[.int .u64 0, .int .u64 0] 25)
  have B2 := btr B1 (bal w1 (Obj.cells #[.int .u64 0, .int .u64 0] 25))
  have Rc_2 := heap_of (bal w1 (Obj.cells #[.int .u64 0, .int .u64 0] 25)) _ _ _ Rc_1
  clear B1 Rc_1 cc_1_0 cc_1_1
  obtain ⟨cc_2_0, cc_2_1⟩ := cells2s Rc_2
  obtain ⟨cy_2_0, cy_2_1⟩ := cells2s Ry_2
  go_wp2
  go_ret
  exact ⟨rfl, B2⟩
set_option maxRecDepth 100000 in
set_option maxHeartbeats 4000000 in
theorem g_Put_y (R : Nat → Nat) (b n u v x y : Nat) (f : Int) (hn : n < 32) (w : World) (hr : w.heap[b]? = some (.cells (rh true R) 58)) (hT : FAt w) (KB : Box (∀ w, FAt w → Calls Tryd.prog 50 #[.int .u8 f, .agg #[.int .u64 (u : Nat), .int .u64 (v : Nat)]] w fun r w' => r = .returned (.tuple #[.agg #[.int .u64 (x : Nat), .int .u64 (y : Nat)], .int .i64 0]) ∧ Below w.heap.size w w')) : Calls Tryd.prog 27 #[.pointer (some ⟨b, 0, none⟩), .int .u8 f, .int .i64 (n : Nat), .agg #[.int .u64 (u : Nat), .int .u64 (v : Nat)]] w fun r w' => r = .returned (.int .i64 0) ∧ w'.heap[b]? = some (.cells (rh true (up (up R (32 + n * 2) x) (32 + n * 2 + 1) y)) 58) ∧ Only b w w' := by
  have FF := box hT
  clear hT
  obtain ⟨Rc_0, B0⟩ := opn1 w (Obj.cells #[.int .u64 (u : Nat), .int .u64 (v : Nat)] 25)
  go_enter Tryd.func27, Tryd.ntmps27
  have hr1 := row_al hr (Obj.cells #[.int .u64 (u : Nat), .int .u64 (v : Nat)] 25)
  obtain ⟨cc_0_0, cc_0_1⟩ := cells2s Rc_0
  go_wp2_with fail
  refine (g_fA R b n hn _ hr1).mono ?_
  rintro r w' ⟨rfl, rfl⟩
  go_wp2_with fail
  refine (KB.out _ (fatB FF.out B0)).mono ?_
  rintro r w2 ⟨rfl, b2⟩
  have B2 := btr B0 b2
  have hr2 := row_al (heap_of b2 _ _ _ hr1) (Obj.cells #[.int .u64 (x : Nat), .int .u64 (y : Nat)] 25)
  have B3 := bel_al B2 (Obj.cells #[.int .u64 (x : Nat), .int .u64 (y : Nat)] 25)
  obtain ⟨cy0, cy1⟩ := cells2s (last7 w2 (Obj.cells #[.int .u64 (x : Nat), .int .u64 (y : Nat)] 25))
  have c0 := rh_f0 hr2 n hn
  have c1 := rh_f1 hr2 n hn
  have q0 := fz (k := 33 + n * 2) hr2
  have q1 := fz (k := 33 + n * 2 + 1) hr2
  have hF := rh_setF hr2 n x y hn
  have hO := only_set (k := 33 + n * 2 + 1) (v := .int .u64 (y : Nat)) (only_set (k := 33 + n * 2) (v := .int .u64 (x : Nat)) (Only.ofBelow (g := b) B3 (Nat.le_refl _)))
  go_wp2
  go_ret
  exact ⟨rfl, hF, hO⟩
end Go.Proofs.YtjbnifhpbdjonaaDoor
namespace Go.Proofs.YtjbnifhpbdjonaaDoor
set_option maxRecDepth 100000
set_option maxHeartbeats 40000000
set_option maxRecDepth 100000
open Go.RowKit WMath
set_option linter.unusedSimpArgs false
set_option linter.unusedVariables false
set_option maxRecDepth 100000 in
set_option maxHeartbeats 4000000 in
theorem g_From (R : Nat → Nat) (w : World) : Calls Tryd.prog 7 #[.agg (rf R)] w fun r w' => ∃ b, r = .returned (.pointer (some ⟨b, 0, none⟩)) ∧ w.heap.size ≤ b ∧ w'.heap[b]? = some (.cells (rh true (up R 0 0)) 58) ∧ Below w.heap.size w w' := by
  have hrs : ∀ R, ((rf R).size = 96) = True := fun R => eq_true (rf_size R)
  have hra := rf_at
  have hr0 := rf_set0 R 0 (by decide)
  have hgz := rh_zero
  obtain ⟨Rx_0, B0⟩ := opn1 w (Obj.cells (rf R) 28)
  go_enter Tryd.func7, Tryd.ntmps7
  have cx := rf_cell Rx_0 0 (by omega)
  have qx := fz (k := 0) Rx_0
  go_wp2_with (first | ((with_reducible (refine wpl_rf rfl _ rfl ?_ (last7 _ _) ?_)); rfl) | ((with_reducible (refine wp_rf _ rfl ?_ (last7 _ _) ?_)); rfl) | ((with_reducible (refine wpl_rhb (m := true) (R := up R 0 0) rfl _ _ rfl ?_ ?_ ?_)); rfl; rfl) | ((with_reducible (refine wp_rhb (m := true) (R := up R 0 0) _ _ rfl ?_ ?_ ?_)); rfl; rfl))
  go_ret
  exact ⟨w.heap.size + 1, by simp [size_al], by omega, row_last (by simp only [size_al]), bel_al (bal7 _ _) _⟩
set_option maxRecDepth 100000 in
set_option maxHeartbeats 4000000 in
theorem g_New (K : Box (∀ w, Calls Tryd.prog 7 #[.agg (rf fun _ => 0)] w fun r w' => ∃ b, r = .returned (.pointer (some ⟨b, 0, none⟩)) ∧ w.heap.size ≤ b ∧ w'.heap[b]? = some (.cells (rh true (up (fun _ => 0) 0 0)) 58) ∧ Below w.heap.size w w')) (w : World) : Calls Tryd.prog 24 #[] w fun r w' => ∃ b, r = .returned (.pointer (some ⟨b, 0, none⟩)) ∧ w.heap.size ≤ b ∧ w'.heap[b]? = some (.cells (rh true (up (fun _ => 0) 0 0)) 58) ∧ Below w.heap.size w w' := by
  have hrz := rf_zero
  go_enter Tryd.func24, Tryd.ntmps24
  go_wp2_with fail
  refine (K.out _).mono ?_
  rintro r w' ⟨b, rfl, gb, r1, B1⟩
  go_wp2
  go_ret
  exact ⟨b, rfl, gb, r1, B1⟩
end Go.Proofs.YtjbnifhpbdjonaaDoor
namespace Go.Proofs.YtjbnifhpbdjonaaDoor
set_option maxRecDepth 100000
set_option maxHeartbeats 40000000
set_option maxRecDepth 100000
open Go.RowKit WMath
set_option linter.unusedSimpArgs false
set_option linter.unusedVariables false
theorem kX (R : Nat → Nat) (b : Nat) (n : Int) (w : World) (hr : w.heap[b]? = some (.cells (rh true R) 58)) : Calls Tryd.prog 20 #[.pointer (some ⟨b, 0, none⟩), .int .i64 n] w fun r w' => r = .returned (.tuple #[.int .u64 ((xV R n).1 : Nat), .int .i64 (xV R n).2]) ∧ Below w.heap.size w w' := by
  unfold xV
  cases q : inR n
  · exact bel_st (g_X_e _ n 2 w (Or.inr rfl) (g_wA2 R b n q w hr))
  · obtain ⟨k, hk, rfl, e⟩ := inR_nat q
    exact bel_st (g_X R b k hk w hr)
theorem rh_below {w W : World} {b : Nat} {o : Bool} {R : Nat → Nat} (hr : w.heap[b]? = some (.cells (rh o R) 58)) (h : Below w.heap.size w W) : W.heap[b]? = some (.cells (rh o R) 58) := heap_of h _ _ _ hr
theorem kF (R : Nat → Nat) (b : Nat) (n : Int) (w : World) (hr : w.heap[b]? = some (.cells (rh true R) 58)) : Calls Tryd.prog 21 #[.pointer (some ⟨b, 0, none⟩), .int .i64 n] w fun r w' => r = .returned (.tuple #[.agg #[.int .u64 ((fV R n).1 : Nat), .int .u64 ((fV R n).2.1 : Nat)], .int .i64 (fV R n).2.2]) ∧ Below w.heap.size w w' := by
  unfold fV
  cases q : inR n
  · exact g_F_e _ n 2 w (Or.inr rfl) (box (fun W h => g_fA2 R b n q W (rh_below hr h)))
  · obtain ⟨k, hk, rfl, e⟩ := inR_nat q
    exact g_F R b k hk w hr
theorem only_own {b : Nat} {w : World} : Only b w w := Only.ofBelow (Below.refl _ _) (Nat.le_refl _)
theorem keep {k : FuncId} {a : Array Value} {w : World} {v : Value} {b : Nat} {R : Nat → Nat} (hr : w.heap[b]? = some (.cells (rh true R) 58)) (h : Calls Tryd.prog k a w fun r w' => r = .returned v ∧ Below w.heap.size w w') : Calls Tryd.prog k a w fun r w' => r = .returned v ∧ w'.heap[b]? = some (.cells (rh true R) 58) ∧ Only b w w' :=
  h.mono fun _ w' ⟨e, q⟩ => ⟨e, heap_of q _ _ _ hr, Only.ofBelow q (Nat.le_refl _)⟩
theorem rh_same {o : Bool} {R S : Nat → Nat} (h : ∀ k, k < 96 → R k = S k) : rh o R = rh o S := by unfold rh; rw [rf_same h]
theorem kSetX (R : Nat → Nat) (b : Nat) (n : Int) (x : Nat) (w : World) (h0 : R 0 = 0) (hr : w.heap[b]? = some (.cells (rh true R) 58)) : Calls Tryd.prog 25 #[.pointer (some ⟨b, 0, none⟩), .int .i64 n, .int .u64 (x : Nat)] w fun r w' => r = .returned (.int .i64 (sxV R n x).2) ∧ w'.heap[b]? = some (.cells (rh true (sxV R n x).1) 58) ∧ Only b w w' := by
  unfold sxV
  cases q : inR n
  · exact keep hr (bel_st (g_SetX_e _ n 2 x w (Or.inr rfl) (g_wA2 R b n q w hr)))
  · obtain ⟨k, hk, rfl, e⟩ := inR_nat q
    refine (g_SetX R b k x hk w hr).mono ?_
    rintro r w' ⟨rfl, rfl⟩
    refine ⟨rfl, ?_, only_set (k := 1) (only_set (k := 1 + k) only_own)⟩
    have h1 := setCell_row (k := 1 + k) (v := .int .u64 (x : Nat)) hr
    rw [rh_set true R k x (by omega)] at h1
    have h2 := setCell_row (k := 1) (v := .int .u64 0) h1
    have e2 : (rh true (up R k x)).setIfInBounds 1 (.int .u64 0) = rh true (up (up R k x) 0 0) := rh_set0 true (up R k x) 0 (by omega)
    have e3 : rh true (up (up R k x) 0 0) = rh true (if (k : Int) = 0 then R else up R (k : Int).toNat x) := by
      apply rh_same
      intro j hj
      by_cases z : k = 0
      · subst z
        rw [if_pos (by decide)]
        unfold up
        split
        · rename_i e0
          rw [e0, h0]
        · rfl
      · rw [if_neg (by omega), e]
        unfold up
        split
        · rename_i e0
          rw [e0, if_neg (by omega), h0]
        · rfl
    rw [e2, e3] at h2
    exact h2
theorem kPut (R : Nat → Nat) (b : Nat) (f n : Int) (u v : Nat) (w : World) (h0 : 0 ≤ f) (h1 : f ≤ 255) (hu : u < 18446744073709551616) (hv : v < 18446744073709551616) (hT : FAt w) (hr : w.heap[b]? = some (.cells (rh true R) 58)) : Calls Tryd.prog 27 #[.pointer (some ⟨b, 0, none⟩), .int .u8 f, .int .i64 n, .agg #[.int .u64 (u : Nat), .int .u64 (v : Nat)]] w fun r w' => r = .returned (.int .i64 (ptV R f n u v).2) ∧ w'.heap[b]? = some (.cells (rh true (ptV R f n u v).1) 58) ∧ Only b w w' := by
  unfold ptV
  cases q : inR n
  · exact keep hr (g_Put_e _ f n 2 u v w (Or.inr rfl) (box (fun W h => g_fA2 R b n q W (rh_below hr h))))
  · obtain ⟨k, hk, rfl, e⟩ := inR_nat q
    cases c : fitN f (v + 18446744073709551616 * u)
    · exact keep hr (g_Put_n R b k u v f hk w hr hT (kBox_no f u v _ h0 h1 hu hv rfl c))
    · have fit := of_decide_eq_true c
      exact g_Put_y R b k u v _ _ f hk w hr hT (kBox_is f u v _ h0 (wd_three fit.1).2 hu hv rfl fit.2 _ _ rfl)
def Atq (w : World) : Prop := (∃ t p, w.var? Tryd.prog "strconv.ErrSyntax" = some #[.iface t p]) ∧ (∃ t p, w.var? Tryd.prog "strconv.ErrRange" = some #[.iface t p])
theorem varQ {w w' : World} {g : Nat} {nm : String} {v : Array Value} (hg : Tryd.prog.globalNamed nm = some g) (h : w.var? Tryd.prog nm = some v) (hb : Below w.heap.size w w') : w'.var? Tryd.prog nm = some v := by
  unfold World.var? at h ⊢
  rw [hg] at h ⊢
  simp only [Option.bind_some] at h ⊢
  have h0 : g < w.heap.size := by
    rcases Nat.lt_or_ge g w.heap.size with e | e
    · exact e
    · have : w.heap[g]? = none := Array.getElem?_eq_none e
      rw [this] at h
      cases h
  rw [hb.block g h0]
  exact h
theorem gSynQ : Tryd.prog.globalNamed "strconv.ErrSyntax" = some 1 := by kernel_rfl
theorem gRngQ : Tryd.prog.globalNamed "strconv.ErrRange" = some 2 := by kernel_rfl
theorem atQ {w w' : World} (h : Atq w) (hb : Below w.heap.size w w') : Atq w' := by
  obtain ⟨⟨t, p, h1⟩, ⟨t2, p2, h2⟩⟩ := h
  exact ⟨⟨t, p, varQ gSynQ h1 hb⟩, ⟨t2, p2, varQ gRngQ h2 hb⟩⟩
theorem q_cutPrefix (s p : ByteArray) (w : World) : Calls Tryd.prog 42 #[.string s, .string p] w fun r w' => r = .returned (.tuple #[.string ⟨(Lib.trimPrefix s.data.toList p.data.toList).toArray⟩, .bool (Lib.hasPrefix s.data.toList p.data.toList)]) ∧ w' = w :=
  Any.strings_CutPrefix Tryd.laysCutPrefix s p w
theorem q_trimPrefix (s p : ByteArray) (w : World) : Calls Tryd.prog 43 #[.string s, .string p] w fun r w' => r = .returned (.string ⟨(Lib.trimPrefix s.data.toList p.data.toList).toArray⟩) ∧ w' = w :=
  Any.strings_TrimPrefix Tryd.laysTrimPrefix s p w
theorem q_atoi (s : List UInt8) (hl : s.length ≤ 281474976710656) : ∃ X : Int, (-9223372036854775808 ≤ X ∧ X ≤ 9223372036854775807) ∧ (∀ v, Lib.atoiAll s = .ok v → X = v) ∧ (s = [] → X = 0) ∧ ∀ w, Atq w → Calls Tryd.prog 44 #[.string ⟨s.toArray⟩] w fun r w' => ∃ ev, r = .returned (.tuple #[.int .i64 X, ev]) ∧ Below w.heap.size w w' := by
  have he : s = [] → Lib.atoiAll s = .syntax := fun h => by subst h; decide
  cases h : Lib.atoiAll s with
  | ok v =>
    refine ⟨v, Lib.atoiAll_bounds h, fun u hu => (by injection hu), fun h0 => (by rw [he h0] at h; cases h), fun w hA => ?_⟩
    refine (Any.strconv_Atoi_ok Tryd.laysAtoi ⟨s.toArray⟩ (by show s.length ≤ 9223372036854775806; omega) v h w).mono ?_
    rintro r w' ⟨rfl, hw⟩
    refine ⟨_, rfl, ?_⟩
    rcases hw with rfl | ⟨t, rfl⟩
    · exact Below.refl _ _
    · exact Lib.bytesWorld_below _ _ _
  | «syntax» =>
    refine ⟨0, by omega, fun u hu => (by injection hu), fun _ => rfl, fun w hA => ?_⟩
    obtain ⟨⟨t, p, h1⟩, _⟩ := hA
    refine (Any.strconv_Atoi_syntax_var Tryd.laysAtoi ⟨s.toArray⟩ hl h t p w h1).mono ?_
    rintro r w' ⟨N, rfl, _, _, b⟩
    exact ⟨_, rfl, b⟩
  | range =>
    refine ⟨Lib.atoiSat s, by unfold Lib.atoiSat; split <;> omega, fun u hu => (by injection hu), fun h0 => (by rw [he h0] at h; cases h), fun w hA => ?_⟩
    obtain ⟨_, ⟨t, p, h1⟩⟩ := hA
    refine (Any.strconv_Atoi_range_var Tryd.laysAtoi ⟨s.toArray⟩ hl h t p w h1).mono ?_
    rintro r w' ⟨N, rfl, _, _, b⟩
    exact ⟨_, rfl, b⟩
theorem itoa_nuB : ∀ k : Nat, k < 32 → Lib.itoa (k : Int) = (nuB k).data.toList := by decide +kernel
theorem atoi_nuB : ∀ k : Nat, k < 32 → Lib.atoiAll (nuB k).data.toList = .ok (k : Int) := by decide +kernel
theorem nmB_list (fl : Bool) (k : Nat) : (nmB fl k).data.toList = (if fl = true then 102 else 120) :: (nuB k).data.toList := by
  unfold nmB
  cases fl <;> simp
theorem pre_nmB (fl : Bool) (k : Nat) : Lib.hasPrefix (nmB fl k).data.toList [102] = fl := by
  rw [nmB_list]
  cases fl <;> simp [Lib.hasPrefix, List.isPrefixOf]
theorem trim_f (k : Nat) : Lib.trimPrefix (nmB true k).data.toList [102] = (nuB k).data.toList := by
  rw [nmB_list]
  simp [Lib.trimPrefix, Lib.hasPrefix]
theorem trim_x (k : Nat) : Lib.trimPrefix (nmB false k).data.toList [120] = (nuB k).data.toList := by
  rw [nmB_list]
  simp [Lib.trimPrefix, Lib.hasPrefix]
theorem ndK_some {s : ByteArray} {fl : Bool} {k : Nat} : ∀ m, ndK s m = some (fl, k) → k < m ∧ nmB fl k = s
  | 0, h => by simp [ndK] at h
  | m + 1, h => by
    rw [ndK] at h
    cases c : ndK s m with
    | some r =>
      rw [c] at h
      obtain rfl : r = (fl, k) := by injection (show some r = some (fl, k) from h)
      have := ndK_some m c
      exact ⟨by omega, this.2⟩
    | none =>
      rw [c] at h
      have h : (if nmB false m = s then some (false, m) else if nmB true m = s then some (true, m) else none) = some (fl, k) := h
      split at h
      · cases h
        exact ⟨by omega, by assumption⟩
      · split at h
        · cases h
          exact ⟨by omega, by assumption⟩
        · cases h
theorem ndR_no {s : ByteArray} (h : ∀ fl k, k < 32 → nmB fl k ≠ s) : ndR s = (false, 0, 230) := by
  unfold ndR
  cases c : ndK s 32 with
  | none => rfl
  | some r => exact absurd (ndK_some 32 c).2 (h r.1 r.2 (ndK_some 32 c).1)
theorem ndR_nm : ∀ k : Nat, k < 32 → ndR (nmB false k) = (false, k, 0) ∧ ndR (nmB true k) = (true, k, 0) := by decide +kernel
theorem nd_main (s : ByteArray) (fl : Bool) (X : Int) (hfl : fl = Lib.hasPrefix s.data.toList [102]) (d : List UInt8) (hd : d = if fl = true then Lib.trimPrefix s.data.toList [102] else Lib.trimPrefix s.data.toList [120]) (h1 : ∀ v, Lib.atoiAll d = .ok v → X = v) (h2 : d = [] → X = 0) :
    (if (nmV fl X).1 = s then (fl, X, 0) else (false, 0, 230)) = ((ndR s).1, (((ndR s).2.1 : Nat) : Int), (ndR s).2.2) := by
  by_cases q : (nmV fl X).1 = s
  · rw [if_pos q]
    by_cases c : (decide (0 ≤ X) && decide (X < 32)) = true
    · have c' := c
      rw [Bool.and_eq_true] at c'
      have a := of_decide_eq_true c'.1
      have b := of_decide_eq_true c'.2
      unfold nmV at q
      rw [if_pos c] at q
      obtain ⟨k, rfl⟩ : ∃ k : Nat, X = (k : Int) := ⟨X.toNat, by omega⟩
      have := ndR_nm k (by omega)
      rw [← show nmB fl k = s from q]
      cases fl
      · rw [this.1]
      · rw [this.2]
    · unfold nmV at q
      rw [if_neg c] at q
      exfalso
      have e : d = [] := by
        rw [hd, ← show (⟨#[]⟩ : ByteArray) = s from q]
        split <;> simp [Lib.trimPrefix]
      rw [h2 e] at c
      exact c (by decide)
  · rw [if_neg q, ndR_no]
    · rfl
    · rintro fl' k hk rfl
      apply q
      rw [pre_nmB] at hfl
      subst hfl
      have e : d = (nuB k).data.toList := by
        rw [hd]
        cases fl
        · exact trim_x k
        · exact trim_f k
      have hX := h1 k (by rw [e]; exact atoi_nuB k hk)
      subst hX
      unfold nmV
      rw [if_pos (by rw [decide_eq_true (by omega), decide_eq_true (by omega)]; rfl)]
      rfl
end Go.Proofs.YtjbnifhpbdjonaaDoor
namespace Go.Proofs.YtjbnifhpbdjonaaDoor
set_option maxRecDepth 100000
set_option maxHeartbeats 40000000
set_option maxRecDepth 100000
open Go.RowKit WMath
set_option linter.unusedSimpArgs false
set_option linter.unusedVariables false
set_option maxRecDepth 100000 in
set_option maxHeartbeats 4000000 in
theorem g_Name_no (fl : Bool) (n : Int) (hi : inR n = false) (w : World) : Calls Tryd.prog 16 #[.bool fl, .int .i64 n] w fun r w' => r = .returned (.tuple #[.string ⟨#[]⟩, .int .i64 2]) ∧ Below w.heap.size w w' := by
  have K := g_isR n w
  rw [hi] at K
  clear hi
  go_enter Tryd.func16, Tryd.ntmps16
  go_wp2_with (go_at_call 38; refine K.mono ?_; rintro r w' ⟨rfl, rfl⟩)
  go_ret2
  exact ⟨rfl, Below.refl _ _⟩
set_option maxRecDepth 100000 in
set_option maxHeartbeats 4000000 in
theorem g_Name_y (fl : Bool) (k : Nat) (h : k < 32) (s p : ByteArray) (hp : nuB k = p) (hs : nmB fl k = s) (w : World) (hP : P10 w) : Calls Tryd.prog 16 #[.bool fl, .int .i64 (k : Nat)] w fun r w' => r = .returned (.tuple #[.string s, .int .i64 0]) ∧ Below w.heap.size w w' := by
  have K := g_isR (k : Int) w
  rw [show inR (k : Int) = true by unfold inR; rw [decide_eq_true (by omega), decide_eq_true (by omega)]; rfl] at K
  have KN := t_itoa (k : Int) p (by omega) (by omega) (by rw [itoa_nuB k h, ← hp]) w hP
  have hz := nuB_size k
  rw [hp] at hz
  unfold nmB at hs
  rw [hp] at hs
  clear hp h
  have c1 : ¬ 9223372036854775807 < 1 + p.size := by omega
  cases fl
  · have hs' : (⟨#[120]⟩ : ByteArray) ++ p = s := hs
    clear hs
    go_enter Tryd.func16, Tryd.ntmps16
    go_wp2_with (first | (go_at_call 38; refine K.mono ?_; rintro r w' ⟨rfl, rfl⟩) | (go_at_call 39; refine KN.mono ?_; rintro r w1 ⟨rfl, b1⟩))
    go_ret2
    exact ⟨rfl, b1⟩
  · have hs' : (⟨#[102]⟩ : ByteArray) ++ p = s := hs
    clear hs
    go_enter Tryd.func16, Tryd.ntmps16
    go_wp2_with (first | (go_at_call 38; refine K.mono ?_; rintro r w' ⟨rfl, rfl⟩) | (go_at_call 39; refine KN.mono ?_; rintro r w1 ⟨rfl, b1⟩))
    go_ret2
    exact ⟨rfl, b1⟩
theorem g_Name (fl : Bool) (n : Int) (w : World) (hP : P10 w) : Calls Tryd.prog 16 #[.bool fl, .int .i64 n] w fun r w' => r = .returned (.tuple #[.string (nmV fl n).1, .int .i64 (nmV fl n).2]) ∧ Below w.heap.size w w' := by
  unfold nmV
  cases c : (decide (0 ≤ n) && decide (n < 32))
  · exact g_Name_no fl n c w
  · rw [Bool.and_eq_true] at c
    have a := of_decide_eq_true c.1
    have b := of_decide_eq_true c.2
    obtain ⟨k, rfl⟩ : ∃ k : Nat, n = (k : Int) := ⟨n.toNat, by omega⟩
    exact g_Name_y fl k (by omega) _ _ rfl rfl w hP
theorem ba_eq {p s : ByteArray} (h : p = s) : (p.toList == s.toList) = true := by rw [h]; simp
theorem trim_len (s p : List UInt8) : (Lib.trimPrefix s p).length ≤ s.length := by
  unfold Lib.trimPrefix
  split
  · rw [List.length_drop]; omega
  · exact Nat.le_refl _
set_option maxRecDepth 100000 in
set_option maxHeartbeats 4000000 in
theorem g_Named_r (s nm d0 d1 : ByteArray) (fl : Bool) (X e0 : Int) (q : Bool) (hq : (nm.toList == s.toList) = q) (w : World) (hP : P10 w) (hA : Atq w)
    (K1 : Calls Tryd.prog 42 #[.string s, .string ⟨#[102]⟩] w fun r w' => r = .returned (.tuple #[.string d0, .bool fl]) ∧ w' = w)
    (K2 : Calls Tryd.prog 43 #[.string s, .string ⟨#[120]⟩] w fun r w' => r = .returned (.string d1) ∧ w' = w)
    (K3 : Calls Tryd.prog 44 #[.string (if fl = true then d0 else d1)] w fun r w' => ∃ ev, r = .returned (.tuple #[.int .i64 X, ev]) ∧ Below w.heap.size w w')
    (K4 : Box (∀ w, P10 w → Calls Tryd.prog 16 #[.bool fl, .int .i64 X] w fun r w' => r = .returned (.tuple #[.string nm, .int .i64 e0]) ∧ Below w.heap.size w w')) :
    Calls Tryd.prog 18 #[.string s] w fun r w' => r = .returned (.tuple #[.bool (fl && q), .int .i64 (if q = true then X else 0), .int .i64 (if q = true then 0 else 230)]) ∧ Below w.heap.size w w' := by
  have PP := box hP
  clear hP hA
  go_enter Tryd.func18, Tryd.ntmps18
  cases fl
  · have K3 : Calls Tryd.prog 44 #[.string d1] w fun r w' => ∃ ev, r = .returned (.tuple #[.int .i64 X, ev]) ∧ Below w.heap.size w w' := K3
    cases q
    all_goals
      go_wp2_with (first | (go_at_call 42; refine K1.mono ?_; rintro r w' ⟨rfl, rfl⟩) | (go_at_call 43; refine K2.mono ?_; rintro r w' ⟨rfl, rfl⟩) | (go_at_call 44; refine K3.mono ?_; rintro r w1 ⟨ev, rfl, b1⟩) | (go_at_call 16; refine (K4.out _ (p10B PP.out b1)).mono ?_; rintro r w2 ⟨rfl, b2⟩))
      go_ret3
      exact ⟨rfl, btr b1 b2⟩
  · have K3 : Calls Tryd.prog 44 #[.string d0] w fun r w' => ∃ ev, r = .returned (.tuple #[.int .i64 X, ev]) ∧ Below w.heap.size w w' := K3
    cases q
    all_goals
      go_wp2_with (first | (go_at_call 42; refine K1.mono ?_; rintro r w' ⟨rfl, rfl⟩) | (go_at_call 43; refine K2.mono ?_; rintro r w' ⟨rfl, rfl⟩) | (go_at_call 44; refine K3.mono ?_; rintro r w1 ⟨ev, rfl, b1⟩) | (go_at_call 16; refine (K4.out _ (p10B PP.out b1)).mono ?_; rintro r w2 ⟨rfl, b2⟩))
      go_ret3
      exact ⟨rfl, btr b1 b2⟩
theorem g_Named (s : ByteArray) (hs : s.size ≤ 281474976710656) (w : World) (hP : P10 w) (hA : Atq w) : Calls Tryd.prog 18 #[.string s] w fun r w' => r = .returned (.tuple #[.bool (ndR s).1, .int .i64 ((ndR s).2.1 : Nat), .int .i64 (ndR s).2.2]) ∧ Below w.heap.size w w' := by
  obtain ⟨fl, hfl⟩ : ∃ fl, Lib.hasPrefix s.data.toList [102] = fl := ⟨_, rfl⟩
  obtain ⟨d, hd⟩ : ∃ d, (if fl = true then Lib.trimPrefix s.data.toList [102] else Lib.trimPrefix s.data.toList [120]) = d := ⟨_, rfl⟩
  have hl : d.length ≤ 281474976710656 := by
    have e : s.data.toList.length = s.size := by rw [Array.length_toList]; rfl
    rw [← hd]
    split
    · exact Nat.le_trans (trim_len _ _) (by omega)
    · exact Nat.le_trans (trim_len _ _) (by omega)
  obtain ⟨X, _, h1, h2, K3⟩ := q_atoi d hl
  have M := nd_main s fl X hfl.symm d hd.symm h1 h2
  have K1 := q_cutPrefix s ⟨#[102]⟩ w
  rw [show ((⟨#[102]⟩ : ByteArray).data.toList) = [102] from rfl, hfl] at K1
  have K2 := q_trimPrefix s ⟨#[120]⟩ w
  rw [show ((⟨#[120]⟩ : ByteArray).data.toList) = [120] from rfl] at K2
  have K3 := K3 w hA
  have e3 : (⟨d.toArray⟩ : ByteArray) = if fl = true then ⟨(Lib.trimPrefix s.data.toList [102]).toArray⟩ else ⟨(Lib.trimPrefix s.data.toList [120]).toArray⟩ := by
    rw [← hd]
    split <;> rfl
  rw [e3] at K3
  have R := g_Named_r s (nmV fl X).1 _ _ fl X (nmV fl X).2 _ rfl w hP hA K1 K2 K3 (box (fun w h => g_Name fl X w h))
  refine R.mono ?_
  rintro r w' ⟨rfl, b⟩
  refine ⟨?_, b⟩
  by_cases q : (nmV fl X).1 = s
  · rw [if_pos q] at M
    have e := congrArg Prod.fst M
    have e1 := congrArg (fun x => x.2.1) M
    have e2 := congrArg (fun x => x.2.2) M
    dsimp only at e e1 e2
    rw [ba_eq q, ← e, ← e1, ← e2]
    simp
  · rw [if_neg q] at M
    have e := congrArg Prod.fst M
    have e1 := congrArg (fun x => x.2.1) M
    have e2 := congrArg (fun x => x.2.2) M
    dsimp only at e e1 e2
    rw [ba_ne q, ← e, ← e1, ← e2]
    simp
end Go.Proofs.YtjbnifhpbdjonaaDoor
namespace Go.Proofs.YtjbnifhpbdjonaaDoor
set_option maxRecDepth 100000
set_option maxHeartbeats 40000000
set_option maxRecDepth 100000
open Go.RowKit WMath
set_option linter.unusedSimpArgs false
set_option linter.unusedVariables false
def T23 (w : World) : Prop := FAt w ∧ P10 w ∧ Atq w
theorem fb23 : Box (∀ {w w' : World}, T23 w → Below w.heap.size w w' → T23 w') := box (fun {w w'} h b => ⟨fatB h.1 b, p10B h.2.1 b, atQ h.2.2 b⟩)
theorem kNew (w : World) : Calls Tryd.prog 24 #[] w fun r w' => ∃ b, r = .returned (.pointer (some ⟨b, 0, none⟩)) ∧ w.heap.size ≤ b ∧ w'.heap[b]? = some (.cells (rh true fun _ => 0) 58) ∧ Below w.heap.size w w' := by
  have e : rh true (up (fun _ => 0) 0 0) = rh true (fun _ => 0) := rh_same (fun k _ => by unfold up; split <;> rfl)
  have h := g_New (box (fun w => g_From (fun _ => 0) w)) w
  rw [e] at h
  exact h
theorem named31 (w : World) (hT : T23 w) : Calls Tryd.prog 18 #[.string ⟨#[102, 51, 49]⟩] w fun r w' => r = .returned (.tuple #[.bool true, .int .i64 31, .int .i64 0]) ∧ Below w.heap.size w w' := by
  have h := g_Named ⟨#[102, 51, 49]⟩ (by decide) w hT.2.1 hT.2.2
  have e : ndR ⟨#[102, 51, 49]⟩ = (true, 31, 0) := by decide +kernel
  rw [e] at h
  exact h
theorem live23 (w : World) (hT : T23 w) : Calls Tryd.prog 9 #[] w fun r w' => r = .returned (.bool true) ∧ Below w.heap.size w w' :=
  lives23 fb23 (rh true) 58 (box (fun R b n w _ _ hr => kX R b n w hr)) (box (fun R b n w _ _ hr => kF R b n w hr)) (box (fun R b n x w hB _ _ hr => kSetX R b n x w hB.2 hr)) (box (fun R b f n u v w _ h0 h1 hu hv hT hr => kPut R b f n u v w h0 h1 hu hv hT.1 hr))
    (box (fun w _ => kNew w)) (box named31) w hT
theorem names_fin (fl : Bool) (n : Int) (s : ByteArray) (hs : s.size ≤ 281474976710656) (w : World) (hT : T23 w) : Calls Tryd.prog 4 #[.bool fl, .int .i64 n, .string s] w fun r w' => r = .returned (.bool true) ∧ Below w.heap.size w w' :=
  names23 fb23 fl n s (box (fun fl n w h => g_Name fl n w h.2.1)) (box (fun w h => g_Named s hs w h.2.1 h.2.2)) (box live23) w hT
end Go.Proofs.YtjbnifhpbdjonaaDoor
namespace Go.Proofs.YtjbnifhpbdjonaaDoor
set_option maxRecDepth 100000
set_option maxHeartbeats 40000000
set_option maxRecDepth 100000
open WMath
open Go.ChangeShapes Go.WideShapes Go.ChangeAt Go.RowKit
theorem trod_row4 {H : Type} {enc : TypeId × Value → H} {P : Program} {w : World} {base : Nat} {spare : Nat → Bool} {held : Bool} {t : TypeId} {f0 f1 f2 f3 : Field} {fuel : Nat} {cs : List Value} {x : DataW H × List MemPlace} (ht : P.underlying t = some (.struct #[f0, f1, f2, f3])) (h : DataW.trod enc P w base spare held fuel t cs = some x) :
    ∃ y0 y1 y2 y3 n, x = (.agg [y0.1, y1.1, y2.1, y3.1], y0.2 ++ (y1.2 ++ (y2.2 ++ y3.2))) ∧ DataW.trod enc P w base spare held n f0.type ((cs.drop f0.offset).take (P.cellsOf f0.type)) = some y0 ∧
      DataW.trod enc P w base spare held n f1.type ((cs.drop f1.offset).take (P.cellsOf f1.type)) = some y1 ∧ DataW.trod enc P w base spare held n f2.type ((cs.drop f2.offset).take (P.cellsOf f2.type)) = some y2 ∧
      DataW.trod enc P w base spare held n f3.type ((cs.drop f3.offset).take (P.cellsOf f3.type)) = some y3 := by
  obtain ⟨xs, n, _, rfl, hl, hlen, hf⟩ := DataW.trod_struct ht h
  match xs, hlen with
  | [y0, y1, y2, y3], _ => exact ⟨y0, y1, y2, y3, n, by simp, by simpa using hf 0 f0 rfl, by simpa using hf 1 f1 rfl, by simpa using hf 2 f2 rfl, by simpa using hf 3 f3 rfl⟩


theorem list4' {α : Type} (l : List α) (h : l.length = 4) : ∃ a b c d, l = [a, b, c, d] := by
  match l, h with
  | [a, b, c, d], _ => exact ⟨a, b, c, d, rfl⟩

theorem row_read {w : World} {fuel : Nat} {enc : TypeId × Value → Unit} {base : Nat} {spare : Nat → Bool} {held : Bool} {l : List Value} {a b c : Int} {s : List UInt8} {p : List MemPlace}
    (h : DataW.trod enc Tryd.prog w base spare held fuel 135 l = some (.agg [.lit (.int .i64 a), .lit (.int .i64 b), .lit (.int .i64 c), .lit (.string s)], p)) (hl : l.length = 4) :
    l = [.int .i64 a, .int .i64 b, .int .i64 c, .string ⟨⟨s⟩⟩] := by
  have h3 : Tryd.prog.cellsOf 3 = 1 := by kernel_rfl
  have h9 : Tryd.prog.cellsOf 9 = 1 := by kernel_rfl
  obtain ⟨c0, c1, c2, c3, rfl⟩ := list4' l hl
  obtain ⟨y0, y1, y2, y3, n, hx, g0, g1, g2, g3⟩ := trod_row4 Tryd.underlying135 h
  simp only [h3, h9] at g0 g1 g2 g3
  obtain ⟨x0, e0, k0, w0⟩ := DataW.trod_int Tryd.underlying3 g0
  obtain ⟨x1, e1, k1, w1⟩ := DataW.trod_int Tryd.underlying3 g1
  obtain ⟨x2, e2, k2, w2⟩ := DataW.trod_int Tryd.underlying3 g2
  obtain ⟨x3, e3, k3, w3⟩ := DataW.trod_string Tryd.underlying9 g3
  simp at e0 e1 e2 e3
  subst e0 e1 e2 e3
  rw [k0, k1, k2, k3] at hx
  simp at hx
  obtain ⟨⟨rfl, rfl, rfl, rfl⟩, _⟩ := hx
  rfl

theorem list2x {α : Type} (l : List α) (h : l.length = 2) : ∃ a b, l = [a, b] := by
  match l, h with
  | [a, b], _ => exact ⟨a, b, rfl⟩
theorem trod_row2 {H : Type} {enc : TypeId × Value → H} {P : Program} {w : World} {base : Nat} {spare : Nat → Bool} {held : Bool} {t : TypeId} {f0 f1 : Field} {fuel : Nat} {cs : List Value} {x : DataW H × List MemPlace} (ht : P.underlying t = some (.struct #[f0, f1])) (h : DataW.trod enc P w base spare held fuel t cs = some x) :
    ∃ y0 y1 n, x = (.agg [y0.1, y1.1], y0.2 ++ y1.2) ∧ DataW.trod enc P w base spare held n f0.type ((cs.drop f0.offset).take (P.cellsOf f0.type)) = some y0 ∧ DataW.trod enc P w base spare held n f1.type ((cs.drop f1.offset).take (P.cellsOf f1.type)) = some y1 := by
  obtain ⟨xs, n, _, rfl, hl, hlen, hf⟩ := DataW.trod_struct ht h
  match xs, hlen with
  | [y0, y1], _ => exact ⟨y0, y1, n, by simp, by simpa using hf 0 f0 rfl, by simpa using hf 1 f1 rfl⟩
theorem bits_read {w : World} {fuel : Nat} {enc : TypeId × Value → Unit} {base : Nat} {spare : Nat → Bool} {held : Bool} {l : List Value} {a b : Int} {p : List MemPlace}
    (h : DataW.trod enc Tryd.prog w base spare held fuel 25 l = some (.agg [.lit (.int .u64 a), .lit (.int .u64 b)], p)) (hl0 : l.length = 2) :
    l = [.int .u64 a, .int .u64 b] := by
  have hce : Tryd.prog.cellsOf 22 = 1 := by kernel_rfl
  obtain ⟨c0, c1, rfl⟩ := list2x l hl0
  obtain ⟨y0, y1, n, hx, g0, g1⟩ := trod_row2 Tryd.underlying25 h
  simp only [hce] at g0 g1
  obtain ⟨x0, e0, k0, w0⟩ := DataW.trod_int Tryd.underlying22 g0
  obtain ⟨x1, e1, k1, w1⟩ := DataW.trod_int Tryd.underlying22 g1
  simp at e0 e1
  subst e0 e1
  rw [k0, k1] at hx
  simp at hx
  obtain ⟨⟨rfl, rfl⟩, _⟩ := hx
  rfl
def laid7 : List (String × DataW Unit) := [("abacus/shape.formats", Rows.laid_abacus_shape_formats), ("abacus/box.above", Rows.laid_abacus_box_above)]
theorem gTab7 : Tryd.prog.globalNamed "abacus/shape.formats" = some 4 := by kernel_rfl
theorem gType7 : (Tryd.prog.globals[4]?).map (·.type) = some 149 := by kernel_rfl
theorem gTab_ab : Tryd.prog.globalNamed "abacus/box.above" = some 0 := by kernel_rfl
theorem gType_ab : (Tryd.prog.globals[0]?).map (·.type) = some 106 := by kernel_rfl
def cells_ab : Array Value := #[.int .u64 18446744073709551615, .int .u64 18446744069414584320, .int .u64 18446744073709551615, .int .u64 0, .int .u64 18446744073709551615, .int .u64 18446744073709486080, .int .u64 0, .int .u64 0]
theorem of_ab {W : World} {rest : List (String × DataW Unit)} (h : laidMet Tryd.prog (("abacus/box.above", Rows.laid_abacus_box_above) :: rest) W) : ∀ i, i < 8 → W.cell? ⟨0, i, none⟩ = cells_ab[i]? := by
  have hce : Tryd.prog.cellsOf 25 = 2 := by kernel_rfl
  have hct : Tryd.prog.cellsOf 106 = 8 := by kernel_rfl
  obtain ⟨ps, ⟨g', t', cs, fuel, p, q, hg', ht', hvar, hd, _, _⟩, _⟩ := h
  obtain rfl := Option.some.inj (gTab_ab.symm.trans hg')
  obtain rfl := Option.some.inj (gType_ab.symm.trans ht')
  obtain ⟨xs, m, rfl, hx, hl, hxl, hel⟩ := DataW.trod_array Tryd.underlying106 hd
  rw [hce] at hel
  rw [hct] at hl
  have hl2 : cs.size = 8 := by simpa using hl
  match xs, hxl with
  | [y0, y1, y2, y3], _ =>
    have hx1 := congrArg Prod.fst hx
    simp [Rows.laid_abacus_box_above] at hx1
    obtain ⟨h0, h1, h2, h3⟩ := hx1
    have q0 := hel 0 (by decide)
    have q1 := hel 1 (by decide)
    have q2 := hel 2 (by decide)
    have q3 := hel 3 (by decide)
    simp only [List.getElem?_cons_zero, List.getElem?_cons_succ] at q0 q1 q2 q3
    have z0 := bits_read (p := y0.2) (by rw [q0, h0]) (by simp; omega)
    have z1 := bits_read (p := y1.2) (by rw [q1, h1]) (by simp; omega)
    have z2 := bits_read (p := y2.2) (by rw [q2, h2]) (by simp; omega)
    have z3 := bits_read (p := y3.2) (by rw [q3, h3]) (by simp; omega)
    have hcs : ∀ i, i < 8 → cs.toList[i]? = cells_ab[i]? := by
      intro i hi
      have e0 : cs.toList[i]? = (cs.toList.drop (i / 2 * 2))[i % 2]? := by rw [List.getElem?_drop]; congr 1; omega
      have e1 : (cs.toList.drop (i / 2 * 2))[i % 2]? = ((cs.toList.drop (i / 2 * 2)).take 2)[i % 2]? := by rw [List.getElem?_take, if_pos (by omega)]
      rw [e0, e1]
      have : i / 2 = 0 ∨ i / 2 = 1 ∨ i / 2 = 2 ∨ i / 2 = 3 := by omega
      have hj : i % 2 = 0 ∨ i % 2 = 1 := by omega
      have hi2 : i = i / 2 * 2 + i % 2 := by omega
      rcases this with e | e | e | e <;> rw [e] at hi2 ⊢ <;> rcases hj with k | k <;> rw [k] at hi2 ⊢ <;> subst hi2 <;> first | (rw [z0]; rfl) | (rw [z1]; rfl) | (rw [z2]; rfl) | (rw [z3]; rfl)
    intro i hi
    rw [World.var?_cell gTab_ab hvar i, ← hcs i hi]
    simp
theorem of_laid7 {W : World} (h : laidMetH Tryd.prog laid7 W) : FAt W := by
  have hce : Tryd.prog.cellsOf 135 = 4 := by kernel_rfl
  have hct : Tryd.prog.cellsOf 149 = 16 := by kernel_rfl
  rw [MakeChecks.laidMetH_plain _ _ _ (by kernel_rfl)] at h
  have u1 := of_ab (laidMet.tail h)
  obtain ⟨ps, ⟨g', t', cs, fuel, p, q, hg', ht', hvar, hd, _, _⟩, _⟩ := h
  obtain rfl := Option.some.inj (gTab7.symm.trans hg')
  obtain rfl := Option.some.inj (gType7.symm.trans ht')
  obtain ⟨xs, m, rfl, hx, hl, hxl, hel⟩ := DataW.trod_array Tryd.underlying149 hd
  rw [hce] at hel
  rw [hct] at hl
  have hl2 : cs.size = 16 := by simpa using hl
  match xs, hxl with
  | [y0, y1, y2, y3], _ =>
    have hx1 := congrArg Prod.fst hx
    simp [Rows.laid_abacus_shape_formats] at hx1
    obtain ⟨h0, h1, h2, h3⟩ := hx1
    have q0 := hel 0 (by decide)
    have q1 := hel 1 (by decide)
    have q2 := hel 2 (by decide)
    have q3 := hel 3 (by decide)
    simp only [List.getElem?_cons_zero, List.getElem?_cons_succ] at q0 q1 q2 q3
    have z0 := row_read (p := y0.2) (by rw [q0, h0]) (by simp; omega)
    have z1 := row_read (p := y1.2) (by rw [q1, h1]) (by simp; omega)
    have z2 := row_read (p := y2.2) (by rw [q2, h2]) (by simp; omega)
    have z3 := row_read (p := y3.2) (by rw [q3, h3]) (by simp; omega)
    have hcs : ∀ i, i < 16 → cs.toList[i]? = fcells[i]? := by
      intro i hi
      have e0 : cs.toList[i]? = (cs.toList.drop (i / 4 * 4))[i % 4]? := by rw [List.getElem?_drop]; congr 1; omega
      have e1 : (cs.toList.drop (i / 4 * 4))[i % 4]? = ((cs.toList.drop (i / 4 * 4)).take 4)[i % 4]? := by rw [List.getElem?_take, if_pos (by omega)]
      rw [e0, e1]
      have : i / 4 = 0 ∨ i / 4 = 1 ∨ i / 4 = 2 ∨ i / 4 = 3 := by omega
      have hj : i % 4 = 0 ∨ i % 4 = 1 ∨ i % 4 = 2 ∨ i % 4 = 3 := by omega
      have hi2 : i = i / 4 * 4 + i % 4 := by omega
      rcases this with e | e | e | e <;> rw [e] at hi2 ⊢ <;> rcases hj with k | k | k | k <;> rw [k] at hi2 ⊢ <;> subst hi2 <;> first | (rw [z0]; rfl) | (rw [z1]; rfl) | (rw [z2]; rfl) | (rw [z3]; rfl)
    refine ⟨?_, List.forall_mem_cons.2 ⟨u1 0 (by decide), List.forall_mem_cons.2 ⟨u1 1 (by decide), List.forall_mem_cons.2 ⟨u1 2 (by decide), List.forall_mem_cons.2 ⟨u1 3 (by decide), List.forall_mem_cons.2 ⟨u1 4 (by decide), List.forall_mem_cons.2 ⟨u1 5 (by decide), List.forall_mem_cons.2 ⟨u1 6 (by decide), List.forall_mem_cons.2 ⟨u1 7 (by decide), List.forall_mem_nil _⟩⟩⟩⟩⟩⟩⟩⟩⟩
    intro i hi
    rw [World.var?_cell gTab7 hvar i, ← hcs i hi]
    simp

def laid23 : List (String × DataW Unit) := [("math/bits.deBruijn32tab", Rows.laid_math_bits_deBruijn32tab), ("math/bits.deBruijn64tab", Rows.laid_math_bits_deBruijn64tab), ("internal/strconv.uint64pow10", Rows.laid_internal_strconv_uint64pow10), ("strconv.ErrRange", Rows.laid_strconv_ErrRange), ("strconv.ErrSyntax", Rows.laid_strconv_ErrSyntax), ("abacus/shape.formats", Rows.laid_abacus_shape_formats), ("abacus/box.above", Rows.laid_abacus_box_above)]
theorem gType10 : (Tryd.prog.globals[3]?).map (·.type) = some 139 := by kernel_rfl
theorem cells69 : Tryd.prog.cellsOf 22 = 1 := by kernel_rfl
theorem cellsP9 : Tryd.prog.cellsOf 139 = 20 := by kernel_rfl
theorem gSynT : (Tryd.prog.globals[1]?).map (·.type) = some 84 := by kernel_rfl
theorem gRngT : (Tryd.prog.globals[2]?).map (·.type) = some 84 := by kernel_rfl
theorem cellsE : Tryd.prog.cellsOf 148 = 1 := by kernel_rfl
theorem cellsS : Tryd.prog.cellsOf 9 = 1 := by kernel_rfl
theorem starE : "*" ++ "errors.errorString" = "*errors.errorString" := by decide
theorem rowE (u : TypeId) (h : Tryd.prog.typeName? 3 u = some "*errors.errorString") : u = 146 :=
  typeName_ptr_named (nm := "errors.errorString") (by rw [starE]; kernel_rfl) (by kernel_rfl) (by decide) u (by rw [starE]; exact h)
theorem of_laid23 {W : World} (h : laidMetH Tryd.prog laid23 W) : T23 W := by
  rw [MakeChecks.laidMetH_plain _ _ _ (by kernel_rfl)] at h
  have h1 := laidMet.tail h
  have h2 := laidMet.tail h1
  have h3 := laidMet.tail h2
  have h4 := laidMet.tail h3
  have h5 := laidMet.tail h4
  refine ⟨?_, ?_, ?_, ?_⟩
  · refine of_laid7 ?_
    rw [MakeChecks.laidMetH_plain _ _ _ (by kernel_rfl)]
    exact h5
  · have h' : laidMet Tryd.prog (("internal/strconv.uint64pow10", Lib.tabData .u64 Lib.pow10Tab) :: _) W := h2
    exact Lib.tabIs_of_head gP10 gType10 Tryd.underlying139 Tryd.underlying22 cells69 cellsP9 h'
  · obtain ⟨a, s, hv, _⟩ := laid_sentinel h4 gSynQ gSynT Tryd.underlying84 rowE Tryd.underlying146 Tryd.underlying148 rfl rfl Tryd.underlying9 cellsE cellsS
    exact ⟨_, _, hv⟩
  · obtain ⟨a, s, hv, _⟩ := laid_sentinel h3 gRngQ gRngT Tryd.underlying84 rowE Tryd.underlying146 Tryd.underlying148 rfl rfl Tryd.underlying9 cellsE cellsS
    exact ⟨_, _, hv⟩
theorem door_met23 (os : Os) (args : Array Value) : laidMetH Tryd.prog laid23 ((World.doorLaid Tryd.prog 400 os).forCall (fun _ _ => 0) ⟨#[], args, []⟩).memory :=
  laidMetH_of_parts3 (fuel := 8) (laidMet_of_run' 8 (by kernel_rfl) (by kernel_rfl)) (by kernel_rfl) (by kernel_rfl)
end Go.Proofs.YtjbnifhpbdjonaaDoor
