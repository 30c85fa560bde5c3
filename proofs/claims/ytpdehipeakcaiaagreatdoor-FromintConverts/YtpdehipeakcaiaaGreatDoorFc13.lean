/-
  What the functions that the statement reaches return: part 13 (R13, R14).
-/
import Derived.Test.YtpdehipeakcaiaaGreatDoorFc12
namespace Go.Proofs.YtpdehipeakcaiaaGreatDoor
set_option maxRecDepth 100000
set_option maxHeartbeats 40000000
set_option maxRecDepth 100000
open Go.RowKit WMath
set_option linter.unusedSimpArgs false
set_option linter.unusedVariables false
theorem gen_round_tiny_7 {X : Act → World → Prop} {R : World → Nat → Prop} {t0 t1 t2 t3 t4 t5 t6 t8 t9 t10 t11 t12 t13 t14 t15 t16 t17 t18 t19 t20 t21 t22 t23 : Value} {d : List Deferred} {W : World} {G : Nat}
    (key : ∀ w5 g, R w5 g → X ⟨#[t0, t1, t2, t3, t4, t5, t6, .pointer (some ⟨g, 0, none⟩), t8, t9, t10, t11, t12, t13, t14, t15, t16, t17, t18, t19, t20, t21, t22, t23], d⟩ w5) (r : R W G) : X ⟨#[t0, t1, t2, t3, t4, t5, t6, .pointer (some ⟨G, 0, none⟩), t8, t9, t10, t11, t12, t13, t14, t15, t16, t17, t18, t19, t20, t21, t22, t23], d⟩ W := key W G r

theorem or_low (s t : Nat) (h : s / 2 * 2 + 1 = t) : wd t 0 = wd s 0 / 2 * 2 + 1 ∧ ∀ k, 0 < k → k < 6 → wd t k = wd s k := by
  have e : t / 2 = s / 2 := by omega
  constructor
  · unfold wd
    rw [Nat.mul_zero, Nat.pow_zero, Nat.div_one, Nat.div_one]
    omega
  · intro k h1 h2
    unfold wd
    obtain ⟨i, hi⟩ : ∃ i, 64 * k = i + 1 := ⟨64 * k - 1, by omega⟩
    rw [hi, Nat.pow_succ, Nat.mul_comm (2 ^ i) 2, ← Nat.div_div_eq_div_mul, ← Nat.div_div_eq_div_mul, e]
set_option maxRecDepth 100000 in
set_option maxHeartbeats 2000000 in
theorem ro_jam_no (neg : Bool) (s : Nat) (x : Int) (w : World) : Calls Tryz.prog 23 #[.agg (rg neg s x false)] w fun r w' => r = .returned (.agg (rg neg s x false)) ∧ Below w.heap.size w w' := by
  have hat := cw_at 6
  have hz := cw6z
  have hff := cw6f
  have hs0 := st0
  have hcs : ∀ x, ((cw 6 x).size = 6) = True := fun x => eq_true (cw_size 6 x)
  have hp1 := rgf
  have hp3 := rgz
  have hp5 : ∀ (c : Bool) (s : Nat) (x : Int) (r : Bool), ((rg c s x r).size = 9) = True := fun _ _ _ _ => eq_true rfl
  obtain ⟨Rx_0, Rz_0, B0⟩ := opn2 w (Obj.cells (rg neg s x false) 45) (Obj.cells (rg false 0 0 false) 45)
  go_enter Tryz.func23, Tryz.ntmps23
  obtain ⟨cx_0_0, cx_0_1, cx_0_2, cx_0_3, cx_0_4, cx_0_5, cx_0_6, cx_0_7, cx_0_8⟩ := rg_cells Rx_0
  obtain ⟨cz_0_0, cz_0_1, cz_0_2, cz_0_3, cz_0_4, cz_0_5, cz_0_6, cz_0_7, cz_0_8⟩ := rg_cells Rz_0
  have hstz := st_r ((w.alloc (Obj.cells (rg neg s x false) 45)).alloc (Obj.cells (rg false 0 0 false) 45)) (w.heap.size + 1) neg s x false false 0 0 false Rz_0
  have RZ := setRow_row (c' := rg neg s x false) Rz_0
  obtain ⟨dz0, dz1, dz2, dz3, dz4, dz5, dz6, dz7, dz8⟩ := rg_cells RZ
  have bz := bel_set (c := rg neg s x false) B0 (show w.heap.size ≤ w.heap.size + 1 by first | exact Nat.le_refl _ | omega | (skip; omega))
  go_wp2
  exact bodyPost_ret (v := .agg (rg neg s x false)) (by simp [results, Tryz.results23, go_sem, dz0, dz1, dz2, dz3, dz4, dz5, dz6, dz7, dz8, rgf] <;> rfl) rfl ⟨rfl, bz⟩
set_option maxRecDepth 100000 in
set_option maxHeartbeats 2000000 in
theorem ro_jam_yes (neg : Bool) (s t : Nat) (x : Int) (w : World) (hor : bits .or .u64 ((wd s 0 : Nat) : Int) 1 = ((wd t 0 : Nat) : Int)) (ht : Box (∀ k, 0 < k → k < 6 → wd t k = wd s k)) : Calls Tryz.prog 23 #[.agg (rg neg s x true)] w fun r w' => r = .returned (.agg (rg neg t x false)) ∧ Below w.heap.size w w' := by
  have hat := cw_at 6
  have hz := cw6z
  have hff := cw6f
  have hs0 := st0
  have hcs : ∀ x, ((cw 6 x).size = 6) = True := fun x => eq_true (cw_size 6 x)
  have hp1 := rgf
  have hp3 := rgz
  have hp5 : ∀ (c : Bool) (s : Nat) (x : Int) (r : Bool), ((rg c s x r).size = 9) = True := fun _ _ _ _ => eq_true rfl
  obtain ⟨Rx_0, Rz_0, B0⟩ := opn2 w (Obj.cells (rg neg s x true) 45) (Obj.cells (rg false 0 0 false) 45)
  go_enter Tryz.func23, Tryz.ntmps23
  obtain ⟨cx_0_0, cx_0_1, cx_0_2, cx_0_3, cx_0_4, cx_0_5, cx_0_6, cx_0_7, cx_0_8⟩ := rg_cells Rx_0
  obtain ⟨cz_0_0, cz_0_1, cz_0_2, cz_0_3, cz_0_4, cz_0_5, cz_0_6, cz_0_7, cz_0_8⟩ := rg_cells Rz_0
  have hs1 := rg_set1 neg s t x true ht.out
  have hs8 := rg_set8 neg t x true false
  have fx := fz (k := 1) Rx_0
  obtain ⟨Px, Pz, PB⟩ := opn2 w (Obj.cells (rg neg t x true) 45) (Obj.cells (rg false 0 0 false) 45)
  obtain ⟨pp0, pp1, pp2, pp3, pp4, pp5, pp6, pp7, pp8⟩ := rg_cells Px
  have pf := fz (k := 8) Px
  obtain ⟨Ux, Uz, UB⟩ := opn2 w (Obj.cells (rg neg t x false) 45) (Obj.cells (rg false 0 0 false) 45)
  obtain ⟨uu0, uu1, uu2, uu3, uu4, uu5, uu6, uu7, uu8⟩ := rg_cells Ux
  have hstz := st_r _ (w.heap.size + 1) neg t x false false 0 0 false Uz
  have RZ := setRow_row (c' := rg neg t x false) Uz
  obtain ⟨dz0, dz1, dz2, dz3, dz4, dz5, dz6, dz7, dz8⟩ := rg_cells RZ
  have bz := bel_set (c := rg neg t x false) UB (show w.heap.size ≤ w.heap.size + 1 by omega)
  clear Px Pz PB
  go_wp2
  exact bodyPost_ret (v := .agg (rg neg t x false)) (by simp [results, Tryz.results23, go_sem, dz0, dz1, dz2, dz3, dz4, dz5, dz6, dz7, dz8, rgf] <;> rfl) rfl ⟨rfl, bz⟩
set_option maxRecDepth 100000 in
set_option maxHeartbeats 8000000 in
theorem ro_tiny (f m : Int) (neg : Bool) (s : Nat) (x : Int) (more : Bool) (T st rt I : Int) (K : Nat) (ex o : Bool) (w : World)
    (K1 : Box (∀ w, Calls Tryz.prog 26 #[.agg (rg neg s x more)] w fun r w' => r = .returned (.int .i64 T) ∧ Below w.heap.size w w'))
    (K2 : Box (∀ w, FAt w → Calls Tryz.prog 25 #[.int .u8 f, .int .i64 T] w fun r w' => r = .returned (.int .i64 st) ∧ Below w.heap.size w w'))
    (K3 : Box (∀ w, Calls Tryz.prog 24 #[.int .u8 m, .agg (rg neg s x more), .int .i64 st] w fun r w' => r = .returned (.tuple #[.agg (rg neg K st false), .bool ex]) ∧ Below w.heap.size w w'))
    (K4 : Box (∀ w, Calls Tryz.prog 26 #[.agg (rg neg K st false)] w fun r w' => r = .returned (.int .i64 rt) ∧ Below w.heap.size w w'))
    (K5 : Box (∀ w, FAt w → Calls Tryz.prog 27 #[.int .u8 f] w fun r w' => r = .returned (.int .i64 I) ∧ Below w.heap.size w w'))
    (ho : decide (rt < I) = o) (hT : FAt w) : Calls Tryz.prog 30 #[.int .u8 f, .int .u8 m, .agg (rg neg s x more)] w fun r w' => r = .returned (.bool o) ∧ Below w.heap.size w w' := by
  have FF := box hT
  clear hT
  have hat := cw_at 6
  have hz := cw6z
  have hff := cw6f
  have hs0 := st0
  have hcs : ∀ x, ((cw 6 x).size = 6) = True := fun x => eq_true (cw_size 6 x)
  have hp1 := rgf
  have hp3 := rgz
  have hp4 := st_r0
  have hp5 : ∀ (c : Bool) (s : Nat) (x : Int) (r : Bool), ((rg c s x r).size = 9) = True := fun _ _ _ _ => eq_true rfl
  obtain ⟨Rx_0, B0⟩ := opn1 w (Obj.cells (rg neg s x more) 45)
  go_enter Tryz.func30, Tryz.ntmps30
  have sS : Box (∀ W W1 : World, (Below w.heap.size w W ∧ W.heap[w.heap.size]? = some (Obj.cells (rg neg s x more) 45) ∧ W.cell? ⟨w.heap.size, 0, none⟩ = some (.bool neg) ∧ W.cell? ⟨w.heap.size, 1, none⟩ = some (.int .u64 ((wd s 0 : Nat) : Int)) ∧ W.cell? ⟨w.heap.size, 2, none⟩ = some (.int .u64 ((wd s 1 : Nat) : Int)) ∧ W.cell? ⟨w.heap.size, 3, none⟩ = some (.int .u64 ((wd s 2 : Nat) : Int)) ∧ W.cell? ⟨w.heap.size, 4, none⟩ = some (.int .u64 ((wd s 3 : Nat) : Int)) ∧ W.cell? ⟨w.heap.size, 5, none⟩ = some (.int .u64 ((wd s 4 : Nat) : Int)) ∧ W.cell? ⟨w.heap.size, 6, none⟩ = some (.int .u64 ((wd s 5 : Nat) : Int)) ∧ W.cell? ⟨w.heap.size, 7, none⟩ = some (.int .i64 x) ∧ W.cell? ⟨w.heap.size, 8, none⟩ = some (.bool more)) → Below W.heap.size W W1 → (Below w.heap.size w W1 ∧ W1.heap[w.heap.size]? = some (Obj.cells (rg neg s x more) 45) ∧ W1.cell? ⟨w.heap.size, 0, none⟩ = some (.bool neg) ∧ W1.cell? ⟨w.heap.size, 1, none⟩ = some (.int .u64 ((wd s 0 : Nat) : Int)) ∧ W1.cell? ⟨w.heap.size, 2, none⟩ = some (.int .u64 ((wd s 1 : Nat) : Int)) ∧ W1.cell? ⟨w.heap.size, 3, none⟩ = some (.int .u64 ((wd s 2 : Nat) : Int)) ∧ W1.cell? ⟨w.heap.size, 4, none⟩ = some (.int .u64 ((wd s 3 : Nat) : Int)) ∧ W1.cell? ⟨w.heap.size, 5, none⟩ = some (.int .u64 ((wd s 4 : Nat) : Int)) ∧ W1.cell? ⟨w.heap.size, 6, none⟩ = some (.int .u64 ((wd s 5 : Nat) : Int)) ∧ W1.cell? ⟨w.heap.size, 7, none⟩ = some (.int .i64 x) ∧ W1.cell? ⟨w.heap.size, 8, none⟩ = some (.bool more))) := box (fun W W1 h b => ⟨btr h.1 b, heap_of b _ _ _ h.2.1, cell7 (heap_of b _ _ _ h.2.1) 0 _ rfl, cell7 (heap_of b _ _ _ h.2.1) 1 _ rfl, cell7 (heap_of b _ _ _ h.2.1) 2 _ rfl, cell7 (heap_of b _ _ _ h.2.1) 3 _ rfl, cell7 (heap_of b _ _ _ h.2.1) 4 _ rfl, cell7 (heap_of b _ _ _ h.2.1) 5 _ rfl, cell7 (heap_of b _ _ _ h.2.1) 6 _ rfl, cell7 (heap_of b _ _ _ h.2.1) 7 _ rfl, cell7 (heap_of b _ _ _ h.2.1) 8 _ rfl⟩)
  have sL : Box (∀ W : World, (Below w.heap.size w W ∧ W.heap[w.heap.size]? = some (Obj.cells (rg neg s x more) 45) ∧ W.cell? ⟨w.heap.size, 0, none⟩ = some (.bool neg) ∧ W.cell? ⟨w.heap.size, 1, none⟩ = some (.int .u64 ((wd s 0 : Nat) : Int)) ∧ W.cell? ⟨w.heap.size, 2, none⟩ = some (.int .u64 ((wd s 1 : Nat) : Int)) ∧ W.cell? ⟨w.heap.size, 3, none⟩ = some (.int .u64 ((wd s 2 : Nat) : Int)) ∧ W.cell? ⟨w.heap.size, 4, none⟩ = some (.int .u64 ((wd s 3 : Nat) : Int)) ∧ W.cell? ⟨w.heap.size, 5, none⟩ = some (.int .u64 ((wd s 4 : Nat) : Int)) ∧ W.cell? ⟨w.heap.size, 6, none⟩ = some (.int .u64 ((wd s 5 : Nat) : Int)) ∧ W.cell? ⟨w.heap.size, 7, none⟩ = some (.int .i64 x) ∧ W.cell? ⟨w.heap.size, 8, none⟩ = some (.bool more)) → (w.heap.size < W.heap.size)) := box (fun W h => (Array.getElem?_eq_some_iff.1 h.2.1).1)
  have sT : Box (∀ (W : World) (gN : Nat) (xA : Array Value), (Below w.heap.size w W ∧ W.heap[w.heap.size]? = some (Obj.cells (rg neg s x more) 45) ∧ W.cell? ⟨w.heap.size, 0, none⟩ = some (.bool neg) ∧ W.cell? ⟨w.heap.size, 1, none⟩ = some (.int .u64 ((wd s 0 : Nat) : Int)) ∧ W.cell? ⟨w.heap.size, 2, none⟩ = some (.int .u64 ((wd s 1 : Nat) : Int)) ∧ W.cell? ⟨w.heap.size, 3, none⟩ = some (.int .u64 ((wd s 2 : Nat) : Int)) ∧ W.cell? ⟨w.heap.size, 4, none⟩ = some (.int .u64 ((wd s 3 : Nat) : Int)) ∧ W.cell? ⟨w.heap.size, 5, none⟩ = some (.int .u64 ((wd s 4 : Nat) : Int)) ∧ W.cell? ⟨w.heap.size, 6, none⟩ = some (.int .u64 ((wd s 5 : Nat) : Int)) ∧ W.cell? ⟨w.heap.size, 7, none⟩ = some (.int .i64 x) ∧ W.cell? ⟨w.heap.size, 8, none⟩ = some (.bool more)) → (w.heap.size < gN) → (Below w.heap.size w (W.setRow gN xA) ∧ (W.setRow gN xA).heap[w.heap.size]? = some (Obj.cells (rg neg s x more) 45) ∧ (W.setRow gN xA).cell? ⟨w.heap.size, 0, none⟩ = some (.bool neg) ∧ (W.setRow gN xA).cell? ⟨w.heap.size, 1, none⟩ = some (.int .u64 ((wd s 0 : Nat) : Int)) ∧ (W.setRow gN xA).cell? ⟨w.heap.size, 2, none⟩ = some (.int .u64 ((wd s 1 : Nat) : Int)) ∧ (W.setRow gN xA).cell? ⟨w.heap.size, 3, none⟩ = some (.int .u64 ((wd s 2 : Nat) : Int)) ∧ (W.setRow gN xA).cell? ⟨w.heap.size, 4, none⟩ = some (.int .u64 ((wd s 3 : Nat) : Int)) ∧ (W.setRow gN xA).cell? ⟨w.heap.size, 5, none⟩ = some (.int .u64 ((wd s 4 : Nat) : Int)) ∧ (W.setRow gN xA).cell? ⟨w.heap.size, 6, none⟩ = some (.int .u64 ((wd s 5 : Nat) : Int)) ∧ (W.setRow gN xA).cell? ⟨w.heap.size, 7, none⟩ = some (.int .i64 x) ∧ (W.setRow gN xA).cell? ⟨w.heap.size, 8, none⟩ = some (.bool more))) := box (fun W gN xA h l => ⟨bel_set h.1 (show w.heap.size ≤ gN by have := l; omega), (setRow_other (by have := l; omega)).trans h.2.1, cell7 ((setRow_other (by have := l; omega)).trans h.2.1) 0 _ rfl, cell7 ((setRow_other (by have := l; omega)).trans h.2.1) 1 _ rfl, cell7 ((setRow_other (by have := l; omega)).trans h.2.1) 2 _ rfl, cell7 ((setRow_other (by have := l; omega)).trans h.2.1) 3 _ rfl, cell7 ((setRow_other (by have := l; omega)).trans h.2.1) 4 _ rfl, cell7 ((setRow_other (by have := l; omega)).trans h.2.1) 5 _ rfl, cell7 ((setRow_other (by have := l; omega)).trans h.2.1) 6 _ rfl, cell7 ((setRow_other (by have := l; omega)).trans h.2.1) 7 _ rfl, cell7 ((setRow_other (by have := l; omega)).trans h.2.1) 8 _ rfl⟩)
  have s0 : Below w.heap.size w ((w.alloc (Obj.cells (rg neg s x more) 45))).drew ∧ ((w.alloc (Obj.cells (rg neg s x more) 45))).drew.heap[w.heap.size]? = some (Obj.cells (rg neg s x more) 45) ∧ ((w.alloc (Obj.cells (rg neg s x more) 45))).drew.cell? ⟨w.heap.size, 0, none⟩ = some (.bool neg) ∧ ((w.alloc (Obj.cells (rg neg s x more) 45))).drew.cell? ⟨w.heap.size, 1, none⟩ = some (.int .u64 ((wd s 0 : Nat) : Int)) ∧ ((w.alloc (Obj.cells (rg neg s x more) 45))).drew.cell? ⟨w.heap.size, 2, none⟩ = some (.int .u64 ((wd s 1 : Nat) : Int)) ∧ ((w.alloc (Obj.cells (rg neg s x more) 45))).drew.cell? ⟨w.heap.size, 3, none⟩ = some (.int .u64 ((wd s 2 : Nat) : Int)) ∧ ((w.alloc (Obj.cells (rg neg s x more) 45))).drew.cell? ⟨w.heap.size, 4, none⟩ = some (.int .u64 ((wd s 3 : Nat) : Int)) ∧ ((w.alloc (Obj.cells (rg neg s x more) 45))).drew.cell? ⟨w.heap.size, 5, none⟩ = some (.int .u64 ((wd s 4 : Nat) : Int)) ∧ ((w.alloc (Obj.cells (rg neg s x more) 45))).drew.cell? ⟨w.heap.size, 6, none⟩ = some (.int .u64 ((wd s 5 : Nat) : Int)) ∧ ((w.alloc (Obj.cells (rg neg s x more) 45))).drew.cell? ⟨w.heap.size, 7, none⟩ = some (.int .i64 x) ∧ ((w.alloc (Obj.cells (rg neg s x more) 45))).drew.cell? ⟨w.heap.size, 8, none⟩ = some (.bool more) := ⟨B0.drew, Rx_0, cell7 (Rx_0) 0 _ rfl, cell7 (Rx_0) 1 _ rfl, cell7 (Rx_0) 2 _ rfl, cell7 (Rx_0) 3 _ rfl, cell7 (Rx_0) 4 _ rfl, cell7 (Rx_0) 5 _ rfl, cell7 (Rx_0) 6 _ rfl, cell7 (Rx_0) 7 _ rfl, cell7 (Rx_0) 8 _ rfl⟩
  clear B0 Rx_0
  go_wp2_with fail
  apply cut7
  · intro key0
    have key := box key0
    clear key0
    go_region_held3 (fun W => Below w.heap.size w W ∧ W.heap[w.heap.size]? = some (Obj.cells (rg neg s x more) 45) ∧ W.cell? ⟨w.heap.size, 0, none⟩ = some (.bool neg) ∧ W.cell? ⟨w.heap.size, 1, none⟩ = some (.int .u64 ((wd s 0 : Nat) : Int)) ∧ W.cell? ⟨w.heap.size, 2, none⟩ = some (.int .u64 ((wd s 1 : Nat) : Int)) ∧ W.cell? ⟨w.heap.size, 3, none⟩ = some (.int .u64 ((wd s 2 : Nat) : Int)) ∧ W.cell? ⟨w.heap.size, 4, none⟩ = some (.int .u64 ((wd s 3 : Nat) : Int)) ∧ W.cell? ⟨w.heap.size, 5, none⟩ = some (.int .u64 ((wd s 4 : Nat) : Int)) ∧ W.cell? ⟨w.heap.size, 6, none⟩ = some (.int .u64 ((wd s 5 : Nat) : Int)) ∧ W.cell? ⟨w.heap.size, 7, none⟩ = some (.int .i64 x) ∧ W.cell? ⟨w.heap.size, 8, none⟩ = some (.bool more)) (first | exact s1 | exact s0 | exact sS.out _ _ s1 (bal _ _) | exact sS.out _ _ s0 (bal _ _) | exact sT.out _ _ _ s1 hl)
      (first | (go_at_call 26; (first | refine (K1.out _).mono ?_ | refine (K1.out _).mono ?_); rintro r wq ⟨rfl, bq⟩; (first | (have hg := heap_of bq _ _ _ (heap_alloc_last _ _); have hl := (by first | exact sL.out _ s1 | exact sL.out _ s0)) | have hg := heap_of bq _ _ _ hg | skip); (try simp only [size_dr, size_al] at hg hl); (first | have hst := st_r _ _ neg K st false false 0 0 false hg | skip); have s2 := (by first | exact sS.out _ _ s1 bq | exact sS.out _ _ s0 bq | exact sS.out _ _ (sS.out _ _ s1 (bal _ _)) bq | exact sS.out _ _ (sS.out _ _ s0 (bal _ _)) bq); (try clear s1); have s1 := s2; clear s2 bq) | (go_at_call 25; (first | refine (K2.out _ (by first | exact fatB FF.out (And.left s1) | exact fat_al (fatB FF.out (And.left s1)) _)).mono ?_ | refine (K2.out _ (by first | exact fatB FF.out (And.left s0) | exact fat_al (fatB FF.out (And.left s0)) _)).mono ?_); rintro r wq ⟨rfl, bq⟩; (first | (have hg := heap_of bq _ _ _ (heap_alloc_last _ _); have hl := (by first | exact sL.out _ s1 | exact sL.out _ s0)) | have hg := heap_of bq _ _ _ hg | skip); (try simp only [size_dr, size_al] at hg hl); (first | have hst := st_r _ _ neg K st false false 0 0 false hg | skip); have s2 := (by first | exact sS.out _ _ s1 bq | exact sS.out _ _ s0 bq | exact sS.out _ _ (sS.out _ _ s1 (bal _ _)) bq | exact sS.out _ _ (sS.out _ _ s0 (bal _ _)) bq); (try clear s1); have s1 := s2; clear s2 bq) | (go_at_call 24; (first | refine (K3.out _).mono ?_ | refine (K3.out _).mono ?_); rintro r wq ⟨rfl, bq⟩; (first | (have hg := heap_of bq _ _ _ (heap_alloc_last _ _); have hl := (by first | exact sL.out _ s1 | exact sL.out _ s0)) | have hg := heap_of bq _ _ _ hg | skip); (try simp only [size_dr, size_al] at hg hl); (first | have hst := st_r _ _ neg K st false false 0 0 false hg | skip); have s2 := (by first | exact sS.out _ _ s1 bq | exact sS.out _ _ s0 bq | exact sS.out _ _ (sS.out _ _ s1 (bal _ _)) bq | exact sS.out _ _ (sS.out _ _ s0 (bal _ _)) bq); (try clear s1); have s1 := s2; clear s2 bq) | fail)
    all_goals
      refine gen_round_tiny_7 (R := fun W gN => (Below w.heap.size w W ∧ W.heap[w.heap.size]? = some (Obj.cells (rg neg s x more) 45) ∧ W.cell? ⟨w.heap.size, 0, none⟩ = some (.bool neg) ∧ W.cell? ⟨w.heap.size, 1, none⟩ = some (.int .u64 ((wd s 0 : Nat) : Int)) ∧ W.cell? ⟨w.heap.size, 2, none⟩ = some (.int .u64 ((wd s 1 : Nat) : Int)) ∧ W.cell? ⟨w.heap.size, 3, none⟩ = some (.int .u64 ((wd s 2 : Nat) : Int)) ∧ W.cell? ⟨w.heap.size, 4, none⟩ = some (.int .u64 ((wd s 3 : Nat) : Int)) ∧ W.cell? ⟨w.heap.size, 5, none⟩ = some (.int .u64 ((wd s 4 : Nat) : Int)) ∧ W.cell? ⟨w.heap.size, 6, none⟩ = some (.int .u64 ((wd s 5 : Nat) : Int)) ∧ W.cell? ⟨w.heap.size, 7, none⟩ = some (.int .i64 x) ∧ W.cell? ⟨w.heap.size, 8, none⟩ = some (.bool more)) ∧ W.heap[gN]? = some (Obj.cells (rg neg K st false) 45) ∧ (w.heap.size < gN)) key.out ?_
      first
        | exact ⟨(sT.out _ _ _ s1 hl), setRow_row hg, hl⟩
        | exact ⟨sS.out _ _ s1 (bal _ _), heap_alloc_last _ _, sL.out _ s1⟩
        | exact ⟨sS.out _ _ s0 (bal _ _), heap_alloc_last _ _, sL.out _ s0⟩
  rintro w1 g1 ⟨s1, Rr_1, l1⟩
  have B1 := And.left s1
  have Rx_1 := s1.2.1
  have H1 := box l1
  clear s0 s1 sS sL sT l1
  obtain ⟨cx_1_0, cx_1_1, cx_1_2, cx_1_3, cx_1_4, cx_1_5, cx_1_6, cx_1_7, cx_1_8⟩ := rg_cells Rx_1
  obtain ⟨cr_1_0, cr_1_1, cr_1_2, cr_1_3, cr_1_4, cr_1_5, cr_1_6, cr_1_7, cr_1_8⟩ := rg_cells Rr_1
  go_wp2_with fail
  refine (K4.out _).mono ?_
  rintro r w2 ⟨rfl, b2⟩
  have B2 : Below w.heap.size w w2 := btr B1 b2
  have Rx_2 := heap_of b2 _ _ _ Rx_1
  have Rr_2 := heap_of b2 _ _ _ Rr_1
  clear b2 B1 Rx_1 cx_1_0 cx_1_1 cx_1_2 cx_1_3 cx_1_4 cx_1_5 cx_1_6 cx_1_7 cx_1_8 Rr_1 cr_1_0 cr_1_1 cr_1_2 cr_1_3 cr_1_4 cr_1_5 cr_1_6 cr_1_7 cr_1_8
  obtain ⟨cx_2_0, cx_2_1, cx_2_2, cx_2_3, cx_2_4, cx_2_5, cx_2_6, cx_2_7, cx_2_8⟩ := rg_cells Rx_2
  obtain ⟨cr_2_0, cr_2_1, cr_2_2, cr_2_3, cr_2_4, cr_2_5, cr_2_6, cr_2_7, cr_2_8⟩ := rg_cells Rr_2
  go_wp2_with fail
  refine (K5.out _ (fatB FF.out B2)).mono ?_
  rintro r w3 ⟨rfl, b3⟩
  have B3 : Below w.heap.size w w3 := btr B2 b3
  have Rx_3 := heap_of b3 _ _ _ Rx_2
  have Rr_3 := heap_of b3 _ _ _ Rr_2
  clear b3 B2 Rx_2 cx_2_0 cx_2_1 cx_2_2 cx_2_3 cx_2_4 cx_2_5 cx_2_6 cx_2_7 cx_2_8 Rr_2 cr_2_0 cr_2_1 cr_2_2 cr_2_3 cr_2_4 cr_2_5 cr_2_6 cr_2_7 cr_2_8
  obtain ⟨cx_3_0, cx_3_1, cx_3_2, cx_3_3, cx_3_4, cx_3_5, cx_3_6, cx_3_7, cx_3_8⟩ := rg_cells Rx_3
  obtain ⟨cr_3_0, cr_3_1, cr_3_2, cr_3_3, cr_3_4, cr_3_5, cr_3_6, cr_3_7, cr_3_8⟩ := rg_cells Rr_3
  go_wp2
  go_ret
  exact ⟨rfl, B3⟩
set_option maxRecDepth 100000 in
set_option maxHeartbeats 2000000 in
theorem ro_over_gr (f m : Int) (neg : Bool) (u v : Nat) (w : World) (KC : Box (∀ w, Calls Tryz.prog 20 #[.int .u8 f, .int .u8 m] w fun r w' => r = .returned (.int .i64 0) ∧ Below w.heap.size w w'))
    (KG : Box (∀ w, FAt w → Calls Tryz.prog 61 #[.int .u8 f, .bool neg] w fun r w' => r = .returned (.agg #[.int .u64 (u : Nat), .int .u64 (v : Nat)]) ∧ Below w.heap.size w w'))
    (KU : Box (∀ w, Calls Tryz.prog 57 #[.int .u8 m, .bool neg, .bool false, .int .i64 1, .bool false] w fun r w' => r = .returned (.bool false) ∧ Below w.heap.size w w')) (hT : FAt w) : Calls Tryz.prog 29 #[.int .u8 f, .int .u8 m, .bool neg] w fun r w' => r = .returned (.tuple #[.agg #[.int .u64 (u : Nat), .int .u64 (v : Nat)], .int .u8 5, .int .i64 0]) ∧ Below w.heap.size w w' := by
  have FF := box hT
  clear hT
  obtain ⟨Rz_0, B0⟩ := opn1 w (Obj.cells #[.int .u64 0, .int .u64 0] 27)
  go_enter Tryz.func29, Tryz.ntmps29
  go_wp2_with fail
  refine (KC.out _).mono ?_
  rintro r w1 ⟨rfl, b1⟩
  have B1 : Below w.heap.size w w1 := btr B0 b1
  have Rz_1 := heap_of b1 _ _ _ Rz_0
  clear b1 B0 Rz_0
  obtain ⟨cz_1_0, cz_1_1⟩ := cells2s Rz_1
  go_wp2_with fail
  refine (KG.out _ (fatB FF.out B1)).mono ?_
  rintro r w2 ⟨rfl, b2⟩
  have B2 : Below w.heap.size w w2 := btr B1 b2
  have Rz_2 := heap_of b2 _ _ _ Rz_1
  clear b2 B1 Rz_1 cz_1_0 cz_1_1
  obtain ⟨cz_2_0, cz_2_1⟩ := cells2s Rz_2
  have S3 := box B2.size
  have Lz_3 : Box (w.heap.size < w2.heap.size) := box (Array.getElem?_eq_some_iff.1 Rz_2).1
  have Rb_3 := heap_alloc_last w2 (Obj.cells #[.int .u64 (u : Nat), .int .u64 (v : Nat)] 27)
  have B3 := btr B2 (bal w2 (Obj.cells #[.int .u64 (u : Nat), .int .u64 (v : Nat)] 27))
  have Rz_3 := heap_of (bal w2 (Obj.cells #[.int .u64 (u : Nat), .int .u64 (v : Nat)] 27)) _ _ _ Rz_2
  clear B2 Rz_2 cz_2_0 cz_2_1
  obtain ⟨cz_3_0, cz_3_1⟩ := cells2s Rz_3
  obtain ⟨cb_3_0, cb_3_1⟩ := cells2s Rb_3
  go_wp2_with fail
  refine (KU.out _).mono ?_
  rintro r w4 ⟨rfl, b4⟩
  have B4 : Below w.heap.size w w4 := btr B3 b4
  have Rz_4 := heap_of b4 _ _ _ Rz_3
  have Rb_4 := heap_of b4 _ _ _ Rb_3
  clear b4 B3 Rz_3 cz_3_0 cz_3_1 Rb_3 cb_3_0 cb_3_1
  obtain ⟨cz_4_0, cz_4_1⟩ := cells2s Rz_4
  obtain ⟨cb_4_0, cb_4_1⟩ := cells2s Rb_4
  have q0 := fz (k := 0) Rz_4
  have q1 := fz (k := 1) Rz_4
  obtain ⟨E0, E1⟩ := set2_cells Rz_4 (.int .u64 (u : Nat)) (.int .u64 (v : Nat))
  go_wp2
  exact bodyPost_ret (v := .tuple #[.agg #[.int .u64 (u : Nat), .int .u64 (v : Nat)], .int .u8 5, .int .i64 0]) (by simp [results, Tryz.results29, go_sem, E0, E1]) rfl ⟨rfl, set2_below B4 (by first | exact Nat.le_refl _ | omega | (have := S3.out; have := Lz_3.out; omega)) _ _⟩
set_option maxRecDepth 100000 in
set_option maxHeartbeats 2000000 in
theorem ro_over_inf (f m : Int) (neg : Bool) (i j u v : Nat) (w : World) (KC : Box (∀ w, Calls Tryz.prog 20 #[.int .u8 f, .int .u8 m] w fun r w' => r = .returned (.int .i64 0) ∧ Below w.heap.size w w'))
    (KG : Box (∀ w, FAt w → Calls Tryz.prog 61 #[.int .u8 f, .bool neg] w fun r w' => r = .returned (.agg #[.int .u64 (i : Nat), .int .u64 (j : Nat)]) ∧ Below w.heap.size w w'))
    (KU : Box (∀ w, Calls Tryz.prog 57 #[.int .u8 m, .bool neg, .bool false, .int .i64 1, .bool false] w fun r w' => r = .returned (.bool true) ∧ Below w.heap.size w w'))
    (KI : Box (∀ w, FAt w → Calls Tryz.prog 62 #[.int .u8 f, .bool neg] w fun r w' => r = .returned (.agg #[.int .u64 (u : Nat), .int .u64 (v : Nat)]) ∧ Below w.heap.size w w')) (hT : FAt w) : Calls Tryz.prog 29 #[.int .u8 f, .int .u8 m, .bool neg] w fun r w' => r = .returned (.tuple #[.agg #[.int .u64 (u : Nat), .int .u64 (v : Nat)], .int .u8 5, .int .i64 0]) ∧ Below w.heap.size w w' := by
  have FF := box hT
  clear hT
  obtain ⟨Rz_0, B0⟩ := opn1 w (Obj.cells #[.int .u64 0, .int .u64 0] 27)
  go_enter Tryz.func29, Tryz.ntmps29
  go_wp2_with fail
  refine (KC.out _).mono ?_
  rintro r w1 ⟨rfl, b1⟩
  have B1 : Below w.heap.size w w1 := btr B0 b1
  have Rz_1 := heap_of b1 _ _ _ Rz_0
  clear b1 B0 Rz_0
  obtain ⟨cz_1_0, cz_1_1⟩ := cells2s Rz_1
  go_wp2_with fail
  refine (KG.out _ (fatB FF.out B1)).mono ?_
  rintro r w2 ⟨rfl, b2⟩
  have B2 : Below w.heap.size w w2 := btr B1 b2
  have Rz_2 := heap_of b2 _ _ _ Rz_1
  clear b2 B1 Rz_1 cz_1_0 cz_1_1
  obtain ⟨cz_2_0, cz_2_1⟩ := cells2s Rz_2
  have S3 := box B2.size
  have Lz_3 : Box (w.heap.size < w2.heap.size) := box (Array.getElem?_eq_some_iff.1 Rz_2).1
  have Rb_3 := heap_alloc_last w2 (Obj.cells #[.int .u64 (i : Nat), .int .u64 (j : Nat)] 27)
  have B3 := btr B2 (bal w2 (Obj.cells #[.int .u64 (i : Nat), .int .u64 (j : Nat)] 27))
  have Rz_3 := heap_of (bal w2 (Obj.cells #[.int .u64 (i : Nat), .int .u64 (j : Nat)] 27)) _ _ _ Rz_2
  clear B2 Rz_2 cz_2_0 cz_2_1
  obtain ⟨cz_3_0, cz_3_1⟩ := cells2s Rz_3
  obtain ⟨cb_3_0, cb_3_1⟩ := cells2s Rb_3
  go_wp2_with fail
  refine (KU.out _).mono ?_
  rintro r w4 ⟨rfl, b4⟩
  have B4 : Below w.heap.size w w4 := btr B3 b4
  have Rz_4 := heap_of b4 _ _ _ Rz_3
  have Rb_4 := heap_of b4 _ _ _ Rb_3
  clear b4 B3 Rz_3 cz_3_0 cz_3_1 Rb_3 cb_3_0 cb_3_1
  obtain ⟨cz_4_0, cz_4_1⟩ := cells2s Rz_4
  obtain ⟨cb_4_0, cb_4_1⟩ := cells2s Rb_4
  go_wp2_with fail
  refine (KI.out _ (fatB FF.out B4)).mono ?_
  rintro r w5 ⟨rfl, b5⟩
  have B5 : Below w.heap.size w w5 := btr B4 b5
  have Rz_5 := heap_of b5 _ _ _ Rz_4
  have Rb_5 := heap_of b5 _ _ _ Rb_4
  clear b5 B4 Rz_4 cz_4_0 cz_4_1 Rb_4 cb_4_0 cb_4_1
  obtain ⟨cz_5_0, cz_5_1⟩ := cells2s Rz_5
  obtain ⟨cb_5_0, cb_5_1⟩ := cells2s Rb_5
  have q0_6 := fz (k := 0) Rb_5
  have q1_6 := fz (k := 1) Rb_5
  have B6 := set2_below B5 (show w.heap.size ≤ w2.heap.size by first | exact Nat.le_refl _ | omega | (have := S3.out; have := Lz_3.out; omega)) (.int .u64 (u : Nat)) (.int .u64 (v : Nat))
  have Rb_6 : ((w5.setCell ⟨w2.heap.size, 0, none⟩ (.int .u64 (u : Nat))).setCell ⟨w2.heap.size, 1, none⟩ (.int .u64 (v : Nat))).heap[w2.heap.size]? = some (Obj.cells #[.int .u64 (u : Nat), .int .u64 (v : Nat)] 27) := set2_row Rb_5 _ _
  have Rz_6 : ((w5.setCell ⟨w2.heap.size, 0, none⟩ (.int .u64 (u : Nat))).setCell ⟨w2.heap.size, 1, none⟩ (.int .u64 (v : Nat))).heap[w.heap.size]? = some (Obj.cells #[.int .u64 0, .int .u64 0] 27) := (setCell_other (by first | omega | (have := S3.out; have := Lz_3.out; omega))).trans ((setCell_other (by first | omega | (have := S3.out; have := Lz_3.out; omega))).trans Rz_5)
  obtain ⟨cz_6_0, cz_6_1⟩ := cells2s Rz_6
  obtain ⟨cb_6_0, cb_6_1⟩ := cells2s Rb_6
  have q0 := fz (k := 0) Rz_6
  have q1 := fz (k := 1) Rz_6
  obtain ⟨E0, E1⟩ := set2_cells Rz_6 (.int .u64 (u : Nat)) (.int .u64 (v : Nat))
  go_wp2
  exact bodyPost_ret (v := .tuple #[.agg #[.int .u64 (u : Nat), .int .u64 (v : Nat)], .int .u8 5, .int .i64 0]) (by simp [results, Tryz.results29, go_sem, E0, E1]) rfl ⟨rfl, set2_below B6 (by first | exact Nat.le_refl _ | omega | (have := S3.out; have := Lz_3.out; omega)) _ _⟩
theorem cw_zip (K : Nat) : (cw 6 K).zipIdx = #[(.int .u64 (wd K 0 : Nat), 0), (.int .u64 (wd K 1 : Nat), 1), (.int .u64 (wd K 2 : Nat), 2), (.int .u64 (wd K 3 : Nat), 3), (.int .u64 (wd K 4 : Nat), 4), (.int .u64 (wd K 5 : Nat), 5)] := by kernel_rfl
theorem rg_sets (neg : Bool) (K : Nat) (st : Int) : ((((((((rg false 0 0 false).toList.set 0 (.bool neg)).set 1 (.int .u64 (wd K 0 : Nat))).set 2 (.int .u64 (wd K 1 : Nat))).set 3 (.int .u64 (wd K 2 : Nat))).set 4 (.int .u64 (wd K 3 : Nat))).set 5 (.int .u64 (wd K 4 : Nat))).set 6 (.int .u64 (wd K 5 : Nat))).set 7 (.int .i64 st) = (rg neg K st false).toList := rfl
set_option maxRecDepth 100000 in
set_option maxHeartbeats 4000000 in
theorem ro_grid_no (m st : Int) (neg : Bool) (s : Nat) (x : Int) (more : Bool) (R K : Nat) (lo : Bool) (A1 A2 h : Int) (ex od : Bool) (w : World) (hQ : Box (R < Q ∧ K < Q))
    (K1 : Box (∀ w, Calls Tryz.prog 55 #[.agg (cw 6 s), .int .i64 A1] w fun r w' => r = .returned (.tuple #[.agg (cw 6 R), .bool lo]) ∧ Below w.heap.size w w'))
    (K2 : Box (∀ w, Calls Tryz.prog 56 #[.agg (cw 6 R), .int .i64 A2] w fun r w' => r = .returned (.tuple #[.agg (cw 6 K), .int .i64 h, .bool ex]) ∧ Below w.heap.size w w'))
    (K3 : Box (∀ w, Calls Tryz.prog 58 #[.agg (cw 6 K), .int .i64 0] w fun r w' => r = .returned (.bool od) ∧ Below w.heap.size w w'))
    (K4 : Box (∀ w, Calls Tryz.prog 57 #[.int .u8 m, .bool neg, .bool od, .int .i64 h, .bool ex] w fun r w' => r = .returned (.bool false) ∧ Below w.heap.size w w'))
    (h1 : IntKind.i64.wrap (x - st) = A1) (h2 : IntKind.i64.wrap (st - x) = A2) : Calls Tryz.prog 24 #[.int .u8 m, .agg (rg neg s x more), .int .i64 st] w fun r w' => r = .returned (.tuple #[.agg (rg neg K st false), .bool ex]) ∧ Below w.heap.size w w' := by
  have hat := cw_at 6
  have hz := cw6z
  have hff := cw6f
  have hs0 := st0
  have hcs : ∀ x, ((cw 6 x).size = 6) = True := fun x => eq_true (cw_size 6 x)
  have hp1 := rgf
  have hp3 := rgz
  have hp4 := st_r0
  have hzi := cw_zip
  have hls := rg_sets
  have hp5 : ∀ (c : Bool) (s : Nat) (x : Int) (r : Bool), ((rg c s x r).size = 9) = True := fun _ _ _ _ => eq_true rfl
  obtain ⟨Rx_0, Rz_0, B0⟩ := opn2 w (Obj.cells (rg neg s x more) 45) (Obj.cells (rg false 0 0 false) 45)
  go_enter Tryz.func24, Tryz.ntmps24
  obtain ⟨cx_0_0, cx_0_1, cx_0_2, cx_0_3, cx_0_4, cx_0_5, cx_0_6, cx_0_7, cx_0_8⟩ := rg_cells Rx_0
  obtain ⟨cz_0_0, cz_0_1, cz_0_2, cz_0_3, cz_0_4, cz_0_5, cz_0_6, cz_0_7, cz_0_8⟩ := rg_cells Rz_0
  go_wp2_with fail
  refine (K1.out _).mono ?_
  rintro r w1 ⟨rfl, b1⟩
  have B1 : Below w.heap.size w w1 := btr B0 b1
  have Rx_1 := heap_of b1 _ _ _ Rx_0
  have Rz_1 := heap_of b1 _ _ _ Rz_0
  clear b1 B0 Rx_0 cx_0_0 cx_0_1 cx_0_2 cx_0_3 cx_0_4 cx_0_5 cx_0_6 cx_0_7 cx_0_8 Rz_0 cz_0_0 cz_0_1 cz_0_2 cz_0_3 cz_0_4 cz_0_5 cz_0_6 cz_0_7 cz_0_8
  obtain ⟨cx_1_0, cx_1_1, cx_1_2, cx_1_3, cx_1_4, cx_1_5, cx_1_6, cx_1_7, cx_1_8⟩ := rg_cells Rx_1
  obtain ⟨cz_1_0, cz_1_1, cz_1_2, cz_1_3, cz_1_4, cz_1_5, cz_1_6, cz_1_7, cz_1_8⟩ := rg_cells Rz_1
  have S2 := box B1.size
  have Lx_2 : Box (w.heap.size < w1.heap.size) := box (Array.getElem?_eq_some_iff.1 Rx_1).1
  have Lz_2 : Box (w.heap.size + 1 < w1.heap.size) := box (Array.getElem?_eq_some_iff.1 Rz_1).1
  have Ra_2 := heap_alloc_last w1 (Obj.cells (cw 6 R) 42)
  have B2 := btr B1 (bal w1 (Obj.cells (cw 6 R) 42))
  have Rx_2 := heap_of (bal w1 (Obj.cells (cw 6 R) 42)) _ _ _ Rx_1
  have Rz_2 := heap_of (bal w1 (Obj.cells (cw 6 R) 42)) _ _ _ Rz_1
  clear B1 Rx_1 cx_1_0 cx_1_1 cx_1_2 cx_1_3 cx_1_4 cx_1_5 cx_1_6 cx_1_7 cx_1_8 Rz_1 cz_1_0 cz_1_1 cz_1_2 cz_1_3 cz_1_4 cz_1_5 cz_1_6 cz_1_7 cz_1_8
  obtain ⟨cx_2_0, cx_2_1, cx_2_2, cx_2_3, cx_2_4, cx_2_5, cx_2_6, cx_2_7, cx_2_8⟩ := rg_cells Rx_2
  obtain ⟨cz_2_0, cz_2_1, cz_2_2, cz_2_3, cz_2_4, cz_2_5, cz_2_6, cz_2_7, cz_2_8⟩ := rg_cells Rz_2
  have ca_2_0 := row_cell Ra_2
  go_wp2_with fail
  refine (K2.out _).mono ?_
  rintro r w3 ⟨rfl, b3⟩
  have B3 : Below w.heap.size w w3 := btr B2 b3
  have Rx_3 := heap_of b3 _ _ _ Rx_2
  have Rz_3 := heap_of b3 _ _ _ Rz_2
  have Ra_3 := heap_of b3 _ _ _ Ra_2
  clear b3 B2 Rx_2 cx_2_0 cx_2_1 cx_2_2 cx_2_3 cx_2_4 cx_2_5 cx_2_6 cx_2_7 cx_2_8 Rz_2 cz_2_0 cz_2_1 cz_2_2 cz_2_3 cz_2_4 cz_2_5 cz_2_6 cz_2_7 cz_2_8 Ra_2 ca_2_0
  obtain ⟨cx_3_0, cx_3_1, cx_3_2, cx_3_3, cx_3_4, cx_3_5, cx_3_6, cx_3_7, cx_3_8⟩ := rg_cells Rx_3
  obtain ⟨cz_3_0, cz_3_1, cz_3_2, cz_3_3, cz_3_4, cz_3_5, cz_3_6, cz_3_7, cz_3_8⟩ := rg_cells Rz_3
  have ca_3_0 := row_cell Ra_3
  have S4 := box B3.size
  have Lx_4 : Box (w.heap.size < w3.heap.size) := box (Array.getElem?_eq_some_iff.1 Rx_3).1
  have Lz_4 : Box (w.heap.size + 1 < w3.heap.size) := box (Array.getElem?_eq_some_iff.1 Rz_3).1
  have La_4 : Box (w1.heap.size < w3.heap.size) := box (Array.getElem?_eq_some_iff.1 Ra_3).1
  have Rk_4 := heap_alloc_last w3 (Obj.cells (cw 6 K) 42)
  have B4 := btr B3 (bal w3 (Obj.cells (cw 6 K) 42))
  have Rx_4 := heap_of (bal w3 (Obj.cells (cw 6 K) 42)) _ _ _ Rx_3
  have Rz_4 := heap_of (bal w3 (Obj.cells (cw 6 K) 42)) _ _ _ Rz_3
  have Ra_4 := heap_of (bal w3 (Obj.cells (cw 6 K) 42)) _ _ _ Ra_3
  clear B3 Rx_3 cx_3_0 cx_3_1 cx_3_2 cx_3_3 cx_3_4 cx_3_5 cx_3_6 cx_3_7 cx_3_8 Rz_3 cz_3_0 cz_3_1 cz_3_2 cz_3_3 cz_3_4 cz_3_5 cz_3_6 cz_3_7 cz_3_8 Ra_3 ca_3_0
  obtain ⟨cx_4_0, cx_4_1, cx_4_2, cx_4_3, cx_4_4, cx_4_5, cx_4_6, cx_4_7, cx_4_8⟩ := rg_cells Rx_4
  obtain ⟨cz_4_0, cz_4_1, cz_4_2, cz_4_3, cz_4_4, cz_4_5, cz_4_6, cz_4_7, cz_4_8⟩ := rg_cells Rz_4
  have ca_4_0 := row_cell Ra_4
  have ck_4_0 := row_cell Rk_4
  clear Ra_4 ca_4_0
  have sS : Box (∀ W W1 : World, (Below w.heap.size w W ∧ W.heap[w.heap.size]? = some (Obj.cells (rg neg s x more) 45) ∧ W.heap[w.heap.size + 1]? = some (Obj.cells (rg false 0 0 false) 45) ∧ W.heap[w3.heap.size]? = some (Obj.cells (cw 6 K) 42) ∧ W.cell? ⟨w.heap.size, 0, none⟩ = some (.bool neg) ∧ W.cell? ⟨w.heap.size, 1, none⟩ = some (.int .u64 ((wd s 0 : Nat) : Int)) ∧ W.cell? ⟨w.heap.size, 2, none⟩ = some (.int .u64 ((wd s 1 : Nat) : Int)) ∧ W.cell? ⟨w.heap.size, 3, none⟩ = some (.int .u64 ((wd s 2 : Nat) : Int)) ∧ W.cell? ⟨w.heap.size, 4, none⟩ = some (.int .u64 ((wd s 3 : Nat) : Int)) ∧ W.cell? ⟨w.heap.size, 5, none⟩ = some (.int .u64 ((wd s 4 : Nat) : Int)) ∧ W.cell? ⟨w.heap.size, 6, none⟩ = some (.int .u64 ((wd s 5 : Nat) : Int)) ∧ W.cell? ⟨w.heap.size, 7, none⟩ = some (.int .i64 x) ∧ W.cell? ⟨w.heap.size, 8, none⟩ = some (.bool more) ∧ W.cell? ⟨w3.heap.size, 0, none⟩ = some (.int .u64 ((wd K 0 : Nat) : Int)) ∧ W.cell? ⟨w3.heap.size, 1, none⟩ = some (.int .u64 ((wd K 1 : Nat) : Int)) ∧ W.cell? ⟨w3.heap.size, 2, none⟩ = some (.int .u64 ((wd K 2 : Nat) : Int)) ∧ W.cell? ⟨w3.heap.size, 3, none⟩ = some (.int .u64 ((wd K 3 : Nat) : Int)) ∧ W.cell? ⟨w3.heap.size, 4, none⟩ = some (.int .u64 ((wd K 4 : Nat) : Int)) ∧ W.cell? ⟨w3.heap.size, 5, none⟩ = some (.int .u64 ((wd K 5 : Nat) : Int))) → Below W.heap.size W W1 → (Below w.heap.size w W1 ∧ W1.heap[w.heap.size]? = some (Obj.cells (rg neg s x more) 45) ∧ W1.heap[w.heap.size + 1]? = some (Obj.cells (rg false 0 0 false) 45) ∧ W1.heap[w3.heap.size]? = some (Obj.cells (cw 6 K) 42) ∧ W1.cell? ⟨w.heap.size, 0, none⟩ = some (.bool neg) ∧ W1.cell? ⟨w.heap.size, 1, none⟩ = some (.int .u64 ((wd s 0 : Nat) : Int)) ∧ W1.cell? ⟨w.heap.size, 2, none⟩ = some (.int .u64 ((wd s 1 : Nat) : Int)) ∧ W1.cell? ⟨w.heap.size, 3, none⟩ = some (.int .u64 ((wd s 2 : Nat) : Int)) ∧ W1.cell? ⟨w.heap.size, 4, none⟩ = some (.int .u64 ((wd s 3 : Nat) : Int)) ∧ W1.cell? ⟨w.heap.size, 5, none⟩ = some (.int .u64 ((wd s 4 : Nat) : Int)) ∧ W1.cell? ⟨w.heap.size, 6, none⟩ = some (.int .u64 ((wd s 5 : Nat) : Int)) ∧ W1.cell? ⟨w.heap.size, 7, none⟩ = some (.int .i64 x) ∧ W1.cell? ⟨w.heap.size, 8, none⟩ = some (.bool more) ∧ W1.cell? ⟨w3.heap.size, 0, none⟩ = some (.int .u64 ((wd K 0 : Nat) : Int)) ∧ W1.cell? ⟨w3.heap.size, 1, none⟩ = some (.int .u64 ((wd K 1 : Nat) : Int)) ∧ W1.cell? ⟨w3.heap.size, 2, none⟩ = some (.int .u64 ((wd K 2 : Nat) : Int)) ∧ W1.cell? ⟨w3.heap.size, 3, none⟩ = some (.int .u64 ((wd K 3 : Nat) : Int)) ∧ W1.cell? ⟨w3.heap.size, 4, none⟩ = some (.int .u64 ((wd K 4 : Nat) : Int)) ∧ W1.cell? ⟨w3.heap.size, 5, none⟩ = some (.int .u64 ((wd K 5 : Nat) : Int)))) := box (fun W W1 h b => ⟨btr h.1 b, heap_of b _ _ _ h.2.1, heap_of b _ _ _ h.2.2.1, heap_of b _ _ _ h.2.2.2.1, cell7 (heap_of b _ _ _ h.2.1) 0 _ rfl, cell7 (heap_of b _ _ _ h.2.1) 1 _ rfl, cell7 (heap_of b _ _ _ h.2.1) 2 _ rfl, cell7 (heap_of b _ _ _ h.2.1) 3 _ rfl, cell7 (heap_of b _ _ _ h.2.1) 4 _ rfl, cell7 (heap_of b _ _ _ h.2.1) 5 _ rfl, cell7 (heap_of b _ _ _ h.2.1) 6 _ rfl, cell7 (heap_of b _ _ _ h.2.1) 7 _ rfl, cell7 (heap_of b _ _ _ h.2.1) 8 _ rfl, row_cell (heap_of b _ _ _ h.2.2.2.1) 0 (by decide), row_cell (heap_of b _ _ _ h.2.2.2.1) 1 (by decide), row_cell (heap_of b _ _ _ h.2.2.2.1) 2 (by decide), row_cell (heap_of b _ _ _ h.2.2.2.1) 3 (by decide), row_cell (heap_of b _ _ _ h.2.2.2.1) 4 (by decide), row_cell (heap_of b _ _ _ h.2.2.2.1) 5 (by decide)⟩)
  have s0 : Below w.heap.size w ((w3.alloc (Obj.cells (cw 6 K) 42))).drew ∧ ((w3.alloc (Obj.cells (cw 6 K) 42))).drew.heap[w.heap.size]? = some (Obj.cells (rg neg s x more) 45) ∧ ((w3.alloc (Obj.cells (cw 6 K) 42))).drew.heap[w.heap.size + 1]? = some (Obj.cells (rg false 0 0 false) 45) ∧ ((w3.alloc (Obj.cells (cw 6 K) 42))).drew.heap[w3.heap.size]? = some (Obj.cells (cw 6 K) 42) ∧ ((w3.alloc (Obj.cells (cw 6 K) 42))).drew.cell? ⟨w.heap.size, 0, none⟩ = some (.bool neg) ∧ ((w3.alloc (Obj.cells (cw 6 K) 42))).drew.cell? ⟨w.heap.size, 1, none⟩ = some (.int .u64 ((wd s 0 : Nat) : Int)) ∧ ((w3.alloc (Obj.cells (cw 6 K) 42))).drew.cell? ⟨w.heap.size, 2, none⟩ = some (.int .u64 ((wd s 1 : Nat) : Int)) ∧ ((w3.alloc (Obj.cells (cw 6 K) 42))).drew.cell? ⟨w.heap.size, 3, none⟩ = some (.int .u64 ((wd s 2 : Nat) : Int)) ∧ ((w3.alloc (Obj.cells (cw 6 K) 42))).drew.cell? ⟨w.heap.size, 4, none⟩ = some (.int .u64 ((wd s 3 : Nat) : Int)) ∧ ((w3.alloc (Obj.cells (cw 6 K) 42))).drew.cell? ⟨w.heap.size, 5, none⟩ = some (.int .u64 ((wd s 4 : Nat) : Int)) ∧ ((w3.alloc (Obj.cells (cw 6 K) 42))).drew.cell? ⟨w.heap.size, 6, none⟩ = some (.int .u64 ((wd s 5 : Nat) : Int)) ∧ ((w3.alloc (Obj.cells (cw 6 K) 42))).drew.cell? ⟨w.heap.size, 7, none⟩ = some (.int .i64 x) ∧ ((w3.alloc (Obj.cells (cw 6 K) 42))).drew.cell? ⟨w.heap.size, 8, none⟩ = some (.bool more) ∧ ((w3.alloc (Obj.cells (cw 6 K) 42))).drew.cell? ⟨w3.heap.size, 0, none⟩ = some (.int .u64 ((wd K 0 : Nat) : Int)) ∧ ((w3.alloc (Obj.cells (cw 6 K) 42))).drew.cell? ⟨w3.heap.size, 1, none⟩ = some (.int .u64 ((wd K 1 : Nat) : Int)) ∧ ((w3.alloc (Obj.cells (cw 6 K) 42))).drew.cell? ⟨w3.heap.size, 2, none⟩ = some (.int .u64 ((wd K 2 : Nat) : Int)) ∧ ((w3.alloc (Obj.cells (cw 6 K) 42))).drew.cell? ⟨w3.heap.size, 3, none⟩ = some (.int .u64 ((wd K 3 : Nat) : Int)) ∧ ((w3.alloc (Obj.cells (cw 6 K) 42))).drew.cell? ⟨w3.heap.size, 4, none⟩ = some (.int .u64 ((wd K 4 : Nat) : Int)) ∧ ((w3.alloc (Obj.cells (cw 6 K) 42))).drew.cell? ⟨w3.heap.size, 5, none⟩ = some (.int .u64 ((wd K 5 : Nat) : Int)) := ⟨B4.drew, Rx_4, Rz_4, Rk_4, cell7 (Rx_4) 0 _ rfl, cell7 (Rx_4) 1 _ rfl, cell7 (Rx_4) 2 _ rfl, cell7 (Rx_4) 3 _ rfl, cell7 (Rx_4) 4 _ rfl, cell7 (Rx_4) 5 _ rfl, cell7 (Rx_4) 6 _ rfl, cell7 (Rx_4) 7 _ rfl, cell7 (Rx_4) 8 _ rfl, row_cell (Rk_4) 0 (by decide), row_cell (Rk_4) 1 (by decide), row_cell (Rk_4) 2 (by decide), row_cell (Rk_4) 3 (by decide), row_cell (Rk_4) 4 (by decide), row_cell (Rk_4) 5 (by decide)⟩
  go_wp2_with fail
  go_region_held3 (fun W => Below w.heap.size w W ∧ W.heap[w.heap.size]? = some (Obj.cells (rg neg s x more) 45) ∧ W.heap[w.heap.size + 1]? = some (Obj.cells (rg false 0 0 false) 45) ∧ W.heap[w3.heap.size]? = some (Obj.cells (cw 6 K) 42) ∧ W.cell? ⟨w.heap.size, 0, none⟩ = some (.bool neg) ∧ W.cell? ⟨w.heap.size, 1, none⟩ = some (.int .u64 ((wd s 0 : Nat) : Int)) ∧ W.cell? ⟨w.heap.size, 2, none⟩ = some (.int .u64 ((wd s 1 : Nat) : Int)) ∧ W.cell? ⟨w.heap.size, 3, none⟩ = some (.int .u64 ((wd s 2 : Nat) : Int)) ∧ W.cell? ⟨w.heap.size, 4, none⟩ = some (.int .u64 ((wd s 3 : Nat) : Int)) ∧ W.cell? ⟨w.heap.size, 5, none⟩ = some (.int .u64 ((wd s 4 : Nat) : Int)) ∧ W.cell? ⟨w.heap.size, 6, none⟩ = some (.int .u64 ((wd s 5 : Nat) : Int)) ∧ W.cell? ⟨w.heap.size, 7, none⟩ = some (.int .i64 x) ∧ W.cell? ⟨w.heap.size, 8, none⟩ = some (.bool more) ∧ W.cell? ⟨w3.heap.size, 0, none⟩ = some (.int .u64 ((wd K 0 : Nat) : Int)) ∧ W.cell? ⟨w3.heap.size, 1, none⟩ = some (.int .u64 ((wd K 1 : Nat) : Int)) ∧ W.cell? ⟨w3.heap.size, 2, none⟩ = some (.int .u64 ((wd K 2 : Nat) : Int)) ∧ W.cell? ⟨w3.heap.size, 3, none⟩ = some (.int .u64 ((wd K 3 : Nat) : Int)) ∧ W.cell? ⟨w3.heap.size, 4, none⟩ = some (.int .u64 ((wd K 4 : Nat) : Int)) ∧ W.cell? ⟨w3.heap.size, 5, none⟩ = some (.int .u64 ((wd K 5 : Nat) : Int))) (first | exact s1 | exact s0)
    (first | (go_at_call 58; refine (K3.out _).mono ?_; rintro r wq ⟨rfl, bq⟩; (first | have s1 := sS.out _ _ s1 bq | have s1 := sS.out _ _ s0 bq); clear bq) | (go_at_call 57; refine (K4.out _).mono ?_; rintro r wq ⟨rfl, bq⟩; (first | have s1 := sS.out _ _ s1 bq | have s1 := sS.out _ _ s0 bq); clear bq) | fail)
  have B5 := (And.left s1)
  have Rx_5 := s1.2.1
  have Rz_5 := s1.2.2.1
  have Rk_5 := s1.2.2.2.1
  clear s0 s1 sS B4 Rx_4 cx_4_0 cx_4_1 cx_4_2 cx_4_3 cx_4_4 cx_4_5 cx_4_6 cx_4_7 cx_4_8 Rz_4 cz_4_0 cz_4_1 cz_4_2 cz_4_3 cz_4_4 cz_4_5 cz_4_6 cz_4_7 cz_4_8 Rk_4 ck_4_0
  obtain ⟨cx_5_0, cx_5_1, cx_5_2, cx_5_3, cx_5_4, cx_5_5, cx_5_6, cx_5_7, cx_5_8⟩ := rg_cells Rx_5
  obtain ⟨cz_5_0, cz_5_1, cz_5_2, cz_5_3, cz_5_4, cz_5_5, cz_5_6, cz_5_7, cz_5_8⟩ := rg_cells Rz_5
  have ck_5_0 := row_cell Rk_5
  have hstz := st_r wq (w.heap.size + 1) neg K st false false 0 0 false Rz_5
  have RZ := setRow_row (c' := rg neg K st false) Rz_5
  obtain ⟨dz0, dz1, dz2, dz3, dz4, dz5, dz6, dz7, dz8⟩ := rg_cells RZ
  have bz := bel_set (c := rg neg K st false) B5 (show w.heap.size ≤ w.heap.size + 1 by first | exact Nat.le_refl _ | omega | (have := S2.out; have := Lx_2.out; have := Lz_2.out; have := S4.out; have := Lx_4.out; have := Lz_4.out; have := La_4.out; omega))
  go_wp2
  exact bodyPost_ret (v := .tuple #[.agg (rg neg K st false), .bool ex]) (by simp [results, Tryz.results24, go_sem, dz0, dz1, dz2, dz3, dz4, dz5, dz6, dz7, dz8, rgf] <;> rfl) rfl ⟨rfl, bz⟩
set_option maxRecDepth 100000 in
set_option maxHeartbeats 4000000 in
theorem ro_grid_up (m st : Int) (neg : Bool) (s : Nat) (x : Int) (more : Bool) (R K K' : Nat) (lo l2 : Bool) (A1 A2 h : Int) (ex od : Bool) (w : World)
    (K1 : Box (∀ w, Calls Tryz.prog 55 #[.agg (cw 6 s), .int .i64 A1] w fun r w' => r = .returned (.tuple #[.agg (cw 6 R), .bool lo]) ∧ Below w.heap.size w w'))
    (K2 : Box (∀ w, Calls Tryz.prog 56 #[.agg (cw 6 R), .int .i64 A2] w fun r w' => r = .returned (.tuple #[.agg (cw 6 K), .int .i64 h, .bool ex]) ∧ Below w.heap.size w w'))
    (K3 : Box (∀ w, Calls Tryz.prog 58 #[.agg (cw 6 K), .int .i64 0] w fun r w' => r = .returned (.bool od) ∧ Below w.heap.size w w'))
    (K4 : Box (∀ w, Calls Tryz.prog 57 #[.int .u8 m, .bool neg, .bool od, .int .i64 h, .bool ex] w fun r w' => r = .returned (.bool true) ∧ Below w.heap.size w w'))
    (K5 : Box (∀ w, Calls Tryz.prog 10 #[.int .u64 1] w fun r w' => r = .returned (.agg (cw 6 1)) ∧ Below w.heap.size w w'))
    (K6 : Box (∀ w, Calls Tryz.prog 59 #[.agg (cw 6 K), .agg (cw 6 1)] w fun r w' => r = .returned (.tuple #[.agg (cw 6 K'), .bool l2]) ∧ Below w.heap.size w w'))
    (h1 : IntKind.i64.wrap (x - st) = A1) (h2 : IntKind.i64.wrap (st - x) = A2) : Calls Tryz.prog 24 #[.int .u8 m, .agg (rg neg s x more), .int .i64 st] w fun r w' => r = .returned (.tuple #[.agg (rg neg K' st false), .bool ex]) ∧ Below w.heap.size w w' := by
  have hat := cw_at 6
  have hz := cw6z
  have hff := cw6f
  have hs0 := st0
  have hcs : ∀ x, ((cw 6 x).size = 6) = True := fun x => eq_true (cw_size 6 x)
  have hp1 := rgf
  have hp3 := rgz
  have hp4 := st_r0
  have hzi := cw_zip
  have hls := rg_sets
  have hp5 : ∀ (c : Bool) (s : Nat) (x : Int) (r : Bool), ((rg c s x r).size = 9) = True := fun _ _ _ _ => eq_true rfl
  obtain ⟨Rx_0, Rz_0, B0⟩ := opn2 w (Obj.cells (rg neg s x more) 45) (Obj.cells (rg false 0 0 false) 45)
  go_enter Tryz.func24, Tryz.ntmps24
  obtain ⟨cx_0_0, cx_0_1, cx_0_2, cx_0_3, cx_0_4, cx_0_5, cx_0_6, cx_0_7, cx_0_8⟩ := rg_cells Rx_0
  obtain ⟨cz_0_0, cz_0_1, cz_0_2, cz_0_3, cz_0_4, cz_0_5, cz_0_6, cz_0_7, cz_0_8⟩ := rg_cells Rz_0
  go_wp2_with fail
  refine (K1.out _).mono ?_
  rintro r w1 ⟨rfl, b1⟩
  have B1 : Below w.heap.size w w1 := btr B0 b1
  have Rx_1 := heap_of b1 _ _ _ Rx_0
  have Rz_1 := heap_of b1 _ _ _ Rz_0
  clear b1 B0 Rx_0 cx_0_0 cx_0_1 cx_0_2 cx_0_3 cx_0_4 cx_0_5 cx_0_6 cx_0_7 cx_0_8 Rz_0 cz_0_0 cz_0_1 cz_0_2 cz_0_3 cz_0_4 cz_0_5 cz_0_6 cz_0_7 cz_0_8
  obtain ⟨cx_1_0, cx_1_1, cx_1_2, cx_1_3, cx_1_4, cx_1_5, cx_1_6, cx_1_7, cx_1_8⟩ := rg_cells Rx_1
  obtain ⟨cz_1_0, cz_1_1, cz_1_2, cz_1_3, cz_1_4, cz_1_5, cz_1_6, cz_1_7, cz_1_8⟩ := rg_cells Rz_1
  have S2 := box B1.size
  have Lx_2 : Box (w.heap.size < w1.heap.size) := box (Array.getElem?_eq_some_iff.1 Rx_1).1
  have Lz_2 : Box (w.heap.size + 1 < w1.heap.size) := box (Array.getElem?_eq_some_iff.1 Rz_1).1
  have Ra_2 := heap_alloc_last w1 (Obj.cells (cw 6 R) 42)
  have B2 := btr B1 (bal w1 (Obj.cells (cw 6 R) 42))
  have Rx_2 := heap_of (bal w1 (Obj.cells (cw 6 R) 42)) _ _ _ Rx_1
  have Rz_2 := heap_of (bal w1 (Obj.cells (cw 6 R) 42)) _ _ _ Rz_1
  clear B1 Rx_1 cx_1_0 cx_1_1 cx_1_2 cx_1_3 cx_1_4 cx_1_5 cx_1_6 cx_1_7 cx_1_8 Rz_1 cz_1_0 cz_1_1 cz_1_2 cz_1_3 cz_1_4 cz_1_5 cz_1_6 cz_1_7 cz_1_8
  obtain ⟨cx_2_0, cx_2_1, cx_2_2, cx_2_3, cx_2_4, cx_2_5, cx_2_6, cx_2_7, cx_2_8⟩ := rg_cells Rx_2
  obtain ⟨cz_2_0, cz_2_1, cz_2_2, cz_2_3, cz_2_4, cz_2_5, cz_2_6, cz_2_7, cz_2_8⟩ := rg_cells Rz_2
  have ca_2_0 := row_cell Ra_2
  go_wp2_with fail
  refine (K2.out _).mono ?_
  rintro r w3 ⟨rfl, b3⟩
  have B3 : Below w.heap.size w w3 := btr B2 b3
  have Rx_3 := heap_of b3 _ _ _ Rx_2
  have Rz_3 := heap_of b3 _ _ _ Rz_2
  have Ra_3 := heap_of b3 _ _ _ Ra_2
  clear b3 B2 Rx_2 cx_2_0 cx_2_1 cx_2_2 cx_2_3 cx_2_4 cx_2_5 cx_2_6 cx_2_7 cx_2_8 Rz_2 cz_2_0 cz_2_1 cz_2_2 cz_2_3 cz_2_4 cz_2_5 cz_2_6 cz_2_7 cz_2_8 Ra_2 ca_2_0
  obtain ⟨cx_3_0, cx_3_1, cx_3_2, cx_3_3, cx_3_4, cx_3_5, cx_3_6, cx_3_7, cx_3_8⟩ := rg_cells Rx_3
  obtain ⟨cz_3_0, cz_3_1, cz_3_2, cz_3_3, cz_3_4, cz_3_5, cz_3_6, cz_3_7, cz_3_8⟩ := rg_cells Rz_3
  have ca_3_0 := row_cell Ra_3
  have S4 := box B3.size
  have Lx_4 : Box (w.heap.size < w3.heap.size) := box (Array.getElem?_eq_some_iff.1 Rx_3).1
  have Lz_4 : Box (w.heap.size + 1 < w3.heap.size) := box (Array.getElem?_eq_some_iff.1 Rz_3).1
  have La_4 : Box (w1.heap.size < w3.heap.size) := box (Array.getElem?_eq_some_iff.1 Ra_3).1
  have Rk_4 := heap_alloc_last w3 (Obj.cells (cw 6 K) 42)
  have B4 := btr B3 (bal w3 (Obj.cells (cw 6 K) 42))
  have Rx_4 := heap_of (bal w3 (Obj.cells (cw 6 K) 42)) _ _ _ Rx_3
  have Rz_4 := heap_of (bal w3 (Obj.cells (cw 6 K) 42)) _ _ _ Rz_3
  have Ra_4 := heap_of (bal w3 (Obj.cells (cw 6 K) 42)) _ _ _ Ra_3
  clear B3 Rx_3 cx_3_0 cx_3_1 cx_3_2 cx_3_3 cx_3_4 cx_3_5 cx_3_6 cx_3_7 cx_3_8 Rz_3 cz_3_0 cz_3_1 cz_3_2 cz_3_3 cz_3_4 cz_3_5 cz_3_6 cz_3_7 cz_3_8 Ra_3 ca_3_0
  obtain ⟨cx_4_0, cx_4_1, cx_4_2, cx_4_3, cx_4_4, cx_4_5, cx_4_6, cx_4_7, cx_4_8⟩ := rg_cells Rx_4
  obtain ⟨cz_4_0, cz_4_1, cz_4_2, cz_4_3, cz_4_4, cz_4_5, cz_4_6, cz_4_7, cz_4_8⟩ := rg_cells Rz_4
  have ca_4_0 := row_cell Ra_4
  have ck_4_0 := row_cell Rk_4
  clear Ra_4 ca_4_0
  have sS : Box (∀ W W1 : World, (Below w.heap.size w W ∧ W.heap[w.heap.size]? = some (Obj.cells (rg neg s x more) 45) ∧ W.heap[w.heap.size + 1]? = some (Obj.cells (rg false 0 0 false) 45) ∧ W.heap[w3.heap.size]? = some (Obj.cells (cw 6 K) 42) ∧ W.cell? ⟨w.heap.size, 0, none⟩ = some (.bool neg) ∧ W.cell? ⟨w.heap.size, 1, none⟩ = some (.int .u64 ((wd s 0 : Nat) : Int)) ∧ W.cell? ⟨w.heap.size, 2, none⟩ = some (.int .u64 ((wd s 1 : Nat) : Int)) ∧ W.cell? ⟨w.heap.size, 3, none⟩ = some (.int .u64 ((wd s 2 : Nat) : Int)) ∧ W.cell? ⟨w.heap.size, 4, none⟩ = some (.int .u64 ((wd s 3 : Nat) : Int)) ∧ W.cell? ⟨w.heap.size, 5, none⟩ = some (.int .u64 ((wd s 4 : Nat) : Int)) ∧ W.cell? ⟨w.heap.size, 6, none⟩ = some (.int .u64 ((wd s 5 : Nat) : Int)) ∧ W.cell? ⟨w.heap.size, 7, none⟩ = some (.int .i64 x) ∧ W.cell? ⟨w.heap.size, 8, none⟩ = some (.bool more) ∧ W.cell? ⟨w3.heap.size, 0, none⟩ = some (.int .u64 ((wd K 0 : Nat) : Int)) ∧ W.cell? ⟨w3.heap.size, 1, none⟩ = some (.int .u64 ((wd K 1 : Nat) : Int)) ∧ W.cell? ⟨w3.heap.size, 2, none⟩ = some (.int .u64 ((wd K 2 : Nat) : Int)) ∧ W.cell? ⟨w3.heap.size, 3, none⟩ = some (.int .u64 ((wd K 3 : Nat) : Int)) ∧ W.cell? ⟨w3.heap.size, 4, none⟩ = some (.int .u64 ((wd K 4 : Nat) : Int)) ∧ W.cell? ⟨w3.heap.size, 5, none⟩ = some (.int .u64 ((wd K 5 : Nat) : Int))) → Below W.heap.size W W1 → (Below w.heap.size w W1 ∧ W1.heap[w.heap.size]? = some (Obj.cells (rg neg s x more) 45) ∧ W1.heap[w.heap.size + 1]? = some (Obj.cells (rg false 0 0 false) 45) ∧ W1.heap[w3.heap.size]? = some (Obj.cells (cw 6 K) 42) ∧ W1.cell? ⟨w.heap.size, 0, none⟩ = some (.bool neg) ∧ W1.cell? ⟨w.heap.size, 1, none⟩ = some (.int .u64 ((wd s 0 : Nat) : Int)) ∧ W1.cell? ⟨w.heap.size, 2, none⟩ = some (.int .u64 ((wd s 1 : Nat) : Int)) ∧ W1.cell? ⟨w.heap.size, 3, none⟩ = some (.int .u64 ((wd s 2 : Nat) : Int)) ∧ W1.cell? ⟨w.heap.size, 4, none⟩ = some (.int .u64 ((wd s 3 : Nat) : Int)) ∧ W1.cell? ⟨w.heap.size, 5, none⟩ = some (.int .u64 ((wd s 4 : Nat) : Int)) ∧ W1.cell? ⟨w.heap.size, 6, none⟩ = some (.int .u64 ((wd s 5 : Nat) : Int)) ∧ W1.cell? ⟨w.heap.size, 7, none⟩ = some (.int .i64 x) ∧ W1.cell? ⟨w.heap.size, 8, none⟩ = some (.bool more) ∧ W1.cell? ⟨w3.heap.size, 0, none⟩ = some (.int .u64 ((wd K 0 : Nat) : Int)) ∧ W1.cell? ⟨w3.heap.size, 1, none⟩ = some (.int .u64 ((wd K 1 : Nat) : Int)) ∧ W1.cell? ⟨w3.heap.size, 2, none⟩ = some (.int .u64 ((wd K 2 : Nat) : Int)) ∧ W1.cell? ⟨w3.heap.size, 3, none⟩ = some (.int .u64 ((wd K 3 : Nat) : Int)) ∧ W1.cell? ⟨w3.heap.size, 4, none⟩ = some (.int .u64 ((wd K 4 : Nat) : Int)) ∧ W1.cell? ⟨w3.heap.size, 5, none⟩ = some (.int .u64 ((wd K 5 : Nat) : Int)))) := box (fun W W1 h b => ⟨btr h.1 b, heap_of b _ _ _ h.2.1, heap_of b _ _ _ h.2.2.1, heap_of b _ _ _ h.2.2.2.1, cell7 (heap_of b _ _ _ h.2.1) 0 _ rfl, cell7 (heap_of b _ _ _ h.2.1) 1 _ rfl, cell7 (heap_of b _ _ _ h.2.1) 2 _ rfl, cell7 (heap_of b _ _ _ h.2.1) 3 _ rfl, cell7 (heap_of b _ _ _ h.2.1) 4 _ rfl, cell7 (heap_of b _ _ _ h.2.1) 5 _ rfl, cell7 (heap_of b _ _ _ h.2.1) 6 _ rfl, cell7 (heap_of b _ _ _ h.2.1) 7 _ rfl, cell7 (heap_of b _ _ _ h.2.1) 8 _ rfl, row_cell (heap_of b _ _ _ h.2.2.2.1) 0 (by decide), row_cell (heap_of b _ _ _ h.2.2.2.1) 1 (by decide), row_cell (heap_of b _ _ _ h.2.2.2.1) 2 (by decide), row_cell (heap_of b _ _ _ h.2.2.2.1) 3 (by decide), row_cell (heap_of b _ _ _ h.2.2.2.1) 4 (by decide), row_cell (heap_of b _ _ _ h.2.2.2.1) 5 (by decide)⟩)
  have s0 : Below w.heap.size w ((w3.alloc (Obj.cells (cw 6 K) 42))).drew ∧ ((w3.alloc (Obj.cells (cw 6 K) 42))).drew.heap[w.heap.size]? = some (Obj.cells (rg neg s x more) 45) ∧ ((w3.alloc (Obj.cells (cw 6 K) 42))).drew.heap[w.heap.size + 1]? = some (Obj.cells (rg false 0 0 false) 45) ∧ ((w3.alloc (Obj.cells (cw 6 K) 42))).drew.heap[w3.heap.size]? = some (Obj.cells (cw 6 K) 42) ∧ ((w3.alloc (Obj.cells (cw 6 K) 42))).drew.cell? ⟨w.heap.size, 0, none⟩ = some (.bool neg) ∧ ((w3.alloc (Obj.cells (cw 6 K) 42))).drew.cell? ⟨w.heap.size, 1, none⟩ = some (.int .u64 ((wd s 0 : Nat) : Int)) ∧ ((w3.alloc (Obj.cells (cw 6 K) 42))).drew.cell? ⟨w.heap.size, 2, none⟩ = some (.int .u64 ((wd s 1 : Nat) : Int)) ∧ ((w3.alloc (Obj.cells (cw 6 K) 42))).drew.cell? ⟨w.heap.size, 3, none⟩ = some (.int .u64 ((wd s 2 : Nat) : Int)) ∧ ((w3.alloc (Obj.cells (cw 6 K) 42))).drew.cell? ⟨w.heap.size, 4, none⟩ = some (.int .u64 ((wd s 3 : Nat) : Int)) ∧ ((w3.alloc (Obj.cells (cw 6 K) 42))).drew.cell? ⟨w.heap.size, 5, none⟩ = some (.int .u64 ((wd s 4 : Nat) : Int)) ∧ ((w3.alloc (Obj.cells (cw 6 K) 42))).drew.cell? ⟨w.heap.size, 6, none⟩ = some (.int .u64 ((wd s 5 : Nat) : Int)) ∧ ((w3.alloc (Obj.cells (cw 6 K) 42))).drew.cell? ⟨w.heap.size, 7, none⟩ = some (.int .i64 x) ∧ ((w3.alloc (Obj.cells (cw 6 K) 42))).drew.cell? ⟨w.heap.size, 8, none⟩ = some (.bool more) ∧ ((w3.alloc (Obj.cells (cw 6 K) 42))).drew.cell? ⟨w3.heap.size, 0, none⟩ = some (.int .u64 ((wd K 0 : Nat) : Int)) ∧ ((w3.alloc (Obj.cells (cw 6 K) 42))).drew.cell? ⟨w3.heap.size, 1, none⟩ = some (.int .u64 ((wd K 1 : Nat) : Int)) ∧ ((w3.alloc (Obj.cells (cw 6 K) 42))).drew.cell? ⟨w3.heap.size, 2, none⟩ = some (.int .u64 ((wd K 2 : Nat) : Int)) ∧ ((w3.alloc (Obj.cells (cw 6 K) 42))).drew.cell? ⟨w3.heap.size, 3, none⟩ = some (.int .u64 ((wd K 3 : Nat) : Int)) ∧ ((w3.alloc (Obj.cells (cw 6 K) 42))).drew.cell? ⟨w3.heap.size, 4, none⟩ = some (.int .u64 ((wd K 4 : Nat) : Int)) ∧ ((w3.alloc (Obj.cells (cw 6 K) 42))).drew.cell? ⟨w3.heap.size, 5, none⟩ = some (.int .u64 ((wd K 5 : Nat) : Int)) := ⟨B4.drew, Rx_4, Rz_4, Rk_4, cell7 (Rx_4) 0 _ rfl, cell7 (Rx_4) 1 _ rfl, cell7 (Rx_4) 2 _ rfl, cell7 (Rx_4) 3 _ rfl, cell7 (Rx_4) 4 _ rfl, cell7 (Rx_4) 5 _ rfl, cell7 (Rx_4) 6 _ rfl, cell7 (Rx_4) 7 _ rfl, cell7 (Rx_4) 8 _ rfl, row_cell (Rk_4) 0 (by decide), row_cell (Rk_4) 1 (by decide), row_cell (Rk_4) 2 (by decide), row_cell (Rk_4) 3 (by decide), row_cell (Rk_4) 4 (by decide), row_cell (Rk_4) 5 (by decide)⟩
  go_wp2_with fail
  go_region_held3 (fun W => Below w.heap.size w W ∧ W.heap[w.heap.size]? = some (Obj.cells (rg neg s x more) 45) ∧ W.heap[w.heap.size + 1]? = some (Obj.cells (rg false 0 0 false) 45) ∧ W.heap[w3.heap.size]? = some (Obj.cells (cw 6 K) 42) ∧ W.cell? ⟨w.heap.size, 0, none⟩ = some (.bool neg) ∧ W.cell? ⟨w.heap.size, 1, none⟩ = some (.int .u64 ((wd s 0 : Nat) : Int)) ∧ W.cell? ⟨w.heap.size, 2, none⟩ = some (.int .u64 ((wd s 1 : Nat) : Int)) ∧ W.cell? ⟨w.heap.size, 3, none⟩ = some (.int .u64 ((wd s 2 : Nat) : Int)) ∧ W.cell? ⟨w.heap.size, 4, none⟩ = some (.int .u64 ((wd s 3 : Nat) : Int)) ∧ W.cell? ⟨w.heap.size, 5, none⟩ = some (.int .u64 ((wd s 4 : Nat) : Int)) ∧ W.cell? ⟨w.heap.size, 6, none⟩ = some (.int .u64 ((wd s 5 : Nat) : Int)) ∧ W.cell? ⟨w.heap.size, 7, none⟩ = some (.int .i64 x) ∧ W.cell? ⟨w.heap.size, 8, none⟩ = some (.bool more) ∧ W.cell? ⟨w3.heap.size, 0, none⟩ = some (.int .u64 ((wd K 0 : Nat) : Int)) ∧ W.cell? ⟨w3.heap.size, 1, none⟩ = some (.int .u64 ((wd K 1 : Nat) : Int)) ∧ W.cell? ⟨w3.heap.size, 2, none⟩ = some (.int .u64 ((wd K 2 : Nat) : Int)) ∧ W.cell? ⟨w3.heap.size, 3, none⟩ = some (.int .u64 ((wd K 3 : Nat) : Int)) ∧ W.cell? ⟨w3.heap.size, 4, none⟩ = some (.int .u64 ((wd K 4 : Nat) : Int)) ∧ W.cell? ⟨w3.heap.size, 5, none⟩ = some (.int .u64 ((wd K 5 : Nat) : Int))) (first | exact s1 | exact s0)
    (first | (go_at_call 58; refine (K3.out _).mono ?_; rintro r wq ⟨rfl, bq⟩; (first | have s1 := sS.out _ _ s1 bq | have s1 := sS.out _ _ s0 bq); clear bq) | (go_at_call 57; refine (K4.out _).mono ?_; rintro r wq ⟨rfl, bq⟩; (first | have s1 := sS.out _ _ s1 bq | have s1 := sS.out _ _ s0 bq); clear bq) | fail)
  have B5 := (And.left s1)
  have Rx_5 := s1.2.1
  have Rz_5 := s1.2.2.1
  have Rk_5 := s1.2.2.2.1
  clear s0 s1 sS B4 Rx_4 cx_4_0 cx_4_1 cx_4_2 cx_4_3 cx_4_4 cx_4_5 cx_4_6 cx_4_7 cx_4_8 Rz_4 cz_4_0 cz_4_1 cz_4_2 cz_4_3 cz_4_4 cz_4_5 cz_4_6 cz_4_7 cz_4_8 Rk_4 ck_4_0
  obtain ⟨cx_5_0, cx_5_1, cx_5_2, cx_5_3, cx_5_4, cx_5_5, cx_5_6, cx_5_7, cx_5_8⟩ := rg_cells Rx_5
  obtain ⟨cz_5_0, cz_5_1, cz_5_2, cz_5_3, cz_5_4, cz_5_5, cz_5_6, cz_5_7, cz_5_8⟩ := rg_cells Rz_5
  have ck_5_0 := row_cell Rk_5
  have qx : (wq).drew.heap[w.heap.size]? = some (Obj.cells (rg neg s x more) 45) := Rx_5
  have qz : (wq).drew.heap[w.heap.size + 1]? = some (Obj.cells (rg false 0 0 false) 45) := Rz_5
  have qk : (wq).drew.heap[w3.heap.size]? = some (Obj.cells (cw 6 K) 42) := Rk_5
  have qB := B5.drew
  have qc := row_cell qk
  go_wp2_with fail
  go_region_with (first | (go_at_call 10; refine (K5.out _).mono ?_; rintro r wq ⟨rfl, bq⟩; have qx := heap_of bq _ _ _ qx; have qz := heap_of bq _ _ _ qz; have qk := heap_of bq _ _ _ qk; have qB := btr qB bq; have qc := row_cell qk; have hst := st_any wq (w3.heap.size) K' K qk; clear bq) | (go_at_call 59; refine (K6.out _).mono ?_; rintro r wq ⟨rfl, bq⟩; have qx := heap_of bq _ _ _ qx; have qz := heap_of bq _ _ _ qz; have qk := heap_of bq _ _ _ qk; have qB := btr qB bq; have qc := row_cell qk; have hst := st_any wq (w3.heap.size) K' K qk; clear bq) | fail)
  all_goals
    have Rk_6 : (wq.setRow (w3.heap.size) (cw 6 K')).heap[w3.heap.size]? = some (Obj.cells (cw 6 K') 42) := setRow_row qk
    have B6 : Below w.heap.size w (wq.setRow (w3.heap.size) (cw 6 K')) := bel_set qB (show w.heap.size ≤ w3.heap.size by first | exact Nat.le_refl _ | omega | (have := S2.out; have := Lx_2.out; have := Lz_2.out; have := S4.out; have := Lx_4.out; have := Lz_4.out; have := La_4.out; omega))
    have Rx_6 : (wq.setRow (w3.heap.size) (cw 6 K')).heap[w.heap.size]? = some (Obj.cells (rg neg s x more) 45) := (setRow_other (by first | omega | (have := S2.out; have := Lx_2.out; have := Lz_2.out; have := S4.out; have := Lx_4.out; have := Lz_4.out; have := La_4.out; omega))).trans qx
    have Rz_6 : (wq.setRow (w3.heap.size) (cw 6 K')).heap[w.heap.size + 1]? = some (Obj.cells (rg false 0 0 false) 45) := (setRow_other (by first | omega | (have := S2.out; have := Lx_2.out; have := Lz_2.out; have := S4.out; have := Lx_4.out; have := Lz_4.out; have := La_4.out; omega))).trans qz
    obtain ⟨w6, hw6⟩ : ∃ V, (wq.setRow (w3.heap.size) (cw 6 K')) = V := ⟨_, rfl⟩
    rw [hw6] at B6 Rx_6 Rz_6 Rk_6 ⊢
    clear hw6 qB qc hst qx qz qk B5 Rx_5 cx_5_0 cx_5_1 cx_5_2 cx_5_3 cx_5_4 cx_5_5 cx_5_6 cx_5_7 cx_5_8 Rz_5 cz_5_0 cz_5_1 cz_5_2 cz_5_3 cz_5_4 cz_5_5 cz_5_6 cz_5_7 cz_5_8 Rk_5 ck_5_0
    obtain ⟨cx_6_0, cx_6_1, cx_6_2, cx_6_3, cx_6_4, cx_6_5, cx_6_6, cx_6_7, cx_6_8⟩ := rg_cells Rx_6
    obtain ⟨cz_6_0, cz_6_1, cz_6_2, cz_6_3, cz_6_4, cz_6_5, cz_6_6, cz_6_7, cz_6_8⟩ := rg_cells Rz_6
    have ck_6_0 := row_cell Rk_6
    have hstz := st_r w6 (w.heap.size + 1) neg K' st false false 0 0 false Rz_6
    have RZ := setRow_row (c' := rg neg K' st false) Rz_6
    obtain ⟨dz0, dz1, dz2, dz3, dz4, dz5, dz6, dz7, dz8⟩ := rg_cells RZ
    have bz := bel_set (c := rg neg K' st false) B6 (show w.heap.size ≤ w.heap.size + 1 by first | exact Nat.le_refl _ | omega | (have := S2.out; have := Lx_2.out; have := Lz_2.out; have := S4.out; have := Lx_4.out; have := Lz_4.out; have := La_4.out; omega))
    go_wp2
    exact bodyPost_ret (v := .tuple #[.agg (rg neg K' st false), .bool ex]) (by simp [results, Tryz.results24, go_sem, dz0, dz1, dz2, dz3, dz4, dz5, dz6, dz7, dz8, rgf] <;> rfl) rfl ⟨rfl, bz⟩
end Go.Proofs.YtpdehipeakcaiaaGreatDoor
