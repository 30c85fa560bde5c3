/-
  What the functions that the statement reaches return: part 11 (EB, EC, ED, EF, EG, EI, EJ).
-/
import Derived.Test.YtjbnifhpbdjonaaDoorRp10
namespace Go.Proofs.YtjbnifhpbdjonaaDoor
set_option maxRecDepth 100000
set_option maxHeartbeats 40000000
set_option maxRecDepth 100000
open Go.RowKit WMath
set_option linter.unusedSimpArgs false
set_option linter.unusedVariables false
theorem g_there (o : Bool) (R : Nat → Nat) (b : Nat) (w : World) (hr : w.heap[b]? = some (.cells (rh o R) 58)) : Calls Tryd.prog 29 #[.pointer (some ⟨b, 0, none⟩)] w fun r w' => r = .returned (.bool o) ∧ w' = w := by
  have c0 := rh_cell0 hr
  go_enter Tryd.func29, Tryd.ntmps29
  go_wp2
  go_ret
  exact ⟨rfl, rfl⟩
theorem g_isR (n : Int) (w : World) : Calls Tryd.prog 38 #[.int .i64 n] w fun r w' => r = .returned (.bool (inR n)) ∧ w' = w := by
  unfold inR
  go_enter Tryd.func38, Tryd.ntmps38
  by_cases h0 : 0 ≤ n
  · have d0 : decide (0 ≤ n) = true := decide_eq_true h0
    go_wp2
    go_ret
    simp [d0]
  · have d0 : decide (0 ≤ n) = false := decide_eq_false h0
    go_wp2
    go_ret
    simp [d0]
theorem g_check (p : Value) (n : Int) (w : World) (K : Calls Tryd.prog 29 #[p] w fun r w' => r = .returned (.bool true) ∧ w' = w) (o : Bool) (ho : inR n = o) : Calls Tryd.prog 62 #[p, .int .i64 n] w fun r w' => r = .returned (.int .i64 (if o = true then 0 else 2)) ∧ w' = w := by
  have K2 := g_isR n w
  rw [ho] at K2
  go_enter Tryd.func62, Tryd.ntmps62
  cases o
  · go_wp2_with (first | (go_at_call 29; refine K.mono ?_; rintro r w' ⟨rfl, rfl⟩) | (go_at_call 38; refine K2.mono ?_; rintro r w' ⟨rfl, rfl⟩))
    go_ret
    exact ⟨rfl, rfl⟩
  · go_wp2_with (first | (go_at_call 29; refine K.mono ?_; rintro r w' ⟨rfl, rfl⟩) | (go_at_call 38; refine K2.mono ?_; rintro r w' ⟨rfl, rfl⟩))
    go_ret
    exact ⟨rfl, rfl⟩
theorem g_wordAt_e (p : Value) (n e : Int) (w : World) (he : e = 1 ∨ e = 2) (K : Calls Tryd.prog 62 #[p, .int .i64 n] w fun r w' => r = .returned (.int .i64 e) ∧ w' = w) : Calls Tryd.prog 45 #[p, .int .i64 n] w fun r w' => r = .returned (.tuple #[.pointer none, .int .i64 e]) ∧ w' = w := by
  go_enter Tryd.func45, Tryd.ntmps45
  rcases he with rfl | rfl
  all_goals
    go_wp2_with (go_at_call 62; refine K.mono ?_; rintro r w' ⟨rfl, rfl⟩)
    go_ret2
    exact ⟨rfl, rfl⟩
theorem g_floatAt_e (p : Value) (n e : Int) (w : World) (he : e = 1 ∨ e = 2) (K : Calls Tryd.prog 62 #[p, .int .i64 n] w fun r w' => r = .returned (.int .i64 e) ∧ w' = w) : Calls Tryd.prog 46 #[p, .int .i64 n] w fun r w' => r = .returned (.tuple #[.pointer none, .int .i64 e]) ∧ w' = w := by
  go_enter Tryd.func46, Tryd.ntmps46
  rcases he with rfl | rfl
  all_goals
    go_wp2_with (go_at_call 62; refine K.mono ?_; rintro r w' ⟨rfl, rfl⟩)
    go_ret2
    exact ⟨rfl, rfl⟩
theorem g_wordAt (b n : Nat) (hn : n < 32) (w : World) (K : Calls Tryd.prog 62 #[.pointer (some ⟨b, 0, none⟩), .int .i64 (n : Nat)] w fun r w' => r = .returned (.int .i64 0) ∧ w' = w) : Calls Tryd.prog 45 #[.pointer (some ⟨b, 0, none⟩), .int .i64 (n : Nat)] w fun r w' => r = .returned (.tuple #[.pointer (some ⟨b, 1 + n, none⟩), .int .i64 0]) ∧ w' = w := by
  go_enter Tryd.func45, Tryd.ntmps45
  go_wp2_with (go_at_call 62; refine K.mono ?_; rintro r w' ⟨rfl, rfl⟩)
  go_ret2
  exact ⟨rfl, rfl⟩
theorem g_floatAt (b n : Nat) (hn : n < 32) (w : World) (K : Calls Tryd.prog 62 #[.pointer (some ⟨b, 0, none⟩), .int .i64 (n : Nat)] w fun r w' => r = .returned (.int .i64 0) ∧ w' = w) : Calls Tryd.prog 46 #[.pointer (some ⟨b, 0, none⟩), .int .i64 (n : Nat)] w fun r w' => r = .returned (.tuple #[.pointer (some ⟨b, 33 + n * 2, none⟩), .int .i64 0]) ∧ w' = w := by
  go_enter Tryd.func46, Tryd.ntmps46
  go_wp2_with (go_at_call 62; refine K.mono ?_; rintro r w' ⟨rfl, rfl⟩)
  go_ret2
  exact ⟨rfl, rfl⟩
def NoP (p : Option Addr) (w : World) : Prop := ∀ W, Below w.heap.size w W → Calls Tryd.prog 29 #[.pointer p] W fun r w' => r = .returned (.bool false) ∧ w' = W
theorem NoP.mono {p : Option Addr} {w W : World} (h : NoP p w) (b : Below w.heap.size w W) : NoP p W := fun V bV => h V (btr b bV)
theorem g_wA (R : Nat → Nat) (b n : Nat) (hn : n < 32) (w : World) (hr : w.heap[b]? = some (.cells (rh true R) 58)) : Calls Tryd.prog 45 #[.pointer (some ⟨b, 0, none⟩), .int .i64 (n : Nat)] w fun r w' => r = .returned (.tuple #[.pointer (some ⟨b, 1 + n, none⟩), .int .i64 0]) ∧ w' = w :=
  g_wordAt b n hn w (g_check _ _ w (g_there true R b w hr) true (by unfold inR; rw [decide_eq_true (by omega), decide_eq_true (by omega)]; rfl))
theorem g_fA (R : Nat → Nat) (b n : Nat) (hn : n < 32) (w : World) (hr : w.heap[b]? = some (.cells (rh true R) 58)) : Calls Tryd.prog 46 #[.pointer (some ⟨b, 0, none⟩), .int .i64 (n : Nat)] w fun r w' => r = .returned (.tuple #[.pointer (some ⟨b, 33 + n * 2, none⟩), .int .i64 0]) ∧ w' = w :=
  g_floatAt b n hn w (g_check _ _ w (g_there true R b w hr) true (by unfold inR; rw [decide_eq_true (by omega), decide_eq_true (by omega)]; rfl))
theorem g_wA2 (R : Nat → Nat) (b : Nat) (n : Int) (hn : inR n = false) (w : World) (hr : w.heap[b]? = some (.cells (rh true R) 58)) : Calls Tryd.prog 45 #[.pointer (some ⟨b, 0, none⟩), .int .i64 n] w fun r w' => r = .returned (.tuple #[.pointer none, .int .i64 2]) ∧ w' = w :=
  g_wordAt_e _ n 2 w (Or.inr rfl) (g_check _ _ w (g_there true R b w hr) false hn)
theorem g_fA2 (R : Nat → Nat) (b : Nat) (n : Int) (hn : inR n = false) (w : World) (hr : w.heap[b]? = some (.cells (rh true R) 58)) : Calls Tryd.prog 46 #[.pointer (some ⟨b, 0, none⟩), .int .i64 n] w fun r w' => r = .returned (.tuple #[.pointer none, .int .i64 2]) ∧ w' = w :=
  g_floatAt_e _ n 2 w (Or.inr rfl) (g_check _ _ w (g_there true R b w hr) false hn)
theorem g_X_e (p : Value) (n e : Int) (w : World) (he : e = 1 ∨ e = 2) (K : Calls Tryd.prog 45 #[p, .int .i64 n] w fun r w' => r = .returned (.tuple #[.pointer none, .int .i64 e]) ∧ w' = w) : Calls Tryd.prog 20 #[p, .int .i64 n] w fun r w' => r = .returned (.tuple #[.int .u64 0, .int .i64 e]) ∧ w' = w := by
  go_enter Tryd.func20, Tryd.ntmps20
  rcases he with rfl | rfl
  all_goals
    go_wp2_with (go_at_call 45; refine K.mono ?_; rintro r w' ⟨rfl, rfl⟩)
    go_ret2
    exact ⟨rfl, rfl⟩
theorem g_X (R : Nat → Nat) (b n : Nat) (hn : n < 32) (w : World) (hr : w.heap[b]? = some (.cells (rh true R) 58)) : Calls Tryd.prog 20 #[.pointer (some ⟨b, 0, none⟩), .int .i64 (n : Nat)] w fun r w' => r = .returned (.tuple #[.int .u64 (R n : Nat), .int .i64 0]) ∧ w' = w := by
  have K := g_wA R b n hn w hr
  have cx := rh_cell hr n (by omega)
  go_enter Tryd.func20, Tryd.ntmps20
  go_wp2_with (go_at_call 45; refine K.mono ?_; rintro r w' ⟨rfl, rfl⟩)
  go_ret2
  exact ⟨rfl, rfl⟩
theorem g_SetX_e (p : Value) (n e : Int) (v : Nat) (w : World) (he : e = 1 ∨ e = 2) (K : Calls Tryd.prog 45 #[p, .int .i64 n] w fun r w' => r = .returned (.tuple #[.pointer none, .int .i64 e]) ∧ w' = w) : Calls Tryd.prog 25 #[p, .int .i64 n, .int .u64 (v : Nat)] w fun r w' => r = .returned (.int .i64 e) ∧ w' = w := by
  go_enter Tryd.func25, Tryd.ntmps25
  rcases he with rfl | rfl
  all_goals
    go_wp2_with (go_at_call 45; refine K.mono ?_; rintro r w' ⟨rfl, rfl⟩)
    go_ret
    exact ⟨rfl, rfl⟩
theorem g_SetX (R : Nat → Nat) (b n v : Nat) (hn : n < 32) (w : World) (hr : w.heap[b]? = some (.cells (rh true R) 58)) : Calls Tryd.prog 25 #[.pointer (some ⟨b, 0, none⟩), .int .i64 (n : Nat), .int .u64 (v : Nat)] w fun r w' => r = .returned (.int .i64 0) ∧ w' = (w.setCell ⟨b, 1 + n, none⟩ (.int .u64 (v : Nat))).setCell ⟨b, 1, none⟩ (.int .u64 0) := by
  have K := g_wA R b n hn w hr
  have cx := rh_cell hr n (by omega)
  have c1 := rh_cell hr 0 (by omega)
  have qx := fz (k := 1 + n) hr
  have q1 := fz (k := 1) hr
  have hr2 := (setCell_row (k := 1 + n) (v := .int .u64 (v : Nat)) hr)
  rw [rh_set true R n v (by omega)] at hr2
  have q2 := fz (k := 1) hr2
  have c2 : (w.setCell ⟨b, 1 + n, none⟩ (.int .u64 (v : Nat))).cell? ⟨b, 1, none⟩ = _ := rh_cell hr2 0 (by omega)
  go_enter Tryd.func25, Tryd.ntmps25
  go_wp2_with (go_at_call 45; refine K.mono ?_; rintro r w' ⟨rfl, rfl⟩)
  go_ret
  exact ⟨rfl, rfl⟩
theorem rh_f0 {w : World} {b : Nat} {o : Bool} {R : Nat → Nat} {T : TypeId} (h : w.heap[b]? = some (.cells (rh o R) T)) (n : Nat) (hn : n < 32) : w.cell? ⟨b, 33 + n * 2, none⟩ = some (.int .u64 (R (32 + n * 2) : Nat)) := by
  have := rh_cell h (32 + n * 2) (by omega)
  rw [show 1 + (32 + n * 2) = 33 + n * 2 by omega] at this
  exact this
theorem rh_f1 {w : World} {b : Nat} {o : Bool} {R : Nat → Nat} {T : TypeId} (h : w.heap[b]? = some (.cells (rh o R) T)) (n : Nat) (hn : n < 32) : w.cell? ⟨b, 33 + n * 2 + 1, none⟩ = some (.int .u64 (R (32 + n * 2 + 1) : Nat)) := by
  have := rh_cell h (32 + n * 2 + 1) (by omega)
  rw [show 1 + (32 + n * 2 + 1) = 33 + n * 2 + 1 by omega] at this
  exact this
set_option maxRecDepth 100000 in
set_option maxHeartbeats 4000000 in
theorem g_F_e (p : Value) (n e : Int) (w : World) (he : e = 1 ∨ e = 2) (K : Box (∀ W, Below w.heap.size w W → Calls Tryd.prog 46 #[p, .int .i64 n] W fun r w' => r = .returned (.tuple #[.pointer none, .int .i64 e]) ∧ w' = W)) : Calls Tryd.prog 21 #[p, .int .i64 n] w fun r w' => r = .returned (.tuple #[.agg #[.int .u64 0, .int .u64 0], .int .i64 e]) ∧ Below w.heap.size w w' := by
  obtain ⟨Rz_0, B0⟩ := opn1 w (Obj.cells #[.int .u64 0, .int .u64 0] 25)
  go_enter Tryd.func21, Tryd.ntmps21
  obtain ⟨cz_0_0, cz_0_1⟩ := cells2s Rz_0
  rcases he with rfl | rfl
  · go_wp2_with fail
    refine (K.out _ B0).mono ?_
    rintro r w' ⟨rfl, rfl⟩
    clear B0 Rz_0
    go_wp2
    exact bodyPost_ret (v := .tuple #[.agg #[.int .u64 0, .int .u64 0], .int .i64 1]) (by simp [results, Tryd.results21, go_sem]) rfl ⟨rfl, ((Below.refl _ _).alloc (by first | omega | (simp only [size_al]; omega)) _)⟩
  · go_wp2_with fail
    refine (K.out _ B0).mono ?_
    rintro r w' ⟨rfl, rfl⟩
    clear B0 Rz_0
    go_wp2
    exact bodyPost_ret (v := .tuple #[.agg #[.int .u64 0, .int .u64 0], .int .i64 2]) (by simp [results, Tryd.results21, go_sem]) rfl ⟨rfl, ((Below.refl _ _).alloc (by first | omega | (simp only [size_al]; omega)) _)⟩
set_option maxRecDepth 100000 in
set_option maxHeartbeats 4000000 in
theorem g_F (R : Nat → Nat) (b n : Nat) (hn : n < 32) (w : World) (hr : w.heap[b]? = some (.cells (rh true R) 58)) : Calls Tryd.prog 21 #[.pointer (some ⟨b, 0, none⟩), .int .i64 (n : Nat)] w fun r w' => r = .returned (.tuple #[.agg #[.int .u64 (R (32 + n * 2) : Nat), .int .u64 (R (32 + n * 2 + 1) : Nat)], .int .i64 0]) ∧ Below w.heap.size w w' := by
  obtain ⟨Rz_0, B0⟩ := opn1 w (Obj.cells #[.int .u64 0, .int .u64 0] 25)
  go_enter Tryd.func21, Tryd.ntmps21
  have hr1 := row_al hr (Obj.cells #[.int .u64 0, .int .u64 0] 25)
  have c0 := rh_f0 hr1 n hn
  have c1 := rh_f1 hr1 n hn
  obtain ⟨cz_0_0, cz_0_1⟩ := cells2s Rz_0
  go_wp2_with fail
  refine (g_fA R b n hn _ hr1).mono ?_
  rintro r w' ⟨rfl, rfl⟩
  clear hr hr1 hn
  clear B0 Rz_0
  go_wp2
  exact bodyPost_ret (v := .tuple #[.agg #[.int .u64 (R (32 + n * 2) : Nat), .int .u64 (R (32 + n * 2 + 1) : Nat)], .int .i64 0]) (by simp [results, Tryd.results21, go_sem]) rfl ⟨rfl, ((Below.refl _ _).alloc (by first | omega | (simp only [size_al]; omega)) _)⟩
set_option maxRecDepth 100000 in
set_option maxHeartbeats 4000000 in
theorem g_SetF_e (p : Value) (n e : Int) (u v : Nat) (w : World) (he : e = 1 ∨ e = 2) (K : Box (∀ W, Below w.heap.size w W → Calls Tryd.prog 46 #[p, .int .i64 n] W fun r w' => r = .returned (.tuple #[.pointer none, .int .i64 e]) ∧ w' = W)) : Calls Tryd.prog 26 #[p, .int .i64 n, .agg #[.int .u64 (u : Nat), .int .u64 (v : Nat)]] w fun r w' => r = .returned (.int .i64 e) ∧ Below w.heap.size w w' := by
  obtain ⟨Rc_0, B0⟩ := opn1 w (Obj.cells #[.int .u64 (u : Nat), .int .u64 (v : Nat)] 25)
  go_enter Tryd.func26, Tryd.ntmps26
  rcases he with rfl | rfl
  · go_wp2_with fail
    refine (K.out _ B0).mono ?_
    rintro r w' ⟨rfl, rfl⟩
    go_wp2
    go_ret
    exact ⟨rfl, B0⟩
  · go_wp2_with fail
    refine (K.out _ B0).mono ?_
    rintro r w' ⟨rfl, rfl⟩
    go_wp2
    go_ret
    exact ⟨rfl, B0⟩
theorem only_set {b k : Nat} {v : Value} {a w : World} (h : Only b a w) : Only b a (w.setCell ⟨b, k, none⟩ v) := by
  refine ⟨h.1, h.2.1, h.2.2.1, ?_, fun i hi hib => ?_⟩
  · exact Nat.le_trans h.2.2.2.1 ((Below.refl 0 w).setCell (p := ⟨b, k, none⟩) (Nat.zero_le _) v).size
  · rw [setCell_other (by omega)]
    exact h.2.2.2.2 i hi hib
theorem rh_setF {w : World} {b : Nat} {o : Bool} {R : Nat → Nat} {T : TypeId} (h : w.heap[b]? = some (.cells (rh o R) T)) (n u v : Nat) (hn : n < 32) : ((w.setCell ⟨b, 33 + n * 2, none⟩ (.int .u64 (u : Nat))).setCell ⟨b, 33 + n * 2 + 1, none⟩ (.int .u64 (v : Nat))).heap[b]? = some (.cells (rh o (up (up R (32 + n * 2) u) (32 + n * 2 + 1) v)) T) := by
  have h1 := setCell_row (k := 33 + n * 2) (v := .int .u64 (u : Nat)) h
  rw [show 33 + n * 2 = 1 + (32 + n * 2) by omega, rh_set _ _ _ _ (by omega), ← show 33 + n * 2 = 1 + (32 + n * 2) by omega] at h1
  have h2 := setCell_row (k := 33 + n * 2 + 1) (v := .int .u64 (v : Nat)) h1
  rw [show 33 + n * 2 + 1 = 1 + (32 + n * 2 + 1) by omega, rh_set _ _ _ _ (by omega)] at h2
  rw [show 33 + n * 2 + 1 = 1 + (32 + n * 2 + 1) by omega]
  exact h2
set_option maxRecDepth 100000 in
set_option maxHeartbeats 4000000 in
theorem g_SetF (R : Nat → Nat) (b n u v : Nat) (hn : n < 32) (w : World) (hr : w.heap[b]? = some (.cells (rh true R) 58)) : Calls Tryd.prog 26 #[.pointer (some ⟨b, 0, none⟩), .int .i64 (n : Nat), .agg #[.int .u64 (u : Nat), .int .u64 (v : Nat)]] w fun r w' => r = .returned (.int .i64 0) ∧ w'.heap[b]? = some (.cells (rh true (up (up R (32 + n * 2) u) (32 + n * 2 + 1) v)) 58) ∧ Only b w w' := by
  obtain ⟨Rc_0, B0⟩ := opn1 w (Obj.cells #[.int .u64 (u : Nat), .int .u64 (v : Nat)] 25)
  go_enter Tryd.func26, Tryd.ntmps26
  have hr1 := row_al hr (Obj.cells #[.int .u64 (u : Nat), .int .u64 (v : Nat)] 25)
  have c0 := rh_f0 hr1 n hn
  have c1 := rh_f1 hr1 n hn
  have q0 := fz (k := 33 + n * 2) hr1
  have q1 := fz (k := 33 + n * 2 + 1) hr1
  have hF := rh_setF hr1 n u v hn
  have hO := only_set (k := 33 + n * 2 + 1) (v := .int .u64 (v : Nat)) (only_set (k := 33 + n * 2) (v := .int .u64 (u : Nat)) (Only.ofBelow (g := b) B0 (Nat.le_refl _)))
  obtain ⟨cc_0_0, cc_0_1⟩ := cells2s Rc_0
  go_wp2_with fail
  refine (g_fA R b n hn _ hr1).mono ?_
  rintro r w' ⟨rfl, rfl⟩
  go_wp2
  go_ret
  exact ⟨rfl, hF, hO⟩
set_option maxRecDepth 100000 in
set_option maxHeartbeats 4000000 in
theorem g_Put_e (p : Value) (f n e : Int) (u v : Nat) (w : World) (he : e = 1 ∨ e = 2) (K : Box (∀ W, Below w.heap.size w W → Calls Tryd.prog 46 #[p, .int .i64 n] W fun r w' => r = .returned (.tuple #[.pointer none, .int .i64 e]) ∧ w' = W)) : Calls Tryd.prog 27 #[p, .int .u8 f, .int .i64 n, .agg #[.int .u64 (u : Nat), .int .u64 (v : Nat)]] w fun r w' => r = .returned (.int .i64 e) ∧ Below w.heap.size w w' := by
  obtain ⟨Rc_0, B0⟩ := opn1 w (Obj.cells #[.int .u64 (u : Nat), .int .u64 (v : Nat)] 25)
  go_enter Tryd.func27, Tryd.ntmps27
  rcases he with rfl | rfl
  · go_wp2_with fail
    refine (K.out _ B0).mono ?_
    rintro r w' ⟨rfl, rfl⟩
    go_wp2
    go_ret
    exact ⟨rfl, B0⟩
  · go_wp2_with fail
    refine (K.out _ B0).mono ?_
    rintro r w' ⟨rfl, rfl⟩
    go_wp2
    go_ret
    exact ⟨rfl, B0⟩
set_option maxRecDepth 100000 in
set_option maxHeartbeats 4000000 in
theorem g_Put_n (R : Nat → Nat) (b n u v : Nat) (f : Int) (hn : n < 32) (w : World) (hr : w.heap[b]? = some (.cells (rh true R) 58)) (hT : FAt w) (KB : Box (∀ w, FAt w → Calls Tryd.prog 50 #[.int .u8 f, .agg #[.int .u64 (u : Nat), .int .u64 (v : Nat)]] w fun r w' => r = .returned (.tuple #[.agg #[.int .u64 0, .int .u64 0], .int .i64 2]) ∧ Below w.heap.size w w')) : Calls Tryd.prog 27 #[.pointer (some ⟨b, 0, none⟩), .int .u8 f, .int .i64 (n : Nat), .agg #[.int .u64 (u : Nat), .int .u64 (v : Nat)]] w fun r w' => r = .returned (.int .i64 2) ∧ Below w.heap.size w w' := by
  have FF := box hT
  clear hT
  obtain ⟨Rc_0, B0⟩ := opn1 w (Obj.cells #[.int .u64 (u : Nat), .int .u64 (v : Nat)] 25)
  go_enter Tryd.func27, Tryd.ntmps27
  have hr1 := row_al hr (Obj.cells #[.int .u64 (u : Nat), .int .u64 (v : Nat)] 25)
  obtain ⟨cc_0_0, cc_0_1⟩ := cells2s Rc_0
  go_wp2_with fail
  refine (g_fA R b n hn _ hr1).mono ?_
  rintro r w' ⟨rfl, rfl⟩
  go_wp2_with fail
  refine (KB.out _ (fatB FF.out B0)).mono ?_
  rintro r w1 ⟨rfl, b1⟩
  have B1 : Below w.heap.size w w1 := btr B0 b1
  have Rc_1 := heap_of b1 _ _ _ Rc_0
  clear b1 B0 Rc_0 cc_0_0 cc_0_1
  obtain ⟨cc_1_0, cc_1_1⟩ := cells2s Rc_1
  have S2 := box B1.size
  have Lc_2 : Box (w.heap.size < w1.heap.size) := box (Array.getElem?_eq_some_iff.1 Rc_1).1
  have Ry_2 := heap_alloc_last w1 (Obj.cells #[.int .u64 0, .int .u64 0] 25)
  have B2 := btr B1 (bal w1 (Obj.cells #[.int .u64 0, .int .u64 0] 25))
  have Rc_2 := heap_of (bal w1 (Obj.cells #[.int .u64 0, .int .u64 0] 25)) _ _ _ Rc_1
  clear B1 Rc_1 cc_1_0 cc_1_1
  obtain ⟨cc_2_0, cc_2_1⟩ := cells2s Rc_2
  obtain ⟨cy_2_0, cy_2_1⟩ := cells2s Ry_2
  go_wp2
  go_ret
  exact ⟨rfl, B2⟩
set_option maxRecDepth 100000 in
set_option maxHeartbeats 4000000 in
theorem g_Put_y (R : Nat → Nat) (b n u v x y : Nat) (f : Int) (hn : n < 32) (w : World) (hr : w.heap[b]? = some (.cells (rh true R) 58)) (hT : FAt w) (KB : Box (∀ w, FAt w → Calls Tryd.prog 50 #[.int .u8 f, .agg #[.int .u64 (u : Nat), .int .u64 (v : Nat)]] w fun r w' => r = .returned (.tuple #[.agg #[.int .u64 (x : Nat), .int .u64 (y : Nat)], .int .i64 0]) ∧ Below w.heap.size w w')) : Calls Tryd.prog 27 #[.pointer (some ⟨b, 0, none⟩), .int .u8 f, .int .i64 (n : Nat), .agg #[.int .u64 (u : Nat), .int .u64 (v : Nat)]] w fun r w' => r = .returned (.int .i64 0) ∧ w'.heap[b]? = some (.cells (rh true (up (up R (32 + n * 2) x) (32 + n * 2 + 1) y)) 58) ∧ Only b w w' := by
  have FF := box hT
  clear hT
  obtain ⟨Rc_0, B0⟩ := opn1 w (Obj.cells #[.int .u64 (u : Nat), .int .u64 (v : Nat)] 25)
  go_enter Tryd.func27, Tryd.ntmps27
  have hr1 := row_al hr (Obj.cells #[.int .u64 (u : Nat), .int .u64 (v : Nat)] 25)
  obtain ⟨cc_0_0, cc_0_1⟩ := cells2s Rc_0
  go_wp2_with fail
  refine (g_fA R b n hn _ hr1).mono ?_
  rintro r w' ⟨rfl, rfl⟩
  go_wp2_with fail
  refine (KB.out _ (fatB FF.out B0)).mono ?_
  rintro r w2 ⟨rfl, b2⟩
  have B2 := btr B0 b2
  have hr2 := row_al (heap_of b2 _ _ _ hr1) (Obj.cells #[.int .u64 (x : Nat), .int .u64 (y : Nat)] 25)
  have B3 := bel_al B2 (Obj.cells #[.int .u64 (x : Nat), .int .u64 (y : Nat)] 25)
  obtain ⟨cy0, cy1⟩ := cells2s (last7 w2 (Obj.cells #[.int .u64 (x : Nat), .int .u64 (y : Nat)] 25))
  have c0 := rh_f0 hr2 n hn
  have c1 := rh_f1 hr2 n hn
  have q0 := fz (k := 33 + n * 2) hr2
  have q1 := fz (k := 33 + n * 2 + 1) hr2
  have hF := rh_setF hr2 n x y hn
  have hO := only_set (k := 33 + n * 2 + 1) (v := .int .u64 (y : Nat)) (only_set (k := 33 + n * 2) (v := .int .u64 (x : Nat)) (Only.ofBelow (g := b) B3 (Nat.le_refl _)))
  go_wp2
  go_ret
  exact ⟨rfl, hF, hO⟩
set_option maxRecDepth 100000 in
set_option maxHeartbeats 4000000 in
theorem g_read_e (p by' : Value) (f n e : Int) (w : World) (he : e = 1 ∨ e = 2) (K : Box (∀ W, Below w.heap.size w W → Calls Tryd.prog 21 #[p, .int .i64 n] W fun r w' => r = .returned (.tuple #[.agg #[.int .u64 0, .int .u64 0], .int .i64 e]) ∧ Below W.heap.size W w')) : Calls Tryd.prog 47 #[p, by', .int .u8 f, .int .i64 n] w fun r w' => r = .returned (.tuple #[.agg #[.int .u64 0, .int .u64 0], .int .i64 e]) ∧ Below w.heap.size w w' := by
  have hne : (e != 0) = true := by rcases he with rfl | rfl <;> rfl
  have hwe : IntKind.i64.wrap e = e := by rcases he with rfl | rfl <;> rfl
  clear he
  obtain ⟨Rz_0, B0⟩ := opn1 w (Obj.cells #[.int .u64 0, .int .u64 0] 25)
  go_enter Tryd.func47, Tryd.ntmps47
  obtain ⟨cz_0_0, cz_0_1⟩ := cells2s Rz_0
  go_wp2_with fail
  refine (K.out _ B0).mono ?_
  rintro r w1 ⟨rfl, b1⟩
  have B1 : Below w.heap.size w w1 := btr B0 b1
  have Rz_1 := heap_of b1 _ _ _ Rz_0
  clear b1 B0 Rz_0 cz_0_0 cz_0_1
  obtain ⟨cz_1_0, cz_1_1⟩ := cells2s Rz_1
  have S2 := box B1.size
  have Lz_2 : Box (w.heap.size < w1.heap.size) := box (Array.getElem?_eq_some_iff.1 Rz_1).1
  have Ry_2 := heap_alloc_last w1 (Obj.cells #[.int .u64 0, .int .u64 0] 25)
  have B2 := btr B1 (bal w1 (Obj.cells #[.int .u64 0, .int .u64 0] 25))
  have Rz_2 := heap_of (bal w1 (Obj.cells #[.int .u64 0, .int .u64 0] 25)) _ _ _ Rz_1
  clear B1 Rz_1 cz_1_0 cz_1_1
  obtain ⟨cz_2_0, cz_2_1⟩ := cells2s Rz_2
  obtain ⟨cy_2_0, cy_2_1⟩ := cells2s Ry_2
  have q0 := fz (k := 0) Rz_2
  have q1 := fz (k := 1) Rz_2
  obtain ⟨E0, E1⟩ := set2_cells Rz_2 (.int .u64 0) (.int .u64 0)
  go_wp2
  exact bodyPost_ret (v := .tuple #[.agg #[.int .u64 0, .int .u64 0], .int .i64 e]) (by simp [results, Tryd.results47, go_sem, E0, E1]) rfl ⟨rfl, set2_below B2 (by first | exact Nat.le_refl _ | omega | (have := S2.out; have := Lz_2.out; omega)) _ _⟩
set_option maxRecDepth 100000 in
set_option maxHeartbeats 4000000 in
theorem g_read_Get (p : Value) (f n e : Int) (u v x y : Nat) (hwe : IntKind.i64.wrap e = e) (w : World) (hT : FAt w) (K : Box (∀ W, Below w.heap.size w W → Calls Tryd.prog 21 #[p, .int .i64 n] W fun r w' => r = .returned (.tuple #[.agg #[.int .u64 (u : Nat), .int .u64 (v : Nat)], .int .i64 0]) ∧ Below W.heap.size W w')) (KU : Box (∀ w, FAt w → Calls Tryd.prog 48 #[.int .u8 f, .agg #[.int .u64 (u : Nat), .int .u64 (v : Nat)]] w fun r w' => r = .returned (.tuple #[.agg #[.int .u64 (x : Nat), .int .u64 (y : Nat)], .int .i64 e]) ∧ Below w.heap.size w w')) : Calls Tryd.prog 47 #[p, .func (.func 48) #[] #[], .int .u8 f, .int .i64 n] w fun r w' => r = .returned (.tuple #[.agg #[.int .u64 (x : Nat), .int .u64 (y : Nat)], .int .i64 e]) ∧ Below w.heap.size w w' := by
  have FF := box hT
  clear hT
  obtain ⟨Rz_0, B0⟩ := opn1 w (Obj.cells #[.int .u64 0, .int .u64 0] 25)
  go_enter Tryd.func47, Tryd.ntmps47
  obtain ⟨cz_0_0, cz_0_1⟩ := cells2s Rz_0
  go_wp2_with fail
  refine (K.out _ B0).mono ?_
  rintro r w1 ⟨rfl, b1⟩
  have B1 : Below w.heap.size w w1 := btr B0 b1
  have Rz_1 := heap_of b1 _ _ _ Rz_0
  clear b1 B0 Rz_0 cz_0_0 cz_0_1
  obtain ⟨cz_1_0, cz_1_1⟩ := cells2s Rz_1
  have S2 := box B1.size
  have Lz_2 : Box (w.heap.size < w1.heap.size) := box (Array.getElem?_eq_some_iff.1 Rz_1).1
  have Rc_2 := heap_alloc_last w1 (Obj.cells #[.int .u64 (u : Nat), .int .u64 (v : Nat)] 25)
  have B2 := btr B1 (bal w1 (Obj.cells #[.int .u64 (u : Nat), .int .u64 (v : Nat)] 25))
  have Rz_2 := heap_of (bal w1 (Obj.cells #[.int .u64 (u : Nat), .int .u64 (v : Nat)] 25)) _ _ _ Rz_1
  clear B1 Rz_1 cz_1_0 cz_1_1
  obtain ⟨cz_2_0, cz_2_1⟩ := cells2s Rz_2
  obtain ⟨cc_2_0, cc_2_1⟩ := cells2s Rc_2
  obtain ⟨cc_2_0, cc_2_1⟩ := cells2s Rc_2
  go_wp2_with fail
  refine (KU.out _ (fatB FF.out B2)).mono ?_
  rintro r w3 ⟨rfl, b3⟩
  have B3 : Below w.heap.size w w3 := btr B2 b3
  have Rz_3 := heap_of b3 _ _ _ Rz_2
  have Rc_3 := heap_of b3 _ _ _ Rc_2
  clear b3 B2 Rz_2 cz_2_0 cz_2_1 Rc_2 cc_2_0 cc_2_1
  obtain ⟨cz_3_0, cz_3_1⟩ := cells2s Rz_3
  obtain ⟨cc_3_0, cc_3_1⟩ := cells2s Rc_3
  have q0 := fz (k := 0) Rz_3
  have q1 := fz (k := 1) Rz_3
  obtain ⟨E0, E1⟩ := set2_cells Rz_3 (.int .u64 (x : Nat)) (.int .u64 (y : Nat))
  go_wp2
  exact bodyPost_ret (v := .tuple #[.agg #[.int .u64 (x : Nat), .int .u64 (y : Nat)], .int .i64 e]) (by simp [results, Tryd.results47, go_sem, E0, E1]) rfl ⟨rfl, set2_below B3 (by first | exact Nat.le_refl _ | omega | (have := S2.out; have := Lz_2.out; omega)) _ _⟩
set_option maxRecDepth 100000 in
set_option maxHeartbeats 4000000 in
theorem g_Get_r (p : Value) (f n e : Int) (x y : Nat) (hwe : IntKind.i64.wrap e = e) (w : World) (K : Box (∀ W, Below w.heap.size w W → Calls Tryd.prog 47 #[p, .func (.func 48) #[] #[], .int .u8 f, .int .i64 n] W fun r w' => r = .returned (.tuple #[.agg #[.int .u64 (x : Nat), .int .u64 (y : Nat)], .int .i64 e]) ∧ Below W.heap.size W w')) : Calls Tryd.prog 22 #[p, .int .u8 f, .int .i64 n] w fun r w' => r = .returned (.tuple #[.agg #[.int .u64 (x : Nat), .int .u64 (y : Nat)], .int .i64 e]) ∧ Below w.heap.size w w' := by
  obtain ⟨Rz_0, B0⟩ := opn1 w (Obj.cells #[.int .u64 0, .int .u64 0] 25)
  go_enter Tryd.func22, Tryd.ntmps22
  obtain ⟨cz_0_0, cz_0_1⟩ := cells2s Rz_0
  go_wp2_with fail
  refine (K.out _ B0).mono ?_
  rintro r w1 ⟨rfl, b1⟩
  have B1 : Below w.heap.size w w1 := btr B0 b1
  have Rz_1 := heap_of b1 _ _ _ Rz_0
  clear b1 B0 Rz_0 cz_0_0 cz_0_1
  obtain ⟨cz_1_0, cz_1_1⟩ := cells2s Rz_1
  have q0 := fz (k := 0) Rz_1
  have q1 := fz (k := 1) Rz_1
  obtain ⟨E0, E1⟩ := set2_cells Rz_1 (.int .u64 (x : Nat)) (.int .u64 (y : Nat))
  go_wp2
  exact bodyPost_ret (v := .tuple #[.agg #[.int .u64 (x : Nat), .int .u64 (y : Nat)], .int .i64 e]) (by simp [results, Tryd.results22, go_sem, E0, E1]) rfl ⟨rfl, set2_below B1 (by first | exact Nat.le_refl _ | omega | (skip; omega)) _ _⟩
set_option maxRecDepth 100000 in
set_option maxHeartbeats 4000000 in
theorem g_read_Low (p : Value) (f n e : Int) (u v x y : Nat) (hwe : IntKind.i64.wrap e = e) (w : World) (hT : FAt w) (K : Box (∀ W, Below w.heap.size w W → Calls Tryd.prog 21 #[p, .int .i64 n] W fun r w' => r = .returned (.tuple #[.agg #[.int .u64 (u : Nat), .int .u64 (v : Nat)], .int .i64 0]) ∧ Below W.heap.size W w')) (KU : Box (∀ w, FAt w → Calls Tryd.prog 49 #[.int .u8 f, .agg #[.int .u64 (u : Nat), .int .u64 (v : Nat)]] w fun r w' => r = .returned (.tuple #[.agg #[.int .u64 (x : Nat), .int .u64 (y : Nat)], .int .i64 e]) ∧ Below w.heap.size w w')) : Calls Tryd.prog 47 #[p, .func (.func 49) #[] #[], .int .u8 f, .int .i64 n] w fun r w' => r = .returned (.tuple #[.agg #[.int .u64 (x : Nat), .int .u64 (y : Nat)], .int .i64 e]) ∧ Below w.heap.size w w' := by
  have FF := box hT
  clear hT
  obtain ⟨Rz_0, B0⟩ := opn1 w (Obj.cells #[.int .u64 0, .int .u64 0] 25)
  go_enter Tryd.func47, Tryd.ntmps47
  obtain ⟨cz_0_0, cz_0_1⟩ := cells2s Rz_0
  go_wp2_with fail
  refine (K.out _ B0).mono ?_
  rintro r w1 ⟨rfl, b1⟩
  have B1 : Below w.heap.size w w1 := btr B0 b1
  have Rz_1 := heap_of b1 _ _ _ Rz_0
  clear b1 B0 Rz_0 cz_0_0 cz_0_1
  obtain ⟨cz_1_0, cz_1_1⟩ := cells2s Rz_1
  have S2 := box B1.size
  have Lz_2 : Box (w.heap.size < w1.heap.size) := box (Array.getElem?_eq_some_iff.1 Rz_1).1
  have Rc_2 := heap_alloc_last w1 (Obj.cells #[.int .u64 (u : Nat), .int .u64 (v : Nat)] 25)
  have B2 := btr B1 (bal w1 (Obj.cells #[.int .u64 (u : Nat), .int .u64 (v : Nat)] 25))
  have Rz_2 := heap_of (bal w1 (Obj.cells #[.int .u64 (u : Nat), .int .u64 (v : Nat)] 25)) _ _ _ Rz_1
  clear B1 Rz_1 cz_1_0 cz_1_1
  obtain ⟨cz_2_0, cz_2_1⟩ := cells2s Rz_2
  obtain ⟨cc_2_0, cc_2_1⟩ := cells2s Rc_2
  obtain ⟨cc_2_0, cc_2_1⟩ := cells2s Rc_2
  go_wp2_with fail
  refine (KU.out _ (fatB FF.out B2)).mono ?_
  rintro r w3 ⟨rfl, b3⟩
  have B3 : Below w.heap.size w w3 := btr B2 b3
  have Rz_3 := heap_of b3 _ _ _ Rz_2
  have Rc_3 := heap_of b3 _ _ _ Rc_2
  clear b3 B2 Rz_2 cz_2_0 cz_2_1 Rc_2 cc_2_0 cc_2_1
  obtain ⟨cz_3_0, cz_3_1⟩ := cells2s Rz_3
  obtain ⟨cc_3_0, cc_3_1⟩ := cells2s Rc_3
  have q0 := fz (k := 0) Rz_3
  have q1 := fz (k := 1) Rz_3
  obtain ⟨E0, E1⟩ := set2_cells Rz_3 (.int .u64 (x : Nat)) (.int .u64 (y : Nat))
  go_wp2
  exact bodyPost_ret (v := .tuple #[.agg #[.int .u64 (x : Nat), .int .u64 (y : Nat)], .int .i64 e]) (by simp [results, Tryd.results47, go_sem, E0, E1]) rfl ⟨rfl, set2_below B3 (by first | exact Nat.le_refl _ | omega | (have := S2.out; have := Lz_2.out; omega)) _ _⟩
set_option maxRecDepth 100000 in
set_option maxHeartbeats 4000000 in
theorem g_Low_r (p : Value) (f n e : Int) (x y : Nat) (hwe : IntKind.i64.wrap e = e) (w : World) (K : Box (∀ W, Below w.heap.size w W → Calls Tryd.prog 47 #[p, .func (.func 49) #[] #[], .int .u8 f, .int .i64 n] W fun r w' => r = .returned (.tuple #[.agg #[.int .u64 (x : Nat), .int .u64 (y : Nat)], .int .i64 e]) ∧ Below W.heap.size W w')) : Calls Tryd.prog 23 #[p, .int .u8 f, .int .i64 n] w fun r w' => r = .returned (.tuple #[.agg #[.int .u64 (x : Nat), .int .u64 (y : Nat)], .int .i64 e]) ∧ Below w.heap.size w w' := by
  obtain ⟨Rz_0, B0⟩ := opn1 w (Obj.cells #[.int .u64 0, .int .u64 0] 25)
  go_enter Tryd.func23, Tryd.ntmps23
  obtain ⟨cz_0_0, cz_0_1⟩ := cells2s Rz_0
  go_wp2_with fail
  refine (K.out _ B0).mono ?_
  rintro r w1 ⟨rfl, b1⟩
  have B1 : Below w.heap.size w w1 := btr B0 b1
  have Rz_1 := heap_of b1 _ _ _ Rz_0
  clear b1 B0 Rz_0 cz_0_0 cz_0_1
  obtain ⟨cz_1_0, cz_1_1⟩ := cells2s Rz_1
  have q0 := fz (k := 0) Rz_1
  have q1 := fz (k := 1) Rz_1
  obtain ⟨E0, E1⟩ := set2_cells Rz_1 (.int .u64 (x : Nat)) (.int .u64 (y : Nat))
  go_wp2
  exact bodyPost_ret (v := .tuple #[.agg #[.int .u64 (x : Nat), .int .u64 (y : Nat)], .int .i64 e]) (by simp [results, Tryd.results23, go_sem, E0, E1]) rfl ⟨rfl, set2_below B1 (by first | exact Nat.le_refl _ | omega | (skip; omega)) _ _⟩
end Go.Proofs.YtjbnifhpbdjonaaDoor
namespace Go.Proofs.YtjbnifhpbdjonaaDoor
set_option maxRecDepth 100000
set_option maxHeartbeats 40000000
set_option maxRecDepth 100000
open Go.RowKit WMath
set_option linter.unusedSimpArgs false
set_option linter.unusedVariables false
set_option maxRecDepth 100000 in
set_option maxHeartbeats 4000000 in
theorem g_From (R : Nat → Nat) (w : World) : Calls Tryd.prog 7 #[.agg (rf R)] w fun r w' => ∃ b, r = .returned (.pointer (some ⟨b, 0, none⟩)) ∧ w.heap.size ≤ b ∧ w'.heap[b]? = some (.cells (rh true (up R 0 0)) 58) ∧ Below w.heap.size w w' := by
  have hrs : ∀ R, ((rf R).size = 96) = True := fun R => eq_true (rf_size R)
  have hra := rf_at
  have hr0 := rf_set0 R 0 (by decide)
  have hgz := rh_zero
  obtain ⟨Rx_0, B0⟩ := opn1 w (Obj.cells (rf R) 28)
  go_enter Tryd.func7, Tryd.ntmps7
  have cx := rf_cell Rx_0 0 (by omega)
  have qx := fz (k := 0) Rx_0
  go_wp2_with (first | ((with_reducible (refine wpl_rf rfl _ rfl ?_ (last7 _ _) ?_)); rfl) | ((with_reducible (refine wp_rf _ rfl ?_ (last7 _ _) ?_)); rfl) | ((with_reducible (refine wpl_rhb (m := true) (R := up R 0 0) rfl _ _ rfl ?_ ?_ ?_)); rfl; rfl) | ((with_reducible (refine wp_rhb (m := true) (R := up R 0 0) _ _ rfl ?_ ?_ ?_)); rfl; rfl))
  go_ret
  exact ⟨w.heap.size + 1, by simp [size_al], by omega, row_last (by simp only [size_al]), bel_al (bal7 _ _) _⟩
set_option maxRecDepth 100000 in
set_option maxHeartbeats 4000000 in
theorem g_Copy (R : Nat → Nat) (b : Nat) (w : World) (hr : w.heap[b]? = some (.cells (rh true R) 58)) : Calls Tryd.prog 10 #[.pointer (some ⟨b, 0, none⟩)] w fun r w' => ∃ b', r = .returned (.pointer (some ⟨b', 0, none⟩)) ∧ w.heap.size ≤ b' ∧ w'.heap[b']? = some (.cells (rh true R) 58) ∧ Below w.heap.size w w' := by
  have hgz := rh_zero
  have hgs : ∀ o R, ((rh o R).size = 97) = True := fun o R => eq_true (rh_size o R)
  have hst := rh_stn
  have K := g_there true R b w hr
  go_enter Tryd.func10, Tryd.ntmps10
  go_wp2_with (first | (go_at_call 29; refine K.mono ?_; rintro r w' ⟨rfl, rfl⟩) | ((with_reducible (refine wpl_rh rfl _ rfl ?_ hr ?_)); rfl) | ((with_reducible (refine wp_rh _ rfl ?_ hr ?_)); rfl))
  go_ret
  exact ⟨_, rfl, Nat.le_refl _, last7 _ _, bal7 _ _⟩
set_option maxRecDepth 100000 in
set_option maxHeartbeats 4000000 in
theorem g_New (K : Box (∀ w, Calls Tryd.prog 7 #[.agg (rf fun _ => 0)] w fun r w' => ∃ b, r = .returned (.pointer (some ⟨b, 0, none⟩)) ∧ w.heap.size ≤ b ∧ w'.heap[b]? = some (.cells (rh true (up (fun _ => 0) 0 0)) 58) ∧ Below w.heap.size w w')) (w : World) : Calls Tryd.prog 24 #[] w fun r w' => ∃ b, r = .returned (.pointer (some ⟨b, 0, none⟩)) ∧ w.heap.size ≤ b ∧ w'.heap[b]? = some (.cells (rh true (up (fun _ => 0) 0 0)) 58) ∧ Below w.heap.size w w' := by
  have hrz := rf_zero
  go_enter Tryd.func24, Tryd.ntmps24
  go_wp2_with fail
  refine (K.out _).mono ?_
  rintro r w' ⟨b, rfl, gb, r1, B1⟩
  go_wp2
  go_ret
  exact ⟨b, rfl, gb, r1, B1⟩
set_option maxRecDepth 100000 in
set_option maxHeartbeats 4000000 in
theorem g_Tell (R : Nat → Nat) (b : Nat) (w : World) (hr : w.heap[b]? = some (.cells (rh true R) 58)) : Calls Tryd.prog 12 #[.pointer (some ⟨b, 0, none⟩)] w fun r w' => r = .returned (.agg (rf R)) ∧ Below w.heap.size w w' := by
  have hrz := rf_zero
  have hrs : ∀ R, ((rf R).size = 96) = True := fun R => eq_true (rf_size R)
  have hst := rf_stn w
  obtain ⟨Rz_0, B0⟩ := opn1 w (Obj.cells (rf fun _ => 0) 28)
  go_enter Tryd.func12, Tryd.ntmps12
  have hr1 := row_al hr (Obj.cells (rf fun _ => 0) 28)
  go_wp2_with (first | (go_at_call 29; refine (g_there true R b _ hr1).mono ?_; rintro r w' ⟨rfl, rfl⟩) | ((with_reducible (refine wpl_rhf rfl _ rfl ?_ hr1 ?_)); rfl) | ((with_reducible (refine wp_rhf _ rfl ?_ hr1 ?_)); rfl))
  exact bodyPost_ret (v := .agg (rf R)) (res_rf1 Tryd.results12 (T := 28) rfl (last7 _ _)) rfl ⟨rfl, bal7 _ _⟩
set_option maxRecDepth 100000 in
set_option maxHeartbeats 4000000 in
theorem g_Same (R S : Nat → Nat) (b c : Nat) (w : World) (hR : ∀ k, R k < 18446744073709551616) (hS : ∀ k, S k < 18446744073709551616) (hb : w.heap[b]? = some (.cells (rh true R) 58)) (hc : w.heap[c]? = some (.cells (rh true S) 58)) : Calls Tryd.prog 13 #[.pointer (some ⟨b, 0, none⟩), .pointer (some ⟨c, 0, none⟩)] w fun r w' => r = .returned (.bool (rfE R S)) ∧ Below w.heap.size w w' := by
  have q0 := eqrf R S hR hS
  obtain ⟨eo, heo⟩ : ∃ eo, rfE R S = eo := ⟨_, rfl⟩
  rw [heo] at q0
  rw [heo]
  clear heo hR hS
  have hu := Tryd.underlying28
  have hi : ∀ R, (Tryd.prog.info? 28).map (·.size) = some (rf R).toList.length := fun R => by rw [Array.length_toList, rf_size]; kernel_rfl
  obtain ⟨F, hF1, hF2⟩ := below_fun w
  have fx0 := box (fun u => rh_range (heap_of (hF1 u) _ _ _ hb))
  have fx1 := box (fun u => rh_range (heap_of (hF1 u) _ _ _ hc))
  have K0 := box (fun u => g_there true R b (F u) (heap_of (hF1 u) _ _ _ hb))
  have K1 := box (fun u => g_there true S c (F u) (heap_of (hF1 u) _ _ _ hc))
  clear hb hc
  go_enter Tryd.func13, Tryd.ntmps13
  go_wp2_with fail
  refine wp_region_below F hF2 (by kernel_rfl) (by kernel_rfl) ?_
  repeat first | (go_big_quiet_want; (first | refine quiet_ld _ _ rfl _ _ rfl (rf R).toList _ fx0.out hu rfl (hi R) ?_ | refine quiet_ld _ _ rfl _ _ rfl (rf S).toList _ fx1.out hu rfl (hi S) ?_); simp only [Array.toArray_toList, Act.put, List.setIfInBounds_toArray, List.set_cons_zero, List.set_cons_succ]; go_big_quiet_on) | go_big_quiet_step (first | (go_at_call_of 29 (Value.pointer (some ⟨b, 0, none⟩)); exact quietF0 (K0.out _)) | (go_at_call_of 29 (Value.pointer (some ⟨c, 0, none⟩)); exact quietF0 (K1.out _)) | fail)
  refine wpQuiet_nil ?_
  rintro _ ⟨uW, rfl⟩
  have bW := hF1 uW
  go_wp2
  go_ret
  exact ⟨rfl, bW⟩
end Go.Proofs.YtjbnifhpbdjonaaDoor
namespace Go.Proofs.YtjbnifhpbdjonaaDoor
set_option maxRecDepth 100000
set_option maxHeartbeats 40000000
set_option maxRecDepth 100000
open Go.RowKit WMath
set_option linter.unusedSimpArgs false
set_option linter.unusedVariables false
def xa (S : Nat → Nat) : Array Value := ((List.range 32).map fun k => Value.int .u64 (S k : Nat)).toArray
def fa (S : Nat → Nat) : Array Value := ((List.range 64).map fun k => Value.int .u64 (S (32 + k) : Nat)).toArray
theorem xa_at (S : Nat → Nat) (k : Nat) (h : k < 32) : (xa S)[k]? = some (.int .u64 (S k : Nat)) := by simp [xa, h]
theorem fa_at (S : Nat → Nat) (k : Nat) (h : k < 64) : (fa S)[k]? = some (.int .u64 (S (32 + k) : Nat)) := by simp [fa, h]
theorem xa_size (S : Nat → Nat) : (xa S).size = 32 := by simp [xa]
theorem fa_size (S : Nat → Nat) : (fa S).size = 64 := by simp [fa]
theorem rh_rx {w : World} {b : Nat} {o : Bool} {R : Nat → Nat} {T : TypeId} (h : w.heap[b]? = some (.cells (rh o R) T)) : w.rangeAt b 1 (xa R).toList := fun j v hv => by
  have hj : j < 32 := by have := (List.getElem?_eq_some_iff.1 hv).1; rw [Array.length_toList, xa_size] at this; exact this
  rw [Array.getElem?_toList, xa_at R j hj] at hv
  exact cell7 h (1 + j) v ((rh_at o R j (by omega)).trans hv)
theorem rh_rf {w : World} {b : Nat} {o : Bool} {R : Nat → Nat} {T : TypeId} (h : w.heap[b]? = some (.cells (rh o R) T)) : w.rangeAt b 33 (fa R).toList := fun j v hv => by
  have hj : j < 64 := by have := (List.getElem?_eq_some_iff.1 hv).1; rw [Array.length_toList, fa_size] at this; exact this
  rw [Array.getElem?_toList, fa_at R j hj] at hv
  have := cell7 h (1 + (32 + j)) v ((rh_at o R (32 + j) (by omega)).trans hv)
  rw [show 1 + (32 + j) = 33 + j by omega] at this
  exact this
theorem wp_rx {w : World} {o : Oper} {a : Act} {K : Act → World → Prop} {Q : Exit → Act → World → Prop} (x : Operand) (hop : o.op = Op.load 23 x) {b : Nat} {m : Bool} {R : Nat → Nat} {T : TypeId} (hx : a.eval x = .pointer (some ⟨b, 1, none⟩)) (hr : w.heap[b]? = some (.cells (rh m R) T)) (hK : K (a.put o.dst (.agg (xa R))) w) : o.wp Tryd.prog a w K Q := by
  refine wp_load_mid 23 x hop b 1 hx (xa R).toList _ (rh_rx hr) Tryd.underlying23 rfl (by rw [Array.length_toList, xa_size]; kernel_rfl) ?_
  simpa using hK
theorem wpl_rx {w : World} {ops : Array Oper} {rest : List Oper} {o : Oper} {a : Act} {Q : Exit → Act → World → Prop} (hg : o.guard = none) (x : Operand) (hop : o.op = Op.load 23 x) {b : Nat} {m : Bool} {R : Nat → Nat} {T : TypeId} (hx : a.eval x = .pointer (some ⟨b, 1, none⟩)) (hr : w.heap[b]? = some (.cells (rh m R) T)) (hK : wpList Tryd.prog ops Q rest (a.put o.dst (.agg (xa R))) w) : wpList Tryd.prog ops Q (o :: rest) a w :=
  wpList_plain hg fun K hK' => wp_rx x hop hx hr (hK' _ _ hK)
theorem wp_rfl {w : World} {o : Oper} {a : Act} {K : Act → World → Prop} {Q : Exit → Act → World → Prop} (x : Operand) (hop : o.op = Op.load 26 x) {b : Nat} {m : Bool} {R : Nat → Nat} {T : TypeId} (hx : a.eval x = .pointer (some ⟨b, 33, none⟩)) (hr : w.heap[b]? = some (.cells (rh m R) T)) (hK : K (a.put o.dst (.agg (fa R))) w) : o.wp Tryd.prog a w K Q := by
  refine wp_load_mid 26 x hop b 33 hx (fa R).toList _ (rh_rf hr) Tryd.underlying26 rfl (by rw [Array.length_toList, fa_size]; kernel_rfl) ?_
  simpa using hK
theorem wpl_rfl {w : World} {ops : Array Oper} {rest : List Oper} {o : Oper} {a : Act} {Q : Exit → Act → World → Prop} (hg : o.guard = none) (x : Operand) (hop : o.op = Op.load 26 x) {b : Nat} {m : Bool} {R : Nat → Nat} {T : TypeId} (hx : a.eval x = .pointer (some ⟨b, 33, none⟩)) (hr : w.heap[b]? = some (.cells (rh m R) T)) (hK : wpList Tryd.prog ops Q rest (a.put o.dst (.agg (fa R))) w) : wpList Tryd.prog ops Q (o :: rest) a w :=
  wpList_plain hg fun K hK' => wp_rfl x hop hx hr (hK' _ _ hK)
theorem ixX (S : Nat → Nat) (k : Nat) (h : k < 32) (w : World) : (Instr.index 23 (.agg (xa S)) (.int .i64 (k : Nat))).run Tryd.prog w = .ok (.int .u64 (S k : Nat)) w := by
  have h2 : (0 : Int) ≤ k ∧ (k : Int) < (32 : Nat) := by omega
  have e := xa_at S k h
  simp [Instr.index, run_underlying Tryd.underlying23, asIntOf, h2, part, e, go_sem]
  exact fun h' => absurd h (by omega)
theorem fa_two (S : Nat → Nat) (k : Nat) (h : k < 32) : (fa S).extract (k * 2) (k * 2 + 2) = #[.int .u64 (S (32 + k * 2) : Nat), .int .u64 (S (32 + k * 2 + 1) : Nat)] := by
  apply Array.ext_getElem?
  intro i
  rw [Array.getElem?_extract]
  match i with
  | 0 =>
    rw [if_pos (by rw [fa_size]; omega), fa_at S _ (by omega)]
    rfl
  | 1 =>
    rw [if_pos (by rw [fa_size]; omega), fa_at S _ (by omega)]
    rfl
  | i + 2 =>
    rw [if_neg (by rw [fa_size]; omega)]
    rfl
theorem ixF (S : Nat → Nat) (k : Nat) (h : k < 32) (w : World) : (Instr.index 26 (.agg (fa S)) (.int .i64 (k : Nat))).run Tryd.prog w = .ok (.agg #[.int .u64 (S (32 + k * 2) : Nat), .int .u64 (S (32 + k * 2 + 1) : Nat)]) w := by
  have h2 : (0 : Int) ≤ k ∧ (k : Int) < (32 : Nat) := by omega
  have e := fa_two S k h
  simp [Instr.index, run_underlying Tryd.underlying26, asIntOf, h2, part, e, go_sem]
  exact fun h' => absurd h (by omega)
set_option maxRecDepth 100000 in
set_option maxHeartbeats 4000000 in
theorem g_Changed (R S : Nat → Nat) (b c : Nat) (w : World) (hb : w.heap[b]? = some (.cells (rh true R) 58)) (hc : w.heap[c]? = some (.cells (rh true S) 58)) : Calls Tryd.prog 14 #[.pointer (some ⟨b, 0, none⟩), .pointer (some ⟨c, 0, none⟩)] w fun r w' => ∃ v, r = .returned (.tuple #[v, .int .i64 0]) ∧ w'.ownsRow w.heap.size 50 5 v (chgs R S).length (chsC (chgs R S)) ∧ Below w.heap.size w w' := by
  obtain ⟨i0, hi, hz0, hz1, hz2⟩ := info_parts (show (Tryd.prog.info? 50).map (fun i => (i.zero, i.size, i.bytes)) = some (some (.agg #[.bool false, .int .i64 0, .int .u64 0, .int .u64 0, .int .u64 0]), 5, 40) by kernel_rfl)
  have lb := (Array.getElem?_eq_some_iff.1 hb).1
  have lc := (Array.getElem?_eq_some_iff.1 hc).1
  have K0 := g_there true R b w hb
  have K1 := g_there true S c w hc
  go_enter Tryd.func14, Tryd.ntmps14
  go_wp2_with (first | (go_at_call 29; first | (with_reducible refine K0.mono ?_; rintro r w' ⟨rfl, hww⟩; rw [hww]; clear hww) | (with_reducible refine K1.mono ?_; rintro r w' ⟨rfl, hww⟩; rw [hww]; clear hww)) | ((with_reducible (refine wpl_rx rfl _ rfl ?_ hc ?_)); rfl) | ((with_reducible (refine wp_rx _ rfl ?_ hc ?_)); rfl))
  clear K0 K1
  go_loopw [6, 24] (fun v i wr => ∃ (k : Nat) (ao : Option Addr) (cv : Nat), k ≤ 32 ∧ i = .int .i64 (k : Int) ∧ v = .slice ao (cxK R S k).length cv ∧ wr.ownsRow w.heap.size 50 5 v (cxK R S k).length (chsC (cxK R S k)) ∧ Below w.heap.size w wr ∧ wr.heap[b]? = some (.cells (rh true R) 58) ∧ wr.heap[c]? = some (.cells (rh true S) 58))
    (fun _ i _ => 32 - (intOf i).toNat)
  case atStart => exact ⟨0, none, 0, Nat.zero_le _, rfl, rfl, World.ownsRow_nil _ _ _ _, Below.refl _ _, hb, hc⟩
  case round =>
    obtain ⟨k, ao, cv, hk, rfl, rfl, ho1, B1, hR1, hS1⟩ := hrel
    obtain ⟨w1, rfl⟩ : ∃ w1, w1 = wr := ⟨_, rfl⟩
    by_cases hlt : k < 32
    · have dl : decide ((k : Int) < 32) = true := decide_eq_true (by omega)
      have hw1 : IntKind.i64.wrap ((k : Int) + 1) = ((k + 1 : Nat) : Int) := by rw [IntKind.wrap_i64]; omega
      have hpl := cxK_len R S k
      have c1 := rh_cell hR1 k (by omega)
      have hix := ixX S k hlt
      by_cases q : R k = S k
      · have d : (((S k : Nat) : Int) != ((R k : Nat) : Int)) = false := by rw [q]; simp
        have hpk : cxK R S (k + 1) = cxK R S k := by show cxK R S k ++ _ = _; rw [if_pos q, List.append_nil]
        clear q
        go_wp2
        go_roundw
        case rel => exact ⟨k + 1, ao, cv, by omega, by first | rfl | simp, by rw [hpk], by rw [hpk]; exact ho1, B1, hR1, hS1⟩
        case measure => simp [intOf]; omega
      · have d : (((S k : Nat) : Int) != ((R k : Nat) : Int)) = true := by simp; omega
        have hpk : cxK R S (k + 1) = cxK R S k ++ [⟨false, (k : Int), S k, 0, 0⟩] := by show cxK R S k ++ _ = _; rw [if_neg q]
        clear q
        have hs1 := B1.size
        go_wp2_with (first
          | (at_builtin; refine wpList_append_own _ rfl _ _ 37 rfl w.heap.size 50 i0 (.agg #[.bool false, .int .i64 0, .int .u64 0, .int .u64 0, .int .u64 0]) 5 40 Tryd.underlying37 hi hz0 hz1 hz2 rfl (by decide) _ _ _ rfl (ho1.alloc _) ⟨w1.heap.size, 0, none⟩ 1 1 (chC ⟨false, (k : Int), S k, 0, 0⟩) rfl rfl (new_cells _ (chC ⟨false, (k : Int), S k, 0, 0⟩) _) (fun x hx => by simp [chC] at hx; rcases hx with rfl | rfl | rfl | rfl | rfl <;> rfl) (by unfold maxLen; omega) (by omega) (by simp only [size_al]; omega) ?_; intro v' w3 hown' hgrow3 hnil3))
        go_roundw
        case rel =>
          obtain ⟨g3, cap3, hv3⟩ : ∃ g3 cap3, v' = .slice (some ⟨g3, 0, none⟩) ((cxK R S k).length + 1) cap3 := by
            rcases hown'.2 with ⟨_, h⟩ | ⟨g3, cap3, _, h, _⟩
            · omega
            · exact ⟨g3, cap3, h⟩
          have row : ∀ (b : Nat) (c : Array Value) (T : TypeId), b < w.heap.size → w1.heap[b]? = some (.cells c T) → w3.heap[b]? = some (.cells c T) := by
            intro b c T hb hc
            have l1 := (Array.getElem?_eq_some_iff.1 hc).1
            rw [hgrow3.block b (by simp only [size_al]; omega) (fun z => by have := (ho1.lt b z.symm).1; omega)]
            exact heap_of (bal w1 _) _ _ _ hc
          have RR : k + 1 ≤ 32 ∧ Value.int .i64 ((k : Int) + 1) = .int .i64 ((k + 1 : Nat) : Int) ∧ v' = .slice (some ⟨g3, 0, none⟩) (cxK R S (k + 1)).length cap3 ∧ w3.ownsRow w.heap.size 50 5 v' (cxK R S (k + 1)).length (chsC (cxK R S (k + 1))) ∧ Below w.heap.size w w3 ∧ w3.heap[b]? = some (.cells (rh true R) 58) ∧ w3.heap[c]? = some (.cells (rh true S) 58) :=
            ⟨by omega, by first | rfl | simp, by rw [hv3, hpk, len_one], by rw [hpk, chsC_app, len_one, show chsC [⟨false, (k : Int), S k, 0, 0⟩] = chC ⟨false, (k : Int), S k, 0, 0⟩ from by simp [chsC]]; exact hown', (B1.alloc hs1 _).grown hgrow3 (by simp only [size_al]; omega) (fun q hq => by have := (ho1.lt q hq).1; omega), row _ _ _ lb hR1, row _ _ _ lc hS1⟩
          first
            | exact ⟨k + 1, some ⟨g3, 0, none⟩, cap3, RR⟩
            | ((repeat apply Exists.intro); exact ⟨⟨k + 1, some ⟨g3, 0, none⟩, cap3, RR⟩, rfl⟩)
        case measure => simp [intOf]; omega
    · have k32 : k = 32 := by omega
      subst k32
      clear hlt hk
      go_wp2_with (first | ((with_reducible (refine wpl_rfl rfl _ rfl ?_ hS1 ?_)); rfl) | ((with_reducible (refine wp_rfl _ rfl ?_ hS1 ?_)); rfl))
      obtain ⟨wq, rfl⟩ : ∃ wq, wq = w1 := ⟨_, rfl⟩
      have hoq := ho1
      have hBq := B1
      have hRq := hR1
      have hSq := hS1
      clear ho1 B1 hR1 hS1
      go_loopw [6, 49] (fun v i wr => ∃ (k : Nat) (ao : Option Addr) (cv : Nat), k ≤ 32 ∧ i = .int .i64 (k : Int) ∧ v = .slice ao (cxK R S 32 ++ cfK R S k).length cv ∧ wr.ownsRow w.heap.size 50 5 v (cxK R S 32 ++ cfK R S k).length (chsC (cxK R S 32 ++ cfK R S k)) ∧ Below w.heap.size w wr ∧ wr.heap[b]? = some (.cells (rh true R) 58) ∧ wr.heap[c]? = some (.cells (rh true S) 58))
        (fun _ i _ => 32 - (intOf i).toNat)
      case atStart => exact ⟨0, ao, cv, Nat.zero_le _, rfl, by simp [cfK], by simpa [cfK] using hoq, hBq, hRq, hSq⟩
      case round =>
        clear hoq hBq hRq hSq
        obtain ⟨k, ao, cv, hk, rfl, rfl, hown, hB, hR, hS⟩ := hrel
        by_cases hlt : k < 32
        · have dl : decide ((k : Int) < 32) = true := decide_eq_true (by omega)
          have hw1 : IntKind.i64.wrap ((k : Int) + 1) = ((k + 1 : Nat) : Int) := by rw [IntKind.wrap_i64]; omega
          have hpl := cfK_len R S k
          have hpl2 := cxK_len R S 32
          have hpl3 : (cxK R S 32 ++ cfK R S k).length ≤ 64 := by rw [List.length_append]; omega
          have heq := eqb
          have hix := ixF S k hlt
          have hRa := row_al hR (Obj.cells #[.int .u64 (S (32 + k * 2) : Nat), .int .u64 (S (32 + k * 2 + 1) : Nat)] 25)
          have hSa := row_al hS (Obj.cells #[.int .u64 (S (32 + k * 2) : Nat), .int .u64 (S (32 + k * 2 + 1) : Nat)] 25)
          have hVa := last7 wr (Obj.cells #[.int .u64 (S (32 + k * 2) : Nat), .int .u64 (S (32 + k * 2 + 1) : Nat)] 25)
          have hBa := bel_al hB (Obj.cells #[.int .u64 (S (32 + k * 2) : Nat), .int .u64 (S (32 + k * 2 + 1) : Nat)] 25)
          have hOa := hown.alloc (Obj.cells #[.int .u64 (S (32 + k * 2) : Nat), .int .u64 (S (32 + k * 2 + 1) : Nat)] 25)
          obtain ⟨v0, v1⟩ := cells2s hVa
          have c1 := rh_f0 hRa k hlt
          have c2 := rh_f1 hRa k hlt
          by_cases q : R (32 + k * 2) = S (32 + k * 2) ∧ R (32 + k * 2 + 1) = S (32 + k * 2 + 1)
          · have d : ebb ((S (32 + k * 2) : Nat) : Int) ((S (32 + k * 2 + 1) : Nat) : Int) ((R (32 + k * 2) : Nat) : Int) ((R (32 + k * 2 + 1) : Nat) : Int) = true := by rw [q.1, q.2]; simp [ebb]
            have hpk : cxK R S 32 ++ cfK R S (k + 1) = cxK R S 32 ++ cfK R S k := by show cxK R S 32 ++ (cfK R S k ++ _) = _; rw [if_pos q, List.append_nil]
            clear q
            go_wp2_with fail
            go_quiet (fail)
            obtain ⟨w1, hw, B1, hh⟩ := quiet_world hBa nq
            rw [hw]
            have hR1 : w1.heap[b]? = some (.cells (rh true R) 58) := by rw [hh]; exact hRa
            have hS1 : w1.heap[c]? = some (.cells (rh true S) 58) := by rw [hh]; exact hSa
            have hV1 : w1.heap[wr.heap.size]? = some (.cells #[.int .u64 (S (32 + k * 2) : Nat), .int .u64 (S (32 + k * 2 + 1) : Nat)] 25) := by rw [hh]; exact hVa
            have ho1 : w1.ownsRow w.heap.size 50 5 (.slice ao (cxK R S 32 ++ cfK R S k).length cv) (cxK R S 32 ++ cfK R S k).length (chsC (cxK R S 32 ++ cfK R S k)) := by
              refine ⟨hOa.1, ?_⟩
              rcases hOa.2 with q | ⟨g, cap, cur, h1, h2, h3, h4⟩
              · exact Or.inl q
              · exact Or.inr ⟨g, cap, cur, h1, h2, by rw [hh]; exact h3, h4⟩
            clear hw hh hB hR hS hown hRa hSa hVa hBa hOa v0 v1 c1 c2
            obtain ⟨v0, v1⟩ := cells2s hV1
            clear hV1
            go_wp2
            go_roundw
            case rel => exact ⟨k + 1, ao, cv, by omega, by first | rfl | simp, by rw [hpk], by rw [hpk]; exact ho1, B1, hR1, hS1⟩
            case measure => simp [intOf]; omega
          · have d : ebb ((S (32 + k * 2) : Nat) : Int) ((S (32 + k * 2 + 1) : Nat) : Int) ((R (32 + k * 2) : Nat) : Int) ((R (32 + k * 2 + 1) : Nat) : Int) = false := by simp [ebb]; omega
            have hpk : cxK R S 32 ++ cfK R S (k + 1) = cxK R S 32 ++ cfK R S k ++ [⟨true, (k : Int), 0, S (32 + k * 2), S (32 + k * 2 + 1)⟩] := by show cxK R S 32 ++ (cfK R S k ++ _) = _; rw [if_neg q, List.append_assoc]
            clear q
            go_wp2_with fail
            go_quiet (fail)
            obtain ⟨w1, hw, B1, hh⟩ := quiet_world hBa nq
            rw [hw]
            have hR1 : w1.heap[b]? = some (.cells (rh true R) 58) := by rw [hh]; exact hRa
            have hS1 : w1.heap[c]? = some (.cells (rh true S) 58) := by rw [hh]; exact hSa
            have hV1 : w1.heap[wr.heap.size]? = some (.cells #[.int .u64 (S (32 + k * 2) : Nat), .int .u64 (S (32 + k * 2 + 1) : Nat)] 25) := by rw [hh]; exact hVa
            have ho1 : w1.ownsRow w.heap.size 50 5 (.slice ao (cxK R S 32 ++ cfK R S k).length cv) (cxK R S 32 ++ cfK R S k).length (chsC (cxK R S 32 ++ cfK R S k)) := by
              refine ⟨hOa.1, ?_⟩
              rcases hOa.2 with q | ⟨g, cap, cur, h1, h2, h3, h4⟩
              · exact Or.inl q
              · exact Or.inr ⟨g, cap, cur, h1, h2, by rw [hh]; exact h3, h4⟩
            clear hw hh hB hR hS hown hRa hSa hVa hBa hOa v0 v1 c1 c2
            obtain ⟨v0, v1⟩ := cells2s hV1
            clear hV1
            have hs1 := B1.size
            go_wp2_with (first
              | (at_builtin; refine wpList_append_own _ rfl _ _ 37 rfl w.heap.size 50 i0 (.agg #[.bool false, .int .i64 0, .int .u64 0, .int .u64 0, .int .u64 0]) 5 40 Tryd.underlying37 hi hz0 hz1 hz2 rfl (by decide) _ _ _ rfl (ho1.alloc _) ⟨w1.heap.size, 0, none⟩ 1 1 (chC ⟨true, (k : Int), 0, S (32 + k * 2), S (32 + k * 2 + 1)⟩) rfl rfl (new_cells _ (chC ⟨true, (k : Int), 0, S (32 + k * 2), S (32 + k * 2 + 1)⟩) _) (fun x hx => by simp [chC] at hx; rcases hx with rfl | rfl | rfl | rfl | rfl <;> rfl) (by unfold maxLen; omega) (by omega) (by simp only [size_al]; omega) ?_; intro v' w3 hown' hgrow3 hnil3))
            go_roundw
            case rel =>
              obtain ⟨g3, cap3, hv3⟩ : ∃ g3 cap3, v' = .slice (some ⟨g3, 0, none⟩) ((cxK R S 32 ++ cfK R S k).length + 1) cap3 := by
                rcases hown'.2 with ⟨_, h⟩ | ⟨g3, cap3, _, h, _⟩
                · omega
                · exact ⟨g3, cap3, h⟩
              have row : ∀ (b : Nat) (c : Array Value) (T : TypeId), b < w.heap.size → w1.heap[b]? = some (.cells c T) → w3.heap[b]? = some (.cells c T) := by
                intro b c T hb hc
                have l1 := (Array.getElem?_eq_some_iff.1 hc).1
                rw [hgrow3.block b (by simp only [size_al]; omega) (fun z => by have := (ho1.lt b z.symm).1; omega)]
                exact heap_of (bal w1 _) _ _ _ hc
              have RR : k + 1 ≤ 32 ∧ Value.int .i64 ((k : Int) + 1) = .int .i64 ((k + 1 : Nat) : Int) ∧ v' = .slice (some ⟨g3, 0, none⟩) (cxK R S 32 ++ cfK R S (k + 1)).length cap3 ∧ w3.ownsRow w.heap.size 50 5 v' (cxK R S 32 ++ cfK R S (k + 1)).length (chsC (cxK R S 32 ++ cfK R S (k + 1))) ∧ Below w.heap.size w w3 ∧ w3.heap[b]? = some (.cells (rh true R) 58) ∧ w3.heap[c]? = some (.cells (rh true S) 58) :=
                ⟨by omega, by first | rfl | simp, by rw [hv3, hpk, len_one], by rw [hpk, chsC_app, len_one, show chsC [⟨true, (k : Int), 0, S (32 + k * 2), S (32 + k * 2 + 1)⟩] = chC ⟨true, (k : Int), 0, S (32 + k * 2), S (32 + k * 2 + 1)⟩ from by simp [chsC]]; exact hown', (B1.alloc hs1 _).grown hgrow3 (by simp only [size_al]; omega) (fun q hq => by have := (ho1.lt q hq).1; omega), row _ _ _ lb hR1, row _ _ _ lc hS1⟩
              first
                | exact ⟨k + 1, some ⟨g3, 0, none⟩, cap3, RR⟩
                | ((repeat apply Exists.intro); exact ⟨⟨k + 1, some ⟨g3, 0, none⟩, cap3, RR⟩, rfl⟩)
            case measure => simp [intOf]; omega
        · have k32 : k = 32 := by omega
          subst k32
          go_wp2
          go_ret2
          exact ⟨_, rfl, hown, hB⟩
theorem kX (R : Nat → Nat) (b : Nat) (n : Int) (w : World) (hr : w.heap[b]? = some (.cells (rh true R) 58)) : Calls Tryd.prog 20 #[.pointer (some ⟨b, 0, none⟩), .int .i64 n] w fun r w' => r = .returned (.tuple #[.int .u64 ((xV R n).1 : Nat), .int .i64 (xV R n).2]) ∧ Below w.heap.size w w' := by
  unfold xV
  cases q : inR n
  · exact bel_st (g_X_e _ n 2 w (Or.inr rfl) (g_wA2 R b n q w hr))
  · obtain ⟨k, hk, rfl, e⟩ := inR_nat q
    exact bel_st (g_X R b k hk w hr)
theorem rh_below {w W : World} {b : Nat} {o : Bool} {R : Nat → Nat} (hr : w.heap[b]? = some (.cells (rh o R) 58)) (h : Below w.heap.size w W) : W.heap[b]? = some (.cells (rh o R) 58) := heap_of h _ _ _ hr
theorem kF (R : Nat → Nat) (b : Nat) (n : Int) (w : World) (hr : w.heap[b]? = some (.cells (rh true R) 58)) : Calls Tryd.prog 21 #[.pointer (some ⟨b, 0, none⟩), .int .i64 n] w fun r w' => r = .returned (.tuple #[.agg #[.int .u64 ((fV R n).1 : Nat), .int .u64 ((fV R n).2.1 : Nat)], .int .i64 (fV R n).2.2]) ∧ Below w.heap.size w w' := by
  unfold fV
  cases q : inR n
  · exact g_F_e _ n 2 w (Or.inr rfl) (box (fun W h => g_fA2 R b n q W (rh_below hr h)))
  · obtain ⟨k, hk, rfl, e⟩ := inR_nat q
    exact g_F R b k hk w hr
theorem kGet (R : Nat → Nat) (b : Nat) (f n : Int) (w : World) (hR : ∀ k, R k < 18446744073709551616) (h0 : 0 ≤ f) (h1 : f ≤ 255) (hT : FAt w) (hr : w.heap[b]? = some (.cells (rh true R) 58)) : Calls Tryd.prog 22 #[.pointer (some ⟨b, 0, none⟩), .int .u8 f, .int .i64 n] w fun r w' => r = .returned (.tuple #[.agg #[.int .u64 ((gtV R f n).1 : Nat), .int .u64 ((gtV R f n).2.1 : Nat)], .int .i64 (gtV R f n).2.2]) ∧ Below w.heap.size w w' := by
  have KF := fun W (h : Below w.heap.size w W) => kF R b n W (rh_below hr h)
  unfold fV at KF
  unfold gtV
  cases q : inR n
  · rw [q] at KF
    exact g_Get_r _ f n 2 0 0 rfl w (box (fun W h => g_read_e _ _ f n 2 W (Or.inr rfl) (box (fun V g => KF V (btr h g)))))
  · rw [q] at KF
    obtain ⟨k, hk, rfl, e⟩ := inR_nat q
    by_cases c : f ≤ 3
    · rw [decide_eq_true c]
      exact g_Get_r _ f k 0 _ _ rfl w (box (fun W h => g_read_Get _ f k 0 _ _ _ _ rfl W (fatB hT h) (box (fun V g => KF V (btr h g))) (kUbx_is f _ _ _ h0 c (hR _) (hR _) rfl _ _ rfl)))
    · rw [decide_eq_false c]
      exact g_Get_r _ f k 2 0 0 rfl w (box (fun W h => g_read_Get _ f k 2 _ _ 0 0 rfl W (fatB hT h) (box (fun V g => KF V (btr h g))) (kUbx_no f _ _ _ (by omega) h1 (hR _) (hR _) rfl)))
theorem kLow (R : Nat → Nat) (b : Nat) (f n : Int) (w : World) (hR : ∀ k, R k < 18446744073709551616) (h0 : 0 ≤ f) (h1 : f ≤ 255) (hT : FAt w) (hr : w.heap[b]? = some (.cells (rh true R) 58)) : Calls Tryd.prog 23 #[.pointer (some ⟨b, 0, none⟩), .int .u8 f, .int .i64 n] w fun r w' => r = .returned (.tuple #[.agg #[.int .u64 ((lwV R f n).1 : Nat), .int .u64 ((lwV R f n).2.1 : Nat)], .int .i64 (lwV R f n).2.2]) ∧ Below w.heap.size w w' := by
  have KF := fun W (h : Below w.heap.size w W) => kF R b n W (rh_below hr h)
  unfold fV at KF
  unfold lwV
  cases q : inR n
  · rw [q] at KF
    exact g_Low_r _ f n 2 0 0 rfl w (box (fun W h => g_read_e _ _ f n 2 W (Or.inr rfl) (box (fun V g => KF V (btr h g)))))
  · rw [q] at KF
    obtain ⟨k, hk, rfl, e⟩ := inR_nat q
    by_cases c : f ≤ 3
    · rw [decide_eq_true c]
      exact g_Low_r _ f k 0 _ _ rfl w (box (fun W h => g_read_Low _ f k 0 _ _ _ _ rfl W (fatB hT h) (box (fun V g => KF V (btr h g))) (kLow_is f _ _ _ h0 c (hR _) (hR _) rfl _ _ rfl)))
    · rw [decide_eq_false c]
      exact g_Low_r _ f k 2 0 0 rfl w (box (fun W h => g_read_Low _ f k 2 _ _ 0 0 rfl W (fatB hT h) (box (fun V g => KF V (btr h g))) (kLow_no f _ _ _ (by omega) h1 (hR _) (hR _) rfl)))
theorem only_own {b : Nat} {w : World} : Only b w w := Only.ofBelow (Below.refl _ _) (Nat.le_refl _)
theorem keep {k : FuncId} {a : Array Value} {w : World} {v : Value} {b : Nat} {R : Nat → Nat} (hr : w.heap[b]? = some (.cells (rh true R) 58)) (h : Calls Tryd.prog k a w fun r w' => r = .returned v ∧ Below w.heap.size w w') : Calls Tryd.prog k a w fun r w' => r = .returned v ∧ w'.heap[b]? = some (.cells (rh true R) 58) ∧ Only b w w' :=
  h.mono fun _ w' ⟨e, q⟩ => ⟨e, heap_of q _ _ _ hr, Only.ofBelow q (Nat.le_refl _)⟩
theorem rh_same {o : Bool} {R S : Nat → Nat} (h : ∀ k, k < 96 → R k = S k) : rh o R = rh o S := by unfold rh; rw [rf_same h]
theorem kSetX (R : Nat → Nat) (b : Nat) (n : Int) (x : Nat) (w : World) (h0 : R 0 = 0) (hr : w.heap[b]? = some (.cells (rh true R) 58)) : Calls Tryd.prog 25 #[.pointer (some ⟨b, 0, none⟩), .int .i64 n, .int .u64 (x : Nat)] w fun r w' => r = .returned (.int .i64 (sxV R n x).2) ∧ w'.heap[b]? = some (.cells (rh true (sxV R n x).1) 58) ∧ Only b w w' := by
  unfold sxV
  cases q : inR n
  · exact keep hr (bel_st (g_SetX_e _ n 2 x w (Or.inr rfl) (g_wA2 R b n q w hr)))
  · obtain ⟨k, hk, rfl, e⟩ := inR_nat q
    refine (g_SetX R b k x hk w hr).mono ?_
    rintro r w' ⟨rfl, rfl⟩
    refine ⟨rfl, ?_, only_set (k := 1) (only_set (k := 1 + k) only_own)⟩
    have h1 := setCell_row (k := 1 + k) (v := .int .u64 (x : Nat)) hr
    rw [rh_set true R k x (by omega)] at h1
    have h2 := setCell_row (k := 1) (v := .int .u64 0) h1
    have e2 : (rh true (up R k x)).setIfInBounds 1 (.int .u64 0) = rh true (up (up R k x) 0 0) := rh_set0 true (up R k x) 0 (by omega)
    have e3 : rh true (up (up R k x) 0 0) = rh true (if (k : Int) = 0 then R else up R (k : Int).toNat x) := by
      apply rh_same
      intro j hj
      by_cases z : k = 0
      · subst z
        rw [if_pos (by decide)]
        unfold up
        split
        · rename_i e0
          rw [e0, h0]
        · rfl
      · rw [if_neg (by omega), e]
        unfold up
        split
        · rename_i e0
          rw [e0, if_neg (by omega), h0]
        · rfl
    rw [e2, e3] at h2
    exact h2
theorem kSetF (R : Nat → Nat) (b : Nat) (n : Int) (u v : Nat) (w : World) (hr : w.heap[b]? = some (.cells (rh true R) 58)) : Calls Tryd.prog 26 #[.pointer (some ⟨b, 0, none⟩), .int .i64 n, .agg #[.int .u64 (u : Nat), .int .u64 (v : Nat)]] w fun r w' => r = .returned (.int .i64 (sfV R n u v).2) ∧ w'.heap[b]? = some (.cells (rh true (sfV R n u v).1) 58) ∧ Only b w w' := by
  unfold sfV
  cases q : inR n
  · exact keep hr (g_SetF_e _ n 2 u v w (Or.inr rfl) (box (fun W h => g_fA2 R b n q W (rh_below hr h))))
  · obtain ⟨k, hk, rfl, e⟩ := inR_nat q
    exact g_SetF R b k u v hk w hr
theorem kPut (R : Nat → Nat) (b : Nat) (f n : Int) (u v : Nat) (w : World) (h0 : 0 ≤ f) (h1 : f ≤ 255) (hu : u < 18446744073709551616) (hv : v < 18446744073709551616) (hT : FAt w) (hr : w.heap[b]? = some (.cells (rh true R) 58)) : Calls Tryd.prog 27 #[.pointer (some ⟨b, 0, none⟩), .int .u8 f, .int .i64 n, .agg #[.int .u64 (u : Nat), .int .u64 (v : Nat)]] w fun r w' => r = .returned (.int .i64 (ptV R f n u v).2) ∧ w'.heap[b]? = some (.cells (rh true (ptV R f n u v).1) 58) ∧ Only b w w' := by
  unfold ptV
  cases q : inR n
  · exact keep hr (g_Put_e _ f n 2 u v w (Or.inr rfl) (box (fun W h => g_fA2 R b n q W (rh_below hr h))))
  · obtain ⟨k, hk, rfl, e⟩ := inR_nat q
    cases c : fitN f (v + 18446744073709551616 * u)
    · exact keep hr (g_Put_n R b k u v f hk w hr hT (kBox_no f u v _ h0 h1 hu hv rfl c))
    · have fit := of_decide_eq_true c
      exact g_Put_y R b k u v _ _ f hk w hr hT (kBox_is f u v _ h0 (wd_three fit.1).2 hu hv rfl fit.2 _ _ rfl)
end Go.Proofs.YtjbnifhpbdjonaaDoor
namespace Go.Proofs.YtjbnifhpbdjonaaDoor
set_option maxRecDepth 100000
set_option maxHeartbeats 40000000
set_option maxRecDepth 100000
open Go.RowKit WMath
set_option linter.unusedSimpArgs false
set_option linter.unusedVariables false
set_option maxRecDepth 100000 in
set_option maxHeartbeats 4000000 in
theorem g_write_f (b : Nat) (n e : Int) (y1 y2 : Nat) (R' : Nat → Nat) (he : IntKind.i64.wrap e = e) (w : World)
    (K : Box (∀ W, Below w.heap.size w W → Calls Tryd.prog 26 #[.pointer (some ⟨b, 0, none⟩), .int .i64 n, .agg #[.int .u64 (y1 : Nat), .int .u64 (y2 : Nat)]] W fun r w' => r = .returned (.int .i64 e) ∧ w'.heap[b]? = some (.cells (rh true R') 58) ∧ Only b W w')) :
    Calls Tryd.prog 51 #[.pointer (some ⟨b, 0, none⟩), .agg #[.bool true, .int .i64 n, .int .u64 0, .int .u64 (y1 : Nat), .int .u64 (y2 : Nat)]] w fun r w' => r = .returned (.int .i64 e) ∧ w'.heap[b]? = some (.cells (rh true R') 58) ∧ Only b w w' := by
  obtain ⟨Rc_0, B0⟩ := opn1 w (Obj.cells #[.bool true, .int .i64 n, .int .u64 0, .int .u64 (y1 : Nat), .int .u64 (y2 : Nat)] 50)
  go_enter Tryd.func51, Tryd.ntmps51
  have cc_0_0 := cells4 Rc_0 0 _ rfl
  have cc_0_1 := cells4 Rc_0 1 _ rfl
  have cc_0_2 := cells4 Rc_0 2 _ rfl
  have cc_0_3 := cells4 Rc_0 3 _ rfl
  have cc_0_4 := cells4 Rc_0 4 _ rfl
  go_wp2_with fail
  refine (K.out _ B0).mono ?_
  rintro r w2 ⟨rfl, h2, o2⟩
  have O2 := only_below B0 o2
  go_wp2
  go_ret
  exact ⟨rfl, h2, O2⟩
set_option maxRecDepth 100000 in
set_option maxHeartbeats 4000000 in
theorem g_write_x (b : Nat) (n e : Int) (x : Nat) (R' : Nat → Nat) (he : IntKind.i64.wrap e = e) (w : World)
    (K : Box (∀ W, Below w.heap.size w W → Calls Tryd.prog 25 #[.pointer (some ⟨b, 0, none⟩), .int .i64 n, .int .u64 (x : Nat)] W fun r w' => r = .returned (.int .i64 e) ∧ w'.heap[b]? = some (.cells (rh true R') 58) ∧ Only b W w')) :
    Calls Tryd.prog 51 #[.pointer (some ⟨b, 0, none⟩), .agg #[.bool false, .int .i64 n, .int .u64 (x : Nat), .int .u64 0, .int .u64 0]] w fun r w' => r = .returned (.int .i64 e) ∧ w'.heap[b]? = some (.cells (rh true R') 58) ∧ Only b w w' := by
  have heq := eqb
  have heb : ebb 0 0 0 0 = true := rfl
  obtain ⟨Rc_0, B0⟩ := opn1 w (Obj.cells #[.bool false, .int .i64 n, .int .u64 (x : Nat), .int .u64 0, .int .u64 0] 50)
  go_enter Tryd.func51, Tryd.ntmps51
  have cc_0_0 := cells4 Rc_0 0 _ rfl
  have cc_0_1 := cells4 Rc_0 1 _ rfl
  have cc_0_2 := cells4 Rc_0 2 _ rfl
  have cc_0_3 := cells4 Rc_0 3 _ rfl
  have cc_0_4 := cells4 Rc_0 4 _ rfl
  go_wp2_with fail
  refine (K.out _ B0).mono ?_
  rintro r w2 ⟨rfl, h2, o2⟩
  have O2 := only_below B0 o2
  go_wp2
  go_ret
  exact ⟨rfl, h2, O2⟩
set_option maxRecDepth 100000 in
set_option maxHeartbeats 4000000 in
theorem g_write_nf (p : Value) (n : Int) (x y1 y2 : Nat) (hx : (((x : Nat) : Int) == 0) = false) (w : World) : Calls Tryd.prog 51 #[p, .agg #[.bool true, .int .i64 n, .int .u64 (x : Nat), .int .u64 (y1 : Nat), .int .u64 (y2 : Nat)]] w fun r w' => r = .returned (.int .i64 2) ∧ Below w.heap.size w w' := by
  obtain ⟨Rc_0, B0⟩ := opn1 w (Obj.cells #[.bool true, .int .i64 n, .int .u64 (x : Nat), .int .u64 (y1 : Nat), .int .u64 (y2 : Nat)] 50)
  go_enter Tryd.func51, Tryd.ntmps51
  have cc_0_0 := cells4 Rc_0 0 _ rfl
  have cc_0_1 := cells4 Rc_0 1 _ rfl
  have cc_0_2 := cells4 Rc_0 2 _ rfl
  have cc_0_3 := cells4 Rc_0 3 _ rfl
  have cc_0_4 := cells4 Rc_0 4 _ rfl
  go_wp2
  go_ret
  exact ⟨rfl, B0⟩
set_option maxRecDepth 100000 in
set_option maxHeartbeats 4000000 in
theorem g_write_nx (p : Value) (n : Int) (x y1 y2 : Nat) (hy : ebb ((y1 : Nat) : Int) ((y2 : Nat) : Int) 0 0 = false) (w : World) : Calls Tryd.prog 51 #[p, .agg #[.bool false, .int .i64 n, .int .u64 (x : Nat), .int .u64 (y1 : Nat), .int .u64 (y2 : Nat)]] w fun r w' => r = .returned (.int .i64 2) ∧ Below w.heap.size w w' := by
  have heq := eqb
  obtain ⟨Rc_0, B0⟩ := opn1 w (Obj.cells #[.bool false, .int .i64 n, .int .u64 (x : Nat), .int .u64 (y1 : Nat), .int .u64 (y2 : Nat)] 50)
  go_enter Tryd.func51, Tryd.ntmps51
  have cc_0_0 := cells4 Rc_0 0 _ rfl
  have cc_0_1 := cells4 Rc_0 1 _ rfl
  have cc_0_2 := cells4 Rc_0 2 _ rfl
  have cc_0_3 := cells4 Rc_0 3 _ rfl
  have cc_0_4 := cells4 Rc_0 4 _ rfl
  go_wp2
  go_ret
  exact ⟨rfl, B0⟩
theorem kWrite (R : Nat → Nat) (b : Nat) (c : Chg) (w : World) (h0 : R 0 = 0) (hr : w.heap[b]? = some (.cells (rh true R) 58)) : Calls Tryd.prog 51 #[.pointer (some ⟨b, 0, none⟩), .agg #[.bool c.fl, .int .i64 c.n, .int .u64 (c.wd : Nat), .int .u64 (c.hi : Nat), .int .u64 (c.lo : Nat)]] w fun r w' => r = .returned (.int .i64 (if okC c = true then 0 else 2)) ∧ w'.heap[b]? = some (.cells (rh true (if okC c = true then apC R c else R)) 58) ∧ Only b w w' := by
  obtain ⟨fl, n, x, y1, y2⟩ := c
  cases fl
  · by_cases q : y1 = 0 ∧ y2 = 0
    · obtain ⟨rfl, rfl⟩ := q
      have K := fun W (h : Below w.heap.size w W) => kSetX R b n x W h0 (rh_below hr h)
      have ho : okC ⟨false, n, x, 0, 0⟩ = inR n := by simp [okC, inR]
      rw [ho]
      unfold sxV at K
      cases c : inR n
      · rw [c] at K
        exact g_write_x b n 2 x R rfl w (box K)
      · rw [c] at K
        exact g_write_x b n 0 x _ rfl w (box K)
    · have ho : okC ⟨false, n, x, y1, y2⟩ = false := by simp [okC]; omega
      rw [ho]
      exact keep hr (g_write_nx _ n x y1 y2 (by simp [ebb]; omega) w)
  · by_cases q : x = 0
    · subst q
      have K := fun W (h : Below w.heap.size w W) => kSetF R b n y1 y2 W (rh_below hr h)
      have ho : okC ⟨true, n, 0, y1, y2⟩ = inR n := by simp [okC, inR]
      rw [ho]
      unfold sfV at K
      cases c : inR n
      · rw [c] at K
        exact g_write_f b n 2 y1 y2 R rfl w (box K)
      · rw [c] at K
        exact g_write_f b n 0 y1 y2 _ rfl w (box K)
    · have ho : okC ⟨true, n, x, y1, y2⟩ = false := by simp [okC]; omega
      rw [ho]
      exact keep hr (g_write_nf _ n x y1 y2 (by rw [beq_eq_false_iff_ne]; omega) w)
end Go.Proofs.YtjbnifhpbdjonaaDoor
