/-
  What the functions that the statement reaches return: part 14 (R12, R32, R34, R35, O1, D1, M0, A0, A3, A5, R39, GH, GN).
-/
import Derived.Lib.MinMax
import Derived.Deep.RegionHeld3
import Derived.Test.YtlpelcfaakfmiaaGreatDoorTe13
namespace Go.Proofs.YtlpelcfaakfmiaaGreatDoor
set_option maxRecDepth 100000
set_option maxHeartbeats 40000000
set_option maxRecDepth 100000
open Go.RowKit WMath
set_option linter.unusedSimpArgs false
set_option linter.unusedVariables false
def rg (neg : Bool) (s : Nat) (x : Int) (more : Bool) : Array Value := #[.bool neg, .int .u64 (wd s 0 : Nat), .int .u64 (wd s 1 : Nat), .int .u64 (wd s 2 : Nat), .int .u64 (wd s 3 : Nat), .int .u64 (wd s 4 : Nat), .int .u64 (wd s 5 : Nat), .int .i64 x, .bool more]
theorem rgf (neg : Bool) (s : Nat) (x : Int) (more : Bool) : #[Value.bool neg, .int .u64 (wd s 0 : Nat), .int .u64 (wd s 1 : Nat), .int .u64 (wd s 2 : Nat), .int .u64 (wd s 3 : Nat), .int .u64 (wd s 4 : Nat), .int .u64 (wd s 5 : Nat), .int .i64 x, .bool more] = rg neg s x more := rfl
theorem rgz : #[Value.bool false, .int .u64 0, .int .u64 0, .int .u64 0, .int .u64 0, .int .u64 0, .int .u64 0, .int .i64 0, .bool false] = rg false 0 0 false := by unfold rg; simp [wd_zero]
theorem rg_cells {w : World} {g : Nat} {T : TypeId} {neg : Bool} {s : Nat} {x : Int} {more : Bool} (R : w.heap[g]? = some (.cells (rg neg s x more) T)) : w.cell? ⟨g, 0, none⟩ = some (.bool neg) ∧ w.cell? ⟨g, 1, none⟩ = some (.int .u64 (wd s 0 : Nat)) ∧ w.cell? ⟨g, 2, none⟩ = some (.int .u64 (wd s 1 : Nat)) ∧ w.cell? ⟨g, 3, none⟩ = some (.int .u64 (wd s 2 : Nat)) ∧ w.cell? ⟨g, 4, none⟩ = some (.int .u64 (wd s 3 : Nat)) ∧ w.cell? ⟨g, 5, none⟩ = some (.int .u64 (wd s 4 : Nat)) ∧ w.cell? ⟨g, 6, none⟩ = some (.int .u64 (wd s 5 : Nat)) ∧ w.cell? ⟨g, 7, none⟩ = some (.int .i64 x) ∧ w.cell? ⟨g, 8, none⟩ = some (.bool more) :=
  ⟨cells4 R 0 _ rfl, cells4 R 1 _ rfl, cells4 R 2 _ rfl, cells4 R 3 _ rfl, cells4 R 4 _ rfl, cells4 R 5 _ rfl, cells4 R 6 _ rfl, cells4 R 7 _ rfl, cells4 R 8 _ rfl⟩
set_option maxRecDepth 100000 in
theorem ro_check_a (f m c1 : Int) (w : World) (K1 : Box (∀ w, Calls Tryz.prog 108 #[.int .u8 f] w fun r w' => r = .returned (.int .i64 c1) ∧ Below w.heap.size w w')) (h1 : (c1 != 0) = true) : Calls Tryz.prog 94 #[.int .u8 f, .int .u8 m] w fun r w' => r = .returned (.int .i64 2) ∧ Below w.heap.size w w' := by
  have B0 : Below w.heap.size w w := (Below.refl _ _)
  go_enter Tryz.func94, Tryz.ntmps94
  go_wp2_with fail
  refine (K1.out _).mono ?_
  rintro r w1 ⟨rfl, b1⟩
  have B1 : Below w.heap.size w w1 := btr B0 b1
  clear b1 B0 
  go_wp2
  go_ret
  exact ⟨rfl, B1⟩
set_option maxRecDepth 100000 in
theorem ro_check_b (f m c1 c2 : Int) (w : World) (K1 : Box (∀ w, Calls Tryz.prog 108 #[.int .u8 f] w fun r w' => r = .returned (.int .i64 c1) ∧ Below w.heap.size w w')) (K2 : Box (∀ w, Calls Tryz.prog 137 #[.int .u8 m] w fun r w' => r = .returned (.int .i64 c2) ∧ Below w.heap.size w w')) (h1 : (c1 != 0) = false) (h2 : (c2 != 0) = true) : Calls Tryz.prog 94 #[.int .u8 f, .int .u8 m] w fun r w' => r = .returned (.int .i64 2) ∧ Below w.heap.size w w' := by
  have B0 : Below w.heap.size w w := (Below.refl _ _)
  go_enter Tryz.func94, Tryz.ntmps94
  go_wp2_with fail
  refine (K1.out _).mono ?_
  rintro r w1 ⟨rfl, b1⟩
  have B1 : Below w.heap.size w w1 := btr B0 b1
  clear b1 B0 
  go_wp2_with fail
  refine (K2.out _).mono ?_
  rintro r w2 ⟨rfl, b2⟩
  have B2 : Below w.heap.size w w2 := btr B1 b2
  clear b2 B1 
  go_wp2
  go_ret
  exact ⟨rfl, B2⟩
set_option maxRecDepth 100000 in
theorem ro_check_c (f m c1 c2 : Int) (w : World) (K1 : Box (∀ w, Calls Tryz.prog 108 #[.int .u8 f] w fun r w' => r = .returned (.int .i64 c1) ∧ Below w.heap.size w w')) (K2 : Box (∀ w, Calls Tryz.prog 137 #[.int .u8 m] w fun r w' => r = .returned (.int .i64 c2) ∧ Below w.heap.size w w')) (h1 : (c1 != 0) = false) (h2 : (c2 != 0) = false) : Calls Tryz.prog 94 #[.int .u8 f, .int .u8 m] w fun r w' => r = .returned (.int .i64 0) ∧ Below w.heap.size w w' := by
  have B0 : Below w.heap.size w w := (Below.refl _ _)
  go_enter Tryz.func94, Tryz.ntmps94
  go_wp2_with fail
  refine (K1.out _).mono ?_
  rintro r w1 ⟨rfl, b1⟩
  have B1 : Below w.heap.size w w1 := btr B0 b1
  clear b1 B0 
  go_wp2_with fail
  refine (K2.out _).mono ?_
  rintro r w2 ⟨rfl, b2⟩
  have B2 : Below w.heap.size w w2 := btr B1 b2
  clear b2 B1 
  go_wp2
  go_ret
  exact ⟨rfl, B2⟩
set_option maxRecDepth 100000 in
set_option maxHeartbeats 2000000 in
theorem ro_may_lo (f : Int) (neg : Bool) (s : Nat) (x : Int) (more : Bool) (w : World) (h : decide (x < -1048576) = true) : Calls Tryz.prog 95 #[.int .u8 f, .agg (rg neg s x more)] w fun r w' => r = .returned (.bool false) ∧ Below w.heap.size w w' := by
  have hat := cw_at 6
  have hz := cw6z
  have hff := cw6f
  have hs0 := st0
  have hcs : ∀ x, ((cw 6 x).size = 6) = True := fun x => eq_true (cw_size 6 x)
  obtain ⟨Rx_0, B0⟩ := opn1 w (Obj.cells (rg neg s x more) 108)
  go_enter Tryz.func95, Tryz.ntmps95
  obtain ⟨cx_0_0, cx_0_1, cx_0_2, cx_0_3, cx_0_4, cx_0_5, cx_0_6, cx_0_7, cx_0_8⟩ := rg_cells Rx_0
  go_wp2
  go_ret
  exact ⟨rfl, B0⟩
set_option maxRecDepth 100000 in
set_option maxHeartbeats 2000000 in
theorem ro_may_hi (f : Int) (neg : Bool) (s : Nat) (x : Int) (more : Bool) (w : World) (h : decide (x < -1048576) = false) (h2 : decide (1048576 < x) = true) : Calls Tryz.prog 95 #[.int .u8 f, .agg (rg neg s x more)] w fun r w' => r = .returned (.bool false) ∧ Below w.heap.size w w' := by
  have hat := cw_at 6
  have hz := cw6z
  have hff := cw6f
  have hs0 := st0
  have hcs : ∀ x, ((cw 6 x).size = 6) = True := fun x => eq_true (cw_size 6 x)
  obtain ⟨Rx_0, B0⟩ := opn1 w (Obj.cells (rg neg s x more) 108)
  go_enter Tryz.func95, Tryz.ntmps95
  obtain ⟨cx_0_0, cx_0_1, cx_0_2, cx_0_3, cx_0_4, cx_0_5, cx_0_6, cx_0_7, cx_0_8⟩ := rg_cells Rx_0
  go_wp2
  go_ret
  exact ⟨rfl, B0⟩
set_option maxRecDepth 100000 in
set_option maxHeartbeats 2000000 in
theorem ro_may_no (f : Int) (neg : Bool) (s : Nat) (x : Int) (w : World) (h : decide (x < -1048576) = false) (h2 : decide (1048576 < x) = false) : Calls Tryz.prog 95 #[.int .u8 f, .agg (rg neg s x false)] w fun r w' => r = .returned (.bool true) ∧ Below w.heap.size w w' := by
  have hat := cw_at 6
  have hz := cw6z
  have hff := cw6f
  have hs0 := st0
  have hcs : ∀ x, ((cw 6 x).size = 6) = True := fun x => eq_true (cw_size 6 x)
  obtain ⟨Rx_0, B0⟩ := opn1 w (Obj.cells (rg neg s x false) 108)
  go_enter Tryz.func95, Tryz.ntmps95
  obtain ⟨cx_0_0, cx_0_1, cx_0_2, cx_0_3, cx_0_4, cx_0_5, cx_0_6, cx_0_7, cx_0_8⟩ := rg_cells Rx_0
  go_wp2
  go_ret
  exact ⟨rfl, B0⟩
set_option maxRecDepth 100000 in
set_option maxHeartbeats 2000000 in
theorem ro_may_more (f : Int) (neg : Bool) (s : Nat) (x : Int) (l P A1 : Int) (o : Bool) (w : World)
    (KL : Box (∀ w, Calls Tryz.prog 138 #[.agg (cw 6 s)] w fun r w' => r = .returned (.int .i64 l) ∧ Below w.heap.size w w'))
    (KP : Box (∀ w, FAt w → Calls Tryz.prog 112 #[.int .u8 f] w fun r w' => r = .returned (.int .i64 P) ∧ Below w.heap.size w w'))
    (h : decide (x < -1048576) = false) (h2 : decide (1048576 < x) = false) (h3 : IntKind.i64.wrap (P + 2) = A1) (ho : decide (A1 ≤ l) = o) (hT : FAt w) : Calls Tryz.prog 95 #[.int .u8 f, .agg (rg neg s x true)] w fun r w' => r = .returned (.bool o) ∧ Below w.heap.size w w' := by
  have FF := box hT
  clear hT
  have hat := cw_at 6
  have hz := cw6z
  have hff := cw6f
  have hs0 := st0
  have hcs : ∀ x, ((cw 6 x).size = 6) = True := fun x => eq_true (cw_size 6 x)
  obtain ⟨Rx_0, B0⟩ := opn1 w (Obj.cells (rg neg s x true) 108)
  go_enter Tryz.func95, Tryz.ntmps95
  obtain ⟨cx_0_0, cx_0_1, cx_0_2, cx_0_3, cx_0_4, cx_0_5, cx_0_6, cx_0_7, cx_0_8⟩ := rg_cells Rx_0
  go_wp2_with fail
  refine (KL.out _).mono ?_
  rintro r w1 ⟨rfl, b1⟩
  have B1 : Below w.heap.size w w1 := btr B0 b1
  have Rx_1 := heap_of b1 _ _ _ Rx_0
  clear b1 B0 Rx_0 cx_0_0 cx_0_1 cx_0_2 cx_0_3 cx_0_4 cx_0_5 cx_0_6 cx_0_7 cx_0_8
  obtain ⟨cx_1_0, cx_1_1, cx_1_2, cx_1_3, cx_1_4, cx_1_5, cx_1_6, cx_1_7, cx_1_8⟩ := rg_cells Rx_1
  go_wp2_with fail
  refine (KP.out _ (fatB FF.out B1)).mono ?_
  rintro r w2 ⟨rfl, b2⟩
  have B2 : Below w.heap.size w w2 := btr B1 b2
  have Rx_2 := heap_of b2 _ _ _ Rx_1
  clear b2 B1 Rx_1 cx_1_0 cx_1_1 cx_1_2 cx_1_3 cx_1_4 cx_1_5 cx_1_6 cx_1_7 cx_1_8
  obtain ⟨cx_2_0, cx_2_1, cx_2_2, cx_2_3, cx_2_4, cx_2_5, cx_2_6, cx_2_7, cx_2_8⟩ := rg_cells Rx_2
  go_wp2
  go_ret
  exact ⟨rfl, B2⟩
def uP (m : Int) (neg odd : Bool) (h : Int) (ex : Bool) : Bool := if ex then false else if m = 2 then neg else if m = 3 then !neg else if m = 0 then (decide (0 < h) || (decide (h = 0) && odd)) else if m = 4 then decide (0 ≤ h) else false
set_option maxRecDepth 100000 in
set_option maxHeartbeats 2000000 in
theorem ro_up (m : Int) (neg odd : Bool) (h : Int) (ex o : Bool) (ho : uP m neg odd h ex = o) (w : World) : Calls Tryz.prog 37 #[.int .u8 m, .bool neg, .bool odd, .int .i64 h, .bool ex] w fun r w' => r = .returned (.bool o) ∧ Below w.heap.size w w' := by
  subst ho
  cases ex
  case true =>
    have B0 : Below w.heap.size w w := (Below.refl _ _)
    go_enter Tryz.func37, Tryz.ntmps37
    go_wp2
    go_ret
    exact ⟨rfl, B0⟩
  unfold uP
  rw [if_neg (by decide)]
  by_cases c2 : m = 2
  · subst c2
    rw [if_pos rfl]
    cases neg
    all_goals
      go_enter Tryz.func37, Tryz.ntmps37
      go_wp2
      go_ret
      exact ⟨rfl, Below.refl _ _⟩
  rw [if_neg c2]
  by_cases c3 : m = 3
  · subst c3
    rw [if_pos rfl]
    cases neg
    all_goals
      go_enter Tryz.func37, Tryz.ntmps37
      go_wp2
      go_ret
      exact ⟨rfl, Below.refl _ _⟩
  rw [if_neg c3]
  have e2 : (m == 2) = false := by simpa using c2
  have e3 : (m == 3) = false := by simpa using c3
  by_cases c0 : m = 0
  · subst c0
    rw [if_pos rfl]
    by_cases p : 0 < h
    · rw [decide_eq_true p, Bool.true_or]
      have d1 : decide (0 < h) = true := decide_eq_true p
      go_enter Tryz.func37, Tryz.ntmps37
      go_wp2
      go_ret
      exact ⟨rfl, Below.refl _ _⟩
    · rw [decide_eq_false p, Bool.false_or]
      have d1 : decide (0 < h) = false := decide_eq_false p
      by_cases z : h = 0
      · subst z
        rw [decide_eq_true rfl, Bool.true_and]
        cases odd
        all_goals
          go_enter Tryz.func37, Tryz.ntmps37
          go_wp2
          go_ret
          exact ⟨rfl, Below.refl _ _⟩
      · rw [decide_eq_false z, Bool.false_and]
        have d2 : (h == 0) = false := by simpa using z
        go_enter Tryz.func37, Tryz.ntmps37
        go_wp2
        go_ret
        exact ⟨rfl, Below.refl _ _⟩
  rw [if_neg c0]
  have e0 : (m == 0) = false := by simpa using c0
  by_cases c4 : m = 4
  · subst c4
    rw [if_pos rfl]
    by_cases p : 0 < h
    · rw [decide_eq_true (show 0 ≤ h by omega)]
      have d1 : decide (0 < h) = true := decide_eq_true p
      go_enter Tryz.func37, Tryz.ntmps37
      go_wp2
      go_ret
      exact ⟨rfl, Below.refl _ _⟩
    · have d1 : decide (0 < h) = false := decide_eq_false p
      by_cases z : h = 0
      · subst z
        rw [decide_eq_true (by decide)]
        cases odd
        all_goals
          go_enter Tryz.func37, Tryz.ntmps37
          go_wp2
          go_ret
          exact ⟨rfl, Below.refl _ _⟩
      · rw [decide_eq_false (show ¬ 0 ≤ h by omega)]
        have d2 : (h == 0) = false := by simpa using z
        go_enter Tryz.func37, Tryz.ntmps37
        go_wp2
        go_ret
        exact ⟨rfl, Below.refl _ _⟩
  rw [if_neg c4]
  have e4 : (m == 4) = false := by simpa using c4
  go_enter Tryz.func37, Tryz.ntmps37
  go_wp2
  go_ret
  exact ⟨rfl, Below.refl _ _⟩
end Go.Proofs.YtlpelcfaakfmiaaGreatDoor
namespace Go.Proofs.YtlpelcfaakfmiaaGreatDoor
set_option maxRecDepth 100000
set_option maxHeartbeats 40000000
set_option maxRecDepth 100000
open Go.RowKit WMath
set_option linter.unusedSimpArgs false
set_option linter.unusedVariables false
set_option maxRecDepth 100000 in
set_option maxHeartbeats 4000000 in
theorem ro_pack_zero (f m : Int) (neg : Bool) (x : Int) (more : Bool) (u v : Nat) (w : World)
    (KC : Box (∀ w, Calls Tryz.prog 94 #[.int .u8 f, .int .u8 m] w fun r w' => r = .returned (.int .i64 0) ∧ Below w.heap.size w w'))
    (KM : Box (∀ w, FAt w → Calls Tryz.prog 95 #[.int .u8 f, .agg (rg neg 0 x more)] w fun r w' => r = .returned (.bool true) ∧ Below w.heap.size w w'))
    (KZ : Box (∀ w, FAt w → Calls Tryz.prog 96 #[.int .u8 f, .bool neg] w fun r w' => r = .returned (.agg #[.int .u64 (u : Nat), .int .u64 (v : Nat)]) ∧ Below w.heap.size w w'))
    (hT : FAt w) : Calls Tryz.prog 61 #[.int .u8 f, .int .u8 m, .agg (rg neg 0 x more)] w fun r w' => r = .returned (.tuple #[.agg #[.int .u64 (u : Nat), .int .u64 (v : Nat)], .int .u8 0, .int .i64 0]) ∧ Below w.heap.size w w' := by
  have FF := box hT
  clear hT
  have hat := cw_at 6
  have hz := cw6z
  have hff := cw6f
  have hs0 := st0
  have hcs : ∀ x, ((cw 6 x).size = 6) = True := fun x => eq_true (cw_size 6 x)
  have heq := eq6
  have hQ0 := Q_pos
  have hg := eqg6
  have hp1 := rgf
  have hp3 := rgz
  have hp5 : ∀ (c : Bool) (s : Nat) (x : Int) (r : Bool), ((rg c s x r).size = 9) = True := fun _ _ _ _ => eq_true rfl
  obtain ⟨Rx_0, Rz_0, B0⟩ := opn2 w (Obj.cells (rg neg 0 x more) 108) (Obj.cells #[.int .u64 0, .int .u64 0] 27)
  go_enter Tryz.func61, Tryz.ntmps61
  obtain ⟨cx_0_0, cx_0_1, cx_0_2, cx_0_3, cx_0_4, cx_0_5, cx_0_6, cx_0_7, cx_0_8⟩ := rg_cells Rx_0
  obtain ⟨cz_0_0, cz_0_1⟩ := cells2s Rz_0
  go_wp2_with fail
  refine (KC.out _).mono ?_
  rintro r w1 ⟨rfl, b1⟩
  have B1 : Below w.heap.size w w1 := btr B0 b1
  have Rx_1 := heap_of b1 _ _ _ Rx_0
  have Rz_1 := heap_of b1 _ _ _ Rz_0
  clear b1 B0 Rx_0 cx_0_0 cx_0_1 cx_0_2 cx_0_3 cx_0_4 cx_0_5 cx_0_6 cx_0_7 cx_0_8 Rz_0 cz_0_0 cz_0_1
  obtain ⟨cx_1_0, cx_1_1, cx_1_2, cx_1_3, cx_1_4, cx_1_5, cx_1_6, cx_1_7, cx_1_8⟩ := rg_cells Rx_1
  obtain ⟨cz_1_0, cz_1_1⟩ := cells2s Rz_1
  go_wp2_with fail
  refine (KM.out _ (fatB FF.out B1)).mono ?_
  rintro r w2 ⟨rfl, b2⟩
  have B2 : Below w.heap.size w w2 := btr B1 b2
  have Rx_2 := heap_of b2 _ _ _ Rx_1
  have Rz_2 := heap_of b2 _ _ _ Rz_1
  clear b2 B1 Rx_1 cx_1_0 cx_1_1 cx_1_2 cx_1_3 cx_1_4 cx_1_5 cx_1_6 cx_1_7 cx_1_8 Rz_1 cz_1_0 cz_1_1
  obtain ⟨cx_2_0, cx_2_1, cx_2_2, cx_2_3, cx_2_4, cx_2_5, cx_2_6, cx_2_7, cx_2_8⟩ := rg_cells Rx_2
  obtain ⟨cz_2_0, cz_2_1⟩ := cells2s Rz_2
  go_wp2_with fail
  refine (KZ.out _ (fatB FF.out B2)).mono ?_
  rintro r w3 ⟨rfl, b3⟩
  have B3 : Below w.heap.size w w3 := btr B2 b3
  have Rx_3 := heap_of b3 _ _ _ Rx_2
  have Rz_3 := heap_of b3 _ _ _ Rz_2
  clear b3 B2 Rx_2 cx_2_0 cx_2_1 cx_2_2 cx_2_3 cx_2_4 cx_2_5 cx_2_6 cx_2_7 cx_2_8 Rz_2 cz_2_0 cz_2_1
  obtain ⟨cx_3_0, cx_3_1, cx_3_2, cx_3_3, cx_3_4, cx_3_5, cx_3_6, cx_3_7, cx_3_8⟩ := rg_cells Rx_3
  obtain ⟨cz_3_0, cz_3_1⟩ := cells2s Rz_3
  have q0 := fz (k := 0) Rz_3
  have q1 := fz (k := 1) Rz_3
  obtain ⟨E0, E1⟩ := set2_cells Rz_3 (.int .u64 (u : Nat)) (.int .u64 (v : Nat))
  go_wp2
  exact bodyPost_ret (v := .tuple #[.agg #[.int .u64 (u : Nat), .int .u64 (v : Nat)], .int .u8 0, .int .i64 0]) (by simp [results, Tryz.results61, go_sem, E0, E1]) rfl ⟨rfl, set2_below B3 (by first | exact Nat.le_refl _ | omega | (skip; omega)) _ _⟩
set_option maxRecDepth 100000 in
set_option maxHeartbeats 4000000 in
theorem ro_pack_a (f m : Int) (neg : Bool) (s : Nat) (x : Int) (more : Bool) (c : Int) (hc : (c != 0) = true) (w : World)
    (KC : Box (∀ w, Calls Tryz.prog 94 #[.int .u8 f, .int .u8 m] w fun r w' => r = .returned (.int .i64 c) ∧ Below w.heap.size w w')) : Calls Tryz.prog 61 #[.int .u8 f, .int .u8 m, .agg (rg neg s x more)] w fun r w' => r = .returned (.tuple #[.agg #[.int .u64 0, .int .u64 0], .int .u8 0, .int .i64 2]) ∧ Below w.heap.size w w' := by
  have hat := cw_at 6
  have hz := cw6z
  have hff := cw6f
  have hs0 := st0
  have hcs : ∀ x, ((cw 6 x).size = 6) = True := fun x => eq_true (cw_size 6 x)
  have hp1 := rgf
  have hp5 : ∀ (c : Bool) (s : Nat) (x : Int) (r : Bool), ((rg c s x r).size = 9) = True := fun _ _ _ _ => eq_true rfl
  obtain ⟨Rx_0, Rz_0, B0⟩ := opn2 w (Obj.cells (rg neg s x more) 108) (Obj.cells #[.int .u64 0, .int .u64 0] 27)
  go_enter Tryz.func61, Tryz.ntmps61
  obtain ⟨cx_0_0, cx_0_1, cx_0_2, cx_0_3, cx_0_4, cx_0_5, cx_0_6, cx_0_7, cx_0_8⟩ := rg_cells Rx_0
  obtain ⟨cz_0_0, cz_0_1⟩ := cells2s Rz_0
  go_wp2_with fail
  refine (KC.out _).mono ?_
  rintro r w1 ⟨rfl, b1⟩
  have B1 : Below w.heap.size w w1 := btr B0 b1
  have Rx_1 := heap_of b1 _ _ _ Rx_0
  have Rz_1 := heap_of b1 _ _ _ Rz_0
  clear b1 B0 Rx_0 cx_0_0 cx_0_1 cx_0_2 cx_0_3 cx_0_4 cx_0_5 cx_0_6 cx_0_7 cx_0_8 Rz_0 cz_0_0 cz_0_1
  obtain ⟨cx_1_0, cx_1_1, cx_1_2, cx_1_3, cx_1_4, cx_1_5, cx_1_6, cx_1_7, cx_1_8⟩ := rg_cells Rx_1
  obtain ⟨cz_1_0, cz_1_1⟩ := cells2s Rz_1
  have q0 := fz (k := 0) Rz_1
  have q1 := fz (k := 1) Rz_1
  obtain ⟨E0, E1⟩ := set2_cells Rz_1 (.int .u64 0) (.int .u64 0)
  go_wp2
  exact bodyPost_ret (v := .tuple #[.agg #[.int .u64 0, .int .u64 0], .int .u8 0, .int .i64 2]) (by simp [results, Tryz.results61, go_sem, E0, E1]) rfl ⟨rfl, set2_below B1 (by first | exact Nat.le_refl _ | omega | (skip; omega)) _ _⟩
set_option maxRecDepth 100000 in
set_option maxHeartbeats 4000000 in
theorem ro_pack_b (f m : Int) (neg : Bool) (s : Nat) (x : Int) (more : Bool) (w : World)
    (KC : Box (∀ w, Calls Tryz.prog 94 #[.int .u8 f, .int .u8 m] w fun r w' => r = .returned (.int .i64 0) ∧ Below w.heap.size w w'))
    (KM : Box (∀ w, FAt w → Calls Tryz.prog 95 #[.int .u8 f, .agg (rg neg s x more)] w fun r w' => r = .returned (.bool false) ∧ Below w.heap.size w w')) (hT : FAt w) : Calls Tryz.prog 61 #[.int .u8 f, .int .u8 m, .agg (rg neg s x more)] w fun r w' => r = .returned (.tuple #[.agg #[.int .u64 0, .int .u64 0], .int .u8 0, .int .i64 2]) ∧ Below w.heap.size w w' := by
  have FF := box hT
  clear hT
  have hat := cw_at 6
  have hz := cw6z
  have hff := cw6f
  have hs0 := st0
  have hcs : ∀ x, ((cw 6 x).size = 6) = True := fun x => eq_true (cw_size 6 x)
  have hp1 := rgf
  have hp5 : ∀ (c : Bool) (s : Nat) (x : Int) (r : Bool), ((rg c s x r).size = 9) = True := fun _ _ _ _ => eq_true rfl
  obtain ⟨Rx_0, Rz_0, B0⟩ := opn2 w (Obj.cells (rg neg s x more) 108) (Obj.cells #[.int .u64 0, .int .u64 0] 27)
  go_enter Tryz.func61, Tryz.ntmps61
  obtain ⟨cx_0_0, cx_0_1, cx_0_2, cx_0_3, cx_0_4, cx_0_5, cx_0_6, cx_0_7, cx_0_8⟩ := rg_cells Rx_0
  obtain ⟨cz_0_0, cz_0_1⟩ := cells2s Rz_0
  go_wp2_with fail
  refine (KC.out _).mono ?_
  rintro r w1 ⟨rfl, b1⟩
  have B1 : Below w.heap.size w w1 := btr B0 b1
  have Rx_1 := heap_of b1 _ _ _ Rx_0
  have Rz_1 := heap_of b1 _ _ _ Rz_0
  clear b1 B0 Rx_0 cx_0_0 cx_0_1 cx_0_2 cx_0_3 cx_0_4 cx_0_5 cx_0_6 cx_0_7 cx_0_8 Rz_0 cz_0_0 cz_0_1
  obtain ⟨cx_1_0, cx_1_1, cx_1_2, cx_1_3, cx_1_4, cx_1_5, cx_1_6, cx_1_7, cx_1_8⟩ := rg_cells Rx_1
  obtain ⟨cz_1_0, cz_1_1⟩ := cells2s Rz_1
  go_wp2_with fail
  refine (KM.out _ (fatB FF.out B1)).mono ?_
  rintro r w2 ⟨rfl, b2⟩
  have B2 : Below w.heap.size w w2 := btr B1 b2
  have Rx_2 := heap_of b2 _ _ _ Rx_1
  have Rz_2 := heap_of b2 _ _ _ Rz_1
  clear b2 B1 Rx_1 cx_1_0 cx_1_1 cx_1_2 cx_1_3 cx_1_4 cx_1_5 cx_1_6 cx_1_7 cx_1_8 Rz_1 cz_1_0 cz_1_1
  obtain ⟨cx_2_0, cx_2_1, cx_2_2, cx_2_3, cx_2_4, cx_2_5, cx_2_6, cx_2_7, cx_2_8⟩ := rg_cells Rx_2
  obtain ⟨cz_2_0, cz_2_1⟩ := cells2s Rz_2
  have q0 := fz (k := 0) Rz_2
  have q1 := fz (k := 1) Rz_2
  obtain ⟨E0, E1⟩ := set2_cells Rz_2 (.int .u64 0) (.int .u64 0)
  go_wp2
  exact bodyPost_ret (v := .tuple #[.agg #[.int .u64 0, .int .u64 0], .int .u8 0, .int .i64 2]) (by simp [results, Tryz.results61, go_sem, E0, E1]) rfl ⟨rfl, set2_below B2 (by first | exact Nat.le_refl _ | omega | (skip; omega)) _ _⟩
end Go.Proofs.YtlpelcfaakfmiaaGreatDoor
namespace Go.Proofs.YtlpelcfaakfmiaaGreatDoor
set_option maxRecDepth 100000
set_option maxHeartbeats 40000000
set_option maxRecDepth 100000
open Go.RowKit WMath
set_option linter.unusedSimpArgs false
set_option linter.unusedVariables false
theorem wbit0 (n : Nat) (o : Bool) (ho : decide (n % 2 = 1) = o) (w : World) : Calls Tryz.prog 38 #[.agg (cw 6 n), .int .i64 0] w fun r w' => r = .returned (.bool o) ∧ Below w.heap.size w w' := by
  have hat := cw_at 6
  have hf := cw6f
  obtain ⟨d, hd⟩ : ∃ d, n / 2 ^ 0 % 2 ^ 1 = d := ⟨_, rfl⟩
  have e : ((d : Int) == 1) = o := by
    subst hd ho
    rw [Nat.pow_zero, Nat.div_one, Nat.pow_one, Bool.eq_iff_iff, decide_eq_true_iff, beq_iff_eq]
    omega
  have HD := box hd
  clear hd ho
  have W1 : Box (∀ w : World, Calls Tryz.prog 73 #[.agg (cw 6 n), .int .i64 0, .int .i64 1] w fun r w' => r = .returned (.int .u64 (d : Nat)) ∧ Below w.heap.size w w') := box (fun w => by
    have h := wfield_any n 0 1 (by decide) (by decide) w
    rw [HD.out] at h
    exact h)
  go_enter Tryz.func38, Tryz.ntmps38
  go_wp2_with fail
  refine (W1.out _).mono ?_
  rintro e w1 ⟨rfl, hb⟩
  go_wp2
  go_ret
  exact ⟨rfl, ((Below.refl _ _).alloc (Nat.le_refl _) _).trans (hb.mono (by simp))⟩
theorem kprec (f : Int) (hf : Is4 f) (w : World) (hT : FAt w) : Calls Tryz.prog 112 #[.int .u8 f] w fun r w' => r = .returned (.int .i64 (fP f)) ∧ Below w.heap.size w w' := by
  have f4 := is4_ok hf
  refine (s_precision f _ f4.1 f4.2.1 rfl w hT).mono ?_
  rintro r w' ⟨rfl, rfl⟩
  exact ⟨rfl, bal7 _ _⟩
theorem kocheck (f m : Int) (h0 : 0 ≤ f) (h1 : f ≤ 255) (c : Int) (hc : (if f ≤ 3 ∧ m ≤ 4 then (0 : Int) else 2) = c) (w : World) : Calls Tryz.prog 94 #[.int .u8 f, .int .u8 m] w fun r w' => r = .returned (.int .i64 c) ∧ Below w.heap.size w w' := by
  have K1 : ∀ c, (if f ≤ 3 then (0 : Int) else 2) = c → Box (∀ w, Calls Tryz.prog 108 #[.int .u8 f] w fun r w' => r = .returned (.int .i64 c) ∧ Below w.heap.size w w') := fun c hc => box (fun w => by
    refine bel_same (s_check_is f c h0 h1 ?_ w)
    rw [← hc]
    by_cases h : f ≤ 3
    · rw [if_pos h]; exact fC_yes (is4_of h0 h)
    · rw [if_neg h]; exact fC_no h0 (by unfold Is4; omega))
  have K2 : ∀ c, (if m ≤ 4 then (0 : Int) else 2) = c → Box (∀ w, Calls Tryz.prog 137 #[.int .u8 m] w fun r w' => r = .returned (.int .i64 c) ∧ Below w.heap.size w w') := fun c hc => box (fun w => by
    subst hc
    exact bel_same (s_checkMode m w))
  by_cases c1 : f ≤ 3
  · by_cases c2 : m ≤ 4
    · rw [if_pos ⟨c1, c2⟩] at hc
      subst hc
      exact ro_check_c f m 0 0 w (K1 0 (if_pos c1)) (K2 0 (if_pos c2)) (by decide) (by decide)
    · rw [if_neg (by omega)] at hc
      subst hc
      exact ro_check_b f m 0 2 w (K1 0 (if_pos c1)) (K2 2 (if_neg c2)) (by decide) (by decide)
  · rw [if_neg (by omega)] at hc
    subst hc
    exact ro_check_a f m 2 w (K1 2 (if_neg c1)) (by decide)
theorem is4_le {f : Int} (hf : Is4 f) : f ≤ 3 := by rcases hf with rfl | rfl | rfl | rfl <;> decide
theorem komay (f : Int) (hf : Is4 f) (neg : Bool) (s : Nat) (hs : s < Q) (x : Int) (more : Bool) (o : Bool) (ho : decide (-1048576 ≤ x ∧ x ≤ 1048576 ∧ (more = true → pV f + 3 ≤ blen s)) = o) (w : World) (hT : FAt w) : Calls Tryz.prog 95 #[.int .u8 f, .agg (rg neg s x more)] w fun r w' => r = .returned (.bool o) ∧ Below w.heap.size w w' := by
  have hp := fp8 hf
  obtain ⟨n1, n2, n3, n4, n5, n6⟩ := nm8 hf
  by_cases c1 : x < -1048576
  · rw [decide_eq_false (by omega)] at ho
    subst ho
    exact ro_may_lo f neg s x more w (decide_eq_true c1)
  by_cases c2 : 1048576 < x
  · rw [decide_eq_false (by omega)] at ho
    subst ho
    exact ro_may_hi f neg s x more w (decide_eq_false c1) (decide_eq_true c2)
  cases more
  · rw [decide_eq_true ⟨by omega, by omega, fun h => Bool.noConfusion h⟩] at ho
    subst ho
    exact ro_may_no f neg s x w (decide_eq_false c1) (decide_eq_false c2)
  · refine ro_may_more f neg s x (blen s : Int) (fP f) (fP f + 2) o w (box (fun w => wlen_is s _ hs rfl w)) (box (fun w hT => kprec f hf w hT)) (decide_eq_false c1) (decide_eq_false c2) (wrap_i64_is _ (by omega) (by omega)) ?_ hT
    rw [← ho, decide_eq_decide]
    constructor
    · exact fun h => ⟨by omega, by omega, fun _ => by omega⟩
    · exact fun h => by have := h.2.2 rfl; omega
theorem kPack_zero (f m : Int) (hf : Is4 f) (hm : 0 ≤ m ∧ m ≤ 4) (neg : Bool) (x : Int) (h1 : -1048576 ≤ x) (h2 : x ≤ 1048576) (u v : Nat) (hv : bv7 (eZero f neg) = (u, v)) (w : World) (hT : FAt w) :
    Calls Tryz.prog 61 #[.int .u8 f, .int .u8 m, .agg (rg neg 0 x false)] w fun r w' => r = .returned (.tuple #[.agg #[.int .u64 (u : Nat), .int .u64 (v : Nat)], .int .u8 0, .int .i64 0]) ∧ Below w.heap.size w w' := by
  have f4 := is4_ok hf
  exact ro_pack_zero f m neg x false u v w (box (fun w => kocheck f m f4.1 f4.2.1 0 (if_pos ⟨is4_le hf, hm.2⟩) w)) (box (fun w hT => komay f hf neg 0 Q_pos x false true (decide_eq_true ⟨h1, h2, fun h => Bool.noConfusion h⟩) w hT)) (box (fun w hT => sk_zero f neg hf u v hv w hT)) hT
theorem kPack_no (f m : Int) (h0 : 0 ≤ f) (h1 : f ≤ 255) (neg : Bool) (s : Nat) (hs : s < Q) (x : Int) (more : Bool) (h : ¬ (f ≤ 3 ∧ m ≤ 4 ∧ -1048576 ≤ x ∧ x ≤ 1048576 ∧ (more = true → pV f + 3 ≤ blen s))) (w : World) (hT : FAt w) :
    Calls Tryz.prog 61 #[.int .u8 f, .int .u8 m, .agg (rg neg s x more)] w fun r w' => r = .returned (.tuple #[.agg #[.int .u64 0, .int .u64 0], .int .u8 0, .int .i64 2]) ∧ Below w.heap.size w w' := by
  by_cases c : f ≤ 3 ∧ m ≤ 4
  · exact ro_pack_b f m neg s x more w (box (fun w => kocheck f m h0 h1 0 (if_pos c) w)) (box (fun w hT => komay f (is4_of h0 c.1) neg s hs x more false (decide_eq_false (fun q => h ⟨c.1, c.2, q⟩)) w hT)) hT
  · exact ro_pack_a f m neg s x more 2 (by decide) w (box (fun w => kocheck f m h0 h1 2 (if_neg c) w))
def bls (l : List (Nat × Nat)) : Array Value := (l.flatMap fun p => [Value.int .u64 (p.1 : Nat), Value.int .u64 (p.2 : Nat)]).toArray
def okP (f : Int) (p : Nat × Nat) : Bool := okB f (p.2 + 18446744073709551616 * p.1)
theorem bls_at (l : List (Nat × Nat)) (k : Nat) (p : Nat × Nat) (h : l[k]? = some p) : (bls l)[k * 2]? = some (.int .u64 (p.1 : Nat)) ∧ (bls l)[k * 2 + 1]? = some (.int .u64 (p.2 : Nat)) := by
  unfold bls
  rw [List.getElem?_toArray, List.getElem?_toArray]
  induction l generalizing k with
  | nil => simp at h
  | cons a t ih =>
    cases k with
    | zero =>
      simp at h
      subst h
      simp
    | succ k =>
      simp only [List.getElem?_cons_succ] at h
      have := ih k h
      rw [show (k + 1) * 2 = k * 2 + 1 + 1 by omega]
      simpa using this
theorem bls_cell {w : World} {g : Nat} {T : TypeId} {l : List (Nat × Nat)} (row : w.heap[g]? = some (.cells (bls l) T)) (k : Nat) (p : Nat × Nat) (h : l[k]? = some p) : w.cell? ⟨g, k * 2, none⟩ = some (.int .u64 (p.1 : Nat)) ∧ w.cell? ⟨g, k * 2 + 1, none⟩ = some (.int .u64 (p.2 : Nat)) := by
  obtain ⟨a, b⟩ := bls_at l k p h
  exact ⟨(cell_of_row w g (k * 2) _ _ _ row).trans a, (cell_of_row w g (k * 2 + 1) _ _ _ row).trans b⟩
set_option maxRecDepth 100000 in
set_option maxHeartbeats 8000000 in
theorem op_may_no (f m : Int) (pu pv : Nat) (fl c : Int) (sl : Value) (hc : (c != 0) = true) (w : World)
    (KP : Box (∀ w, FAt w → Calls Tryz.prog 61 #[.int .u8 f, .int .u8 m, .agg (rg false 0 0 false)] w fun r w' => r = .returned (.tuple #[.agg #[.int .u64 (pu : Nat), .int .u64 (pv : Nat)], .int .u8 fl, .int .i64 c]) ∧ Below w.heap.size w w')) (hT : FAt w) : Calls Tryz.prog 31 #[.int .u8 f, .int .u8 m, sl] w fun r w' => r = .returned (.bool false) ∧ Below w.heap.size w w' := by
  have FF := box hT
  clear hT
  have hp3 := rgz
  have B0 : Below w.heap.size w w := (Below.refl _ _)
  go_enter Tryz.func31, Tryz.ntmps31
  go_wp2_with fail
  refine (KP.out _ (fatB FF.out B0)).mono ?_
  rintro r w1 ⟨rfl, b1⟩
  have B1 : Below w.heap.size w w1 := btr B0 b1
  clear b1 B0 
  have S2 := box B1.size
  have Rp_2 := heap_alloc_last w1 (Obj.cells #[.int .u64 (pu : Nat), .int .u64 (pv : Nat)] 27)
  have B2 := btr B1 (bal w1 (Obj.cells #[.int .u64 (pu : Nat), .int .u64 (pv : Nat)] 27))
  clear B1 
  obtain ⟨cp_2_0, cp_2_1⟩ := cells2s Rp_2
  go_wp2
  go_ret
  exact ⟨rfl, B2⟩
theorem kClass_any (f : Int) (hf : Is4 f) (p : Nat × Nat) (h : p.1 < 18446744073709551616 ∧ p.2 < 18446744073709551616) (o : Bool) (ho : okP f p = o) : ∃ (c e : Int), (e != 0) = (!o) ∧ Box (∀ w, FAt w → Calls Tryz.prog 43 #[.int .u8 f, .agg #[.int .u64 (p.1 : Nat), .int .u64 (p.2 : Nat)]] w fun r w' => r = .returned (.tuple #[.int .u8 c, .int .i64 e]) ∧ Below w.heap.size w w') := by
  have h0 : 0 ≤ f ∧ f ≤ 255 := by rcases hf with rfl | rfl | rfl | rfl <;> decide
  cases o
  · exact ⟨0, 2, rfl, box (fun w hT => kClass_no f h0.1 h0.2 p.1 p.2 _ h.1 h.2 rfl ho w hT)⟩
  · exact ⟨_, 0, rfl, box (fun w hT => kClass_yes f hf p.1 p.2 _ _ h.1 h.2 rfl ho rfl w hT)⟩
set_option maxRecDepth 100000 in
set_option maxHeartbeats 8000000 in
theorem op_may (f m : Int) (hf : Is4 f) (l : List (Nat × Nat)) (L g c : Nat) (T : TypeId) (w : World) (hl : l.length = L) (hL : L ≤ 1000) (hb : Box (∀ p ∈ l, p.1 < 18446744073709551616 ∧ p.2 < 18446744073709551616)) (row : w.heap[g]? = some (.cells (bls l) T)) (pu pv : Nat) (fl : Int)
    (KP : Box (∀ w, FAt w → Calls Tryz.prog 61 #[.int .u8 f, .int .u8 m, .agg (rg false 0 0 false)] w fun r w' => r = .returned (.tuple #[.agg #[.int .u64 (pu : Nat), .int .u64 (pv : Nat)], .int .u8 fl, .int .i64 0]) ∧ Below w.heap.size w w'))
    (o : Bool) (ho : l.all (okP f) = o) (hT : FAt w) : Calls Tryz.prog 31 #[.int .u8 f, .int .u8 m, .slice (some ⟨g, 0, none⟩) L c] w fun r w' => r = .returned (.bool o) ∧ Below w.heap.size w w' := by
  have FF := box hT
  have HO := box ho
  have HL := box hl
  have HF := box hf
  clear ho hl hT hf
  have hp3 := rgz
  go_enter Tryz.func31, Tryz.ntmps31
  go_wp2_with fail
  refine (KP.out _ FF.out).mono ?_
  rintro r w1 ⟨rfl, b1⟩
  have BP := btr b1 (bal w1 (.cells #[.int .u64 (pu : Nat), .int .u64 (pv : Nat)] 27))
  obtain ⟨V, hV⟩ : ∃ V, w1.alloc (.cells #[.int .u64 (pu : Nat), .int .u64 (pv : Nat)] 27) = V := ⟨_, rfl⟩
  go_wp2
  rw [hV] at BP
  clear b1 KP hV
  go_loopw [26] (fun iv wr => ∃ k : Nat, k ≤ L ∧ iv = .int .i64 k ∧ Below w.heap.size w wr ∧ Box (∀ j p, j < k → l[j]? = some p → okP f p = true)) (fun iv _ => L - (intOf iv).toNat)
  case atStart => exact ⟨0, by omega, rfl, BP, box (fun j s hj => absurd hj (by omega))⟩
  case round =>
    obtain ⟨k, hk, rfl, bw, HA⟩ := hrel
    by_cases hlt : k < L
    · obtain ⟨p, hs⟩ : ∃ p, l[k]? = some p := ⟨_, List.getElem?_eq_getElem (by rw [HL.out]; exact hlt)⟩
      obtain ⟨c1, c2⟩ := bls_cell (heap_of bw _ _ _ row) k p hs
      have dl : decide ((k : Int) < (L : Int)) = true := decide_eq_true (by omega)
      have HS := box hs
      obtain ⟨o1, hm⟩ : ∃ o1, okP f p = o1 := ⟨_, rfl⟩
      have HM := box hm
      obtain ⟨cc, ee, hee, KC⟩ := kClass_any f HF.out p (hb.out p (List.mem_of_getElem? hs)) o1 hm
      have FA : Box (FAt (wr.alloc (.cells #[.int .u64 (p.1 : Nat), .int .u64 (p.2 : Nat)] 27))) := box (fatB FF.out (btr bw (bal _ _)))
      have BA := btr bw (bal wr (.cells #[.int .u64 (p.1 : Nat), .int .u64 (p.2 : Nat)] 27))
      clear hs hm
      cases o1
      · have e : o = false := by
          rw [← HO.out, Bool.eq_false_iff]
          intro h
          rw [List.all_eq_true] at h
          have := h p (List.mem_of_getElem? HS.out)
          rw [HM.out] at this
          exact absurd this (by decide)
        subst e
        go_wp2_with fail
        refine (KC.out _ FA.out).mono ?_
        rintro r w2 ⟨rfl, b2⟩
        go_wp2
        go_ret
        exact ⟨rfl, btr BA b2⟩
      · have NA : Box (∀ j p, j < k + 1 → l[j]? = some p → okP f p = true) := box (fun j p2 hj h2 => by
          by_cases e : j = k
          · subst e
            rw [HS.out] at h2
            cases h2
            exact HM.out
          · exact HA.out j p2 (by omega) h2)
        go_wp2_with fail
        refine (KC.out _ FA.out).mono ?_
        rintro r w2 ⟨rfl, b2⟩
        go_wp2
        go_roundw
        case rel => exact ⟨k + 1, by omega, by go_num, btr BA b2, NA⟩
        case measure => simp [intOf] <;> omega
    · obtain rfl : k = L := by omega
      have e : o = true := by
        rw [← HO.out, List.all_eq_true]
        intro s hs
        obtain ⟨j, hj⟩ := List.mem_iff_getElem?.1 hs
        have := (List.getElem?_eq_some_iff.1 hj).1
        exact HA.out j s (by rw [← HL.out]; exact this) hj
      subst e
      have dl : decide ((k : Int) < (k : Int)) = false := by rw [decide_eq_false_iff_not]; omega
      go_wp2
      go_ret
      exact ⟨rfl, bw⟩
theorem rInf_is (f : Int) (hf : Is4 f) (x y n c : Nat) (o : Bool) (hx : x < 18446744073709551616) (hy : y < 18446744073709551616) (hn : y + 18446744073709551616 * x = n) (hfit : Fit f n) (hc : kC f n = c) (ho : (decide (c = 0) || decide (c = 7)) = o) (w : World) : Calls Tryz.prog 24 #[.int .u8 f, .agg #[.int .u64 (x : Nat), .int .u64 (y : Nat)]] w fun r w' => r = .returned (.bool o) ∧ Below w.heap.size w w' := by
  have K1 := box (rk_class f hf x y n c hx hy hn hfit hc)
  clear hf hx hy hn hfit hc
  by_cases c0 : c = 0
  · rw [decide_eq_true c0, Bool.true_or] at ho
    subst ho
    have d0 : ((c : Int) == 0) = true := by rw [c0]; rfl
    clear c0
    obtain ⟨Rb_0, B0⟩ := opn1 w (Obj.cells #[.int .u64 (x : Nat), .int .u64 (y : Nat)] 27)
    go_enter Tryz.func24, Tryz.ntmps24
    go_wp2_with fail
    refine (K1.out _).mono ?_
    rintro r w1 ⟨rfl, b1⟩
    have B1 : Below w.heap.size w w1 := btr B0 b1
    have Rb_1 := heap_of b1 _ _ _ Rb_0
    clear b1 B0 Rb_0
    obtain ⟨cb_1_0, cb_1_1⟩ := cells2s Rb_1
    go_wp2
    go_ret
    exact ⟨rfl, B1⟩
  · rw [decide_eq_false c0, Bool.false_or] at ho
    have d0 : ((c : Int) == 0) = false := by rw [beq_eq_false_iff_ne]; omega
    have d7 : ((c : Int) == 7) = o := by
      rw [← ho]
      by_cases c7 : c = 7
      · rw [decide_eq_true c7, c7]; rfl
      · rw [decide_eq_false c7, beq_eq_false_iff_ne]; omega
    clear ho c0
    obtain ⟨Rb_0, B0⟩ := opn1 w (Obj.cells #[.int .u64 (x : Nat), .int .u64 (y : Nat)] 27)
    go_enter Tryz.func24, Tryz.ntmps24
    go_wp2_with fail
    refine (K1.out _).mono ?_
    rintro r w1 ⟨rfl, b1⟩
    have B1 : Below w.heap.size w w1 := btr B0 b1
    have Rb_1 := heap_of b1 _ _ _ Rb_0
    clear b1 B0 Rb_0
    obtain ⟨cb_1_0, cb_1_1⟩ := cells2s Rb_1
    go_wp2
    go_ret
    exact ⟨rfl, B1⟩
end Go.Proofs.YtlpelcfaakfmiaaGreatDoor
namespace Go.Proofs.YtlpelcfaakfmiaaGreatDoor
set_option maxRecDepth 100000
set_option maxHeartbeats 40000000
set_option maxRecDepth 100000
open Go.RowKit WMath XMath
set_option linter.unusedSimpArgs false
set_option linter.unusedVariables false
theorem vX_whole {f : Int} (hf : Is4 f) (n : Nat) (h : 0 < kC f n ∧ kC f n < 7) (h2 : ¬ (kC f n = 3 ∨ kC f n = 4)) : kS f n ≠ 0 ∧ kS f n < 2 ^ 128 ∧ vX f n = ⟨kN f n, od (kS f n), 1, kX f n + (tz (kS f n) : Int)⟩ ∧ (vX f n).can := by
  obtain ⟨l1, l2, l3⟩ := kS_lim hf n
  obtain ⟨a, b, d, e⟩ := k_parts (f := f) n (by omega)
  have l4 : kS f n < 2 ^ 128 := l1
  obtain ⟨w1, w2, w3, w4, w5, w6, w7⟩ := x_whole hf (kN f n) (kS f n) (kX f n) e (by have := (blen_iff (kS f n) 128).2 l4; omega) (by omega) (by omega)
  have := vX_mk hf n h
  rw [w1] at this
  injection this with h3 h4
  exact ⟨e, l4, h3.symm, by rw [← h3]; exact w2⟩
def sumN (sa sb : Bool) (X Y n : Nat) : Nat := if sa = sb then X * 2 ^ n + Y else X * 2 ^ n - Y
theorem sum_rat (sa sb : Bool) (X Y n : Nat) (ey : Int) (hg : Y ≤ X * 2 ^ n) : sgn sa * ((X : Rat) / ((1 : Nat) : Rat)) * (2 : Rat) ^ (ey + (n : Int)) + sgn sb * ((Y : Rat) / ((1 : Nat) : Rat)) * (2 : Rat) ^ ey = sgn sa * (((sumN sa sb X Y n : Nat) : Rat) / ((1 : Nat) : Rat)) * (2 : Rat) ^ ey := by
  have one : ∀ z : Rat, z / ((1 : Nat) : Rat) = z := fun z => by
    rw [show ((1 : Nat) : Rat) = 1 from rfl, Rat.div_def, show (1 : Rat)⁻¹ = 1 by decide +kernel, Rat.mul_one]
  rw [one, one, one, p2add, p2nat]
  generalize (2 : Rat) ^ ey = E
  unfold sumN
  by_cases c : sa = sb
  · subst c
    rw [if_pos rfl, Rat.natCast_add, Rat.natCast_mul]
    generalize ((2 ^ n : Nat) : Rat) = H
    grind
  · rw [if_neg c]
    have hs : sgn sb = - sgn sa := by
      unfold sgn
      cases sa <;> cases sb <;> first | exact absurd rfl c | decide +kernel
    have hN : ((X * 2 ^ n - Y : Nat) : Rat) + (Y : Rat) = (X : Rat) * ((2 ^ n : Nat) : Rat) := by
      rw [← Rat.natCast_add, ← Rat.natCast_mul, Nat.sub_add_cancel hg]
    rw [hs]
    generalize ((2 ^ n : Nat) : Rat) = H at *
    generalize ((X * 2 ^ n - Y : Nat) : Rat) = K at *
    grind
theorem bd_whole (b : Bool) (A : Nat) (x : Int) (A0 : A ≠ 0) (hA : A < 2 ^ 128) (x1 : -20000 ≤ x) (x2 : x ≤ 20000) : Bd ⟨b, od A, 1, x + (tz A : Int)⟩ 128 20200 := by
  have tA := tz_blen A
  have bA := (blen_iff A 128).2 hA
  obtain ⟨o1, o2⟩ := od_is A A0
  have le : od A ≤ A := by
    have p := Nat.two_pow_pos (tz A)
    have := Nat.mul_le_mul_left (od A) p
    rw [Nat.mul_one] at this
    omega
  exact ⟨Nat.lt_of_le_of_lt le hA, by show 1 < 2 ^ 128; decide, by show -((20200 : Nat) : Int) ≤ x + (tz A : Int); omega, by show x + (tz A : Int) ≤ ((20200 : Nat) : Int); omega⟩
theorem add_num {f : Int} (hf : Is4 f) (m : Int) (sa sb : Bool) (X Y n : Nat) (ex ey : Int) (X0 : X ≠ 0) (Y0 : Y ≠ 0) (hX : X < 2 ^ 128) (hY : Y < 2 ^ 128) (hn : ex = ey + (n : Int)) (hg : Y ≤ X * 2 ^ n) (x1 : -20000 ≤ ex) (x2 : ex ≤ 20000) (y1 : -20000 ≤ ey) (y2 : ey ≤ 20000) (N : Nat) (hN : sumN sa sb X Y n = N) (N0 : N ≠ 0) :
    ∃ (k : Nat) (e : Int), addX ⟨sa, od X, 1, ex + (tz X : Int)⟩ ⟨sb, od Y, 1, ey + (tz Y : Int)⟩ = (⟨sa, k, 1, e⟩, 0) ∧ addX ⟨sb, od Y, 1, ey + (tz Y : Int)⟩ ⟨sa, od X, 1, ex + (tz X : Int)⟩ = (⟨sa, k, 1, e⟩, 0) ∧ (XN.mk sa k 1 e).can ∧ nl k ≤ 8192 ∧ k ≠ 0 ∧
      rnd f m ⟨sa, k, 1, e⟩ = dlv f m sa (ey + (blen N : Int) - 1) (qW (pV f + 1) N) (qM (pV f + 1) N false) := by
  have bX := (blen_iff X 128).2 hX
  have bY := (blen_iff Y 128).2 hY
  have bN : blen N ≤ 45000 := by
    have : blen N ≤ 128 + n + 1 := by
      apply blen_le_of
      have h1 : X * 2 ^ n < 2 ^ (128 + n) := by rw [Nat.pow_add]; exact (Nat.mul_lt_mul_right (Nat.two_pow_pos n)).2 hX
      have h2 : N ≤ X * 2 ^ n + X * 2 ^ n := by rw [← hN]; unfold sumN; split <;> omega
      rw [Nat.pow_succ]
      omega
    omega
  obtain ⟨w1, w2, w3, w4, w5, w6, w7⟩ := x_whole hf sa N ey N0 bN (by omega) (by omega)
  obtain ⟨u1, u2, u3, u4, u5, u6, u7⟩ := x_whole hf sa X ex X0 (by omega) (by omega) (by omega)
  obtain ⟨v1, v2, v3, v4, v5, v6, v7⟩ := x_whole hf sb Y ey Y0 (by omega) (by omega) (by omega)
  have wv := mk_val sa N 1 ey (by decide) (by rw [w1])
  have uv := mk_val sa X 1 ex (by decide) (by rw [u1])
  have vv := mk_val sb Y 1 ey (by decide) (by rw [v1])
  rw [w1] at wv
  rw [u1] at uv
  rw [v1] at vv
  have sr := sum_rat sa sb X Y n ey hg
  rw [← hn, hN] at sr
  have hv : (XN.mk sa (od X) 1 (ex + (tz X : Int))).val + (XN.mk sb (od Y) 1 (ey + (tz Y : Int))).val = (XN.mk sa (od N) 1 (ey + (tz N : Int))).val := by
    rw [uv, vv, wv]
    exact sr
  have B1 := bd_whole sa X ex X0 hX x1 x2
  have B2 := bd_whole sb Y ey Y0 hY y1 y2
  refine ⟨od N, ey + (tz N : Int), addX_is _ _ _ u2 v2 w2 B1 B2 hv, addX_is _ _ _ v2 u2 w2 B2 B1 (by rw [Rat.add_comm]; exact hv), w2, w4, w3, ?_⟩
  unfold rnd
  rw [if_neg w3, w5, w6, w7]
theorem kC_all (f : Int) (n : Nat) : (kE f n = oV f ∧ kT f n = 0 ∧ kC f n = if kN f n then 0 else 7) ∨ (kE f n = oV f ∧ kT f n ≠ 0 ∧ kT f n < 2 ^ (pV f - 1) ∧ kC f n = 8) ∨ (kE f n = oV f ∧ 2 ^ (pV f - 1) ≤ kT f n ∧ kC f n = 9) ∨
    (kE f n < oV f ∧ kE f n ≠ 0 ∧ kC f n = if kN f n then 1 else 6) ∨ (kE f n < oV f ∧ kE f n = 0 ∧ kT f n ≠ 0 ∧ kC f n = if kN f n then 2 else 5) ∨ (kE f n < oV f ∧ kE f n = 0 ∧ kT f n = 0 ∧ kC f n = if kN f n then 3 else 4) := by
  have el := kE_le (f := f) n
  have p := Nat.two_pow_pos (pV f - 1)
  unfold kC
  by_cases c1 : kE f n = oV f
  · by_cases c2 : kT f n = 0
    · left
      refine ⟨c1, c2, ?_⟩
      (repeat' split) <;> first | rfl | omega | simp_all
    · by_cases c3 : kT f n < 2 ^ (pV f - 1)
      · right; left
        refine ⟨c1, c2, c3, ?_⟩
        (repeat' split) <;> first | rfl | omega | simp_all
      · right; right; left
        refine ⟨c1, by omega, ?_⟩
        (repeat' split) <;> first | rfl | omega | simp_all
  · by_cases c2 : kE f n = 0
    · by_cases c3 : kT f n = 0
      · right; right; right; right; right
        refine ⟨by omega, c2, c3, ?_⟩
        (repeat' split) <;> first | rfl | omega | simp_all
      · right; right; right; right; left
        refine ⟨by omega, c2, c3, ?_⟩
        (repeat' split) <;> first | rfl | omega | simp_all
    · right; right; right; left
      refine ⟨by omega, c2, ?_⟩
      (repeat' split) <;> first | rfl | omega | simp_all
theorem kC_sign {f : Int} (n : Nat) (h : 0 < kC f n ∧ kC f n < 7) : decide (kC f n ≤ 3) = kN f n := by
  have c := kC_all f n
  cases hn : kN f n
  · rw [hn] at c
    rw [decide_eq_false_iff_not]
    simp only [Bool.false_eq_true, if_false] at c
    omega
  · rw [hn] at c
    rw [decide_eq_true_iff]
    simp only [if_true] at c
    omega
theorem vX_null (f : Int) (n : Nat) (h : kC f n = 3 ∨ kC f n = 4) : vX f n = XMath.X0 := by
  unfold vX
  rw [(k_null n h).1, mk_null]
theorem vX_can {f : Int} (hf : Is4 f) (n : Nat) (h : 0 < kC f n ∧ kC f n < 7) : (vX f n).can := by
  by_cases z : kC f n = 3 ∨ kC f n = 4
  · rw [vX_null f n z]
    exact x0_can
  · exact (vX_whole hf n h z).2.2.2
end Go.Proofs.YtlpelcfaakfmiaaGreatDoor
namespace Go.Proofs.YtlpelcfaakfmiaaGreatDoor
set_option maxRecDepth 100000
set_option maxHeartbeats 40000000
set_option maxRecDepth 100000
open Go.RowKit WMath
set_option linter.unusedSimpArgs false
set_option linter.unusedVariables false
set_option maxRecDepth 100000 in
set_option maxHeartbeats 2000000 in
theorem rh_up (m : Int) (neg odd : Bool) (h : Int) (ex o : Bool) (ho : uP m neg odd h ex = o) (w : World) : Calls Tryz.prog 53 #[.int .u8 m, .bool neg, .bool odd, .int .i64 h, .bool ex] w fun r w' => r = .returned (.bool o) ∧ Below w.heap.size w w' := by
  subst ho
  cases ex
  case true =>
    have B0 : Below w.heap.size w w := (Below.refl _ _)
    go_enter Tryz.func53, Tryz.ntmps53
    go_wp2
    go_ret
    exact ⟨rfl, B0⟩
  unfold uP
  rw [if_neg (by decide)]
  by_cases c2 : m = 2
  · subst c2
    rw [if_pos rfl]
    cases neg
    all_goals
      go_enter Tryz.func53, Tryz.ntmps53
      go_wp2
      go_ret
      exact ⟨rfl, Below.refl _ _⟩
  rw [if_neg c2]
  by_cases c3 : m = 3
  · subst c3
    rw [if_pos rfl]
    cases neg
    all_goals
      go_enter Tryz.func53, Tryz.ntmps53
      go_wp2
      go_ret
      exact ⟨rfl, Below.refl _ _⟩
  rw [if_neg c3]
  have e2 : (m == 2) = false := by simpa using c2
  have e3 : (m == 3) = false := by simpa using c3
  by_cases c0 : m = 0
  · subst c0
    rw [if_pos rfl]
    by_cases p : 0 < h
    · rw [decide_eq_true p, Bool.true_or]
      have d1 : decide (0 < h) = true := decide_eq_true p
      go_enter Tryz.func53, Tryz.ntmps53
      go_wp2
      go_ret
      exact ⟨rfl, Below.refl _ _⟩
    · rw [decide_eq_false p, Bool.false_or]
      have d1 : decide (0 < h) = false := decide_eq_false p
      by_cases z : h = 0
      · subst z
        rw [decide_eq_true rfl, Bool.true_and]
        cases odd
        all_goals
          go_enter Tryz.func53, Tryz.ntmps53
          go_wp2
          go_ret
          exact ⟨rfl, Below.refl _ _⟩
      · rw [decide_eq_false z, Bool.false_and]
        have d2 : (h == 0) = false := by simpa using z
        go_enter Tryz.func53, Tryz.ntmps53
        go_wp2
        go_ret
        exact ⟨rfl, Below.refl _ _⟩
  rw [if_neg c0]
  have e0 : (m == 0) = false := by simpa using c0
  by_cases c4 : m = 4
  · subst c4
    rw [if_pos rfl]
    obtain ⟨o, ho⟩ : ∃ o, decide (0 ≤ h) = o := ⟨_, rfl⟩
    rw [ho]
    go_enter Tryz.func53, Tryz.ntmps53
    go_wp2
    go_ret
    exact ⟨rfl, Below.refl _ _⟩
  rw [if_neg c4]
  have e4 : (m == 4) = false := by simpa using c4
  go_enter Tryz.func53, Tryz.ntmps53
  go_wp2
  go_ret
  exact ⟨rfl, Below.refl _ _⟩
end Go.Proofs.YtlpelcfaakfmiaaGreatDoor
namespace Go.Proofs.YtlpelcfaakfmiaaGreatDoor
set_option maxRecDepth 100000
set_option maxHeartbeats 40000000
set_option maxRecDepth 100000
open Go.RowKit WMath XMath
set_option linter.unusedSimpArgs false
set_option linter.unusedVariables false
def hfR (x : XN) : Int := if (flX x (-1)).1.1 % 2 = 1 then (if (flX x (-1)).1.2 then 0 else 1) else -1
def tiR (f m : Int) (n : Nat) : Nat × Bool :=
  if (flX (vX f n) 0).1.2 then ((flX (vX f n) 0).1.1, true)
  else ((flX (vX f n) 0).1.1 + (if uP m (vX f n).b (decide ((flX (vX f n) 0).1.1 % 2 = 1)) (hfR (vX f n)) false then 1 else 0), false)
def loM (k : Int) : Nat := if k = 0 then 2147483648 else if k = 2 then 9223372036854775808 else 0
def hiM (k : Int) : Nat := if k = 0 then 2147483647 else if k = 1 then 4294967295 else if k = 2 then 9223372036854775807 else 18446744073709551615
def leW (k : Int) : Nat := if k = 0 then 18446744071562067968 else if k = 2 then 9223372036854775808 else 0
def grW (k : Int) : Nat := if k = 0 then 2147483647 else if k = 2 then 9223372036854775807 else 18446744073709551615
def rgW (k : Int) (neg : Bool) (N : Nat) : Nat :=
  if k = 0 ∨ k = 1 then sx (if neg then (18446744073709551616 - N % 18446744073709551616) % 18446744073709551616 else N % 18446744073709551616) 32
  else (if neg then (18446744073709551616 - N % 18446744073709551616) % 18446744073709551616 else N % 18446744073709551616)
def tiC (k : Int) (neg : Bool) (N : Nat) (ex : Bool) : Nat × Int :=
  if neg = true ∧ loM k < N then (leW k, 16) else if neg = false ∧ hiM k < N then (grW k, 16) else (rgW k neg N, if ex then 0 else 1)
def tiX (k f m : Int) (n : Nat) : Nat × Int :=
  if 8 ≤ kC f n then (grW k, 16) else if kC f n = 0 then (leW k, 16) else if kC f n = 7 then (grW k, 16) else tiC k (kN f n) (tiR f m n).1 (tiR f m n).2
def flS (S : Nat) (X a : Int) : Nat × Bool := if a ≤ X then (S * 2 ^ (X - a).toNat, true) else (S / 2 ^ (a - X).toNat, decide (S % 2 ^ (a - X).toNat = 0))
theorem fl_odd (b : Bool) (n : Nat) (e a : Int) (ho : n % 2 = 1) (a1 : -2097152 ≤ a) (a2 : a ≤ 2097152) (hl : nl (n * 2 ^ (e - a).toNat) ≤ 16384) : flX ⟨b, n, 1, e⟩ a = (flS n e a, 0) := by
  have n0 : n ≠ 0 := by omega
  unfold flS
  by_cases c : a ≤ e
  · rw [if_pos c]
    exact fl_yes ⟨b, n, 1, e⟩ a n0 rfl c a1 a2 hl
  · rw [if_neg c]
    have m : decide (n % 2 ^ (a - e).toNat = 0) = false := by
      obtain ⟨i, hi⟩ : ∃ i, (a - e).toNat = i + 1 := ⟨(a - e).toNat - 1, by omega⟩
      rw [hi]
      refine decide_eq_false (fun q => ?_)
      have := (mod_pow_zero n 1 i).1 (by rw [Nat.add_comm]; exact q)
      omega
    have t := top_whole b n e n0
    rw [m]
    by_cases d : topX ⟨b, n, 1, e⟩ < a
    · have z : flX ⟨b, n, 1, e⟩ a = ((0, false), 0) := by
        unfold flX
        rw [if_neg (by omega), if_neg n0, if_neg c, if_pos d]
      have lt : n < 2 ^ (a - e).toNat := Nat.lt_of_lt_of_le (blen_lt n) (Nat.pow_le_pow_right (by decide) (by omega))
      rw [z, Nat.div_eq_of_lt lt]
    · unfold flX
      rw [if_neg (by omega), if_neg n0, if_neg c, if_neg d, Nat.one_mul]
theorem flS_shift (o t : Nat) (X a : Int) : flS (o * 2 ^ t) X a = flS o (X + (t : Int)) a := by
  unfold flS
  by_cases c : a ≤ X
  · rw [if_pos c, if_pos (by omega), Nat.mul_assoc, ← Nat.pow_add, show t + (X - a).toNat = (X + (t : Int) - a).toNat by omega]
  · rw [if_neg c]
    by_cases d : a ≤ X + (t : Int)
    · rw [if_pos d]
      have e : t = (X + (t : Int) - a).toNat + (a - X).toNat := by omega
      have e2 : o * 2 ^ t = o * 2 ^ (X + (t : Int) - a).toNat * 2 ^ (a - X).toNat := by rw [Nat.mul_assoc, ← Nat.pow_add, ← e]
      rw [e2, Nat.mul_div_cancel _ (Nat.two_pow_pos _), Nat.mul_mod_left, decide_eq_true rfl]
    · rw [if_neg d]
      have e : (a - X).toNat = (a - (X + (t : Int))).toNat + t := by omega
      rw [e, Nat.pow_add, Nat.mul_div_mul_right _ _ (Nat.two_pow_pos _), Nat.mul_mod_mul_right]
      have : (o % 2 ^ (a - (X + (t : Int))).toNat * 2 ^ t = 0) ↔ (o % 2 ^ (a - (X + (t : Int))).toNat = 0) := by
        have := Nat.two_pow_pos t
        rw [Nat.mul_eq_zero]
        omega
      rw [decide_eq_decide.2 this]
theorem fl_parts {f : Int} (hf : Is4 f) (n : Nat) (h : 0 < kC f n ∧ kC f n < 7) (a : Int) (a1 : -1 ≤ a) (a2 : a ≤ 0) : flX (vX f n) a = (flS (kS f n) (kX f n) a, 0) := by
  obtain ⟨s1, s2, s3⟩ := kS_lim hf n
  by_cases z : kC f n = 3 ∨ kC f n = 4
  · rw [vX_null f n z]
    have s0 : kS f n = 0 := by
      have := (k_null (f := f) n z).1
      exact this
    rw [s0]
    unfold flX flS X0
    rw [if_neg (by omega), if_pos rfl]
    split
    · rw [Nat.zero_mul]
    · rw [Nat.zero_div, Nat.zero_mod, decide_eq_true rfl]
  · obtain ⟨n0, l, e, _⟩ := vX_whole hf n h z
    obtain ⟨o1, o2⟩ := od_is (kS f n) n0
    rw [e]
    have tl := tz_blen (kS f n)
    have bl : blen (kS f n) ≤ 128 := (blen_iff _ 128).2 l
    have od0 : od (kS f n) ≠ 0 := by omega
    have bs := blen_shift (od (kS f n)) (tz (kS f n)) od0
    rw [← o1] at bs
    rw [fl_odd (kN f n) (od (kS f n)) (kX f n + (tz (kS f n) : Int)) a o2 (by omega) (by omega) (by
      have sh := blen_shift (od (kS f n)) (kX f n + (tz (kS f n) : Int) - a).toNat od0
      unfold nl
      omega), ← flS_shift, ← o1]
def tiS (m : Int) (neg : Bool) (S : Nat) (X : Int) : Nat × Bool :=
  if 0 ≤ X then (S * 2 ^ X.toNat, true)
  else (S / 2 ^ (-X).toNat + (if uP m neg (decide (S / 2 ^ (-X).toNat % 2 = 1)) (hfV (decide (S / 2 ^ ((-X).toNat - 1) % 2 = 1)) (decide (S % 2 ^ ((-X).toNat - 1) ≠ 0))) (decide (S % 2 ^ (-X).toNat = 0)) then 1 else 0), decide (S % 2 ^ (-X).toNat = 0))
theorem vX_b {f : Int} (hf : Is4 f) (n : Nat) (h : 0 < kC f n ∧ kC f n < 7) (z : ¬ (kC f n = 3 ∨ kC f n = 4)) : (vX f n).b = kN f n := by
  obtain ⟨n0, l, e, _⟩ := vX_whole hf n h z
  rw [e]
theorem tiR_parts {f : Int} (hf : Is4 f) (m : Int) (n : Nat) (h : 0 < kC f n ∧ kC f n < 7) : tiR f m n = tiS m (kN f n) (kS f n) (kX f n) := by
  unfold tiR tiS
  rw [fl_parts hf n h 0 (by decide) (by decide)]
  unfold flS
  by_cases c : 0 ≤ kX f n
  · rw [if_pos c, if_pos c]
    simp only [if_true, Int.sub_zero]
  · rw [if_neg c, if_neg c]
    simp only
    rw [show (0 - kX f n) = -kX f n by omega]
    by_cases d : kS f n % 2 ^ (-kX f n).toNat = 0
    · rw [decide_eq_true d, if_pos rfl]
      unfold uP
      rw [if_pos rfl, if_neg (by decide), Nat.add_zero]
    · rw [decide_eq_false d, if_neg (by decide)]
      have z : ¬ (kC f n = 3 ∨ kC f n = 4) := by
        intro q
        rw [(k_null n q).1, Nat.zero_mod] at d
        exact d rfl
      rw [vX_b hf n h z]
      have e : hfR (vX f n) = hfV (decide (kS f n / 2 ^ ((-kX f n).toNat - 1) % 2 = 1)) (decide (kS f n % 2 ^ ((-kX f n).toNat - 1) ≠ 0)) := by
        unfold hfR
        rw [fl_parts hf n h (-1) (by decide) (by decide)]
        unfold flS
        by_cases c1 : -1 ≤ kX f n
        · have : kX f n = -1 := by omega
          rw [if_pos c1, this]
          simp only [show ((-1 : Int) - -1).toNat = 0 from rfl, show (-(-1 : Int)).toNat - 1 = 0 from rfl, Nat.pow_zero, Nat.mul_one, Nat.div_one, Nat.mod_one]
          unfold hfV
          by_cases q : kS f n % 2 = 1
          · rw [if_pos q, decide_eq_true q]; rfl
          · rw [if_neg q, decide_eq_false q]; rfl
        · rw [if_neg c1, show (-1 - kX f n).toNat = (-kX f n).toNat - 1 by omega]
          simp only
          unfold hfV
          by_cases q : kS f n / 2 ^ ((-kX f n).toNat - 1) % 2 = 1
          · rw [if_pos q, decide_eq_true q]
            by_cases r : kS f n % 2 ^ ((-kX f n).toNat - 1) = 0
            · rw [decide_eq_true r, decide_eq_false (fun k => k r)]; rfl
            · rw [decide_eq_false r, decide_eq_true r]; rfl
          · rw [if_neg q, decide_eq_false q]
            rfl
      rw [e]
theorem tiS_lt {f : Int} (hf : Is4 f) (m : Int) (n Z : Nat) (hZ : Z = 20000) : (tiS m (kN f n) (kS f n) (kX f n)).1 < 2 ^ (129 + Z) := by
  obtain ⟨s1, s2, s3⟩ := kS_lim hf n
  have e : (2 : Nat) ^ 128 = 340282366920938463463374607431768211456 := by decide
  unfold tiS
  split
  · have p := Nat.pow_le_pow_right (show 0 < 2 by decide) (show (kX f n).toNat ≤ Z by omega)
    have l := Nat.mul_le_mul (Nat.le_of_lt s1) p
    refine Nat.lt_of_le_of_lt l ?_
    rw [← e, ← Nat.pow_add]
    exact Nat.pow_lt_pow_right (by decide) (by omega)
  · have l : kS f n / 2 ^ (-kX f n).toNat ≤ kS f n := Nat.div_le_self _ _
    have : (2 : Nat) ^ 129 ≤ 2 ^ (129 + Z) := Nat.pow_le_pow_right (by decide) (by omega)
    have e2 : (2 : Nat) ^ 129 = 680564733841876926926749214863536422912 := by decide
    refine Nat.lt_of_lt_of_le ?_ this
    simp only
    split <;> omega
theorem tiS_nl {f : Int} (hf : Is4 f) (m : Int) (n : Nat) : nl (tiS m (kN f n) (kS f n) (kX f n)).1 ≤ 2600 := by
  obtain ⟨Z, hZ⟩ : ∃ Z, Z = 20000 := ⟨_, rfl⟩
  have := (blen_iff _ (129 + Z)).2 (tiS_lt hf m n Z hZ)
  unfold nl
  omega
end Go.Proofs.YtlpelcfaakfmiaaGreatDoor
