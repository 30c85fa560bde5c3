/-
  What the functions that the statement reaches return: part 13 (O1, D1, M2, O5, A1, A3, A5, Z0, O4, FJ, F1, FK).
-/
import Derived.Test.YtapikkbifdldfaaGreatDoorFi12
namespace Go.Proofs.YtapikkbifdldfaaGreatDoor
set_option maxRecDepth 100000
set_option maxHeartbeats 40000000
set_option maxRecDepth 100000
open Go.RowKit WMath
set_option linter.unusedSimpArgs false
set_option linter.unusedVariables false
theorem op_endless (c : Nat) (o : Bool) (ho : (decide (c = 0) || decide (c = 7)) = o) (w : World) : Calls Tryz.prog 70 #[.int .u8 (c : Nat)] w fun r w' => r = .returned (.bool o) ∧ Below w.heap.size w w' := by
  by_cases c0 : c = 0
  · rw [decide_eq_true c0, Bool.true_or] at ho
    subst ho
    have d0 : ((c : Int) == 0) = true := by rw [c0]; rfl
    clear c0
    have B0 : Below w.heap.size w w := (Below.refl _ _)
    go_enter Tryz.func70, Tryz.ntmps70
    go_wp2
    go_ret
    exact ⟨rfl, B0⟩
  · rw [decide_eq_false c0, Bool.false_or] at ho
    have d0 : ((c : Int) == 0) = false := by rw [beq_eq_false_iff_ne]; omega
    have d7 : ((c : Int) == 7) = o := by
      rw [← ho]
      by_cases c7 : c = 7
      · rw [decide_eq_true c7, c7]; rfl
      · rw [decide_eq_false c7, beq_eq_false_iff_ne]; omega
    clear ho c0
    have B0 : Below w.heap.size w w := (Below.refl _ _)
    go_enter Tryz.func70, Tryz.ntmps70
    go_wp2
    go_ret
    exact ⟨rfl, B0⟩
theorem op_naught (c : Nat) (o : Bool) (ho : (decide (c = 3) || decide (c = 4)) = o) (w : World) : Calls Tryz.prog 71 #[.int .u8 (c : Nat)] w fun r w' => r = .returned (.bool o) ∧ Below w.heap.size w w' := by
  by_cases c0 : c = 3
  · rw [decide_eq_true c0, Bool.true_or] at ho
    subst ho
    have d0 : ((c : Int) == 3) = true := by rw [c0]; rfl
    clear c0
    have B0 : Below w.heap.size w w := (Below.refl _ _)
    go_enter Tryz.func71, Tryz.ntmps71
    go_wp2
    go_ret
    exact ⟨rfl, B0⟩
  · rw [decide_eq_false c0, Bool.false_or] at ho
    have d0 : ((c : Int) == 3) = false := by rw [beq_eq_false_iff_ne]; omega
    have d7 : ((c : Int) == 4) = o := by
      rw [← ho]
      by_cases c7 : c = 4
      · rw [decide_eq_true c7, c7]; rfl
      · rw [decide_eq_false c7, beq_eq_false_iff_ne]; omega
    clear ho c0
    have B0 : Below w.heap.size w w := (Below.refl _ _)
    go_enter Tryz.func71, Tryz.ntmps71
    go_wp2
    go_ret
    exact ⟨rfl, B0⟩
set_option maxRecDepth 100000 in
theorem op_inf (f : Int) (neg : Bool) (u v : Nat) (w : World) (KI : Box (∀ w, FAt w → Calls Tryz.prog 76 #[.int .u8 f, .int .u8 0, .bool neg] w fun r w' => r = .returned (.tuple #[.agg #[.int .u64 (u : Nat), .int .u64 (v : Nat)], .int .u8 5, .int .i64 0]) ∧ Below w.heap.size w w')) (hT : FAt w) : Calls Tryz.prog 36 #[.int .u8 f, .bool neg] w fun r w' => r = .returned (.agg #[.int .u64 (u : Nat), .int .u64 (v : Nat)]) ∧ Below w.heap.size w w' := by
  have FF := box hT
  clear hT
  obtain ⟨Rz_0, B0⟩ := opn1 w (Obj.cells #[.int .u64 0, .int .u64 0] 26)
  go_enter Tryz.func36, Tryz.ntmps36
  go_wp2_with fail
  refine (KI.out _ (fatB FF.out B0)).mono ?_
  rintro r w1 ⟨rfl, b1⟩
  have B1 : Below w.heap.size w w1 := btr B0 b1
  have Rz_1 := heap_of b1 _ _ _ Rz_0
  clear b1 B0 Rz_0
  obtain ⟨cz_1_0, cz_1_1⟩ := cells2s Rz_1
  have S2 := box B1.size
  have Lz_2 : Box (w.heap.size < w1.heap.size) := box (Array.getElem?_eq_some_iff.1 Rz_1).1
  have Ri_2 := heap_alloc_last w1 (Obj.cells #[.int .u64 (u : Nat), .int .u64 (v : Nat)] 26)
  have B2 := btr B1 (bal w1 (Obj.cells #[.int .u64 (u : Nat), .int .u64 (v : Nat)] 26))
  have Rz_2 := heap_of (bal w1 (Obj.cells #[.int .u64 (u : Nat), .int .u64 (v : Nat)] 26)) _ _ _ Rz_1
  clear B1 Rz_1 cz_1_0 cz_1_1
  obtain ⟨cz_2_0, cz_2_1⟩ := cells2s Rz_2
  obtain ⟨ci_2_0, ci_2_1⟩ := cells2s Ri_2
  have q0 := fz (k := 0) Rz_2
  have q1 := fz (k := 1) Rz_2
  obtain ⟨E0, E1⟩ := set2_cells Rz_2 (.int .u64 (u : Nat)) (.int .u64 (v : Nat))
  go_wp2
  exact bodyPost_ret (v := .agg #[.int .u64 (u : Nat), .int .u64 (v : Nat)]) (by simp [results, Tryz.results36, go_sem, E0, E1]) rfl ⟨rfl, set2_below B2 (by first | exact Nat.le_refl _ | omega | (have := S2.out; have := Lz_2.out; omega)) _ _⟩
set_option maxRecDepth 100000 in
set_option maxHeartbeats 4000000 in
theorem op_nan (f : Int) (iu iv a b c u v : Nat) (l o : Bool) (w : World) (KI : Box (∀ w, FAt w → Calls Tryz.prog 36 #[.int .u8 f, .bool false] w fun r w' => r = .returned (.agg #[.int .u64 (iu : Nat), .int .u64 (iv : Nat)]) ∧ Below w.heap.size w w'))
    (KO : Box (∀ w, Calls Tryz.prog 72 #[.agg #[.int .u64 (iu : Nat), .int .u64 (iv : Nat)]] w fun r w' => r = .returned (.agg (cw 6 a)) ∧ Below w.heap.size w w'))
    (KR : Box (∀ w, Calls Tryz.prog 73 #[.agg (cw 6 a), .int .i64 1] w fun r w' => r = .returned (.tuple #[.agg (cw 6 b), .bool l]) ∧ Below w.heap.size w w'))
    (KU : Box (∀ w, Calls Tryz.prog 75 #[.agg (cw 6 a), .agg (cw 6 b)] w fun r w' => r = .returned (.agg (cw 6 c)) ∧ Below w.heap.size w w'))
    (KT : Box (∀ w, Calls Tryz.prog 74 #[.agg (cw 6 c)] w fun r w' => r = .returned (.tuple #[.agg #[.int .u64 (u : Nat), .int .u64 (v : Nat)], .bool o]) ∧ Below w.heap.size w w')) (hT : FAt w) : Calls Tryz.prog 35 #[.int .u8 f] w fun r w' => r = .returned (.agg #[.int .u64 (u : Nat), .int .u64 (v : Nat)]) ∧ Below w.heap.size w w' := by
  have FF := box hT
  clear hT
  have hat := cw_at 6
  have hz := cw6z
  have hff := cw6f
  have hs0 := st0
  have hcs : ∀ x, ((cw 6 x).size = 6) = True := fun x => eq_true (cw_size 6 x)
  obtain ⟨Rz_0, B0⟩ := opn1 w (Obj.cells #[.int .u64 0, .int .u64 0] 26)
  go_enter Tryz.func35, Tryz.ntmps35
  go_wp2_with fail
  refine (KI.out _ (fatB FF.out B0)).mono ?_
  rintro r w1 ⟨rfl, b1⟩
  have B1 : Below w.heap.size w w1 := btr B0 b1
  have Rz_1 := heap_of b1 _ _ _ Rz_0
  clear b1 B0 Rz_0
  obtain ⟨cz_1_0, cz_1_1⟩ := cells2s Rz_1
  go_wp2_with fail
  refine (KO.out _).mono ?_
  rintro r w2 ⟨rfl, b2⟩
  have B2 : Below w.heap.size w w2 := btr B1 b2
  have Rz_2 := heap_of b2 _ _ _ Rz_1
  clear b2 B1 Rz_1 cz_1_0 cz_1_1
  obtain ⟨cz_2_0, cz_2_1⟩ := cells2s Rz_2
  have S3 := box B2.size
  have Lz_3 : Box (w.heap.size < w2.heap.size) := box (Array.getElem?_eq_some_iff.1 Rz_2).1
  have Ra_3 := heap_alloc_last w2 (Obj.cells (cw 6 a) 52)
  have B3 := btr B2 (bal w2 (Obj.cells (cw 6 a) 52))
  have Rz_3 := heap_of (bal w2 (Obj.cells (cw 6 a) 52)) _ _ _ Rz_2
  clear B2 Rz_2 cz_2_0 cz_2_1
  obtain ⟨cz_3_0, cz_3_1⟩ := cells2s Rz_3
  have ca_3_0 := row_cell Ra_3
  go_wp2_with fail
  refine (KR.out _).mono ?_
  rintro r w4 ⟨rfl, b4⟩
  have B4 : Below w.heap.size w w4 := btr B3 b4
  have Rz_4 := heap_of b4 _ _ _ Rz_3
  have Ra_4 := heap_of b4 _ _ _ Ra_3
  clear b4 B3 Rz_3 cz_3_0 cz_3_1 Ra_3 ca_3_0
  obtain ⟨cz_4_0, cz_4_1⟩ := cells2s Rz_4
  have ca_4_0 := row_cell Ra_4
  have S5 := box B4.size
  have Lz_5 : Box (w.heap.size < w4.heap.size) := box (Array.getElem?_eq_some_iff.1 Rz_4).1
  have La_5 : Box (w2.heap.size < w4.heap.size) := box (Array.getElem?_eq_some_iff.1 Ra_4).1
  have Rb_5 := heap_alloc_last w4 (Obj.cells (cw 6 b) 52)
  have B5 := btr B4 (bal w4 (Obj.cells (cw 6 b) 52))
  have Rz_5 := heap_of (bal w4 (Obj.cells (cw 6 b) 52)) _ _ _ Rz_4
  have Ra_5 := heap_of (bal w4 (Obj.cells (cw 6 b) 52)) _ _ _ Ra_4
  clear B4 Rz_4 cz_4_0 cz_4_1 Ra_4 ca_4_0
  obtain ⟨cz_5_0, cz_5_1⟩ := cells2s Rz_5
  have ca_5_0 := row_cell Ra_5
  have cb_5_0 := row_cell Rb_5
  go_wp2_with fail
  refine (KU.out _).mono ?_
  rintro r w6 ⟨rfl, b6⟩
  have B6 : Below w.heap.size w w6 := btr B5 b6
  have Rz_6 := heap_of b6 _ _ _ Rz_5
  have Ra_6 := heap_of b6 _ _ _ Ra_5
  have Rb_6 := heap_of b6 _ _ _ Rb_5
  clear b6 B5 Rz_5 cz_5_0 cz_5_1 Ra_5 ca_5_0 Rb_5 cb_5_0
  obtain ⟨cz_6_0, cz_6_1⟩ := cells2s Rz_6
  have ca_6_0 := row_cell Ra_6
  have cb_6_0 := row_cell Rb_6
  go_wp2_with fail
  refine (KT.out _).mono ?_
  rintro r w7 ⟨rfl, b7⟩
  have B7 : Below w.heap.size w w7 := btr B6 b7
  have Rz_7 := heap_of b7 _ _ _ Rz_6
  have Ra_7 := heap_of b7 _ _ _ Ra_6
  have Rb_7 := heap_of b7 _ _ _ Rb_6
  clear b7 B6 Rz_6 cz_6_0 cz_6_1 Ra_6 ca_6_0 Rb_6 cb_6_0
  obtain ⟨cz_7_0, cz_7_1⟩ := cells2s Rz_7
  have ca_7_0 := row_cell Ra_7
  have cb_7_0 := row_cell Rb_7
  have S8 := box B7.size
  have Lz_8 : Box (w.heap.size < w7.heap.size) := box (Array.getElem?_eq_some_iff.1 Rz_7).1
  have La_8 : Box (w2.heap.size < w7.heap.size) := box (Array.getElem?_eq_some_iff.1 Ra_7).1
  have Lb_8 : Box (w4.heap.size < w7.heap.size) := box (Array.getElem?_eq_some_iff.1 Rb_7).1
  have Rt_8 := heap_alloc_last w7 (Obj.cells #[.int .u64 (u : Nat), .int .u64 (v : Nat)] 26)
  have B8 := btr B7 (bal w7 (Obj.cells #[.int .u64 (u : Nat), .int .u64 (v : Nat)] 26))
  have Rz_8 := heap_of (bal w7 (Obj.cells #[.int .u64 (u : Nat), .int .u64 (v : Nat)] 26)) _ _ _ Rz_7
  have Ra_8 := heap_of (bal w7 (Obj.cells #[.int .u64 (u : Nat), .int .u64 (v : Nat)] 26)) _ _ _ Ra_7
  have Rb_8 := heap_of (bal w7 (Obj.cells #[.int .u64 (u : Nat), .int .u64 (v : Nat)] 26)) _ _ _ Rb_7
  clear B7 Rz_7 cz_7_0 cz_7_1 Ra_7 ca_7_0 Rb_7 cb_7_0
  obtain ⟨cz_8_0, cz_8_1⟩ := cells2s Rz_8
  have ca_8_0 := row_cell Ra_8
  have cb_8_0 := row_cell Rb_8
  obtain ⟨ct_8_0, ct_8_1⟩ := cells2s Rt_8
  have q0 := fz (k := 0) Rz_8
  have q1 := fz (k := 1) Rz_8
  obtain ⟨E0, E1⟩ := set2_cells Rz_8 (.int .u64 (u : Nat)) (.int .u64 (v : Nat))
  go_wp2
  exact bodyPost_ret (v := .agg #[.int .u64 (u : Nat), .int .u64 (v : Nat)]) (by simp [results, Tryz.results35, go_sem, E0, E1]) rfl ⟨rfl, set2_below B8 (by first | exact Nat.le_refl _ | omega | (have := S3.out; have := Lz_3.out; have := S5.out; have := Lz_5.out; have := La_5.out; have := S8.out; have := Lz_8.out; have := La_8.out; have := Lb_8.out; omega)) _ _⟩
def bls (l : List (Nat × Nat)) : Array Value := (l.flatMap fun p => [Value.int .u64 (p.1 : Nat), Value.int .u64 (p.2 : Nat)]).toArray
def okP (f : Int) (p : Nat × Nat) : Bool := okB f (p.2 + 18446744073709551616 * p.1)
theorem bls_at (l : List (Nat × Nat)) (k : Nat) (p : Nat × Nat) (h : l[k]? = some p) : (bls l)[k * 2]? = some (.int .u64 (p.1 : Nat)) ∧ (bls l)[k * 2 + 1]? = some (.int .u64 (p.2 : Nat)) := by
  unfold bls
  rw [List.getElem?_toArray, List.getElem?_toArray]
  induction l generalizing k with
  | nil => simp at h
  | cons a t ih =>
    cases k with
    | zero =>
      simp at h
      subst h
      simp
    | succ k =>
      simp only [List.getElem?_cons_succ] at h
      have := ih k h
      rw [show (k + 1) * 2 = k * 2 + 1 + 1 by omega]
      simpa using this
theorem bls_cell {w : World} {g : Nat} {T : TypeId} {l : List (Nat × Nat)} (row : w.heap[g]? = some (.cells (bls l) T)) (k : Nat) (p : Nat × Nat) (h : l[k]? = some p) : w.cell? ⟨g, k * 2, none⟩ = some (.int .u64 (p.1 : Nat)) ∧ w.cell? ⟨g, k * 2 + 1, none⟩ = some (.int .u64 (p.2 : Nat)) := by
  obtain ⟨a, b⟩ := bls_at l k p h
  exact ⟨(cell_of_row w g (k * 2) _ _ _ row).trans a, (cell_of_row w g (k * 2 + 1) _ _ _ row).trans b⟩
set_option maxRecDepth 100000 in
set_option maxHeartbeats 8000000 in
theorem op_may_no (f m : Int) (pu pv : Nat) (fl c : Int) (sl : Value) (hc : (c != 0) = true) (w : World)
    (KP : Box (∀ w, FAt w → Calls Tryz.prog 37 #[.int .u8 f, .int .u8 m, .agg (rg false 0 0 false)] w fun r w' => r = .returned (.tuple #[.agg #[.int .u64 (pu : Nat), .int .u64 (pv : Nat)], .int .u8 fl, .int .i64 c]) ∧ Below w.heap.size w w')) (hT : FAt w) : Calls Tryz.prog 32 #[.int .u8 f, .int .u8 m, sl] w fun r w' => r = .returned (.bool false) ∧ Below w.heap.size w w' := by
  have FF := box hT
  clear hT
  have hp3 := rgz
  have B0 : Below w.heap.size w w := (Below.refl _ _)
  go_enter Tryz.func32, Tryz.ntmps32
  go_wp2_with fail
  refine (KP.out _ (fatB FF.out B0)).mono ?_
  rintro r w1 ⟨rfl, b1⟩
  have B1 : Below w.heap.size w w1 := btr B0 b1
  clear b1 B0 
  have S2 := box B1.size
  have Rp_2 := heap_alloc_last w1 (Obj.cells #[.int .u64 (pu : Nat), .int .u64 (pv : Nat)] 26)
  have B2 := btr B1 (bal w1 (Obj.cells #[.int .u64 (pu : Nat), .int .u64 (pv : Nat)] 26))
  clear B1 
  obtain ⟨cp_2_0, cp_2_1⟩ := cells2s Rp_2
  go_wp2
  go_ret
  exact ⟨rfl, B2⟩
theorem kClass_any (f : Int) (hf : Is4 f) (p : Nat × Nat) (h : p.1 < 18446744073709551616 ∧ p.2 < 18446744073709551616) (o : Bool) (ho : okP f p = o) : ∃ (c e : Int), (e != 0) = (!o) ∧ Box (∀ w, FAt w → Calls Tryz.prog 68 #[.int .u8 f, .agg #[.int .u64 (p.1 : Nat), .int .u64 (p.2 : Nat)]] w fun r w' => r = .returned (.tuple #[.int .u8 c, .int .i64 e]) ∧ Below w.heap.size w w') := by
  have h0 : 0 ≤ f ∧ f ≤ 255 := by rcases hf with rfl | rfl | rfl | rfl <;> decide
  cases o
  · exact ⟨0, 2, rfl, box (fun w hT => kClass_no f h0.1 h0.2 p.1 p.2 _ h.1 h.2 rfl ho w hT)⟩
  · exact ⟨_, 0, rfl, box (fun w hT => kClass_yes f hf p.1 p.2 _ _ h.1 h.2 rfl ho rfl w hT)⟩
set_option maxRecDepth 100000 in
set_option maxHeartbeats 8000000 in
theorem op_may (f m : Int) (hf : Is4 f) (l : List (Nat × Nat)) (L g c : Nat) (T : TypeId) (w : World) (hl : l.length = L) (hL : L ≤ 1000) (hb : Box (∀ p ∈ l, p.1 < 18446744073709551616 ∧ p.2 < 18446744073709551616)) (row : w.heap[g]? = some (.cells (bls l) T)) (pu pv : Nat) (fl : Int)
    (KP : Box (∀ w, FAt w → Calls Tryz.prog 37 #[.int .u8 f, .int .u8 m, .agg (rg false 0 0 false)] w fun r w' => r = .returned (.tuple #[.agg #[.int .u64 (pu : Nat), .int .u64 (pv : Nat)], .int .u8 fl, .int .i64 0]) ∧ Below w.heap.size w w'))
    (o : Bool) (ho : l.all (okP f) = o) (hT : FAt w) : Calls Tryz.prog 32 #[.int .u8 f, .int .u8 m, .slice (some ⟨g, 0, none⟩) L c] w fun r w' => r = .returned (.bool o) ∧ Below w.heap.size w w' := by
  have FF := box hT
  have HO := box ho
  have HL := box hl
  have HF := box hf
  clear ho hl hT hf
  have hp3 := rgz
  go_enter Tryz.func32, Tryz.ntmps32
  go_wp2_with fail
  refine (KP.out _ FF.out).mono ?_
  rintro r w1 ⟨rfl, b1⟩
  have BP := btr b1 (bal w1 (.cells #[.int .u64 (pu : Nat), .int .u64 (pv : Nat)] 26))
  obtain ⟨V, hV⟩ : ∃ V, w1.alloc (.cells #[.int .u64 (pu : Nat), .int .u64 (pv : Nat)] 26) = V := ⟨_, rfl⟩
  go_wp2
  rw [hV] at BP
  clear b1 KP hV
  go_loopw [26] (fun iv wr => ∃ k : Nat, k ≤ L ∧ iv = .int .i64 k ∧ Below w.heap.size w wr ∧ Box (∀ j p, j < k → l[j]? = some p → okP f p = true)) (fun iv _ => L - (intOf iv).toNat)
  case atStart => exact ⟨0, by omega, rfl, BP, box (fun j s hj => absurd hj (by omega))⟩
  case round =>
    obtain ⟨k, hk, rfl, bw, HA⟩ := hrel
    by_cases hlt : k < L
    · obtain ⟨p, hs⟩ : ∃ p, l[k]? = some p := ⟨_, List.getElem?_eq_getElem (by rw [HL.out]; exact hlt)⟩
      obtain ⟨c1, c2⟩ := bls_cell (heap_of bw _ _ _ row) k p hs
      have dl : decide ((k : Int) < (L : Int)) = true := decide_eq_true (by omega)
      have HS := box hs
      obtain ⟨o1, hm⟩ : ∃ o1, okP f p = o1 := ⟨_, rfl⟩
      have HM := box hm
      obtain ⟨cc, ee, hee, KC⟩ := kClass_any f HF.out p (hb.out p (List.mem_of_getElem? hs)) o1 hm
      have FA : Box (FAt (wr.alloc (.cells #[.int .u64 (p.1 : Nat), .int .u64 (p.2 : Nat)] 26))) := box (fatB FF.out (btr bw (bal _ _)))
      have BA := btr bw (bal wr (.cells #[.int .u64 (p.1 : Nat), .int .u64 (p.2 : Nat)] 26))
      clear hs hm
      cases o1
      · have e : o = false := by
          rw [← HO.out, Bool.eq_false_iff]
          intro h
          rw [List.all_eq_true] at h
          have := h p (List.mem_of_getElem? HS.out)
          rw [HM.out] at this
          exact absurd this (by decide)
        subst e
        go_wp2_with fail
        refine (KC.out _ FA.out).mono ?_
        rintro r w2 ⟨rfl, b2⟩
        go_wp2
        go_ret
        exact ⟨rfl, btr BA b2⟩
      · have NA : Box (∀ j p, j < k + 1 → l[j]? = some p → okP f p = true) := box (fun j p2 hj h2 => by
          by_cases e : j = k
          · subst e
            rw [HS.out] at h2
            cases h2
            exact HM.out
          · exact HA.out j p2 (by omega) h2)
        go_wp2_with fail
        refine (KC.out _ FA.out).mono ?_
        rintro r w2 ⟨rfl, b2⟩
        go_wp2
        go_roundw
        case rel => exact ⟨k + 1, by omega, by go_num, btr BA b2, NA⟩
        case measure => simp [intOf] <;> omega
    · obtain rfl : k = L := by omega
      have e : o = true := by
        rw [← HO.out, List.all_eq_true]
        intro s hs
        obtain ⟨j, hj⟩ := List.mem_iff_getElem?.1 hs
        have := (List.getElem?_eq_some_iff.1 hj).1
        exact HA.out j s (by rw [← HL.out]; exact this) hj
      subst e
      have dl : decide ((k : Int) < (k : Int)) = false := by rw [decide_eq_false_iff_not]; omega
      go_wp2
      go_ret
      exact ⟨rfl, bw⟩
theorem rInf_is (f : Int) (hf : Is4 f) (x y n c : Nat) (o : Bool) (hx : x < 18446744073709551616) (hy : y < 18446744073709551616) (hn : y + 18446744073709551616 * x = n) (hfit : Fit f n) (hc : kC f n = c) (ho : (decide (c = 0) || decide (c = 7)) = o) (w : World) : Calls Tryz.prog 31 #[.int .u8 f, .agg #[.int .u64 (x : Nat), .int .u64 (y : Nat)]] w fun r w' => r = .returned (.bool o) ∧ Below w.heap.size w w' := by
  have K1 := box (rk_class f hf x y n c hx hy hn hfit hc)
  clear hf hx hy hn hfit hc
  by_cases c0 : c = 0
  · rw [decide_eq_true c0, Bool.true_or] at ho
    subst ho
    have d0 : ((c : Int) == 0) = true := by rw [c0]; rfl
    clear c0
    obtain ⟨Rb_0, B0⟩ := opn1 w (Obj.cells #[.int .u64 (x : Nat), .int .u64 (y : Nat)] 26)
    go_enter Tryz.func31, Tryz.ntmps31
    go_wp2_with fail
    refine (K1.out _).mono ?_
    rintro r w1 ⟨rfl, b1⟩
    have B1 : Below w.heap.size w w1 := btr B0 b1
    have Rb_1 := heap_of b1 _ _ _ Rb_0
    clear b1 B0 Rb_0
    obtain ⟨cb_1_0, cb_1_1⟩ := cells2s Rb_1
    go_wp2
    go_ret
    exact ⟨rfl, B1⟩
  · rw [decide_eq_false c0, Bool.false_or] at ho
    have d0 : ((c : Int) == 0) = false := by rw [beq_eq_false_iff_ne]; omega
    have d7 : ((c : Int) == 7) = o := by
      rw [← ho]
      by_cases c7 : c = 7
      · rw [decide_eq_true c7, c7]; rfl
      · rw [decide_eq_false c7, beq_eq_false_iff_ne]; omega
    clear ho c0
    obtain ⟨Rb_0, B0⟩ := opn1 w (Obj.cells #[.int .u64 (x : Nat), .int .u64 (y : Nat)] 26)
    go_enter Tryz.func31, Tryz.ntmps31
    go_wp2_with fail
    refine (K1.out _).mono ?_
    rintro r w1 ⟨rfl, b1⟩
    have B1 : Below w.heap.size w w1 := btr B0 b1
    have Rb_1 := heap_of b1 _ _ _ Rb_0
    clear b1 B0 Rb_0
    obtain ⟨cb_1_0, cb_1_1⟩ := cells2s Rb_1
    go_wp2
    go_ret
    exact ⟨rfl, B1⟩
end Go.Proofs.YtapikkbifdldfaaGreatDoor
namespace Go.Proofs.YtapikkbifdldfaaGreatDoor
set_option maxRecDepth 100000
set_option maxHeartbeats 40000000
set_option maxRecDepth 100000
open Go.RowKit WMath XMath
set_option linter.unusedSimpArgs false
set_option linter.unusedVariables false
theorem ov_inf (f : Int) (neg : Bool) : ovB f 0 neg = eInf f neg := by
  unfold ovB
  rw [if_pos (by unfold gO; rw [if_pos rfl]; rfl)]
theorem nan_or {f : Int} (hf : Is4 f) : eInf f false ||| eInf f false / 2 = eNaN f ∧ eInf f false < 340282366920938463463374607431768211456 ∧ eNaN f < 340282366920938463463374607431768211456 := by
  rcases hf with rfl | rfl | rfl | rfl <;> decide +kernel
theorem kInf_is (f : Int) (hf : Is4 f) (neg : Bool) (u v : Nat) (hv : bv7 (eInf f neg) = (u, v)) (w : World) (hT : FAt w) : Calls Tryz.prog 36 #[.int .u8 f, .bool neg] w fun r w' => r = .returned (.agg #[.int .u64 (u : Nat), .int .u64 (v : Nat)]) ∧ Below w.heap.size w w' :=
  op_inf f neg u v w (box (fun w hT => kover f 0 hf (by decide) neg u v (by rw [ov_inf]; exact hv) w hT)) hT
theorem kNaN_is (f : Int) (hf : Is4 f) (u v : Nat) (hv : bv7 (eNaN f) = (u, v)) (w : World) (hT : FAt w) : Calls Tryz.prog 35 #[.int .u8 f] w fun r w' => r = .returned (.agg #[.int .u64 (u : Nat), .int .u64 (v : Nat)]) ∧ Below w.heap.size w w' := by
  obtain ⟨n1, n2, n3⟩ := nan_or hf
  obtain ⟨iu, iv, hi⟩ : ∃ iu iv, bv7 (eInf f false) = (iu, iv) := ⟨_, _, rfl⟩
  obtain ⟨i1, i2, i3⟩ := bv_lt n2 hi
  obtain ⟨w0, w1⟩ := wd01 n3
  have hQ := lt_Q7 n2
  have hQ2 := lt_Q7 n3
  have hQ3 : eInf f false / 2 < Q := Nat.lt_of_le_of_lt (Nat.div_le_self _ _) hQ
  unfold bv7 at hv
  injection hv with v1 v2
  have KT : Box (∀ w, Calls Tryz.prog 74 #[.agg (cw 6 (eNaN f))] w fun r w' => r = .returned (.tuple #[.agg #[.int .u64 (u : Nat), .int .u64 (v : Nat)], .bool true]) ∧ Below w.heap.size w w') := box (fun w => by
    have := wtobits_yes (eNaN f) hQ2 (by rw [w0, w1]; exact Nat.mod_add_div _ _) w
    rw [w0, w1, v1, v2] at this
    exact this)
  exact op_nan f iu iv _ _ _ u v _ true w (box (fun w hT => kInf_is f hf false iu iv hi w hT)) (box (fun w => wofbits_is iu iv _ i1 i2 i3 w))
    (box (fun w => wright_is (eInf f false) (eInf f false / 2) 1 _ hQ rfl rfl w)) (box (fun w => wor_is _ _ _ hQ hQ3 n1 w)) KT hT
theorem ieq {c : Nat} {k : Int} (h : (c : Int) = k) : ((c : Int) == k) = true := by rw [h]; exact beq_self_eq_true k
theorem ine {c : Nat} {k : Int} (h : (c : Int) ≠ k) : ((c : Int) == k) = false := beq_eq_false_iff_ne.2 h
theorem op_plain_e (c : Nat) (KE : Box (∀ w, Calls Tryz.prog 70 #[.int .u8 (c : Nat)] w fun r w' => r = .returned (.bool true) ∧ Below w.heap.size w w')) (w : World) : Calls Tryz.prog 34 #[.int .u8 (c : Nat)] w fun r w' => r = .returned (.int .u8 7) ∧ Below w.heap.size w w' := by
  have B0 : Below w.heap.size w w := (Below.refl _ _)
  go_enter Tryz.func34, Tryz.ntmps34
  go_wp2_with fail
  refine (KE.out _).mono ?_
  rintro r w1 ⟨rfl, b1⟩
  have B1 : Below w.heap.size w w1 := btr B0 b1
  clear b1 B0 
  go_wp2
  go_ret
  exact ⟨rfl, B1⟩
theorem op_plain_z (c : Nat) (KE : Box (∀ w, Calls Tryz.prog 70 #[.int .u8 (c : Nat)] w fun r w' => r = .returned (.bool false) ∧ Below w.heap.size w w')) (KN : Box (∀ w, Calls Tryz.prog 71 #[.int .u8 (c : Nat)] w fun r w' => r = .returned (.bool true) ∧ Below w.heap.size w w')) (w : World) : Calls Tryz.prog 34 #[.int .u8 (c : Nat)] w fun r w' => r = .returned (.int .u8 4) ∧ Below w.heap.size w w' := by
  have B0 : Below w.heap.size w w := (Below.refl _ _)
  go_enter Tryz.func34, Tryz.ntmps34
  go_wp2_with fail
  refine (KE.out _).mono ?_
  rintro r w1 ⟨rfl, b1⟩
  have B1 : Below w.heap.size w w1 := btr B0 b1
  clear b1 B0 
  go_wp2_with fail
  refine (KN.out _).mono ?_
  rintro r w2 ⟨rfl, b2⟩
  have B2 : Below w.heap.size w w2 := btr B1 b2
  clear b2 B1 
  go_wp2
  go_ret
  exact ⟨rfl, B2⟩
theorem op_plain_s (c : Nat) (KE : Box (∀ w, Calls Tryz.prog 70 #[.int .u8 (c : Nat)] w fun r w' => r = .returned (.bool false) ∧ Below w.heap.size w w')) (KN : Box (∀ w, Calls Tryz.prog 71 #[.int .u8 (c : Nat)] w fun r w' => r = .returned (.bool false) ∧ Below w.heap.size w w')) (h8 : ((c : Int) == 8) = true) (w : World) : Calls Tryz.prog 34 #[.int .u8 (c : Nat)] w fun r w' => r = .returned (.int .u8 (c : Nat)) ∧ Below w.heap.size w w' := by
  have B0 : Below w.heap.size w w := (Below.refl _ _)
  go_enter Tryz.func34, Tryz.ntmps34
  go_wp2_with fail
  refine (KE.out _).mono ?_
  rintro r w1 ⟨rfl, b1⟩
  have B1 : Below w.heap.size w w1 := btr B0 b1
  clear b1 B0 
  go_wp2_with fail
  refine (KN.out _).mono ?_
  rintro r w2 ⟨rfl, b2⟩
  have B2 : Below w.heap.size w w2 := btr B1 b2
  clear b2 B1 
  go_wp2
  go_ret
  exact ⟨rfl, B2⟩
theorem op_plain_q (c : Nat) (KE : Box (∀ w, Calls Tryz.prog 70 #[.int .u8 (c : Nat)] w fun r w' => r = .returned (.bool false) ∧ Below w.heap.size w w')) (KN : Box (∀ w, Calls Tryz.prog 71 #[.int .u8 (c : Nat)] w fun r w' => r = .returned (.bool false) ∧ Below w.heap.size w w')) (h8 : ((c : Int) == 8) = false) (h9 : ((c : Int) == 9) = true) (w : World) : Calls Tryz.prog 34 #[.int .u8 (c : Nat)] w fun r w' => r = .returned (.int .u8 (c : Nat)) ∧ Below w.heap.size w w' := by
  have B0 : Below w.heap.size w w := (Below.refl _ _)
  go_enter Tryz.func34, Tryz.ntmps34
  go_wp2_with fail
  refine (KE.out _).mono ?_
  rintro r w1 ⟨rfl, b1⟩
  have B1 : Below w.heap.size w w1 := btr B0 b1
  clear b1 B0 
  go_wp2_with fail
  refine (KN.out _).mono ?_
  rintro r w2 ⟨rfl, b2⟩
  have B2 : Below w.heap.size w w2 := btr B1 b2
  clear b2 B1 
  go_wp2
  go_ret
  exact ⟨rfl, B2⟩
theorem op_plain_f (c : Nat) (KE : Box (∀ w, Calls Tryz.prog 70 #[.int .u8 (c : Nat)] w fun r w' => r = .returned (.bool false) ∧ Below w.heap.size w w')) (KN : Box (∀ w, Calls Tryz.prog 71 #[.int .u8 (c : Nat)] w fun r w' => r = .returned (.bool false) ∧ Below w.heap.size w w')) (h8 : ((c : Int) == 8) = false) (h9 : ((c : Int) == 9) = false) (w : World) : Calls Tryz.prog 34 #[.int .u8 (c : Nat)] w fun r w' => r = .returned (.int .u8 6) ∧ Below w.heap.size w w' := by
  have B0 : Below w.heap.size w w := (Below.refl _ _)
  go_enter Tryz.func34, Tryz.ntmps34
  go_wp2_with fail
  refine (KE.out _).mono ?_
  rintro r w1 ⟨rfl, b1⟩
  have B1 : Below w.heap.size w w1 := btr B0 b1
  clear b1 B0 
  go_wp2_with fail
  refine (KN.out _).mono ?_
  rintro r w2 ⟨rfl, b2⟩
  have B2 : Below w.heap.size w w2 := btr B1 b2
  clear b2 B1 
  go_wp2
  go_ret
  exact ⟨rfl, B2⟩
def plC (c : Nat) : Int := if c = 0 ∨ c = 7 then 7 else if c = 3 ∨ c = 4 then 4 else if c = 8 ∨ c = 9 then (c : Int) else 6
theorem kplain (c : Nat) (hc : c ≤ 9) (p : Int) (hp : plC c = p) : Box (∀ w, Calls Tryz.prog 34 #[.int .u8 (c : Nat)] w fun r w' => r = .returned (.int .u8 p) ∧ Below w.heap.size w w') := by
  have KE : ∀ o, decide (c = 0 ∨ c = 7) = o → Box (∀ w, Calls Tryz.prog 70 #[.int .u8 (c : Nat)] w fun r w' => r = .returned (.bool o) ∧ Below w.heap.size w w') := fun o h => box (fun w => op_endless c o (by rw [← Bool.decide_or]; exact h) w)
  have KN : ∀ o, decide (c = 3 ∨ c = 4) = o → Box (∀ w, Calls Tryz.prog 71 #[.int .u8 (c : Nat)] w fun r w' => r = .returned (.bool o) ∧ Below w.heap.size w w') := fun o h => box (fun w => op_naught c o (by rw [← Bool.decide_or]; exact h) w)
  unfold plC at hp
  by_cases e : c = 0 ∨ c = 7
  · rw [if_pos e] at hp
    subst hp
    exact box (fun w => op_plain_e c (KE true (decide_eq_true e)) w)
  rw [if_neg e] at hp
  have KE := KE false (decide_eq_false e)
  by_cases z : c = 3 ∨ c = 4
  · rw [if_pos z] at hp
    subst hp
    exact box (fun w => op_plain_z c KE (KN true (decide_eq_true z)) w)
  rw [if_neg z] at hp
  have KN := KN false (decide_eq_false z)
  by_cases n : c = 8 ∨ c = 9
  · rw [if_pos n] at hp
    subst hp
    by_cases n8 : c = 8
    · exact box (fun w => op_plain_s c KE KN (ieq (by omega)) w)
    · exact box (fun w => op_plain_q c KE KN (ine (by omega)) (ieq (by omega)) w)
  rw [if_neg n] at hp
  subst hp
  exact box (fun w => op_plain_f c KE KN (ine (by omega)) (ine (by omega)) w)
end Go.Proofs.YtapikkbifdldfaaGreatDoor
namespace Go.Proofs.YtapikkbifdldfaaGreatDoor
set_option maxRecDepth 100000
set_option maxHeartbeats 40000000
set_option maxRecDepth 100000
open Go.RowKit WMath
set_option linter.unusedSimpArgs false
set_option linter.unusedVariables false
theorem rg_ne (c : Bool) (s : Nat) (x : Int) (r : Bool) : (rg c s x r = #[]) = False := eq_false (fun h => by have := congrArg Array.size h; exact absurd this (by decide : ¬ (9 = 0)))
theorem rg_lt8 (c : Bool) (s : Nat) (x : Int) (r : Bool) : ((rg c s x r).size < 8) = False := eq_false (show ¬ (9 < 8) by decide)
theorem bld_r2 (neg : Bool) (x : Int) : ((rg false 0 0 false).setIfInBounds 0 (.bool neg)).setIfInBounds 7 (.int .i64 x) = rg neg 0 x false := rfl
end Go.Proofs.YtapikkbifdldfaaGreatDoor
namespace Go.Proofs.YtapikkbifdldfaaGreatDoor
set_option maxRecDepth 100000
set_option maxHeartbeats 40000000
set_option maxRecDepth 100000
open Go.RowKit WMath XMath
set_option linter.unusedSimpArgs false
set_option linter.unusedVariables false
def kM (f : Int) (n : Nat) : Nat := kE f n * 2 ^ pV f + kT f n
theorem kC_all (f : Int) (n : Nat) : (kE f n = oV f ∧ kT f n = 0 ∧ kC f n = if kN f n then 0 else 7) ∨ (kE f n = oV f ∧ kT f n ≠ 0 ∧ kT f n < 2 ^ (pV f - 1) ∧ kC f n = 8) ∨ (kE f n = oV f ∧ 2 ^ (pV f - 1) ≤ kT f n ∧ kC f n = 9) ∨
    (kE f n < oV f ∧ kE f n ≠ 0 ∧ kC f n = if kN f n then 1 else 6) ∨ (kE f n < oV f ∧ kE f n = 0 ∧ kT f n ≠ 0 ∧ kC f n = if kN f n then 2 else 5) ∨ (kE f n < oV f ∧ kE f n = 0 ∧ kT f n = 0 ∧ kC f n = if kN f n then 3 else 4) := by
  have el := kE_le (f := f) n
  have p := Nat.two_pow_pos (pV f - 1)
  unfold kC
  by_cases c1 : kE f n = oV f
  · by_cases c2 : kT f n = 0
    · left
      refine ⟨c1, c2, ?_⟩
      (repeat' split) <;> first | rfl | omega | simp_all
    · by_cases c3 : kT f n < 2 ^ (pV f - 1)
      · right; left
        refine ⟨c1, c2, c3, ?_⟩
        (repeat' split) <;> first | rfl | omega | simp_all
      · right; right; left
        refine ⟨c1, by omega, ?_⟩
        (repeat' split) <;> first | rfl | omega | simp_all
  · by_cases c2 : kE f n = 0
    · by_cases c3 : kT f n = 0
      · right; right; right; right; right
        refine ⟨by omega, c2, c3, ?_⟩
        (repeat' split) <;> first | rfl | omega | simp_all
      · right; right; right; right; left
        refine ⟨by omega, c2, c3, ?_⟩
        (repeat' split) <;> first | rfl | omega | simp_all
    · right; right; right; left
      refine ⟨by omega, c2, ?_⟩
      (repeat' split) <;> first | rfl | omega | simp_all
theorem jr_zero (n : Nat) : jr 0 n = 0 := by rw [jr_even 0 n (Nat.zero_mod _), Nat.zero_div]
theorem cls_sg (f : Int) (n : Nat) : ∃ a1 a2 a3 a4 : Nat, (a1 = 0 ∨ a1 = 7) ∧ (a2 = 1 ∨ a2 = 6) ∧ (a3 = 2 ∨ a3 = 5) ∧ (a4 = 3 ∨ a4 = 4) ∧
    ((kE f n = oV f ∧ kT f n = 0 ∧ kC f n = a1) ∨ (kE f n = oV f ∧ kT f n ≠ 0 ∧ kT f n < 2 ^ (pV f - 1) ∧ kC f n = 8) ∨ (kE f n = oV f ∧ 2 ^ (pV f - 1) ≤ kT f n ∧ kC f n = 9) ∨ (kE f n < oV f ∧ kE f n ≠ 0 ∧ kC f n = a2) ∨ (kE f n < oV f ∧ kE f n = 0 ∧ kT f n ≠ 0 ∧ kC f n = a3) ∨ (kE f n < oV f ∧ kE f n = 0 ∧ kT f n = 0 ∧ kC f n = a4)) :=
  ⟨_, _, _, _, by cases kN f n <;> simp, by cases kN f n <;> simp, by cases kN f n <;> simp, by cases kN f n <;> simp, kC_all f n⟩
theorem kM_zero (f : Int) (n : Nat) (h : kC f n = 3 ∨ kC f n = 4) : kM f n = 0 ∧ kE f n = 0 ∧ kT f n = 0 := by
  obtain ⟨a1, a2, a3, a4, s1, s2, s3, s4, c⟩ := cls_sg f n
  have e : kE f n = 0 ∧ kT f n = 0 := by omega
  exact ⟨by unfold kM; rw [e.1, e.2, Nat.zero_mul], e⟩
theorem kS_blen {f : Int} (hf : Is4 f) (n : Nat) (h : kC f n = 1 ∨ kC f n = 2 ∨ kC f n = 5 ∨ kC f n = 6) : 1 ≤ blen (kS f n) ∧ blen (kS f n) ≤ 113 := by
  obtain ⟨n1, n2, n3, n4, n5, n6⟩ := nm8 hf
  obtain ⟨k1, k2, k3, k4⟩ := k_parts (f := f) n h
  have t := kT_lt (f := f) n
  have l : kS f n < 2 ^ (pV f + 1) := by
    rw [k2, Nat.pow_succ]
    unfold sV
    split <;> omega
  have := (blen_iff (kS f n) (pV f + 1)).2 l
  have := blen_pos _ k4
  have : pV f ≤ 112 := by rcases hf with rfl | rfl | rfl | rfl <;> decide
  omega
end Go.Proofs.YtapikkbifdldfaaGreatDoor
namespace Go.Proofs.YtapikkbifdldfaaGreatDoor
set_option maxRecDepth 100000
set_option maxHeartbeats 40000000
set_option maxRecDepth 100000
open Go.RowKit WMath
set_option linter.unusedSimpArgs false
set_option linter.unusedVariables false
theorem thr_row (x1 y1 x2 y2 x3 y3 : Nat) (T : TypeId) (g : Nat) (w : World) (hg : w.heap.size = g) : (w.alloc (.cells #[.int .u64 (x1 : Nat), .int .u64 (y1 : Nat), .int .u64 (x2 : Nat), .int .u64 (y2 : Nat), .int .u64 (x3 : Nat), .int .u64 (y3 : Nat)] T)).heap[g]? = some (.cells (bls [(x1, y1), (x2, y2), (x3, y3)]) T) := by
  rw [← hg]
  exact heap_alloc_last _ _
theorem thr_lim {x1 y1 x2 y2 x3 y3 : Nat} (hx1 : x1 < 18446744073709551616) (hy1 : y1 < 18446744073709551616) (hx2 : x2 < 18446744073709551616) (hy2 : y2 < 18446744073709551616) (hx3 : x3 < 18446744073709551616) (hy3 : y3 < 18446744073709551616) : Box (∀ p ∈ [(x1, y1), (x2, y2), (x3, y3)], p.1 < 18446744073709551616 ∧ p.2 < 18446744073709551616) := box (fun p hp => by
  rcases List.mem_cons.1 hp with rfl | h
  · exact ⟨hx1, hy1⟩
  · rcases List.mem_cons.1 h with rfl | h
    · exact ⟨hx2, hy2⟩
    · rcases List.mem_cons.1 h with rfl | h
      · exact ⟨hx3, hy3⟩
      · exact absurd h List.not_mem_nil)
theorem kmay3 (f m : Int) (h0 : 0 ≤ f) (h1 : f ≤ 255) (m0 : 0 ≤ m) (x1 y1 a x2 y2 b x3 y3 c : Nat) (hx1 : x1 < 18446744073709551616) (hy1 : y1 < 18446744073709551616) (hx2 : x2 < 18446744073709551616) (hy2 : y2 < 18446744073709551616) (hx3 : x3 < 18446744073709551616) (hy3 : y3 < 18446744073709551616) (ha : y1 + 18446744073709551616 * x1 = a) (hb : y2 + 18446744073709551616 * x2 = b) (hc : y3 + 18446744073709551616 * x3 = c) (o : Bool) (ho : (decide (f ≤ 3 ∧ m ≤ 4) && okB f a && okB f b && okB f c) = o) :
    Box (∀ (T : TypeId) (g : Nat) (w : World), w.heap.size = g → FAt w → Calls Tryz.prog 32 #[.int .u8 f, .int .u8 m, .slice (some ⟨g, 0, none⟩) 3 3] (w.alloc (.cells #[.int .u64 (x1 : Nat), .int .u64 (y1 : Nat), .int .u64 (x2 : Nat), .int .u64 (y2 : Nat), .int .u64 (x3 : Nat), .int .u64 (y3 : Nat)] T)) fun r w' => r = .returned (.bool o) ∧ Below w.heap.size w w') := by
  refine box (fun T g w hg hT => ?_)
  have B := (bal w (.cells #[.int .u64 (x1 : Nat), .int .u64 (y1 : Nat), .int .u64 (x2 : Nat), .int .u64 (y2 : Nat), .int .u64 (x3 : Nat), .int .u64 (y3 : Nat)] T))
  have row := thr_row x1 y1 x2 y2 x3 y3 T g w hg
  have hT2 := fatB hT B
  by_cases cc : f ≤ 3 ∧ m ≤ 4
  · have hf := is4_of h0 cc.1
    obtain ⟨u, v, hv⟩ : ∃ u v, bv7 (eZero f false) = (u, v) := ⟨_, _, rfl⟩
    have KP : Box (∀ w, FAt w → Calls Tryz.prog 37 #[.int .u8 f, .int .u8 m, .agg (rg false 0 0 false)] w fun r w' => r = .returned (.tuple #[.agg #[.int .u64 (u : Nat), .int .u64 (v : Nat)], .int .u8 0, .int .i64 0]) ∧ Below w.heap.size w w') := box (fun w hT => kPack_zero f m hf ⟨m0, cc.2⟩ false 0 (by decide) (by decide) u v hv w hT)
    refine (op_may f m hf [(x1, y1), (x2, y2), (x3, y3)] 3 g 3 T _ rfl (by decide) (thr_lim hx1 hy1 hx2 hy2 hx3 hy3) row u v 0 KP o ?_ hT2).mono fun _ _ ⟨q1, q2⟩ => ⟨q1, btr B q2⟩
    rw [← ho, decide_eq_true cc]
    show (okP f (x1, y1) && (okP f (x2, y2) && (okP f (x3, y3) && true))) = _
    unfold okP
    rw [ha, hb, hc, Bool.and_true, Bool.true_and, Bool.and_assoc]
  · have e : o = false := by rw [← ho, decide_eq_false cc]; rfl
    subst e
    exact (op_may_no f m 0 0 0 2 _ rfl _ (box (fun w hT => kPack_no f m h0 h1 false 0 Q_pos 0 false (fun q => cc ⟨q.1, q.2.1⟩) w hT)) hT2).mono fun _ _ ⟨q1, q2⟩ => ⟨q1, btr B q2⟩
end Go.Proofs.YtapikkbifdldfaaGreatDoor
namespace Go.Proofs.YtapikkbifdldfaaGreatDoor
set_option maxRecDepth 100000
set_option maxHeartbeats 40000000
set_option maxRecDepth 100000
open Go.RowKit WMath XMath
set_option linter.unusedSimpArgs false
set_option linter.unusedVariables false
def jb (s r : Nat) : Nat := if r = 0 then s else s / 2 * 2 + 1
theorem ex_jam (P s n r : Nat) (s0 : s ≠ 0) (hr : r < 2 ^ n) (h : r ≠ 0 → P + 2 ≤ blen s) : blen (jb s r) + n = blen (s * 2 ^ n + r) ∧ qW P (jb s r) = qW P (s * 2 ^ n + r) ∧ qM P (jb s r) false = qM P (s * 2 ^ n + r) false := by
  have b1 := blen_more s n r s0 hr
  have q1 := q_more P s n r s0 hr (fun q => by have := h q; omega)
  unfold jb
  by_cases z : r = 0
  · rw [if_pos z]
    rw [decide_eq_false (by omega)] at q1
    exact ⟨by omega, q1.1.symm, q1.2.symm⟩
  · rw [if_neg z]
    rw [decide_eq_true z] at q1
    obtain ⟨j1, j2, j3, j4⟩ := q_jam P s (h z)
    exact ⟨by omega, by rw [j2, q1.1], by rw [j3, q1.2, j4]⟩
theorem jam_add (G L n : Nat) (hG : G % 2 = 0) : G + jr L n = jb (G + L / 2 ^ n) (L % 2 ^ n) ∧ (G + L / 2 ^ n) * 2 ^ n + L % 2 ^ n = G * 2 ^ n + L := by
  have dm := Nat.div_add_mod L (2 ^ n)
  refine ⟨?_, by rw [Nat.add_mul, Nat.mul_comm (L / 2 ^ n)]; omega⟩
  unfold jr jb
  by_cases z : L % 2 ^ n = 0
  · rw [if_pos z, if_pos z]
  · rw [if_neg z, if_neg z, jor1]
    omega
theorem jam_sub (G L n : Nat) (hG : G % 2 = 0) (hle : L ≤ G * 2 ^ n) : ∃ s r, r < 2 ^ n ∧ (r = 0 ↔ L % 2 ^ n = 0) ∧ G - jr L n = jb s r ∧ s * 2 ^ n + r = G * 2 ^ n - L ∧ s = (if L % 2 ^ n = 0 then G - L / 2 ^ n else G - L / 2 ^ n - 1) := by
  have dm := Nat.div_add_mod L (2 ^ n)
  have p := Nat.two_pow_pos n
  have lt := Nat.mod_lt L p
  have gl : L / 2 ^ n ≤ G := by
    have := Nat.div_le_div_right (c := 2 ^ n) hle
    rwa [Nat.mul_div_cancel _ p] at this
  obtain ⟨q, hq⟩ : ∃ q, L / 2 ^ n = q := ⟨_, rfl⟩
  obtain ⟨r, hr⟩ : ∃ r, L % 2 ^ n = r := ⟨_, rfl⟩
  rw [hq, hr, Nat.mul_comm] at dm
  rw [hq] at gl
  rw [hr] at lt
  unfold jr
  rw [hq, hr]
  obtain ⟨k, hk⟩ : ∃ k, G = q + k := ⟨G - q, by omega⟩
  have e : G * 2 ^ n = q * 2 ^ n + k * 2 ^ n := by rw [hk, Nat.add_mul]
  by_cases z : r = 0
  · refine ⟨G - q, 0, p, ⟨fun _ => z, fun _ => rfl⟩, ?_, ?_, ?_⟩
    · rw [if_pos z]
      unfold jb
      rw [if_pos rfl]
    · rw [show G - q = k by omega]
      omega
    · rw [if_pos z]
  · have k0 : k ≠ 0 := fun h => by
      rw [h, Nat.zero_mul] at e
      omega
    obtain ⟨i, hi⟩ : ∃ i, k = i + 1 := ⟨k - 1, by omega⟩
    rw [hi, Nat.add_mul, Nat.one_mul] at e
    refine ⟨G - q - 1, 2 ^ n - r, by omega, ⟨fun h => by omega, fun h => absurd h z⟩, ?_, ?_, ?_⟩
    · rw [if_neg z, jor1]
      unfold jb
      rw [if_neg (by omega)]
      omega
    · rw [show G - q - 1 = i by omega]
      omega
    · rw [if_neg z]
theorem kX_lim2 {f : Int} (hf : Is4 f) (n : Nat) : -16500 ≤ kX f n ∧ kX f n ≤ 16300 := by
  have e := kE_le (f := f) n
  have l : -16499 ≤ lx f ∧ lx f + (oV f : Int) ≤ 16300 := by rcases hf with rfl | rfl | rfl | rfl <;> decide
  unfold kX
  split
  · omega
  split
  · omega
  · omega
def sI (b : Bool) : Int := if b then -1 else 1
def fmE (f : Int) (a b c : Nat) : Int := min (kX f a + kX f b) (kX f c)
def fmI (f : Int) (a b c : Nat) : Int := sI (kN f a != kN f b) * ((kS f a * kS f b * 2 ^ (kX f a + kX f b - fmE f a b c).toNat : Nat) : Int) + sI (kN f c) * ((kS f c * 2 ^ (kX f c - fmE f a b c).toNat : Nat) : Int)
def fmD (f m I E : Int) : Nat × Int := if I = 0 then (eZero f (decide (m = 2)), 0) else dlv f m (decide (I < 0)) (E + (blen I.natAbs : Int) - 1) (qW (pV f + 1) I.natAbs) (qM (pV f + 1) I.natAbs false)
def fmaR (f m : Int) (a b c : Nat) : Nat × Int :=
  if (kC f a = 0 ∨ kC f a = 7 ∨ kC f b = 0 ∨ kC f b = 7) ∧ (kC f a = 3 ∨ kC f a = 4 ∨ kC f b = 3 ∨ kC f b = 4) then (eNaN f, 16)
  else if kC f a = 8 ∨ kC f b = 8 ∨ kC f c = 8 then (eNaN f, 16)
  else if kC f a = 9 ∨ kC f b = 9 ∨ kC f c = 9 then (eNaN f, 0)
  else if kC f a = 0 ∨ kC f a = 7 ∨ kC f b = 0 ∨ kC f b = 7 then (if (kC f c = 0 ∨ kC f c = 7) ∧ kN f c ≠ (kN f a != kN f b) then (eNaN f, 16) else (eInf f (kN f a != kN f b), 0))
  else if kC f c = 0 ∨ kC f c = 7 then (c, 0)
  else if (kC f a = 3 ∨ kC f a = 4 ∨ kC f b = 3 ∨ kC f b = 4) ∧ (kC f c = 3 ∨ kC f c = 4) then (if kN f c = (kN f a != kN f b) then (c, 0) else (eZero f (decide (m = 2)), 0))
  else fmD f m (fmI f a b c) (fmE f a b c)
theorem sI_sign (s : Bool) (N : Nat) (N0 : N ≠ 0) : decide (sI s * (N : Int) < 0) = s ∧ (sI s * (N : Int)).natAbs = N ∧ sI s * (N : Int) ≠ 0 := by
  unfold sI
  cases s
  · simp only [Bool.false_eq_true, if_false]
    exact ⟨decide_eq_false (by omega), by omega, by omega⟩
  · simp only [if_true]
    exact ⟨decide_eq_true (by omega), by omega, by omega⟩
theorem fmD_long (f m : Int) (s : Bool) (N k : Nat) (E x : Int) (N0 : N ≠ 0) (hx : x = E + (k : Int)) : fmD f m (sI s * ((N * 2 ^ k : Nat) : Int)) E = dlv f m s (x + (blen N : Int) - 1) (qW (pV f + 1) N) (qM (pV f + 1) N false) := by
  have p := Nat.two_pow_pos k
  obtain ⟨t1, t2, t3⟩ := sI_sign s (N * 2 ^ k) (Nat.mul_ne_zero N0 (by omega))
  obtain ⟨q1, q2⟩ := q_longer (pV f + 1) N k N0
  unfold fmD
  rw [if_neg t3, t1, t2, q1, q2, blen_shift N k N0]
  congr 1
  omega
def frmW (A : Nat) (p low : Int) : Nat := jr (A * 2 ^ (p - low).toNat) (low - p).toNat
def loF (A : Nat) (p : Int) (C : Nat) (q : Int) : Int := if A = 0 then q + (blen C : Int) - 383 else if C = 0 then p + (blen A : Int) - 383 else max (p + (blen A : Int)) (q + (blen C : Int)) - 383
theorem pow_up (i K : Nat) (h : i ≤ K) : 2 ^ i ≤ 2 ^ K := Nat.pow_le_pow_right (by decide) h
theorem pow_lt (i K : Nat) (h : i < K) : 2 ^ i < 2 ^ K := Nat.pow_lt_pow_right (by decide) h
theorem jr_none (a : Nat) : jr a 0 = a := by
  unfold jr
  rw [Nat.pow_zero, Nat.mod_one, if_pos rfl, Nat.div_one]
theorem frw_up (A : Nat) (p low : Int) (h : low ≤ p) : frmW A p low = A * 2 ^ (p - low).toNat := by
  unfold frmW
  rw [show (low - p).toNat = 0 by omega, jr_none]
theorem frw_down (A : Nat) (p low : Int) (h : p ≤ low) : frmW A p low = jr A (low - p).toNat := by
  unfold frmW
  rw [show (p - low).toNat = 0 by omega, Nat.pow_zero, Nat.mul_one]
theorem jr_le1 (a n : Nat) : jr a n ≤ a / 2 ^ n + 1 := by
  unfold jr
  split
  · omega
  · rw [jor1]
    omega
theorem frw_lt (A : Nat) (p low : Int) (hA : blen A ≤ 226) (h : p + (blen A : Int) - low ≤ 383) : frmW A p low < 2 ^ 383 := by
  have l := (blen_iff A (blen A)).1 (Nat.le_refl _)
  by_cases c : low ≤ p
  · rw [frw_up A p low c]
    have p2 := Nat.two_pow_pos (p - low).toNat
    have := (Nat.mul_lt_mul_right p2).2 l
    rw [← Nat.pow_add] at this
    exact Nat.lt_of_lt_of_le this (pow_up _ 383 (by omega))
  · rw [frw_down A p low (by omega)]
    have j := jr_le1 A (low - p).toNat
    have d := Nat.div_le_self A (2 ^ (low - p).toNat)
    have u : A < 2 ^ 226 := (blen_iff A 226).1 hA
    have e : 2 ^ 226 < 2 ^ 383 := pow_lt 226 383 (by decide)
    omega
theorem fmD_scale (f m I E L : Int) (k : Nat) (hE : E = L + (k : Int)) : fmD f m (I * ((2 ^ k : Nat) : Int)) L = fmD f m I E := by
  have p := Nat.two_pow_pos k
  by_cases i0 : I = 0
  · rw [i0, Int.zero_mul]
    unfold fmD
    rw [if_pos rfl, if_pos rfl]
  · have n0 : I.natAbs ≠ 0 := by omega
    have na : (I * ((2 ^ k : Nat) : Int)).natAbs = I.natAbs * 2 ^ k := by rw [Int.natAbs_mul, Int.natAbs_natCast]
    have q0 : I * ((2 ^ k : Nat) : Int) ≠ 0 := Int.mul_ne_zero i0 (by omega)
    obtain ⟨q1, q2⟩ := q_longer (pV f + 1) I.natAbs k n0
    have sg : decide (I * ((2 ^ k : Nat) : Int) < 0) = decide (I < 0) := by
      rw [decide_eq_decide]
      have pp : (0 : Int) < ((2 ^ k : Nat) : Int) := by omega
      constructor
      · intro h
        by_cases c : I < 0
        · exact c
        · have := Int.mul_nonneg (show 0 ≤ I by omega) (Int.le_of_lt pp)
          omega
      · intro h
        exact Int.mul_neg_of_neg_of_pos h pp
    unfold fmD
    rw [if_neg q0, if_neg i0, na, q1, q2, blen_shift _ k n0, sg]
    congr 1
    omega
theorem fmD_jam (f m : Int) (s : Bool) (x n r : Nat) (L E : Int) (x0 : x ≠ 0) (hr : r < 2 ^ n) (hx : pV f + 3 ≤ blen x) (hE : L = E + (n : Int)) : fmD f m (sI s * ((jb x r : Nat) : Int)) L = fmD f m (sI s * ((x * 2 ^ n + r : Nat) : Int)) E := by
  obtain ⟨e1, e2, e3⟩ := ex_jam (pV f + 1) x n r x0 hr (fun _ => by omega)
  have p := Nat.two_pow_pos n
  have j0 : jb x r ≠ 0 := by
    unfold jb
    split
    · exact x0
    · omega
  have y0 : x * 2 ^ n + r ≠ 0 := by
    have := Nat.mul_ne_zero x0 (show 2 ^ n ≠ 0 by omega)
    omega
  obtain ⟨t1, t2, t3⟩ := sI_sign s (jb x r) j0
  obtain ⟨u1, u2, u3⟩ := sI_sign s (x * 2 ^ n + r) y0
  unfold fmD
  rw [if_neg t3, if_neg u3, t1, t2, u1, u2, e2, e3]
  congr 1
  omega
theorem sI_ne {s t : Bool} (h : s ≠ t) : sI t = - sI s := by cases s <;> cases t <;> first | rfl | exact absurd rfl h
theorem fmD_far (f m : Int) (s t : Bool) (G C n : Nat) (L E : Int) (hG : G % 2 = 0) (g1 : 2 ^ 381 * 2 ≤ G) (hC : C < 2 ^ 226) (hp : pV f ≤ 112) (hE : L = E + (n : Int)) : fmD f m (sI s * (G : Int) + sI t * ((jr C n : Nat) : Int)) L = fmD f m (sI s * ((G * 2 ^ n : Nat) : Int) + sI t * (C : Int)) E := by
  have p := Nat.two_pow_pos n
  have e1 : 2 ^ 226 ≤ 2 ^ 381 := pow_up 226 381 (by decide)
  have cn : C / 2 ^ n ≤ C := Nat.div_le_self _ _
  have lt := Nat.mod_lt C p
  have big : ∀ x, 2 ^ 381 ≤ x → pV f + 3 ≤ blen x ∧ x ≠ 0 := fun x h => by
    have := blen_iff x 381
    have p3 := Nat.two_pow_pos 381
    generalize 2 ^ 381 = P at *
    omega
  obtain ⟨P, hP⟩ : ∃ P, 2 ^ 381 = P := ⟨_, rfl⟩
  rw [hP] at e1 g1 big
  clear hP
  by_cases c : s = t
  · subst c
    obtain ⟨j1, j2⟩ := jam_add G C n hG
    obtain ⟨b1, b2⟩ := big (G + C / 2 ^ n) (Nat.le_trans (show P ≤ G by omega) (Nat.le_add_right _ _))
    have := fmD_jam f m s (G + C / 2 ^ n) n (C % 2 ^ n) L E b2 lt b1 hE
    rw [← j1, j2] at this
    rw [← Int.mul_add, ← Int.mul_add, ← Int.natCast_add, ← Int.natCast_add]
    exact this
  · have gl : C ≤ G * 2 ^ n := Nat.le_trans (show C ≤ G by omega) (Nat.le_mul_of_pos_right G p)
    obtain ⟨x, r, r1, r2, r3, r4, r5⟩ := jam_sub G C n hG gl
    have xb : P ≤ x := by
      rw [r5]
      split <;> omega
    obtain ⟨b1, b2⟩ := big x xb
    have := fmD_jam f m s x n r L E b2 r1 b1 hE
    rw [← r3, r4] at this
    have jl := jr_le1 C n
    rw [sI_ne c, Int.neg_mul, Int.neg_mul, ← Int.sub_eq_add_neg, ← Int.sub_eq_add_neg, ← Int.mul_sub, ← Int.mul_sub, ← Int.ofNat_sub (by omega), ← Int.ofNat_sub gl]
    exact this
theorem fmD_sum (f m : Int) (s t : Bool) (A C : Nat) (p q E : Int) (hA : blen A ≤ 226) (hC : blen C ≤ 226) (hp : pV f ≤ 112) (hE : E = min p q) :
    fmD f m (sI s * ((frmW A p (loF A p C q) : Nat) : Int) + sI t * ((frmW C q (loF A p C q) : Nat) : Int)) (loF A p C q) = fmD f m (sI s * ((A * 2 ^ (p - E).toNat : Nat) : Int) + sI t * ((C * 2 ^ (q - E).toNat : Nat) : Int)) E := by
  have fz : ∀ x l, frmW 0 x l = 0 := fun x l => by unfold frmW; rw [Nat.zero_mul, jr_zero]
  have za : ∀ y : Int, sI s * ((0 : Nat) : Int) + y = y := fun y => by rw [show ((0 : Nat) : Int) = 0 from rfl, Int.mul_zero, Int.zero_add]
  have zc : ∀ y : Int, y + sI t * ((0 : Nat) : Int) = y := fun y => by rw [show ((0 : Nat) : Int) = 0 from rfl, Int.mul_zero, Int.add_zero]
  obtain ⟨l, hl⟩ : ∃ l, loF A p C q = l := ⟨_, rfl⟩
  rw [hl]
  unfold loF at hl
  by_cases a0 : A = 0
  · rw [if_pos a0] at hl
    rw [a0, fz, Nat.zero_mul, za, za]
    by_cases c0 : C = 0
    · rw [c0, fz, Nat.zero_mul]
      have z0 : sI t * ((0 : Nat) : Int) = 0 := Int.mul_zero _
      unfold fmD
      rw [if_pos z0, if_pos z0]
    · rw [frw_up C q l (by omega), fmD_long f m t C _ l q c0 (by omega), fmD_long f m t C _ E q c0 (by omega)]
  rw [if_neg a0] at hl
  by_cases c0 : C = 0
  · rw [if_pos c0] at hl
    rw [c0, fz, Nat.zero_mul, zc, zc]
    rw [frw_up A p l (by omega), fmD_long f m s A _ l p a0 (by omega), fmD_long f m s A _ E p a0 (by omega)]
  rw [if_neg c0] at hl
  have la := blen_low A a0
  have lc := blen_low C c0
  have ua : A < 2 ^ 226 := (blen_iff A 226).1 hA
  have uc : C < 2 ^ 226 := (blen_iff C 226).1 hC
  have far : ∀ (s t : Bool) (A C : Nat) (p q : Int), blen A ≤ 226 → 0 < blen A → 2 ^ (blen A - 1) ≤ A → C < 2 ^ 226 → l = p + (blen A : Int) - 383 → q < l →
      fmD f m (sI s * ((frmW A p l : Nat) : Int) + sI t * ((frmW C q l : Nat) : Int)) l = fmD f m (sI s * ((A * 2 ^ (p - q).toNat : Nat) : Int) + sI t * ((C * 2 ^ (q - q).toNat : Nat) : Int)) q := fun s t A C p q h1 h2 h3 h4 h5 h6 => by
    rw [frw_up A p l (by omega), frw_down C q l (by omega), show (q - q).toNat = 0 by omega, Nat.pow_zero, Nat.mul_one, show (p - q).toNat = (p - l).toNat + (l - q).toNat by omega, Nat.pow_add, ← Nat.mul_assoc]
    refine fmD_far f m s t (A * 2 ^ (p - l).toNat) C (l - q).toNat l q ?_ ?_ h4 hp (by omega)
    · rw [show (p - l).toNat = (p - l).toNat - 1 + 1 by omega, Nat.pow_succ, ← Nat.mul_assoc, Nat.mul_mod_left]
    · have := Nat.mul_le_mul_right (2 ^ (p - l).toNat) h3
      obtain ⟨K, hK⟩ : ∃ K, K = 381 := ⟨_, rfl⟩
      rw [← Nat.pow_add, show blen A - 1 + (p - l).toNat = K + 1 by omega, Nat.pow_succ, hK] at this
      exact this
  by_cases c1 : l ≤ p
  · by_cases c2 : l ≤ q
    · rw [frw_up A p l c1, frw_up C q l c2]
      have := fmD_scale f m (sI s * ((A * 2 ^ (p - E).toNat : Nat) : Int) + sI t * ((C * 2 ^ (q - E).toNat : Nat) : Int)) E l (E - l).toNat (by omega)
      rw [← this, Int.add_mul, Int.mul_assoc, Int.mul_assoc, ← Int.natCast_mul, ← Int.natCast_mul, Nat.mul_assoc, Nat.mul_assoc, ← Nat.pow_add, ← Nat.pow_add, show (p - E).toNat + (E - l).toNat = (p - l).toNat by omega, show (q - E).toNat + (E - l).toNat = (q - l).toNat by omega]
    · rw [show E = q by omega]
      exact far s t A C p q hA (by omega) la.2.1 uc (by omega) (by omega)
  · rw [show E = p by omega, Int.add_comm, Int.add_comm (sI s * _)]
    exact far t s C A q p hC (by omega) lc.2.1 ua (by omega) (by omega)
def TotR (m : Int) (s t : Bool) (a c : Nat) (neg : Bool) (S : Nat) : Prop :=
  (s = t ∧ neg = s ∧ S = a + c) ∨ (s ≠ t ∧ c < a ∧ neg = s ∧ S = a - c) ∨ (s ≠ t ∧ a < c ∧ neg = t ∧ S = c - a) ∨ (s ≠ t ∧ a = c ∧ neg = decide (m = 2) ∧ S = 0)
theorem totR_some (m : Int) (s t : Bool) (a c : Nat) : ∃ neg S, TotR m s t a c neg S := by
  unfold TotR
  by_cases e : s = t
  · exact ⟨_, _, Or.inl ⟨e, rfl, rfl⟩⟩
  · rcases Nat.lt_trichotomy a c with h | h | h
    · exact ⟨_, _, Or.inr (Or.inr (Or.inl ⟨e, h, rfl, rfl⟩))⟩
    · exact ⟨_, _, Or.inr (Or.inr (Or.inr ⟨e, h, rfl, rfl⟩))⟩
    · exact ⟨_, _, Or.inr (Or.inl ⟨e, h, rfl, rfl⟩)⟩
theorem totR_D (f m : Int) (s t : Bool) (a c : Nat) (neg : Bool) (S : Nat) (L : Int) (h : TotR m s t a c neg S) (ns : S = 0 → s ≠ t) : fmD f m (sI s * (a : Int) + sI t * (c : Int)) L = (if S = 0 then (eZero f neg, 0) else dlv f m neg (L + (blen S : Int) - 1) (qW (pV f + 1) S) (qM (pV f + 1) S false)) := by
  have key : ∀ (b : Bool) (V : Int), V = sI b * (S : Int) → neg = b → S ≠ 0 → fmD f m V L = (if S = 0 then (eZero f neg, 0) else dlv f m neg (L + (blen S : Int) - 1) (qW (pV f + 1) S) (qM (pV f + 1) S false)) := fun b V hV hb S0 => by
    obtain ⟨t1, t2, t3⟩ := sI_sign b S S0
    unfold fmD
    rw [hV, if_neg t3, if_neg S0, t1, t2, hb]
  rcases h with ⟨e, n, hS⟩ | ⟨e, l, n, hS⟩ | ⟨e, l, n, hS⟩ | ⟨e, l, n, hS⟩
  · have S0 : S ≠ 0 := fun z => ns z e
    refine key s _ ?_ n S0
    rw [← e, hS, ← Int.mul_add, Int.natCast_add]
  · refine key s _ ?_ n (by omega)
    rw [sI_ne e, hS, Int.ofNat_sub (by omega), Int.neg_mul, Int.mul_sub]
    omega
  · refine key t _ ?_ n (by omega)
    rw [sI_ne (Ne.symm e), hS, Int.ofNat_sub (by omega), Int.neg_mul, Int.mul_sub]
    omega
  · rw [if_pos hS]
    unfold fmD
    rw [if_pos (by rw [sI_ne e, l, Int.neg_mul]; omega), n]
end Go.Proofs.YtapikkbifdldfaaGreatDoor
