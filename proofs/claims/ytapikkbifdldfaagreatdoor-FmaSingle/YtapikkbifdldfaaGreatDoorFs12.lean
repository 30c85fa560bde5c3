/-
  What the functions that the statement reaches return: part 12 (O1, O2, O3, M0).
-/
import Derived.Test.YtapikkbifdldfaaGreatDoorFs11
namespace Go.Proofs.YtapikkbifdldfaaGreatDoor
set_option maxRecDepth 100000
set_option maxHeartbeats 40000000
set_option maxRecDepth 100000
open Go.RowKit WMath
set_option linter.unusedSimpArgs false
set_option linter.unusedVariables false
theorem op_endless (c : Nat) (o : Bool) (ho : (decide (c = 0) || decide (c = 7)) = o) (w : World) : Calls Tryz.prog 70 #[.int .u8 (c : Nat)] w fun r w' => r = .returned (.bool o) ∧ Below w.heap.size w w' := by
  by_cases c0 : c = 0
  · rw [decide_eq_true c0, Bool.true_or] at ho
    subst ho
    have d0 : ((c : Int) == 0) = true := by rw [c0]; rfl
    clear c0
    have B0 : Below w.heap.size w w := (Below.refl _ _)
    go_enter Tryz.func70, Tryz.ntmps70
    go_wp2
    go_ret
    exact ⟨rfl, B0⟩
  · rw [decide_eq_false c0, Bool.false_or] at ho
    have d0 : ((c : Int) == 0) = false := by rw [beq_eq_false_iff_ne]; omega
    have d7 : ((c : Int) == 7) = o := by
      rw [← ho]
      by_cases c7 : c = 7
      · rw [decide_eq_true c7, c7]; rfl
      · rw [decide_eq_false c7, beq_eq_false_iff_ne]; omega
    clear ho c0
    have B0 : Below w.heap.size w w := (Below.refl _ _)
    go_enter Tryz.func70, Tryz.ntmps70
    go_wp2
    go_ret
    exact ⟨rfl, B0⟩
theorem op_naught (c : Nat) (o : Bool) (ho : (decide (c = 3) || decide (c = 4)) = o) (w : World) : Calls Tryz.prog 71 #[.int .u8 (c : Nat)] w fun r w' => r = .returned (.bool o) ∧ Below w.heap.size w w' := by
  by_cases c0 : c = 3
  · rw [decide_eq_true c0, Bool.true_or] at ho
    subst ho
    have d0 : ((c : Int) == 3) = true := by rw [c0]; rfl
    clear c0
    have B0 : Below w.heap.size w w := (Below.refl _ _)
    go_enter Tryz.func71, Tryz.ntmps71
    go_wp2
    go_ret
    exact ⟨rfl, B0⟩
  · rw [decide_eq_false c0, Bool.false_or] at ho
    have d0 : ((c : Int) == 3) = false := by rw [beq_eq_false_iff_ne]; omega
    have d7 : ((c : Int) == 4) = o := by
      rw [← ho]
      by_cases c7 : c = 4
      · rw [decide_eq_true c7, c7]; rfl
      · rw [decide_eq_false c7, beq_eq_false_iff_ne]; omega
    clear ho c0
    have B0 : Below w.heap.size w w := (Below.refl _ _)
    go_enter Tryz.func71, Tryz.ntmps71
    go_wp2
    go_ret
    exact ⟨rfl, B0⟩
set_option maxRecDepth 100000 in
theorem op_inf (f : Int) (neg : Bool) (u v : Nat) (w : World) (KI : Box (∀ w, FAt w → Calls Tryz.prog 76 #[.int .u8 f, .int .u8 0, .bool neg] w fun r w' => r = .returned (.tuple #[.agg #[.int .u64 (u : Nat), .int .u64 (v : Nat)], .int .u8 5, .int .i64 0]) ∧ Below w.heap.size w w')) (hT : FAt w) : Calls Tryz.prog 36 #[.int .u8 f, .bool neg] w fun r w' => r = .returned (.agg #[.int .u64 (u : Nat), .int .u64 (v : Nat)]) ∧ Below w.heap.size w w' := by
  have FF := box hT
  clear hT
  obtain ⟨Rz_0, B0⟩ := opn1 w (Obj.cells #[.int .u64 0, .int .u64 0] 26)
  go_enter Tryz.func36, Tryz.ntmps36
  go_wp2_with fail
  refine (KI.out _ (fatB FF.out B0)).mono ?_
  rintro r w1 ⟨rfl, b1⟩
  have B1 : Below w.heap.size w w1 := btr B0 b1
  have Rz_1 := heap_of b1 _ _ _ Rz_0
  clear b1 B0 Rz_0
  obtain ⟨cz_1_0, cz_1_1⟩ := cells2s Rz_1
  have S2 := box B1.size
  have Lz_2 : Box (w.heap.size < w1.heap.size) := box (Array.getElem?_eq_some_iff.1 Rz_1).1
  have Ri_2 := heap_alloc_last w1 (Obj.cells #[.int .u64 (u : Nat), .int .u64 (v : Nat)] 26)
  have B2 := btr B1 (bal w1 (Obj.cells #[.int .u64 (u : Nat), .int .u64 (v : Nat)] 26))
  have Rz_2 := heap_of (bal w1 (Obj.cells #[.int .u64 (u : Nat), .int .u64 (v : Nat)] 26)) _ _ _ Rz_1
  clear B1 Rz_1 cz_1_0 cz_1_1
  obtain ⟨cz_2_0, cz_2_1⟩ := cells2s Rz_2
  obtain ⟨ci_2_0, ci_2_1⟩ := cells2s Ri_2
  have q0 := fz (k := 0) Rz_2
  have q1 := fz (k := 1) Rz_2
  obtain ⟨E0, E1⟩ := set2_cells Rz_2 (.int .u64 (u : Nat)) (.int .u64 (v : Nat))
  go_wp2
  exact bodyPost_ret (v := .agg #[.int .u64 (u : Nat), .int .u64 (v : Nat)]) (by simp [results, Tryz.results36, go_sem, E0, E1]) rfl ⟨rfl, set2_below B2 (by first | exact Nat.le_refl _ | omega | (have := S2.out; have := Lz_2.out; omega)) _ _⟩
set_option maxRecDepth 100000 in
set_option maxHeartbeats 4000000 in
theorem op_nan (f : Int) (iu iv a b c u v : Nat) (l o : Bool) (w : World) (KI : Box (∀ w, FAt w → Calls Tryz.prog 36 #[.int .u8 f, .bool false] w fun r w' => r = .returned (.agg #[.int .u64 (iu : Nat), .int .u64 (iv : Nat)]) ∧ Below w.heap.size w w'))
    (KO : Box (∀ w, Calls Tryz.prog 72 #[.agg #[.int .u64 (iu : Nat), .int .u64 (iv : Nat)]] w fun r w' => r = .returned (.agg (cw 6 a)) ∧ Below w.heap.size w w'))
    (KR : Box (∀ w, Calls Tryz.prog 73 #[.agg (cw 6 a), .int .i64 1] w fun r w' => r = .returned (.tuple #[.agg (cw 6 b), .bool l]) ∧ Below w.heap.size w w'))
    (KU : Box (∀ w, Calls Tryz.prog 75 #[.agg (cw 6 a), .agg (cw 6 b)] w fun r w' => r = .returned (.agg (cw 6 c)) ∧ Below w.heap.size w w'))
    (KT : Box (∀ w, Calls Tryz.prog 74 #[.agg (cw 6 c)] w fun r w' => r = .returned (.tuple #[.agg #[.int .u64 (u : Nat), .int .u64 (v : Nat)], .bool o]) ∧ Below w.heap.size w w')) (hT : FAt w) : Calls Tryz.prog 35 #[.int .u8 f] w fun r w' => r = .returned (.agg #[.int .u64 (u : Nat), .int .u64 (v : Nat)]) ∧ Below w.heap.size w w' := by
  have FF := box hT
  clear hT
  have hat := cw_at 6
  have hz := cw6z
  have hff := cw6f
  have hs0 := st0
  have hcs : ∀ x, ((cw 6 x).size = 6) = True := fun x => eq_true (cw_size 6 x)
  obtain ⟨Rz_0, B0⟩ := opn1 w (Obj.cells #[.int .u64 0, .int .u64 0] 26)
  go_enter Tryz.func35, Tryz.ntmps35
  go_wp2_with fail
  refine (KI.out _ (fatB FF.out B0)).mono ?_
  rintro r w1 ⟨rfl, b1⟩
  have B1 : Below w.heap.size w w1 := btr B0 b1
  have Rz_1 := heap_of b1 _ _ _ Rz_0
  clear b1 B0 Rz_0
  obtain ⟨cz_1_0, cz_1_1⟩ := cells2s Rz_1
  go_wp2_with fail
  refine (KO.out _).mono ?_
  rintro r w2 ⟨rfl, b2⟩
  have B2 : Below w.heap.size w w2 := btr B1 b2
  have Rz_2 := heap_of b2 _ _ _ Rz_1
  clear b2 B1 Rz_1 cz_1_0 cz_1_1
  obtain ⟨cz_2_0, cz_2_1⟩ := cells2s Rz_2
  have S3 := box B2.size
  have Lz_3 : Box (w.heap.size < w2.heap.size) := box (Array.getElem?_eq_some_iff.1 Rz_2).1
  have Ra_3 := heap_alloc_last w2 (Obj.cells (cw 6 a) 52)
  have B3 := btr B2 (bal w2 (Obj.cells (cw 6 a) 52))
  have Rz_3 := heap_of (bal w2 (Obj.cells (cw 6 a) 52)) _ _ _ Rz_2
  clear B2 Rz_2 cz_2_0 cz_2_1
  obtain ⟨cz_3_0, cz_3_1⟩ := cells2s Rz_3
  have ca_3_0 := row_cell Ra_3
  go_wp2_with fail
  refine (KR.out _).mono ?_
  rintro r w4 ⟨rfl, b4⟩
  have B4 : Below w.heap.size w w4 := btr B3 b4
  have Rz_4 := heap_of b4 _ _ _ Rz_3
  have Ra_4 := heap_of b4 _ _ _ Ra_3
  clear b4 B3 Rz_3 cz_3_0 cz_3_1 Ra_3 ca_3_0
  obtain ⟨cz_4_0, cz_4_1⟩ := cells2s Rz_4
  have ca_4_0 := row_cell Ra_4
  have S5 := box B4.size
  have Lz_5 : Box (w.heap.size < w4.heap.size) := box (Array.getElem?_eq_some_iff.1 Rz_4).1
  have La_5 : Box (w2.heap.size < w4.heap.size) := box (Array.getElem?_eq_some_iff.1 Ra_4).1
  have Rb_5 := heap_alloc_last w4 (Obj.cells (cw 6 b) 52)
  have B5 := btr B4 (bal w4 (Obj.cells (cw 6 b) 52))
  have Rz_5 := heap_of (bal w4 (Obj.cells (cw 6 b) 52)) _ _ _ Rz_4
  have Ra_5 := heap_of (bal w4 (Obj.cells (cw 6 b) 52)) _ _ _ Ra_4
  clear B4 Rz_4 cz_4_0 cz_4_1 Ra_4 ca_4_0
  obtain ⟨cz_5_0, cz_5_1⟩ := cells2s Rz_5
  have ca_5_0 := row_cell Ra_5
  have cb_5_0 := row_cell Rb_5
  go_wp2_with fail
  refine (KU.out _).mono ?_
  rintro r w6 ⟨rfl, b6⟩
  have B6 : Below w.heap.size w w6 := btr B5 b6
  have Rz_6 := heap_of b6 _ _ _ Rz_5
  have Ra_6 := heap_of b6 _ _ _ Ra_5
  have Rb_6 := heap_of b6 _ _ _ Rb_5
  clear b6 B5 Rz_5 cz_5_0 cz_5_1 Ra_5 ca_5_0 Rb_5 cb_5_0
  obtain ⟨cz_6_0, cz_6_1⟩ := cells2s Rz_6
  have ca_6_0 := row_cell Ra_6
  have cb_6_0 := row_cell Rb_6
  go_wp2_with fail
  refine (KT.out _).mono ?_
  rintro r w7 ⟨rfl, b7⟩
  have B7 : Below w.heap.size w w7 := btr B6 b7
  have Rz_7 := heap_of b7 _ _ _ Rz_6
  have Ra_7 := heap_of b7 _ _ _ Ra_6
  have Rb_7 := heap_of b7 _ _ _ Rb_6
  clear b7 B6 Rz_6 cz_6_0 cz_6_1 Ra_6 ca_6_0 Rb_6 cb_6_0
  obtain ⟨cz_7_0, cz_7_1⟩ := cells2s Rz_7
  have ca_7_0 := row_cell Ra_7
  have cb_7_0 := row_cell Rb_7
  have S8 := box B7.size
  have Lz_8 : Box (w.heap.size < w7.heap.size) := box (Array.getElem?_eq_some_iff.1 Rz_7).1
  have La_8 : Box (w2.heap.size < w7.heap.size) := box (Array.getElem?_eq_some_iff.1 Ra_7).1
  have Lb_8 : Box (w4.heap.size < w7.heap.size) := box (Array.getElem?_eq_some_iff.1 Rb_7).1
  have Rt_8 := heap_alloc_last w7 (Obj.cells #[.int .u64 (u : Nat), .int .u64 (v : Nat)] 26)
  have B8 := btr B7 (bal w7 (Obj.cells #[.int .u64 (u : Nat), .int .u64 (v : Nat)] 26))
  have Rz_8 := heap_of (bal w7 (Obj.cells #[.int .u64 (u : Nat), .int .u64 (v : Nat)] 26)) _ _ _ Rz_7
  have Ra_8 := heap_of (bal w7 (Obj.cells #[.int .u64 (u : Nat), .int .u64 (v : Nat)] 26)) _ _ _ Ra_7
  have Rb_8 := heap_of (bal w7 (Obj.cells #[.int .u64 (u : Nat), .int .u64 (v : Nat)] 26)) _ _ _ Rb_7
  clear B7 Rz_7 cz_7_0 cz_7_1 Ra_7 ca_7_0 Rb_7 cb_7_0
  obtain ⟨cz_8_0, cz_8_1⟩ := cells2s Rz_8
  have ca_8_0 := row_cell Ra_8
  have cb_8_0 := row_cell Rb_8
  obtain ⟨ct_8_0, ct_8_1⟩ := cells2s Rt_8
  have q0 := fz (k := 0) Rz_8
  have q1 := fz (k := 1) Rz_8
  obtain ⟨E0, E1⟩ := set2_cells Rz_8 (.int .u64 (u : Nat)) (.int .u64 (v : Nat))
  go_wp2
  exact bodyPost_ret (v := .agg #[.int .u64 (u : Nat), .int .u64 (v : Nat)]) (by simp [results, Tryz.results35, go_sem, E0, E1]) rfl ⟨rfl, set2_below B8 (by first | exact Nat.le_refl _ | omega | (have := S3.out; have := Lz_3.out; have := S5.out; have := Lz_5.out; have := La_5.out; have := S8.out; have := Lz_8.out; have := La_8.out; have := Lb_8.out; omega)) _ _⟩
def bls (l : List (Nat × Nat)) : Array Value := (l.flatMap fun p => [Value.int .u64 (p.1 : Nat), Value.int .u64 (p.2 : Nat)]).toArray
def okP (f : Int) (p : Nat × Nat) : Bool := okB f (p.2 + 18446744073709551616 * p.1)
theorem bls_at (l : List (Nat × Nat)) (k : Nat) (p : Nat × Nat) (h : l[k]? = some p) : (bls l)[k * 2]? = some (.int .u64 (p.1 : Nat)) ∧ (bls l)[k * 2 + 1]? = some (.int .u64 (p.2 : Nat)) := by
  unfold bls
  rw [List.getElem?_toArray, List.getElem?_toArray]
  induction l generalizing k with
  | nil => simp at h
  | cons a t ih =>
    cases k with
    | zero =>
      simp at h
      subst h
      simp
    | succ k =>
      simp only [List.getElem?_cons_succ] at h
      have := ih k h
      rw [show (k + 1) * 2 = k * 2 + 1 + 1 by omega]
      simpa using this
theorem bls_cell {w : World} {g : Nat} {T : TypeId} {l : List (Nat × Nat)} (row : w.heap[g]? = some (.cells (bls l) T)) (k : Nat) (p : Nat × Nat) (h : l[k]? = some p) : w.cell? ⟨g, k * 2, none⟩ = some (.int .u64 (p.1 : Nat)) ∧ w.cell? ⟨g, k * 2 + 1, none⟩ = some (.int .u64 (p.2 : Nat)) := by
  obtain ⟨a, b⟩ := bls_at l k p h
  exact ⟨(cell_of_row w g (k * 2) _ _ _ row).trans a, (cell_of_row w g (k * 2 + 1) _ _ _ row).trans b⟩
set_option maxRecDepth 100000 in
set_option maxHeartbeats 8000000 in
theorem op_may_no (f m : Int) (pu pv : Nat) (fl c : Int) (sl : Value) (hc : (c != 0) = true) (w : World)
    (KP : Box (∀ w, FAt w → Calls Tryz.prog 37 #[.int .u8 f, .int .u8 m, .agg (rg false 0 0 false)] w fun r w' => r = .returned (.tuple #[.agg #[.int .u64 (pu : Nat), .int .u64 (pv : Nat)], .int .u8 fl, .int .i64 c]) ∧ Below w.heap.size w w')) (hT : FAt w) : Calls Tryz.prog 32 #[.int .u8 f, .int .u8 m, sl] w fun r w' => r = .returned (.bool false) ∧ Below w.heap.size w w' := by
  have FF := box hT
  clear hT
  have hp3 := rgz
  have B0 : Below w.heap.size w w := (Below.refl _ _)
  go_enter Tryz.func32, Tryz.ntmps32
  go_wp2_with fail
  refine (KP.out _ (fatB FF.out B0)).mono ?_
  rintro r w1 ⟨rfl, b1⟩
  have B1 : Below w.heap.size w w1 := btr B0 b1
  clear b1 B0 
  have S2 := box B1.size
  have Rp_2 := heap_alloc_last w1 (Obj.cells #[.int .u64 (pu : Nat), .int .u64 (pv : Nat)] 26)
  have B2 := btr B1 (bal w1 (Obj.cells #[.int .u64 (pu : Nat), .int .u64 (pv : Nat)] 26))
  clear B1 
  obtain ⟨cp_2_0, cp_2_1⟩ := cells2s Rp_2
  go_wp2
  go_ret
  exact ⟨rfl, B2⟩
theorem kClass_any (f : Int) (hf : Is4 f) (p : Nat × Nat) (h : p.1 < 18446744073709551616 ∧ p.2 < 18446744073709551616) (o : Bool) (ho : okP f p = o) : ∃ (c e : Int), (e != 0) = (!o) ∧ Box (∀ w, FAt w → Calls Tryz.prog 68 #[.int .u8 f, .agg #[.int .u64 (p.1 : Nat), .int .u64 (p.2 : Nat)]] w fun r w' => r = .returned (.tuple #[.int .u8 c, .int .i64 e]) ∧ Below w.heap.size w w') := by
  have h0 : 0 ≤ f ∧ f ≤ 255 := by rcases hf with rfl | rfl | rfl | rfl <;> decide
  cases o
  · exact ⟨0, 2, rfl, box (fun w hT => kClass_no f h0.1 h0.2 p.1 p.2 _ h.1 h.2 rfl ho w hT)⟩
  · exact ⟨_, 0, rfl, box (fun w hT => kClass_yes f hf p.1 p.2 _ _ h.1 h.2 rfl ho rfl w hT)⟩
set_option maxRecDepth 100000 in
set_option maxHeartbeats 8000000 in
theorem op_may (f m : Int) (hf : Is4 f) (l : List (Nat × Nat)) (L g c : Nat) (T : TypeId) (w : World) (hl : l.length = L) (hL : L ≤ 1000) (hb : Box (∀ p ∈ l, p.1 < 18446744073709551616 ∧ p.2 < 18446744073709551616)) (row : w.heap[g]? = some (.cells (bls l) T)) (pu pv : Nat) (fl : Int)
    (KP : Box (∀ w, FAt w → Calls Tryz.prog 37 #[.int .u8 f, .int .u8 m, .agg (rg false 0 0 false)] w fun r w' => r = .returned (.tuple #[.agg #[.int .u64 (pu : Nat), .int .u64 (pv : Nat)], .int .u8 fl, .int .i64 0]) ∧ Below w.heap.size w w'))
    (o : Bool) (ho : l.all (okP f) = o) (hT : FAt w) : Calls Tryz.prog 32 #[.int .u8 f, .int .u8 m, .slice (some ⟨g, 0, none⟩) L c] w fun r w' => r = .returned (.bool o) ∧ Below w.heap.size w w' := by
  have FF := box hT
  have HO := box ho
  have HL := box hl
  have HF := box hf
  clear ho hl hT hf
  have hp3 := rgz
  go_enter Tryz.func32, Tryz.ntmps32
  go_wp2_with fail
  refine (KP.out _ FF.out).mono ?_
  rintro r w1 ⟨rfl, b1⟩
  have BP := btr b1 (bal w1 (.cells #[.int .u64 (pu : Nat), .int .u64 (pv : Nat)] 26))
  obtain ⟨V, hV⟩ : ∃ V, w1.alloc (.cells #[.int .u64 (pu : Nat), .int .u64 (pv : Nat)] 26) = V := ⟨_, rfl⟩
  go_wp2
  rw [hV] at BP
  clear b1 KP hV
  go_loopw [26] (fun iv wr => ∃ k : Nat, k ≤ L ∧ iv = .int .i64 k ∧ Below w.heap.size w wr ∧ Box (∀ j p, j < k → l[j]? = some p → okP f p = true)) (fun iv _ => L - (intOf iv).toNat)
  case atStart => exact ⟨0, by omega, rfl, BP, box (fun j s hj => absurd hj (by omega))⟩
  case round =>
    obtain ⟨k, hk, rfl, bw, HA⟩ := hrel
    by_cases hlt : k < L
    · obtain ⟨p, hs⟩ : ∃ p, l[k]? = some p := ⟨_, List.getElem?_eq_getElem (by rw [HL.out]; exact hlt)⟩
      obtain ⟨c1, c2⟩ := bls_cell (heap_of bw _ _ _ row) k p hs
      have dl : decide ((k : Int) < (L : Int)) = true := decide_eq_true (by omega)
      have HS := box hs
      obtain ⟨o1, hm⟩ : ∃ o1, okP f p = o1 := ⟨_, rfl⟩
      have HM := box hm
      obtain ⟨cc, ee, hee, KC⟩ := kClass_any f HF.out p (hb.out p (List.mem_of_getElem? hs)) o1 hm
      have FA : Box (FAt (wr.alloc (.cells #[.int .u64 (p.1 : Nat), .int .u64 (p.2 : Nat)] 26))) := box (fatB FF.out (btr bw (bal _ _)))
      have BA := btr bw (bal wr (.cells #[.int .u64 (p.1 : Nat), .int .u64 (p.2 : Nat)] 26))
      clear hs hm
      cases o1
      · have e : o = false := by
          rw [← HO.out, Bool.eq_false_iff]
          intro h
          rw [List.all_eq_true] at h
          have := h p (List.mem_of_getElem? HS.out)
          rw [HM.out] at this
          exact absurd this (by decide)
        subst e
        go_wp2_with fail
        refine (KC.out _ FA.out).mono ?_
        rintro r w2 ⟨rfl, b2⟩
        go_wp2
        go_ret
        exact ⟨rfl, btr BA b2⟩
      · have NA : Box (∀ j p, j < k + 1 → l[j]? = some p → okP f p = true) := box (fun j p2 hj h2 => by
          by_cases e : j = k
          · subst e
            rw [HS.out] at h2
            cases h2
            exact HM.out
          · exact HA.out j p2 (by omega) h2)
        go_wp2_with fail
        refine (KC.out _ FA.out).mono ?_
        rintro r w2 ⟨rfl, b2⟩
        go_wp2
        go_roundw
        case rel => exact ⟨k + 1, by omega, by go_num, btr BA b2, NA⟩
        case measure => simp [intOf] <;> omega
    · obtain rfl : k = L := by omega
      have e : o = true := by
        rw [← HO.out, List.all_eq_true]
        intro s hs
        obtain ⟨j, hj⟩ := List.mem_iff_getElem?.1 hs
        have := (List.getElem?_eq_some_iff.1 hj).1
        exact HA.out j s (by rw [← HL.out]; exact this) hj
      subst e
      have dl : decide ((k : Int) < (k : Int)) = false := by rw [decide_eq_false_iff_not]; omega
      go_wp2
      go_ret
      exact ⟨rfl, bw⟩
end Go.Proofs.YtapikkbifdldfaaGreatDoor
namespace Go.Proofs.YtapikkbifdldfaaGreatDoor
set_option maxRecDepth 100000
set_option maxHeartbeats 40000000
set_option maxRecDepth 100000
open Go.RowKit WMath
set_option linter.unusedSimpArgs false
set_option linter.unusedVariables false
set_option maxRecDepth 100000 in
set_option maxHeartbeats 8000000 in
theorem mul_mul_yes (f m : Int) (x1 y1 x2 y2 u v p q : Nat) (fl c : Int) (w : World)
    (KF : Box (∀ (T : TypeId) (g : Nat) (w : World), w.heap.size = g → FAt w → Calls Tryz.prog 32 #[.int .u8 f, .int .u8 m, .slice (some ⟨g, 0, none⟩) 2 2] (w.alloc (.cells #[.int .u64 (x1 : Nat), .int .u64 (y1 : Nat), .int .u64 (x2 : Nat), .int .u64 (y2 : Nat)] T)) fun r w' => r = .returned (.bool true) ∧ Below w.heap.size w w'))
    (KT : Box (∀ w, FAt w → Calls Tryz.prog 59 #[.int .u8 f, .int .u8 m, .agg #[.int .u64 (x1 : Nat), .int .u64 (y1 : Nat)], .agg #[.int .u64 (x2 : Nat), .int .u64 (y2 : Nat)]] w fun r w' => r = .returned (.tuple #[.agg #[.int .u64 (u : Nat), .int .u64 (v : Nat)], .int .u8 fl, .int .i64 c]) ∧ Below w.heap.size w w'))
    (hT : FAt w) : Calls Tryz.prog 23 #[.int .u8 f, .int .u8 m, .agg #[.int .u64 (x1 : Nat), .int .u64 (y1 : Nat)], .agg #[.int .u64 (x2 : Nat), .int .u64 (y2 : Nat)]] w fun r w' => r = .returned (.tuple #[.agg #[.int .u64 (u : Nat), .int .u64 (v : Nat)], .int .u8 fl, .int .i64 c]) ∧ Below w.heap.size w w' := by
  have FF := box hT
  clear hT
  obtain ⟨Ra_0, Rb_0, Rz_0, B0⟩ := opn3 w (Obj.cells #[.int .u64 (x1 : Nat), .int .u64 (y1 : Nat)] 26) (Obj.cells #[.int .u64 (x2 : Nat), .int .u64 (y2 : Nat)] 26) (Obj.cells #[.int .u64 0, .int .u64 0] 26)
  go_enter Tryz.func23, Tryz.ntmps23
  obtain ⟨ca_0_0, ca_0_1⟩ := cells2s Ra_0
  obtain ⟨cb_0_0, cb_0_1⟩ := cells2s Rb_0
  go_wp2_with fail
  refine (KF.out _ _ (((w.alloc (Obj.cells #[.int .u64 (x1 : Nat), .int .u64 (y1 : Nat)] 26)).alloc (Obj.cells #[.int .u64 (x2 : Nat), .int .u64 (y2 : Nat)] 26)).alloc (Obj.cells #[.int .u64 0, .int .u64 0] 26)) (by first | rfl | simp only [size_al]) (fatB FF.out B0)).mono ?_
  rintro r w1 ⟨rfl, b1⟩
  have B1 : Below w.heap.size w w1 := btr B0 b1
  have Ra_1 := heap_of b1 _ _ _ Ra_0
  have Rb_1 := heap_of b1 _ _ _ Rb_0
  have Rz_1 := heap_of b1 _ _ _ Rz_0
  clear b1 B0 Ra_0 ca_0_0 ca_0_1 Rb_0 cb_0_0 cb_0_1 Rz_0
  obtain ⟨ca_1_0, ca_1_1⟩ := cells2s Ra_1
  obtain ⟨cb_1_0, cb_1_1⟩ := cells2s Rb_1
  go_wp2_with fail
  refine (KT.out _ (fatB FF.out B1)).mono ?_
  rintro r w2 ⟨rfl, b2⟩
  have B2 : Below w.heap.size w w2 := btr B1 b2
  have Ra_2 := heap_of b2 _ _ _ Ra_1
  have Rb_2 := heap_of b2 _ _ _ Rb_1
  have Rz_2 := heap_of b2 _ _ _ Rz_1
  clear b2 B1 Ra_1 ca_1_0 ca_1_1 Rb_1 cb_1_0 cb_1_1 Rz_1
  obtain ⟨ca_2_0, ca_2_1⟩ := cells2s Ra_2
  obtain ⟨cb_2_0, cb_2_1⟩ := cells2s Rb_2
  obtain ⟨cz_2_0, cz_2_1⟩ := cells2s Rz_2
  have q0 := fz (k := 0) Rz_2
  have q1 := fz (k := 1) Rz_2
  obtain ⟨E0, E1⟩ := set2_cells Rz_2 (.int .u64 (u : Nat)) (.int .u64 (v : Nat))
  go_wp2
  exact bodyPost_ret (v := .tuple #[.agg #[.int .u64 (u : Nat), .int .u64 (v : Nat)], .int .u8 fl, .int .i64 c]) (by simp [results, Tryz.results23, go_sem, E0, E1]) rfl ⟨rfl, set2_below B2 (by first | exact Nat.le_refl _ | omega | (skip; omega)) _ _⟩
set_option maxRecDepth 100000 in
set_option maxHeartbeats 8000000 in
theorem add_add_yes (f m : Int) (x1 y1 x2 y2 u v p q : Nat) (fl c : Int) (w : World)
    (KF : Box (∀ (T : TypeId) (g : Nat) (w : World), w.heap.size = g → FAt w → Calls Tryz.prog 32 #[.int .u8 f, .int .u8 m, .slice (some ⟨g, 0, none⟩) 2 2] (w.alloc (.cells #[.int .u64 (x1 : Nat), .int .u64 (y1 : Nat), .int .u64 (x2 : Nat), .int .u64 (y2 : Nat)] T)) fun r w' => r = .returned (.bool true) ∧ Below w.heap.size w w'))
    (KT : Box (∀ w, FAt w → Calls Tryz.prog 61 #[.int .u8 f, .int .u8 m, .agg #[.int .u64 (x1 : Nat), .int .u64 (y1 : Nat)], .agg #[.int .u64 (x2 : Nat), .int .u64 (y2 : Nat)]] w fun r w' => r = .returned (.tuple #[.agg #[.int .u64 (u : Nat), .int .u64 (v : Nat)], .int .u8 fl, .int .i64 c]) ∧ Below w.heap.size w w'))
    (hT : FAt w) : Calls Tryz.prog 25 #[.int .u8 f, .int .u8 m, .agg #[.int .u64 (x1 : Nat), .int .u64 (y1 : Nat)], .agg #[.int .u64 (x2 : Nat), .int .u64 (y2 : Nat)]] w fun r w' => r = .returned (.tuple #[.agg #[.int .u64 (u : Nat), .int .u64 (v : Nat)], .int .u8 fl, .int .i64 c]) ∧ Below w.heap.size w w' := by
  have FF := box hT
  clear hT
  obtain ⟨Ra_0, Rb_0, Rz_0, B0⟩ := opn3 w (Obj.cells #[.int .u64 (x1 : Nat), .int .u64 (y1 : Nat)] 26) (Obj.cells #[.int .u64 (x2 : Nat), .int .u64 (y2 : Nat)] 26) (Obj.cells #[.int .u64 0, .int .u64 0] 26)
  go_enter Tryz.func25, Tryz.ntmps25
  obtain ⟨ca_0_0, ca_0_1⟩ := cells2s Ra_0
  obtain ⟨cb_0_0, cb_0_1⟩ := cells2s Rb_0
  go_wp2_with fail
  refine (KF.out _ _ (((w.alloc (Obj.cells #[.int .u64 (x1 : Nat), .int .u64 (y1 : Nat)] 26)).alloc (Obj.cells #[.int .u64 (x2 : Nat), .int .u64 (y2 : Nat)] 26)).alloc (Obj.cells #[.int .u64 0, .int .u64 0] 26)) (by first | rfl | simp only [size_al]) (fatB FF.out B0)).mono ?_
  rintro r w1 ⟨rfl, b1⟩
  have B1 : Below w.heap.size w w1 := btr B0 b1
  have Ra_1 := heap_of b1 _ _ _ Ra_0
  have Rb_1 := heap_of b1 _ _ _ Rb_0
  have Rz_1 := heap_of b1 _ _ _ Rz_0
  clear b1 B0 Ra_0 ca_0_0 ca_0_1 Rb_0 cb_0_0 cb_0_1 Rz_0
  obtain ⟨ca_1_0, ca_1_1⟩ := cells2s Ra_1
  obtain ⟨cb_1_0, cb_1_1⟩ := cells2s Rb_1
  go_wp2_with fail
  refine (KT.out _ (fatB FF.out B1)).mono ?_
  rintro r w2 ⟨rfl, b2⟩
  have B2 : Below w.heap.size w w2 := btr B1 b2
  have Ra_2 := heap_of b2 _ _ _ Ra_1
  have Rb_2 := heap_of b2 _ _ _ Rb_1
  have Rz_2 := heap_of b2 _ _ _ Rz_1
  clear b2 B1 Ra_1 ca_1_0 ca_1_1 Rb_1 cb_1_0 cb_1_1 Rz_1
  obtain ⟨ca_2_0, ca_2_1⟩ := cells2s Ra_2
  obtain ⟨cb_2_0, cb_2_1⟩ := cells2s Rb_2
  obtain ⟨cz_2_0, cz_2_1⟩ := cells2s Rz_2
  have q0 := fz (k := 0) Rz_2
  have q1 := fz (k := 1) Rz_2
  obtain ⟨E0, E1⟩ := set2_cells Rz_2 (.int .u64 (u : Nat)) (.int .u64 (v : Nat))
  go_wp2
  exact bodyPost_ret (v := .tuple #[.agg #[.int .u64 (u : Nat), .int .u64 (v : Nat)], .int .u8 fl, .int .i64 c]) (by simp [results, Tryz.results25, go_sem, E0, E1]) rfl ⟨rfl, set2_below B2 (by first | exact Nat.le_refl _ | omega | (skip; omega)) _ _⟩
end Go.Proofs.YtapikkbifdldfaaGreatDoor
namespace Go.Proofs.YtapikkbifdldfaaGreatDoor
set_option maxRecDepth 100000
set_option maxHeartbeats 40000000
set_option maxRecDepth 100000
open Go.RowKit WMath
set_option linter.unusedSimpArgs false
set_option linter.unusedVariables false
theorem two_row (x1 y1 x2 y2 : Nat) (T : TypeId) (g : Nat) (w : World) (hg : w.heap.size = g) : (w.alloc (.cells #[.int .u64 (x1 : Nat), .int .u64 (y1 : Nat), .int .u64 (x2 : Nat), .int .u64 (y2 : Nat)] T)).heap[g]? = some (.cells (bls [(x1, y1), (x2, y2)]) T) := by
  rw [← hg]
  exact heap_alloc_last _ _
theorem two_lim {x1 y1 x2 y2 : Nat} (hx1 : x1 < 18446744073709551616) (hy1 : y1 < 18446744073709551616) (hx2 : x2 < 18446744073709551616) (hy2 : y2 < 18446744073709551616) : Box (∀ p ∈ [(x1, y1), (x2, y2)], p.1 < 18446744073709551616 ∧ p.2 < 18446744073709551616) := box (fun p hp => by
  rcases List.mem_cons.1 hp with rfl | h
  · exact ⟨hx1, hy1⟩
  · rcases List.mem_cons.1 h with rfl | h
    · exact ⟨hx2, hy2⟩
    · exact absurd h List.not_mem_nil)
theorem kmay2 (f m : Int) (h0 : 0 ≤ f) (h1 : f ≤ 255) (m0 : 0 ≤ m) (x1 y1 a x2 y2 b : Nat) (hx1 : x1 < 18446744073709551616) (hy1 : y1 < 18446744073709551616) (ha : y1 + 18446744073709551616 * x1 = a) (hx2 : x2 < 18446744073709551616) (hy2 : y2 < 18446744073709551616) (hb : y2 + 18446744073709551616 * x2 = b) (o : Bool) (ho : (decide (f ≤ 3 ∧ m ≤ 4) && okB f a && okB f b) = o) :
    Box (∀ (T : TypeId) (g : Nat) (w : World), w.heap.size = g → FAt w → Calls Tryz.prog 32 #[.int .u8 f, .int .u8 m, .slice (some ⟨g, 0, none⟩) 2 2] (w.alloc (.cells #[.int .u64 (x1 : Nat), .int .u64 (y1 : Nat), .int .u64 (x2 : Nat), .int .u64 (y2 : Nat)] T)) fun r w' => r = .returned (.bool o) ∧ Below w.heap.size w w') := by
  refine box (fun T g w hg hT => ?_)
  have B := (bal w (.cells #[.int .u64 (x1 : Nat), .int .u64 (y1 : Nat), .int .u64 (x2 : Nat), .int .u64 (y2 : Nat)] T))
  have row := two_row x1 y1 x2 y2 T g w hg
  have hT2 := fatB hT B
  by_cases c : f ≤ 3 ∧ m ≤ 4
  · have hf := is4_of h0 c.1
    obtain ⟨u, v, hv⟩ : ∃ u v, bv7 (eZero f false) = (u, v) := ⟨_, _, rfl⟩
    have KP : Box (∀ w, FAt w → Calls Tryz.prog 37 #[.int .u8 f, .int .u8 m, .agg (rg false 0 0 false)] w fun r w' => r = .returned (.tuple #[.agg #[.int .u64 (u : Nat), .int .u64 (v : Nat)], .int .u8 0, .int .i64 0]) ∧ Below w.heap.size w w') := box (fun w hT => kPack_zero f m hf ⟨m0, c.2⟩ false 0 (by decide) (by decide) u v hv w hT)
    refine (op_may f m hf [(x1, y1), (x2, y2)] 2 g 2 T _ rfl (by decide) (two_lim hx1 hy1 hx2 hy2) row u v 0 KP o ?_ hT2).mono fun _ _ ⟨q1, q2⟩ => ⟨q1, btr B q2⟩
    rw [← ho, decide_eq_true c]
    show (okP f (x1, y1) && (okP f (x2, y2) && true)) = _
    unfold okP
    rw [ha, hb, Bool.and_true, Bool.true_and]
  · have e : o = false := by rw [← ho, decide_eq_false c]; rfl
    subst e
    exact (op_may_no f m 0 0 0 2 _ rfl _ (box (fun w hT => kPack_no f m h0 h1 false 0 Q_pos 0 false (fun q => c ⟨q.1, q.2.1⟩) w hT)) hT2).mono fun _ _ ⟨q1, q2⟩ => ⟨q1, btr B q2⟩
end Go.Proofs.YtapikkbifdldfaaGreatDoor
namespace Go.Proofs.YtapikkbifdldfaaGreatDoor
set_option maxRecDepth 100000
set_option maxHeartbeats 40000000
set_option maxRecDepth 100000
open Go.RowKit WMath XMath
set_option linter.unusedSimpArgs false
set_option linter.unusedVariables false
theorem blen_prod (A B : Nat) (hA : A < 2 ^ 128) (hB : B < 2 ^ 128) : A * B < 2 ^ 256 ∧ blen (A * B) ≤ 256 := by
  have h : A * B < 2 ^ 256 := by
    have := mul_pow_lt A B 128 128 hA hB
    rw [show (256 : Nat) = 128 + 128 from rfl]
    exact this
  exact ⟨h, (blen_iff _ _).2 h⟩
theorem od_prod (A B : Nat) (A0 : A ≠ 0) (B0 : B ≠ 0) : A * B = od A * od B * 2 ^ (tz A + tz B) ∧ od A * od B ≠ 0 := by
  obtain ⟨a1, a2⟩ := od_is A A0
  obtain ⟨b1, b2⟩ := od_is B B0
  refine ⟨?_, mul_ne (by omega) (by omega)⟩
  obtain ⟨P, hP⟩ : ∃ P, od A = P := ⟨_, rfl⟩
  obtain ⟨R, hR⟩ : ∃ R, od B = R := ⟨_, rfl⟩
  obtain ⟨i, hi⟩ : ∃ i, tz A = i := ⟨_, rfl⟩
  obtain ⟨j, hj⟩ : ∃ j, tz B = j := ⟨_, rfl⟩
  rw [hP, hi] at a1
  rw [hR, hj] at b1
  rw [hP, hR, hi, hj, a1, b1, Nat.pow_add]
  simp only [Nat.mul_assoc, Nat.mul_comm, Nat.mul_left_comm]
theorem mul_num {f : Int} (hf : Is4 f) (m : Int) (a b : Bool) (A B : Nat) (x y : Int) (A0 : A ≠ 0) (B0 : B ≠ 0) (hA : A < 2 ^ 128) (hB : B < 2 ^ 128) (x1 : -20000 ≤ x) (x2 : x ≤ 20000) (y1 : -20000 ≤ y) (y2 : y ≤ 20000) :
    ∃ (n : Nat) (e : Int), mulX ⟨a, od A, 1, x + (tz A : Int)⟩ ⟨b, od B, 1, y + (tz B : Int)⟩ = (⟨a != b, n, 1, e⟩, 0) ∧ (XN.mk (a != b) n 1 e).can ∧ nl n ≤ 8192 ∧ n ≠ 0 ∧
      rnd f m ⟨a != b, n, 1, e⟩ = dlv f m (a != b) (x + y + (blen (A * B) : Int) - 1) (qW (pV f + 1) (A * B)) (qM (pV f + 1) (A * B) false) := by
  obtain ⟨p1, p2⟩ := blen_prod A B hA hB
  obtain ⟨o1, o2⟩ := od_prod A B A0 B0
  have tA := tz_blen A
  have tB := tz_blen B
  have bA := (blen_iff A 128).2 hA
  have bB := (blen_iff B 128).2 hB
  obtain ⟨N, hN⟩ : ∃ N, od A * od B = N := ⟨_, rfl⟩
  obtain ⟨k, hk⟩ : ∃ k, tz A + tz B = k := ⟨_, rfl⟩
  rw [hN, hk] at o1
  rw [hN] at o2
  have bs := blen_shift N k o2
  have ql := q_longer (pV f + 1) N k o2
  rw [← o1] at bs ql
  obtain ⟨w1, w2, w3, w4, w5, w6, w7⟩ := x_whole hf (a != b) N (x + (tz A : Int) + (y + (tz B : Int))) o2 (by omega) (by omega) (by omega)
  have a0 := (od_is A A0).2
  have b0 := (od_is B B0).2
  refine ⟨od N, x + (tz A : Int) + (y + (tz B : Int)) + (tz N : Int), ?_, w2, w4, w3, ?_⟩
  · unfold mulX
    have lN : nl N ≤ 16384 := by unfold nl; omega
    rw [if_neg (by show ¬ (od A = 0 ∨ od B = 0); omega)]
    show (if nl (od A * od B) ≤ 16384 ∧ nl (1 * 1) ≤ 16384 then mk (a != b) (od A * od B) (1 * 1) (x + (tz A : Int) + (y + (tz B : Int))) else (XZ, 4)) = _
    rw [hN, Nat.mul_one, if_pos ⟨lN, nl_1⟩, w1]
  · unfold rnd
    rw [if_neg w3, w5, w6, w7, ql.1, ql.2]
    congr 1
    omega
theorem vX_whole {f : Int} (hf : Is4 f) (n : Nat) (h : 0 < kC f n ∧ kC f n < 7) (h2 : ¬ (kC f n = 3 ∨ kC f n = 4)) : kS f n ≠ 0 ∧ kS f n < 2 ^ 128 ∧ vX f n = ⟨kN f n, od (kS f n), 1, kX f n + (tz (kS f n) : Int)⟩ ∧ (vX f n).can := by
  obtain ⟨l1, l2, l3⟩ := kS_lim hf n
  obtain ⟨a, b, d, e⟩ := k_parts (f := f) n (by omega)
  have l4 : kS f n < 2 ^ 128 := l1
  obtain ⟨w1, w2, w3, w4, w5, w6, w7⟩ := x_whole hf (kN f n) (kS f n) (kX f n) e (by have := (blen_iff (kS f n) 128).2 l4; omega) (by omega) (by omega)
  have := vX_mk hf n h
  rw [w1] at this
  injection this with h3 h4
  exact ⟨e, l4, h3.symm, by rw [← h3]; exact w2⟩
end Go.Proofs.YtapikkbifdldfaaGreatDoor
