/-
  What the functions that the statement reaches return: part 11 (O1, O2, O3, M0, M1).
-/
import Derived.Test.YtoaaajeblhaeoaaDoorMt10
namespace Go.Proofs.YtoaaajeblhaeoaaDoor
set_option maxRecDepth 100000
set_option maxHeartbeats 40000000
set_option maxRecDepth 100000
open Go.RowKit WMath
set_option linter.unusedSimpArgs false
set_option linter.unusedVariables false
theorem op_endless (c : Nat) (o : Bool) (ho : (decide (c = 0) || decide (c = 7)) = o) (w : World) : Calls Tryd.prog 29 #[.int .u8 c] w fun r w' => r = .returned (.bool o) ∧ Below w.heap.size w w' := by
  by_cases c0 : c = 0
  · rw [decide_eq_true c0, Bool.true_or] at ho
    subst ho
    have d0 : ((c : Int) == 0) = true := by rw [c0]; rfl
    clear c0
    have B0 : Below w.heap.size w w := (Below.refl _ _)
    go_enter Tryd.func29, Tryd.ntmps29
    go_wp2
    go_ret
    exact ⟨rfl, B0⟩
  · rw [decide_eq_false c0, Bool.false_or] at ho
    have d0 : ((c : Int) == 0) = false := by rw [beq_eq_false_iff_ne]; omega
    have d7 : ((c : Int) == 7) = o := by
      rw [← ho]
      by_cases c7 : c = 7
      · rw [decide_eq_true c7, c7]; rfl
      · rw [decide_eq_false c7, beq_eq_false_iff_ne]; omega
    clear ho c0
    have B0 : Below w.heap.size w w := (Below.refl _ _)
    go_enter Tryd.func29, Tryd.ntmps29
    go_wp2
    go_ret
    exact ⟨rfl, B0⟩
theorem op_naught (c : Nat) (o : Bool) (ho : (decide (c = 3) || decide (c = 4)) = o) (w : World) : Calls Tryd.prog 68 #[.int .u8 c] w fun r w' => r = .returned (.bool o) ∧ Below w.heap.size w w' := by
  by_cases c0 : c = 3
  · rw [decide_eq_true c0, Bool.true_or] at ho
    subst ho
    have d0 : ((c : Int) == 3) = true := by rw [c0]; rfl
    clear c0
    have B0 : Below w.heap.size w w := (Below.refl _ _)
    go_enter Tryd.func68, Tryd.ntmps68
    go_wp2
    go_ret
    exact ⟨rfl, B0⟩
  · rw [decide_eq_false c0, Bool.false_or] at ho
    have d0 : ((c : Int) == 3) = false := by rw [beq_eq_false_iff_ne]; omega
    have d7 : ((c : Int) == 4) = o := by
      rw [← ho]
      by_cases c7 : c = 4
      · rw [decide_eq_true c7, c7]; rfl
      · rw [decide_eq_false c7, beq_eq_false_iff_ne]; omega
    clear ho c0
    have B0 : Below w.heap.size w w := (Below.refl _ _)
    go_enter Tryd.func68, Tryd.ntmps68
    go_wp2
    go_ret
    exact ⟨rfl, B0⟩
theorem op_inf (f : Int) (neg : Bool) (u v : Nat) (w : World) (KI : Box (∀ w, FAt w → Calls Tryd.prog 53 #[.int .u8 f, .int .u8 0, .bool neg] w fun r w' => r = .returned (.tuple #[.agg #[.int .u64 u, .int .u64 v], .int .u8 5, .int .i64 0]) ∧ Below w.heap.size w w')) (hT : FAt w) : Calls Tryd.prog 39 #[.int .u8 f, .bool neg] w fun r w' => r = .returned (.agg #[.int .u64 u, .int .u64 v]) ∧ Below w.heap.size w w' := by
  have FF := box hT
  clear hT
  obtain ⟨Ac, B0⟩ := opn1 w (Obj.cells #[.int .u64 0, .int .u64 0] 26)
  go_enter Tryd.func39, Tryd.ntmps39
  go_wp2_with fail
  refine (KI.out _ (fatB FF.out B0)).mono ?_
  rintro r w1 ⟨rfl, b1⟩
  have B1 : Below w.heap.size w w1 := btr B0 b1
  have Aa := heap_of b1 _ _ _ Ac
  clear b1 B0 Ac
  obtain ⟨Ad, Ae⟩ := cells2s Aa
  have S2 := box B1.size
  have Af := ltR Aa
  have Ag := heap_alloc_last w1 (Obj.cells #[.int .u64 u, .int .u64 v] 26)
  have B2 := btr B1 (bal w1 (Obj.cells #[.int .u64 u, .int .u64 v] 26))
  have Ab := heap_of (bal w1 (Obj.cells #[.int .u64 u, .int .u64 v] 26)) _ _ _ Aa
  clear B1 Aa Ad Ae
  obtain ⟨Ah, Ai⟩ := cells2s Ab
  obtain ⟨Aj, Ak⟩ := cells2s Ag
  have q0 := fz (k := 0) Ab
  have q1 := fz (k := 1) Ab
  obtain ⟨E0, E1⟩ := set2_cells Ab (.int .u64 u) (.int .u64 v)
  go_wp2
  exact bodyPost_ret (v := .agg #[.int .u64 u, .int .u64 v]) (by simp [results, Tryd.results39, go_sem, E0, E1]) rfl ⟨rfl, set2_below B2 (by first | exact Nat.le_refl _ | omega | (have := S2.out; have := Af.out; omega)) _ _⟩
theorem op_nan (f : Int) (iu iv a b c u v : Nat) (l o : Bool) (w : World) (KI : Box (∀ w, FAt w → Calls Tryd.prog 39 #[.int .u8 f, .bool false] w fun r w' => r = .returned (.agg #[.int .u64 iu, .int .u64 iv]) ∧ Below w.heap.size w w'))
    (KO : Box (∀ w, Calls Tryd.prog 57 #[.agg #[.int .u64 iu, .int .u64 iv]] w fun r w' => r = .returned (.agg (cw 6 a)) ∧ Below w.heap.size w w'))
    (KR : Box (∀ w, Calls Tryd.prog 59 #[.agg (cw 6 a), .int .i64 1] w fun r w' => r = .returned (.tuple #[.agg (cw 6 b), .bool l]) ∧ Below w.heap.size w w'))
    (KU : Box (∀ w, Calls Tryd.prog 61 #[.agg (cw 6 a), .agg (cw 6 b)] w fun r w' => r = .returned (.agg (cw 6 c)) ∧ Below w.heap.size w w'))
    (KT : Box (∀ w, Calls Tryd.prog 60 #[.agg (cw 6 c)] w fun r w' => r = .returned (.tuple #[.agg #[.int .u64 u, .int .u64 v], .bool o]) ∧ Below w.heap.size w w')) (hT : FAt w) : Calls Tryd.prog 28 #[.int .u8 f] w fun r w' => r = .returned (.agg #[.int .u64 u, .int .u64 v]) ∧ Below w.heap.size w w' := by
  have FF := box hT
  clear hT
  have hat := cw_at 6
  have hz := cw6z
  have hff := cw6f
  have hs0 := st0
  have hcs : ∀ x, ((cw 6 x).size = 6) = True := fun x => eq_true (cw_size 6 x)
  obtain ⟨Aq, B0⟩ := opn1 w (Obj.cells #[.int .u64 0, .int .u64 0] 26)
  go_enter Tryd.func28, Tryd.ntmps28
  go_wp2_with fail
  refine (KI.out _ (fatB FF.out B0)).mono ?_
  rintro r w1 ⟨rfl, b1⟩
  have B1 : Below w.heap.size w w1 := btr B0 b1
  have Ah := heap_of b1 _ _ _ Aq
  clear b1 B0 Aq
  obtain ⟨Ar, As⟩ := cells2s Ah
  go_wp2_with fail
  refine (KO.out _).mono ?_
  rintro r w2 ⟨rfl, b2⟩
  have B2 : Below w.heap.size w w2 := btr B1 b2
  have Aa := heap_of b2 _ _ _ Ah
  clear b2 B1 Ah Ar As
  obtain ⟨At, Au⟩ := cells2s Aa
  have S3 := box B2.size
  have Av := ltR Aa
  have Ai := heap_alloc_last w2 (Obj.cells (cw 6 a) 47)
  have B3 := btr B2 (bal w2 (Obj.cells (cw 6 a) 47))
  have Aj := heap_of (bal w2 (Obj.cells (cw 6 a) 47)) _ _ _ Aa
  clear B2 Aa At Au
  obtain ⟨Aw, Ax⟩ := cells2s Aj
  have Ay := row_cell Ai
  go_wp2_with fail
  refine (KR.out _).mono ?_
  rintro r w4 ⟨rfl, b4⟩
  have B4 : Below w.heap.size w w4 := btr B3 b4
  have Ab := heap_of b4 _ _ _ Aj
  have Ac := heap_of b4 _ _ _ Ai
  clear b4 B3 Aj Aw Ax Ai Ay
  obtain ⟨Az, AA⟩ := cells2s Ab
  have AB := row_cell Ac
  have S5 := box B4.size
  have AC := ltR Ab
  have AD := ltR Ac
  have Ak := heap_alloc_last w4 (Obj.cells (cw 6 b) 47)
  have B5 := btr B4 (bal w4 (Obj.cells (cw 6 b) 47))
  have Al := heap_of (bal w4 (Obj.cells (cw 6 b) 47)) _ _ _ Ab
  have Am := heap_of (bal w4 (Obj.cells (cw 6 b) 47)) _ _ _ Ac
  clear B4 Ab Az AA Ac AB
  obtain ⟨AE, AF⟩ := cells2s Al
  have AG := row_cell Am
  have AH := row_cell Ak
  go_wp2_with fail
  refine (KU.out _).mono ?_
  rintro r w6 ⟨rfl, b6⟩
  have B6 : Below w.heap.size w w6 := btr B5 b6
  have An := heap_of b6 _ _ _ Al
  have Ao := heap_of b6 _ _ _ Am
  have Ap := heap_of b6 _ _ _ Ak
  clear b6 B5 Al AE AF Am AG Ak AH
  obtain ⟨AI, AJ⟩ := cells2s An
  have AK := row_cell Ao
  have AL := row_cell Ap
  go_wp2_with fail
  refine (KT.out _).mono ?_
  rintro r w7 ⟨rfl, b7⟩
  have B7 : Below w.heap.size w w7 := btr B6 b7
  have Ad := heap_of b7 _ _ _ An
  have Ae := heap_of b7 _ _ _ Ao
  have Af := heap_of b7 _ _ _ Ap
  clear b7 B6 An AI AJ Ao AK Ap AL
  obtain ⟨AM, AN⟩ := cells2s Ad
  have AO := row_cell Ae
  have AP := row_cell Af
  have S8 := box B7.size
  have AQ := ltR Ad
  have AR := ltR Ae
  have AS := ltR Af
  have AT := heap_alloc_last w7 (Obj.cells #[.int .u64 u, .int .u64 v] 26)
  have B8 := btr B7 (bal w7 (Obj.cells #[.int .u64 u, .int .u64 v] 26))
  have Ag := heap_of (bal w7 (Obj.cells #[.int .u64 u, .int .u64 v] 26)) _ _ _ Ad
  have AU := heap_of (bal w7 (Obj.cells #[.int .u64 u, .int .u64 v] 26)) _ _ _ Ae
  have AV := heap_of (bal w7 (Obj.cells #[.int .u64 u, .int .u64 v] 26)) _ _ _ Af
  clear B7 Ad AM AN Ae AO Af AP
  obtain ⟨AW, AX⟩ := cells2s Ag
  have AY := row_cell AU
  have AZ := row_cell AV
  obtain ⟨A0, A1⟩ := cells2s AT
  have q0 := fz (k := 0) Ag
  have q1 := fz (k := 1) Ag
  obtain ⟨E0, E1⟩ := set2_cells Ag (.int .u64 u) (.int .u64 v)
  go_wp2
  exact bodyPost_ret (v := .agg #[.int .u64 u, .int .u64 v]) (by simp [results, Tryd.results28, go_sem, E0, E1]) rfl ⟨rfl, set2_below B8 (by first | exact Nat.le_refl _ | omega | (have := S3.out; have := Av.out; have := S5.out; have := AC.out; have := AD.out; have := S8.out; have := AQ.out; have := AR.out; have := AS.out; omega)) _ _⟩
def bls (l : List (Nat × Nat)) : Array Value := (l.flatMap fun p => [Value.int .u64 (p.1 : Nat), Value.int .u64 (p.2 : Nat)]).toArray
def okP (f : Int) (p : Nat × Nat) : Bool := okB f (p.2 + 18446744073709551616 * p.1)
theorem bls_at (l : List (Nat × Nat)) (k : Nat) (p : Nat × Nat) (h : l[k]? = some p) : (bls l)[k * 2]? = some (.int .u64 (p.1 : Nat)) ∧ (bls l)[k * 2 + 1]? = some (.int .u64 (p.2 : Nat)) := by
  unfold bls
  rw [List.getElem?_toArray, List.getElem?_toArray]
  induction l generalizing k with
  | nil => simp at h
  | cons a t ih =>
    cases k with
    | zero =>
      simp at h
      subst h
      simp
    | succ k =>
      simp only [List.getElem?_cons_succ] at h
      have := ih k h
      rw [show (k + 1) * 2 = k * 2 + 1 + 1 by omega]
      simpa using this
theorem bls_cell {w : World} {g : Nat} {T : TypeId} {l : List (Nat × Nat)} (row : w.heap[g]? = some (.cells (bls l) T)) (k : Nat) (p : Nat × Nat) (h : l[k]? = some p) : w.cell? ⟨g, k * 2, none⟩ = some (.int .u64 (p.1 : Nat)) ∧ w.cell? ⟨g, k * 2 + 1, none⟩ = some (.int .u64 (p.2 : Nat)) := by
  obtain ⟨a, b⟩ := bls_at l k p h
  exact ⟨(cell_of_row w g (k * 2) _ _ _ row).trans a, (cell_of_row w g (k * 2 + 1) _ _ _ row).trans b⟩
theorem op_may_no (f m : Int) (pu pv : Nat) (fl c : Int) (sl : Value) (hc : (c != 0) = true) (w : World)
    (KP : Box (∀ w, FAt w → Calls Tryd.prog 24 #[.int .u8 f, .int .u8 m, .agg (rg false 0 0 false)] w fun r w' => r = .returned (.tuple #[.agg #[.int .u64 pu, .int .u64 pv], .int .u8 fl, .int .i64 c]) ∧ Below w.heap.size w w')) (hT : FAt w) : Calls Tryd.prog 15 #[.int .u8 f, .int .u8 m, sl] w fun r w' => r = .returned (.bool false) ∧ Below w.heap.size w w' := by
  have FF := box hT
  clear hT
  have hp3 := rgz
  have B0 : Below w.heap.size w w := (Below.refl _ _)
  go_enter Tryd.func15, Tryd.ntmps15
  go_wp2_with fail
  refine (KP.out _ (fatB FF.out B0)).mono ?_
  rintro r w1 ⟨rfl, b1⟩
  have B1 : Below w.heap.size w w1 := btr B0 b1
  clear b1 B0 
  have S2 := box B1.size
  have Aa := heap_alloc_last w1 (Obj.cells #[.int .u64 pu, .int .u64 pv] 26)
  have B2 := btr B1 (bal w1 (Obj.cells #[.int .u64 pu, .int .u64 pv] 26))
  clear B1 
  obtain ⟨Ab, Ac⟩ := cells2s Aa
  go_wp2
  go_ret
  exact ⟨rfl, B2⟩
theorem kClass_any (f : Int) (hf : Is4 f) (p : Nat × Nat) (h : p.1 < 18446744073709551616 ∧ p.2 < 18446744073709551616) (o : Bool) (ho : okP f p = o) : ∃ (c e : Int), (e != 0) = (!o) ∧ Box (∀ w, FAt w → Calls Tryd.prog 11 #[.int .u8 f, .agg #[.int .u64 (p.1 : Nat), .int .u64 (p.2 : Nat)]] w fun r w' => r = .returned (.tuple #[.int .u8 c, .int .i64 e]) ∧ Below w.heap.size w w') := by
  have h0 : 0 ≤ f ∧ f ≤ 255 := by rcases hf with rfl | rfl | rfl | rfl <;> decide
  cases o
  · exact ⟨0, 2, rfl, box (fun w hT => kClass_no f h0.1 h0.2 p.1 p.2 _ h.1 h.2 rfl ho w hT)⟩
  · exact ⟨_, 0, rfl, box (fun w hT => kClass_yes f hf p.1 p.2 _ _ h.1 h.2 rfl ho rfl w hT)⟩
theorem op_may (f m : Int) (hf : Is4 f) (l : List (Nat × Nat)) (L g c : Nat) (T : TypeId) (w : World) (hl : l.length = L) (hL : L ≤ 1000) (hb : Box (∀ p ∈ l, p.1 < 18446744073709551616 ∧ p.2 < 18446744073709551616)) (row : w.heap[g]? = some (.cells (bls l) T)) (pu pv : Nat) (fl : Int)
    (KP : Box (∀ w, FAt w → Calls Tryd.prog 24 #[.int .u8 f, .int .u8 m, .agg (rg false 0 0 false)] w fun r w' => r = .returned (.tuple #[.agg #[.int .u64 pu, .int .u64 pv], .int .u8 fl, .int .i64 0]) ∧ Below w.heap.size w w'))
    (o : Bool) (ho : l.all (okP f) = o) (hT : FAt w) : Calls Tryd.prog 15 #[.int .u8 f, .int .u8 m, .slice (some ⟨g, 0, none⟩) L c] w fun r w' => r = .returned (.bool o) ∧ Below w.heap.size w w' := by
  have FF := box hT
  have HO := box ho
  have HL := box hl
  have HF := box hf
  clear ho hl hT hf
  have hp3 := rgz
  go_enter Tryd.func15, Tryd.ntmps15
  go_wp2_with fail
  refine (KP.out _ FF.out).mono ?_
  rintro r w1 ⟨rfl, b1⟩
  have BP := btr b1 (bal w1 (.cells #[.int .u64 pu, .int .u64 pv] 26))
  obtain ⟨V, hV⟩ : ∃ V, w1.alloc (.cells #[.int .u64 pu, .int .u64 pv] 26) = V := ⟨_, rfl⟩
  go_wp2
  rw [hV] at BP
  clear b1 KP hV
  go_loopw [26] (fun iv wr => ∃ k : Nat, k ≤ L ∧ iv = .int .i64 k ∧ Below w.heap.size w wr ∧ Box (∀ j p, j < k → l[j]? = some p → okP f p = true)) (fun iv _ => L - (intOf iv).toNat)
  case atStart => exact ⟨0, by omega, rfl, BP, box (fun j s hj => absurd hj (by omega))⟩
  case round =>
    obtain ⟨k, hk, rfl, bw, HA⟩ := hrel
    by_cases hlt : k < L
    · obtain ⟨p, hs⟩ : ∃ p, l[k]? = some p := ⟨_, List.getElem?_eq_getElem (by rw [HL.out]; exact hlt)⟩
      obtain ⟨c1, c2⟩ := bls_cell (heap_of bw _ _ _ row) k p hs
      have dl : decide ((k : Int) < (L : Int)) = true := decide_eq_true (by omega)
      have HS := box hs
      obtain ⟨o1, hm⟩ : ∃ o1, okP f p = o1 := ⟨_, rfl⟩
      have HM := box hm
      obtain ⟨cc, ee, hee, KC⟩ := kClass_any f HF.out p (hb.out p (List.mem_of_getElem? hs)) o1 hm
      have FA : Box (FAt (wr.alloc (.cells #[.int .u64 (p.1 : Nat), .int .u64 (p.2 : Nat)] 26))) := box (fatB FF.out (btr bw (bal _ _)))
      have BA := btr bw (bal wr (.cells #[.int .u64 (p.1 : Nat), .int .u64 (p.2 : Nat)] 26))
      clear hs hm
      cases o1
      · have e : o = false := by
          rw [← HO.out, Bool.eq_false_iff]
          intro h
          rw [List.all_eq_true] at h
          have := h p (List.mem_of_getElem? HS.out)
          rw [HM.out] at this
          exact absurd this (by decide)
        subst e
        go_wp2_with fail
        refine (KC.out _ FA.out).mono ?_
        rintro r w2 ⟨rfl, b2⟩
        go_wp2
        go_ret
        exact ⟨rfl, btr BA b2⟩
      · have NA : Box (∀ j p, j < k + 1 → l[j]? = some p → okP f p = true) := box (fun j p2 hj h2 => by
          by_cases e : j = k
          · subst e
            rw [HS.out] at h2
            cases h2
            exact HM.out
          · exact HA.out j p2 (by omega) h2)
        go_wp2_with fail
        refine (KC.out _ FA.out).mono ?_
        rintro r w2 ⟨rfl, b2⟩
        go_wp2
        go_roundw
        case rel => exact ⟨k + 1, by omega, by go_num, btr BA b2, NA⟩
        case measure => simp [intOf] <;> omega
    · obtain rfl : k = L := by omega
      have e : o = true := by
        rw [← HO.out, List.all_eq_true]
        intro s hs
        obtain ⟨j, hj⟩ := List.mem_iff_getElem?.1 hs
        have := (List.getElem?_eq_some_iff.1 hj).1
        exact HA.out j s (by rw [← HL.out]; exact this) hj
      subst e
      have dl : decide ((k : Int) < (k : Int)) = false := by rw [decide_eq_false_iff_not]; omega
      go_wp2
      go_ret
      exact ⟨rfl, bw⟩
theorem mul_mul_no (f m : Int) (x1 y1 x2 y2 u v p q : Nat) (fl c : Int) (w : World)
    (KF : Box (∀ (T : TypeId) (g : Nat) (w : World), w.heap.size = g → FAt w → Calls Tryd.prog 15 #[.int .u8 f, .int .u8 m, .slice (some ⟨g, 0, none⟩) 2 2] (w.alloc (.cells #[.int .u64 x1, .int .u64 y1, .int .u64 x2, .int .u64 y2] T)) fun r w' => r = .returned (.bool false) ∧ Below w.heap.size w w'))
    (hT : FAt w) : Calls Tryd.prog 10 #[.int .u8 f, .int .u8 m, .agg #[.int .u64 x1, .int .u64 y1], .agg #[.int .u64 x2, .int .u64 y2]] w fun r w' => r = .returned (.tuple #[.agg #[.int .u64 0, .int .u64 0], .int .u8 0, .int .i64 2]) ∧ Below w.heap.size w w' := by
  have FF := box hT
  clear hT
  obtain ⟨Ab, Ac, Ad, B0⟩ := opn3 w (Obj.cells #[.int .u64 x1, .int .u64 y1] 26) (Obj.cells #[.int .u64 x2, .int .u64 y2] 26) (Obj.cells #[.int .u64 0, .int .u64 0] 26)
  go_enter Tryd.func10, Tryd.ntmps10
  obtain ⟨Ae, Af⟩ := cells2s Ab
  obtain ⟨Ag, Ah⟩ := cells2s Ac
  go_wp2_with fail
  refine (KF.out _ _ (((w.alloc (Obj.cells #[.int .u64 x1, .int .u64 y1] 26)).alloc (Obj.cells #[.int .u64 x2, .int .u64 y2] 26)).alloc (Obj.cells #[.int .u64 0, .int .u64 0] 26)) (by first | rfl | simp only [size_al]) (fatB FF.out B0)).mono ?_
  rintro r w1 ⟨rfl, b1⟩
  have B1 : Below w.heap.size w w1 := btr B0 b1
  have Ai := heap_of b1 _ _ _ Ab
  have Aj := heap_of b1 _ _ _ Ac
  have Aa := heap_of b1 _ _ _ Ad
  clear b1 B0 Ab Ae Af Ac Ag Ah Ad
  obtain ⟨Ak, Al⟩ := cells2s Ai
  obtain ⟨Am, An⟩ := cells2s Aj
  obtain ⟨Ao, Ap⟩ := cells2s Aa
  have q0 := fz (k := 0) Aa
  have q1 := fz (k := 1) Aa
  obtain ⟨E0, E1⟩ := set2_cells Aa (.int .u64 0) (.int .u64 0)
  go_wp2
  exact bodyPost_ret (v := .tuple #[.agg #[.int .u64 0, .int .u64 0], .int .u8 0, .int .i64 2]) (by simp [results, Tryd.results10, go_sem, E0, E1]) rfl ⟨rfl, set2_below B1 (by first | exact Nat.le_refl _ | omega | (skip; omega)) _ _⟩
theorem mul_mul_yes (f m : Int) (x1 y1 x2 y2 u v p q : Nat) (fl c : Int) (w : World)
    (KF : Box (∀ (T : TypeId) (g : Nat) (w : World), w.heap.size = g → FAt w → Calls Tryd.prog 15 #[.int .u8 f, .int .u8 m, .slice (some ⟨g, 0, none⟩) 2 2] (w.alloc (.cells #[.int .u64 x1, .int .u64 y1, .int .u64 x2, .int .u64 y2] T)) fun r w' => r = .returned (.bool true) ∧ Below w.heap.size w w'))
    (KT : Box (∀ w, FAt w → Calls Tryd.prog 20 #[.int .u8 f, .int .u8 m, .agg #[.int .u64 x1, .int .u64 y1], .agg #[.int .u64 x2, .int .u64 y2]] w fun r w' => r = .returned (.tuple #[.agg #[.int .u64 u, .int .u64 v], .int .u8 fl, .int .i64 c]) ∧ Below w.heap.size w w'))
    (hT : FAt w) : Calls Tryd.prog 10 #[.int .u8 f, .int .u8 m, .agg #[.int .u64 x1, .int .u64 y1], .agg #[.int .u64 x2, .int .u64 y2]] w fun r w' => r = .returned (.tuple #[.agg #[.int .u64 u, .int .u64 v], .int .u8 fl, .int .i64 c]) ∧ Below w.heap.size w w' := by
  have FF := box hT
  clear hT
  obtain ⟨Ab, Ac, Af, B0⟩ := opn3 w (Obj.cells #[.int .u64 x1, .int .u64 y1] 26) (Obj.cells #[.int .u64 x2, .int .u64 y2] 26) (Obj.cells #[.int .u64 0, .int .u64 0] 26)
  go_enter Tryd.func10, Tryd.ntmps10
  obtain ⟨Ah, Ai⟩ := cells2s Ab
  obtain ⟨Aj, Ak⟩ := cells2s Ac
  go_wp2_with fail
  refine (KF.out _ _ (((w.alloc (Obj.cells #[.int .u64 x1, .int .u64 y1] 26)).alloc (Obj.cells #[.int .u64 x2, .int .u64 y2] 26)).alloc (Obj.cells #[.int .u64 0, .int .u64 0] 26)) (by first | rfl | simp only [size_al]) (fatB FF.out B0)).mono ?_
  rintro r w1 ⟨rfl, b1⟩
  have B1 : Below w.heap.size w w1 := btr B0 b1
  have Ad := heap_of b1 _ _ _ Ab
  have Ae := heap_of b1 _ _ _ Ac
  have Ag := heap_of b1 _ _ _ Af
  clear b1 B0 Ab Ah Ai Ac Aj Ak Af
  obtain ⟨Al, Am⟩ := cells2s Ad
  obtain ⟨An, Ao⟩ := cells2s Ae
  go_wp2_with fail
  refine (KT.out _ (fatB FF.out B1)).mono ?_
  rintro r w2 ⟨rfl, b2⟩
  have B2 : Below w.heap.size w w2 := btr B1 b2
  have Ap := heap_of b2 _ _ _ Ad
  have Aq := heap_of b2 _ _ _ Ae
  have Aa := heap_of b2 _ _ _ Ag
  clear b2 B1 Ad Al Am Ae An Ao Ag
  obtain ⟨Ar, As⟩ := cells2s Ap
  obtain ⟨At, Au⟩ := cells2s Aq
  obtain ⟨Av, Aw⟩ := cells2s Aa
  have q0 := fz (k := 0) Aa
  have q1 := fz (k := 1) Aa
  obtain ⟨E0, E1⟩ := set2_cells Aa (.int .u64 u) (.int .u64 v)
  go_wp2
  exact bodyPost_ret (v := .tuple #[.agg #[.int .u64 u, .int .u64 v], .int .u8 fl, .int .i64 c]) (by simp [results, Tryd.results10, go_sem, E0, E1]) rfl ⟨rfl, set2_below B2 (by first | exact Nat.le_refl _ | omega | (skip; omega)) _ _⟩
theorem two_row (x1 y1 x2 y2 : Nat) (T : TypeId) (g : Nat) (w : World) (hg : w.heap.size = g) : (w.alloc (.cells #[.int .u64 x1, .int .u64 y1, .int .u64 x2, .int .u64 y2] T)).heap[g]? = some (.cells (bls [(x1, y1), (x2, y2)]) T) := by
  rw [← hg]
  exact heap_alloc_last _ _
theorem two_lim {x1 y1 x2 y2 : Nat} (hx1 : x1 < 18446744073709551616) (hy1 : y1 < 18446744073709551616) (hx2 : x2 < 18446744073709551616) (hy2 : y2 < 18446744073709551616) : Box (∀ p ∈ [(x1, y1), (x2, y2)], p.1 < 18446744073709551616 ∧ p.2 < 18446744073709551616) := box (fun p hp => by
  rcases List.mem_cons.1 hp with rfl | h
  · exact ⟨hx1, hy1⟩
  · rcases List.mem_cons.1 h with rfl | h
    · exact ⟨hx2, hy2⟩
    · exact absurd h List.not_mem_nil)
theorem kmay2 (f m : Int) (h0 : 0 ≤ f) (h1 : f ≤ 255) (m0 : 0 ≤ m) (x1 y1 a x2 y2 b : Nat) (hx1 : x1 < 18446744073709551616) (hy1 : y1 < 18446744073709551616) (ha : y1 + 18446744073709551616 * x1 = a) (hx2 : x2 < 18446744073709551616) (hy2 : y2 < 18446744073709551616) (hb : y2 + 18446744073709551616 * x2 = b) (o : Bool) (ho : (decide (f ≤ 3 ∧ m ≤ 4) && okB f a && okB f b) = o) :
    Box (∀ (T : TypeId) (g : Nat) (w : World), w.heap.size = g → FAt w → Calls Tryd.prog 15 #[.int .u8 f, .int .u8 m, .slice (some ⟨g, 0, none⟩) 2 2] (w.alloc (.cells #[.int .u64 x1, .int .u64 y1, .int .u64 x2, .int .u64 y2] T)) fun r w' => r = .returned (.bool o) ∧ Below w.heap.size w w') := by
  refine box (fun T g w hg hT => ?_)
  have B := (bal w (.cells #[.int .u64 x1, .int .u64 y1, .int .u64 x2, .int .u64 y2] T))
  have row := two_row x1 y1 x2 y2 T g w hg
  have hT2 := fatB hT B
  by_cases c : f ≤ 3 ∧ m ≤ 4
  · have hf := is4_of h0 c.1
    obtain ⟨u, v, hv⟩ : ∃ u v, bv7 (eZero f false) = (u, v) := ⟨_, _, rfl⟩
    have KP : Box (∀ w, FAt w → Calls Tryd.prog 24 #[.int .u8 f, .int .u8 m, .agg (rg false 0 0 false)] w fun r w' => r = .returned (.tuple #[.agg #[.int .u64 u, .int .u64 v], .int .u8 0, .int .i64 0]) ∧ Below w.heap.size w w') := box (fun w hT => kPack_zero f m hf ⟨m0, c.2⟩ false 0 (by decide) (by decide) u v hv w hT)
    refine (op_may f m hf [(x1, y1), (x2, y2)] 2 g 2 T _ rfl (by decide) (two_lim hx1 hy1 hx2 hy2) row u v 0 KP o ?_ hT2).mono fun _ _ ⟨q1, q2⟩ => ⟨q1, btr B q2⟩
    rw [← ho, decide_eq_true c]
    show (okP f (x1, y1) && (okP f (x2, y2) && true)) = _
    unfold okP
    rw [ha, hb, Bool.and_true, Bool.true_and]
  · have e : o = false := by rw [← ho, decide_eq_false c]; rfl
    subst e
    exact (op_may_no f m 0 0 0 2 _ rfl _ (box (fun w hT => kPack_no f m h0 h1 false 0 Q_pos 0 false (fun q => c ⟨q.1, q.2.1⟩) w hT)) hT2).mono fun _ _ ⟨q1, q2⟩ => ⟨q1, btr B q2⟩
end Go.Proofs.YtoaaajeblhaeoaaDoor
namespace Go.Proofs.YtoaaajeblhaeoaaDoor
set_option maxRecDepth 100000
set_option maxHeartbeats 40000000
set_option maxRecDepth 100000
open Go.RowKit WMath XMath
set_option linter.unusedSimpArgs false
set_option linter.unusedVariables false
theorem blen_prod (A B : Nat) (hA : A < 2 ^ 128) (hB : B < 2 ^ 128) : A * B < 2 ^ 256 ∧ blen (A * B) ≤ 256 := by
  have h : A * B < 2 ^ 256 := by
    have := mul_pow_lt A B 128 128 hA hB
    rw [show (256 : Nat) = 128 + 128 from rfl]
    exact this
  exact ⟨h, (blen_iff _ _).2 h⟩
theorem vX_whole {f : Int} (hf : Is4 f) (n : Nat) (h : 0 < kC f n ∧ kC f n < 7) (h2 : ¬ (kC f n = 3 ∨ kC f n = 4)) : kS f n ≠ 0 ∧ kS f n < 2 ^ 128 ∧ vX f n = ⟨kN f n, od (kS f n), 1, kX f n + (tz (kS f n) : Int)⟩ ∧ (vX f n).can := by
  obtain ⟨l1, l2, l3⟩ := kS_lim hf n
  obtain ⟨a, b, d, e⟩ := k_parts (f := f) n (by omega)
  have l4 : kS f n < 2 ^ 128 := l1
  obtain ⟨w1, w2, w3, w4, w5, w6, w7⟩ := x_whole hf (kN f n) (kS f n) (kX f n) e (by have := (blen_iff (kS f n) 128).2 l4; omega) (by omega) (by omega)
  have := vX_mk hf n h
  rw [w1] at this
  injection this with h3 h4
  exact ⟨e, l4, h3.symm, by rw [← h3]; exact w2⟩
end Go.Proofs.YtoaaajeblhaeoaaDoor
namespace Go.Proofs.YtoaaajeblhaeoaaDoor
set_option maxRecDepth 100000
set_option maxHeartbeats 40000000
set_option maxRecDepth 100000
open Go.RowKit WMath
set_option linter.unusedSimpArgs false
set_option linter.unusedVariables false
theorem mu_etn (c d : Nat) (o1 o2 o : Bool) (KE : Box (∀ w, Calls Tryd.prog 29 #[.int .u8 c] w fun r w' => r = .returned (.bool o1) ∧ Below w.heap.size w w')) (KN : Box (∀ w, Calls Tryd.prog 68 #[.int .u8 d] w fun r w' => r = .returned (.bool o2) ∧ Below w.heap.size w w')) (ho : (o1 && o2) = o) (w : World) : Calls Tryd.prog 38 #[.int .u8 c, .int .u8 d] w fun r w' => r = .returned (.bool o) ∧ Below w.heap.size w w' := by
  cases o1
  · rw [Bool.false_and] at ho
    subst ho
    have B0 : Below w.heap.size w w := (Below.refl _ _)
    go_enter Tryd.func38, Tryd.ntmps38
    go_wp2_with fail
    refine (KE.out _).mono ?_
    rintro r w1 ⟨rfl, b1⟩
    have B1 : Below w.heap.size w w1 := btr B0 b1
    clear b1 B0 
    go_wp2
    go_ret
    exact ⟨rfl, B1⟩
  · rw [Bool.true_and] at ho
    subst ho
    have B0 : Below w.heap.size w w := (Below.refl _ _)
    go_enter Tryd.func38, Tryd.ntmps38
    go_wp2_with fail
    refine (KE.out _).mono ?_
    rintro r w1 ⟨rfl, b1⟩
    have B1 : Below w.heap.size w w1 := btr B0 b1
    clear b1 B0 
    go_wp2_with fail
    refine (KN.out _).mono ?_
    rintro r w2 ⟨rfl, b2⟩
    have B2 : Below w.heap.size w w2 := btr B1 b2
    clear b2 B1 
    go_wp2
    go_ret
    exact ⟨rfl, B2⟩
theorem mu_exactly (neg : Bool) (c1 m1 : Nat) (X1 : Int) (r1 c2 m2 : Nat) (X2 : Int) (r2 S : Nat) (E : Int) (ov : Bool) (w : World)
    (KM : Box (∀ w, Calls Tryd.prog 69 #[.agg (cw 6 m1), .agg (cw 6 m2)] w fun r w' => r = .returned (.tuple #[.agg (cw 6 S), .bool ov]) ∧ Below w.heap.size w w')) (hE : IntKind.i64.wrap (X1 + X2) = E) :
    Calls Tryd.prog 40 #[.bool neg, .agg (pt c1 m1 X1 r1), .agg (pt c2 m2 X2 r2)] w fun r w' => r = .returned (.agg (rg neg S E false)) ∧ Below w.heap.size w w' := by
  have hat := cw_at 6
  have hz := cw6z
  have hff := cw6f
  have hs0 := st0
  have hcs : ∀ x, ((cw 6 x).size = 6) = True := fun x => eq_true (cw_size 6 x)
  have hp1 := rgf
  have hp3 := rgz
  have hp4 := st_r0
  have hzi := cw_zip
  have hls := rg_sets
  have hp5 : ∀ (c : Bool) (s : Nat) (x : Int) (r : Bool), ((rg c s x r).size = 9) = True := fun _ _ _ _ => eq_true rfl
  have Bz := ptf
  have BA : ∀ (c s : Nat) (x : Int) (r : Nat), ((pt c s x r).size = 14) = True := fun _ _ _ _ => eq_true rfl
  obtain ⟨Ad, Ae, Af, B0⟩ := opn3 w (Obj.cells (pt c1 m1 X1 r1) 53) (Obj.cells (pt c2 m2 X2 r2) 53) (Obj.cells (rg false 0 0 false) 49)
  go_enter Tryd.func40, Tryd.ntmps40
  obtain ⟨Ah, Ai, Aj, Ak, Al, Am, An, Ao, Ap, Aq, Ar, As, At, Au⟩ := pt_cells Ad
  obtain ⟨Av, Aw, Ax, Ay, Az, AA, AB, AC, AD, AE, AF, AG, AH, AI⟩ := pt_cells Ae
  obtain ⟨AJ, AK, AL, AM, AN, AO, AP, AQ, AR⟩ := rg_cells Af
  go_wp2_with fail
  refine (KM.out _).mono ?_
  rintro r w1 ⟨rfl, b1⟩
  have B1 : Below w.heap.size w w1 := btr B0 b1
  have Aa := heap_of b1 _ _ _ Ad
  have Ab := heap_of b1 _ _ _ Ae
  have Ac := heap_of b1 _ _ _ Af
  clear b1 B0 Ad Ah Ai Aj Ak Al Am An Ao Ap Aq Ar As At Au Ae Av Aw Ax Ay Az AA AB AC AD AE AF AG AH AI Af AJ AK AL AM AN AO AP AQ AR
  obtain ⟨AS, AT, AU, AV, AW, AX, AY, AZ, A0, A1, A2, A3, A4, A5⟩ := pt_cells Aa
  obtain ⟨A6, A7, A8, A9, Ba, Bb, Bc, Bd, Be, Bf, Bg, Bh, Bi, Bj⟩ := pt_cells Ab
  obtain ⟨Bk, Bl, Bm, Bn, Bo, Bp, Bq, Br, Bs⟩ := rg_cells Ac
  have S2 := box B1.size
  have Bt := ltR Aa
  have Bu := ltR Ab
  have Bv := ltR Ac
  have Bw := heap_alloc_last w1 (Obj.cells (cw 6 S) 47)
  have B2 := btr B1 (bal w1 (Obj.cells (cw 6 S) 47))
  have Bx := heap_of (bal w1 (Obj.cells (cw 6 S) 47)) _ _ _ Aa
  have By := heap_of (bal w1 (Obj.cells (cw 6 S) 47)) _ _ _ Ab
  have Ag := heap_of (bal w1 (Obj.cells (cw 6 S) 47)) _ _ _ Ac
  clear B1 Aa AS AT AU AV AW AX AY AZ A0 A1 A2 A3 A4 A5 Ab A6 A7 A8 A9 Ba Bb Bc Bd Be Bf Bg Bh Bi Bj Ac Bk Bl Bm Bn Bo Bp Bq Br Bs
  obtain ⟨BB, BC, BD, BE, BF, BG, BH, BI, BJ, BK, BL, BM, BN, BO⟩ := pt_cells Bx
  obtain ⟨BP, BQ, BR, BS, BT, BU, BV, BW, BX, BY, BZ, B3, B4, B5⟩ := pt_cells By
  obtain ⟨B6, B7, B8, B9, Ca, Cb, Cc, Cd, Ce⟩ := rg_cells Ag
  have Cf := row_cell Bw
  have hstz := st_r (w1.alloc (Obj.cells (cw 6 S) 47)) (w.heap.size + 1 + 1) neg S E false false 0 0 false Ag
  have RZ := setRow_row (c' := rg neg S E false) Ag
  obtain ⟨dz0, dz1, dz2, dz3, dz4, dz5, dz6, dz7, dz8⟩ := rg_cells RZ
  have bz := bel_set (c := rg neg S E false) B2 (show w.heap.size ≤ w.heap.size + 1 + 1 by first | exact Nat.le_refl _ | omega | (have := S2.out; have := Bt.out; have := Bu.out; have := Bv.out; omega))
  go_wp2
  exact bodyPost_ret (v := .agg (rg neg S E false)) (by simp [results, Tryd.results40, go_sem, dz0, dz1, dz2, dz3, dz4, dz5, dz6, dz7, dz8, rgf] <;> rfl) rfl ⟨rfl, bz⟩
theorem mu_all (f m : Int) (x1 y1 x2 y2 u v : Nat) (c1 m1 : Nat) (X1 : Int) (r1 c2 m2 : Nat) (X2 : Int) (r2 : Nat) (s1 s2 neg : Bool) (S : Nat) (X fl : Int) (w : World) (hng : (!(s1 == s2)) = neg)
    (KU1 : Box (∀ w, FAt w → Calls Tryd.prog 27 #[.int .u8 f, .agg #[.int .u64 x1, .int .u64 y1]] w fun r w' => r = .returned (.tuple #[.agg (pt c1 m1 X1 r1), .int .i64 0]) ∧ Below w.heap.size w w'))
    (KU2 : Box (∀ w, FAt w → Calls Tryd.prog 27 #[.int .u8 f, .agg #[.int .u64 x2, .int .u64 y2]] w fun r w' => r = .returned (.tuple #[.agg (pt c2 m2 X2 r2), .int .i64 0]) ∧ Below w.heap.size w w'))
    (KS1 : Box (∀ w, FAt w → Calls Tryd.prog 9 #[.int .u8 f, .agg #[.int .u64 x1, .int .u64 y1]] w fun r w' => r = .returned (.bool s1) ∧ Below w.heap.size w w'))
    (KS2 : Box (∀ w, FAt w → Calls Tryd.prog 9 #[.int .u8 f, .agg #[.int .u64 x2, .int .u64 y2]] w fun r w' => r = .returned (.bool s2) ∧ Below w.heap.size w w'))
    (H : Box ((((c1 : Int) == 8) = true ∧ Box (∀ w, FAt w → Calls Tryd.prog 28 #[.int .u8 f] w fun r w' => r = .returned (.agg #[.int .u64 u, .int .u64 v]) ∧ Below w.heap.size w w') ∧ fl = 16) ∨
      (((c1 : Int) == 8) = false ∧ ((c2 : Int) == 8) = true ∧ Box (∀ w, FAt w → Calls Tryd.prog 28 #[.int .u8 f] w fun r w' => r = .returned (.agg #[.int .u64 u, .int .u64 v]) ∧ Below w.heap.size w w') ∧ fl = 16) ∨
      (((c1 : Int) == 8) = false ∧ ((c2 : Int) == 8) = false ∧ ((c1 : Int) == 9) = true ∧ Box (∀ w, FAt w → Calls Tryd.prog 28 #[.int .u8 f] w fun r w' => r = .returned (.agg #[.int .u64 u, .int .u64 v]) ∧ Below w.heap.size w w') ∧ fl = 0) ∨
      (((c1 : Int) == 8) = false ∧ ((c2 : Int) == 8) = false ∧ ((c1 : Int) == 9) = false ∧ ((c2 : Int) == 9) = true ∧ Box (∀ w, FAt w → Calls Tryd.prog 28 #[.int .u8 f] w fun r w' => r = .returned (.agg #[.int .u64 u, .int .u64 v]) ∧ Below w.heap.size w w') ∧ fl = 0) ∨
      (((c1 : Int) == 8) = false ∧ ((c2 : Int) == 8) = false ∧ ((c1 : Int) == 9) = false ∧ ((c2 : Int) == 9) = false ∧ Box (∀ w, Calls Tryd.prog 38 #[.int .u8 c1, .int .u8 c2] w fun r w' => r = .returned (.bool true) ∧ Below w.heap.size w w') ∧ Box (∀ w, FAt w → Calls Tryd.prog 28 #[.int .u8 f] w fun r w' => r = .returned (.agg #[.int .u64 u, .int .u64 v]) ∧ Below w.heap.size w w') ∧ fl = 16) ∨
      (((c1 : Int) == 8) = false ∧ ((c2 : Int) == 8) = false ∧ ((c1 : Int) == 9) = false ∧ ((c2 : Int) == 9) = false ∧ Box (∀ w, Calls Tryd.prog 38 #[.int .u8 c1, .int .u8 c2] w fun r w' => r = .returned (.bool false) ∧ Below w.heap.size w w') ∧ Box (∀ w, Calls Tryd.prog 38 #[.int .u8 c2, .int .u8 c1] w fun r w' => r = .returned (.bool true) ∧ Below w.heap.size w w') ∧ Box (∀ w, FAt w → Calls Tryd.prog 28 #[.int .u8 f] w fun r w' => r = .returned (.agg #[.int .u64 u, .int .u64 v]) ∧ Below w.heap.size w w') ∧ fl = 16) ∨
      (((c1 : Int) == 8) = false ∧ ((c2 : Int) == 8) = false ∧ ((c1 : Int) == 9) = false ∧ ((c2 : Int) == 9) = false ∧ Box (∀ w, Calls Tryd.prog 38 #[.int .u8 c1, .int .u8 c2] w fun r w' => r = .returned (.bool false) ∧ Below w.heap.size w w') ∧ Box (∀ w, Calls Tryd.prog 38 #[.int .u8 c2, .int .u8 c1] w fun r w' => r = .returned (.bool false) ∧ Below w.heap.size w w') ∧ Box (∀ w, Calls Tryd.prog 29 #[.int .u8 c1] w fun r w' => r = .returned (.bool true) ∧ Below w.heap.size w w') ∧ Box (∀ w, FAt w → Calls Tryd.prog 39 #[.int .u8 f, .bool neg] w fun r w' => r = .returned (.agg #[.int .u64 u, .int .u64 v]) ∧ Below w.heap.size w w') ∧ fl = 0) ∨
      (((c1 : Int) == 8) = false ∧ ((c2 : Int) == 8) = false ∧ ((c1 : Int) == 9) = false ∧ ((c2 : Int) == 9) = false ∧ Box (∀ w, Calls Tryd.prog 38 #[.int .u8 c1, .int .u8 c2] w fun r w' => r = .returned (.bool false) ∧ Below w.heap.size w w') ∧ Box (∀ w, Calls Tryd.prog 38 #[.int .u8 c2, .int .u8 c1] w fun r w' => r = .returned (.bool false) ∧ Below w.heap.size w w') ∧ Box (∀ w, Calls Tryd.prog 29 #[.int .u8 c1] w fun r w' => r = .returned (.bool false) ∧ Below w.heap.size w w') ∧ Box (∀ w, Calls Tryd.prog 29 #[.int .u8 c2] w fun r w' => r = .returned (.bool true) ∧ Below w.heap.size w w') ∧ Box (∀ w, FAt w → Calls Tryd.prog 39 #[.int .u8 f, .bool neg] w fun r w' => r = .returned (.agg #[.int .u64 u, .int .u64 v]) ∧ Below w.heap.size w w') ∧ fl = 0) ∨
      (((c1 : Int) == 8) = false ∧ ((c2 : Int) == 8) = false ∧ ((c1 : Int) == 9) = false ∧ ((c2 : Int) == 9) = false ∧ Box (∀ w, Calls Tryd.prog 38 #[.int .u8 c1, .int .u8 c2] w fun r w' => r = .returned (.bool false) ∧ Below w.heap.size w w') ∧ Box (∀ w, Calls Tryd.prog 38 #[.int .u8 c2, .int .u8 c1] w fun r w' => r = .returned (.bool false) ∧ Below w.heap.size w w') ∧ Box (∀ w, Calls Tryd.prog 29 #[.int .u8 c1] w fun r w' => r = .returned (.bool false) ∧ Below w.heap.size w w') ∧ Box (∀ w, Calls Tryd.prog 29 #[.int .u8 c2] w fun r w' => r = .returned (.bool false) ∧ Below w.heap.size w w') ∧ Box (∀ w, Calls Tryd.prog 40 #[.bool neg, .agg (pt c1 m1 X1 r1), .agg (pt c2 m2 X2 r2)] w fun r w' => r = .returned (.agg (rg neg S X false)) ∧ Below w.heap.size w w') ∧ Box (∀ w, FAt w → Calls Tryd.prog 24 #[.int .u8 f, .int .u8 m, .agg (rg neg S X false)] w fun r w' => r = .returned (.tuple #[.agg #[.int .u64 u, .int .u64 v], .int .u8 fl, .int .i64 0]) ∧ Below w.heap.size w w'))))
    (hT : FAt w) : Calls Tryd.prog 20 #[.int .u8 f, .int .u8 m, .agg #[.int .u64 x1, .int .u64 y1], .agg #[.int .u64 x2, .int .u64 y2]] w fun r w' => r = .returned (.tuple #[.agg #[.int .u64 u, .int .u64 v], .int .u8 fl, .int .i64 0]) ∧ Below w.heap.size w w' := by
  have FF := box hT
  clear hT
  have hat := cw_at 6
  have hz := cw6z
  have hff := cw6f
  have hs0 := st0
  have hcs : ∀ x, ((cw 6 x).size = 6) = True := fun x => eq_true (cw_size 6 x)
  have hp1 := rgf
  have hp5 : ∀ (c : Bool) (s : Nat) (x : Int) (r : Bool), ((rg c s x r).size = 9) = True := fun _ _ _ _ => eq_true rfl
  have C1 := ptf
  have C2 := ptz
  have C3 := st_p0
  have C4 : ∀ (c s : Nat) (x : Int) (r : Nat), ((pt c s x r).size = 14) = True := fun _ _ _ _ => eq_true rfl
  obtain ⟨Bn, Bo, By, B0⟩ := opn3 w (Obj.cells #[.int .u64 x1, .int .u64 y1] 26) (Obj.cells #[.int .u64 x2, .int .u64 y2] 26) (Obj.cells #[.int .u64 0, .int .u64 0] 26)
  go_enter Tryd.func20, Tryd.ntmps20
  obtain ⟨BD, BE⟩ := cells2s Bn
  obtain ⟨BF, BG⟩ := cells2s Bo
  go_wp2_with fail
  refine (KU1.out _ (fatB FF.out B0)).mono ?_
  rintro r w1 ⟨rfl, b1⟩
  have B1 : Below w.heap.size w w1 := btr B0 b1
  have Bb := heap_of b1 _ _ _ Bn
  have Bc := heap_of b1 _ _ _ Bo
  have Bp := heap_of b1 _ _ _ By
  clear b1 B0 Bn BD BE Bo BF BG By
  obtain ⟨BH, BI⟩ := cells2s Bb
  obtain ⟨BJ, BK⟩ := cells2s Bc
  have S2 := box B1.size
  have AD := ltR Bb
  have AE := ltR Bc
  have AF := ltR Bp
  have Bq := heap_alloc_last w1 (Obj.cells (pt c1 m1 X1 r1) 53)
  have B2 := btr B1 (bal w1 (Obj.cells (pt c1 m1 X1 r1) 53))
  have Br := heap_of (bal w1 (Obj.cells (pt c1 m1 X1 r1) 53)) _ _ _ Bb
  have Bs := heap_of (bal w1 (Obj.cells (pt c1 m1 X1 r1) 53)) _ _ _ Bc
  have Bz := heap_of (bal w1 (Obj.cells (pt c1 m1 X1 r1) 53)) _ _ _ Bp
  clear B1 Bb BH BI Bc BJ BK Bp
  obtain ⟨BL, BM⟩ := cells2s Br
  obtain ⟨BN, BO⟩ := cells2s Bs
  have BP := (pt_cells Bq).1
  go_wp2_with fail
  refine (KU2.out _ (fatB FF.out B2)).mono ?_
  rintro r w3 ⟨rfl, b3⟩
  have B3 : Below w.heap.size w w3 := btr B2 b3
  have Bd := heap_of b3 _ _ _ Br
  have Be := heap_of b3 _ _ _ Bs
  have Bt := heap_of b3 _ _ _ Bz
  have Bf := heap_of b3 _ _ _ Bq
  clear b3 B2 Br BL BM Bs BN BO Bz Bq BP
  obtain ⟨BQ, BR⟩ := cells2s Bd
  obtain ⟨BS, BT⟩ := cells2s Be
  have BU := (pt_cells Bf).1
  have S4 := box B3.size
  have AG := ltR Bd
  have AH := ltR Be
  have AI := ltR Bt
  have AJ := ltR Bf
  have Bu := heap_alloc_last w3 (Obj.cells (pt c2 m2 X2 r2) 53)
  have B4 := btr B3 (bal w3 (Obj.cells (pt c2 m2 X2 r2) 53))
  have A5 := heap_of (bal w3 (Obj.cells (pt c2 m2 X2 r2) 53)) _ _ _ Bd
  have A6 := heap_of (bal w3 (Obj.cells (pt c2 m2 X2 r2) 53)) _ _ _ Be
  have BA := heap_of (bal w3 (Obj.cells (pt c2 m2 X2 r2) 53)) _ _ _ Bt
  have Bv := heap_of (bal w3 (Obj.cells (pt c2 m2 X2 r2) 53)) _ _ _ Bf
  clear B3 Bd BQ BR Be BS BT Bt Bf BU
  obtain ⟨BV, BW⟩ := cells2s A5
  obtain ⟨BX, BY⟩ := cells2s A6
  have BZ := (pt_cells Bv).1
  have Ca := (pt_cells Bu).1
  have sS : Box (∀ W W1 : World, (Below w.heap.size w W ∧ W.heap[w.heap.size]? = some (.cells #[.int .u64 x1, .int .u64 y1] 26) ∧ W.heap[w.heap.size + 1]? = some (.cells #[.int .u64 x2, .int .u64 y2] 26) ∧ W.heap[w.heap.size + 1 + 1]? = some (.cells #[.int .u64 0, .int .u64 0] 26) ∧ W.heap[w1.heap.size]? = some (.cells (pt c1 m1 X1 r1) 53) ∧ W.heap[w3.heap.size]? = some (.cells (pt c2 m2 X2 r2) 53) ∧ W.cell? ⟨w.heap.size, 0, none⟩ = some (.int .u64 x1) ∧ W.cell? ⟨w.heap.size, 1, none⟩ = some (.int .u64 y1) ∧ W.cell? ⟨w.heap.size + 1, 0, none⟩ = some (.int .u64 x2) ∧ W.cell? ⟨w.heap.size + 1, 1, none⟩ = some (.int .u64 y2)) → Below W.heap.size W W1 → (Below w.heap.size w W1 ∧ W1.heap[w.heap.size]? = some (.cells #[.int .u64 x1, .int .u64 y1] 26) ∧ W1.heap[w.heap.size + 1]? = some (.cells #[.int .u64 x2, .int .u64 y2] 26) ∧ W1.heap[w.heap.size + 1 + 1]? = some (.cells #[.int .u64 0, .int .u64 0] 26) ∧ W1.heap[w1.heap.size]? = some (.cells (pt c1 m1 X1 r1) 53) ∧ W1.heap[w3.heap.size]? = some (.cells (pt c2 m2 X2 r2) 53) ∧ W1.cell? ⟨w.heap.size, 0, none⟩ = some (.int .u64 x1) ∧ W1.cell? ⟨w.heap.size, 1, none⟩ = some (.int .u64 y1) ∧ W1.cell? ⟨w.heap.size + 1, 0, none⟩ = some (.int .u64 x2) ∧ W1.cell? ⟨w.heap.size + 1, 1, none⟩ = some (.int .u64 y2))) := box (fun W W1 h b => ⟨btr h.1 b, heap_of b _ _ _ h.2.1, heap_of b _ _ _ h.2.2.1, heap_of b _ _ _ h.2.2.2.1, heap_of b _ _ _ h.2.2.2.2.1, heap_of b _ _ _ h.2.2.2.2.2.1, cell7 (heap_of b _ _ _ h.2.1) 0 _ rfl, cell7 (heap_of b _ _ _ h.2.1) 1 _ rfl, cell7 (heap_of b _ _ _ h.2.2.1) 0 _ rfl, cell7 (heap_of b _ _ _ h.2.2.1) 1 _ rfl⟩)
  have s0 : Below w.heap.size w ((w3.alloc (Obj.cells (pt c2 m2 X2 r2) 53))).drew ∧ ((w3.alloc (Obj.cells (pt c2 m2 X2 r2) 53))).drew.heap[w.heap.size]? = some (.cells #[.int .u64 x1, .int .u64 y1] 26) ∧ ((w3.alloc (Obj.cells (pt c2 m2 X2 r2) 53))).drew.heap[w.heap.size + 1]? = some (.cells #[.int .u64 x2, .int .u64 y2] 26) ∧ ((w3.alloc (Obj.cells (pt c2 m2 X2 r2) 53))).drew.heap[w.heap.size + 1 + 1]? = some (.cells #[.int .u64 0, .int .u64 0] 26) ∧ ((w3.alloc (Obj.cells (pt c2 m2 X2 r2) 53))).drew.heap[w1.heap.size]? = some (.cells (pt c1 m1 X1 r1) 53) ∧ ((w3.alloc (Obj.cells (pt c2 m2 X2 r2) 53))).drew.heap[w3.heap.size]? = some (.cells (pt c2 m2 X2 r2) 53) ∧ ((w3.alloc (Obj.cells (pt c2 m2 X2 r2) 53))).drew.cell? ⟨w.heap.size, 0, none⟩ = some (.int .u64 x1) ∧ ((w3.alloc (Obj.cells (pt c2 m2 X2 r2) 53))).drew.cell? ⟨w.heap.size, 1, none⟩ = some (.int .u64 y1) ∧ ((w3.alloc (Obj.cells (pt c2 m2 X2 r2) 53))).drew.cell? ⟨w.heap.size + 1, 0, none⟩ = some (.int .u64 x2) ∧ ((w3.alloc (Obj.cells (pt c2 m2 X2 r2) 53))).drew.cell? ⟨w.heap.size + 1, 1, none⟩ = some (.int .u64 y2) := ⟨B4.drew, A5, A6, BA, Bv, Bu, cell7 (A5) 0 _ rfl, cell7 (A5) 1 _ rfl, cell7 (A6) 0 _ rfl, cell7 (A6) 1 _ rfl⟩
  go_wp2_with fail
  go_region_held3 (fun W => Below w.heap.size w W ∧ W.heap[w.heap.size]? = some (.cells #[.int .u64 x1, .int .u64 y1] 26) ∧ W.heap[w.heap.size + 1]? = some (.cells #[.int .u64 x2, .int .u64 y2] 26) ∧ W.heap[w.heap.size + 1 + 1]? = some (.cells #[.int .u64 0, .int .u64 0] 26) ∧ W.heap[w1.heap.size]? = some (.cells (pt c1 m1 X1 r1) 53) ∧ W.heap[w3.heap.size]? = some (.cells (pt c2 m2 X2 r2) 53) ∧ W.cell? ⟨w.heap.size, 0, none⟩ = some (.int .u64 x1) ∧ W.cell? ⟨w.heap.size, 1, none⟩ = some (.int .u64 y1) ∧ W.cell? ⟨w.heap.size + 1, 0, none⟩ = some (.int .u64 x2) ∧ W.cell? ⟨w.heap.size + 1, 1, none⟩ = some (.int .u64 y2)) (first | exact s1 | exact s0)
    (first | (go_at_call_of 9 (Value.agg #[.int .u64 x1, .int .u64 y1]); (first | refine (KS1.out _ (fatB FF.out (And.left s1))).mono ?_ | refine (KS1.out _ (fatB FF.out (And.left s0))).mono ?_); rintro r wq ⟨rfl, bq⟩; (first | have s1 := sS.out _ _ s1 bq | have s1 := sS.out _ _ s0 bq); clear bq) | (go_at_call_of 9 (Value.agg #[.int .u64 x2, .int .u64 y2]); (first | refine (KS2.out _ (fatB FF.out (And.left s1))).mono ?_ | refine (KS2.out _ (fatB FF.out (And.left s0))).mono ?_); rintro r wq ⟨rfl, bq⟩; (first | have s1 := sS.out _ _ s1 bq | have s1 := sS.out _ _ s0 bq); clear bq) | fail)
  have B5 := (And.left s1)
  have Af := s1.2.1
  have Ag := s1.2.2.1
  have Aj := s1.2.2.2.1
  have Ah := s1.2.2.2.2.1
  have Ai := s1.2.2.2.2.2.1
  clear s0 s1 sS B4 A5 BV BW A6 BX BY BA Bv BZ Bu Ca
  obtain ⟨AK, AL⟩ := cells2s Af
  obtain ⟨AM, AN⟩ := cells2s Ag
  have AO := (pt_cells Ah).1
  have AP := (pt_cells Ai).1
  rcases H.out with ⟨h18, KN, rfl⟩ | ⟨h18, h28, KN, rfl⟩ | ⟨h18, h28, h19, KN, rfl⟩ | ⟨h18, h28, h19, h29, KN, rfl⟩ | ⟨h18, h28, h19, h29, KT1, KN, rfl⟩ | ⟨h18, h28, h19, h29, KT1, KT2, KN, rfl⟩ | ⟨h18, h28, h19, h29, KT1, KT2, KE1, KI, rfl⟩ | ⟨h18, h28, h19, h29, KT1, KT2, KE1, KE2, KI, rfl⟩ | ⟨h18, h28, h19, h29, KT1, KT2, KE1, KE2, KX, KP⟩
  · clear H
    go_wp2_with fail
    refine (KN.out _ (fatB FF.out B5)).mono ?_
    rintro r w6 ⟨rfl, b6⟩
    have B6 : Below w.heap.size w w6 := btr B5 b6
    have Ab := heap_of b6 _ _ _ Af
    have Ac := heap_of b6 _ _ _ Ag
    have Aa := heap_of b6 _ _ _ Aj
    have Ad := heap_of b6 _ _ _ Ah
    have Ae := heap_of b6 _ _ _ Ai
    clear b6 B5 Af AK AL Ag AM AN Aj Ah AO Ai AP
    obtain ⟨Ap, Aq⟩ := cells2s Ab
    obtain ⟨Ar, As⟩ := cells2s Ac
    have At := (pt_cells Ad).1
    have Au := (pt_cells Ae).1
    obtain ⟨Bw, Bx⟩ := cells2s Aa
    have q0 := fz (k := 0) Aa
    have q1 := fz (k := 1) Aa
    obtain ⟨E0, E1⟩ := set2_cells Aa (.int .u64 u) (.int .u64 v)
    go_wp2
    exact bodyPost_ret (v := .tuple #[.agg #[.int .u64 u, .int .u64 v], .int .u8 16, .int .i64 0]) (by simp [results, Tryd.results20, go_sem, E0, E1]) rfl ⟨rfl, set2_below B6 (by first | exact Nat.le_refl _ | omega | (have := S2.out; have := AD.out; have := AE.out; have := AF.out; have := S4.out; have := AG.out; have := AH.out; have := AI.out; have := AJ.out; omega)) _ _⟩
  · clear H
    go_wp2_with fail
    refine (KN.out _ (fatB FF.out B5)).mono ?_
    rintro r w6 ⟨rfl, b6⟩
    have B6 : Below w.heap.size w w6 := btr B5 b6
    have Ab := heap_of b6 _ _ _ Af
    have Ac := heap_of b6 _ _ _ Ag
    have Aa := heap_of b6 _ _ _ Aj
    have Ad := heap_of b6 _ _ _ Ah
    have Ae := heap_of b6 _ _ _ Ai
    clear b6 B5 Af AK AL Ag AM AN Aj Ah AO Ai AP
    obtain ⟨Ap, Aq⟩ := cells2s Ab
    obtain ⟨Ar, As⟩ := cells2s Ac
    have At := (pt_cells Ad).1
    have Au := (pt_cells Ae).1
    obtain ⟨Bw, Bx⟩ := cells2s Aa
    have q0 := fz (k := 0) Aa
    have q1 := fz (k := 1) Aa
    obtain ⟨E0, E1⟩ := set2_cells Aa (.int .u64 u) (.int .u64 v)
    go_wp2
    exact bodyPost_ret (v := .tuple #[.agg #[.int .u64 u, .int .u64 v], .int .u8 16, .int .i64 0]) (by simp [results, Tryd.results20, go_sem, E0, E1]) rfl ⟨rfl, set2_below B6 (by first | exact Nat.le_refl _ | omega | (have := S2.out; have := AD.out; have := AE.out; have := AF.out; have := S4.out; have := AG.out; have := AH.out; have := AI.out; have := AJ.out; omega)) _ _⟩
  · clear H
    go_wp2_with fail
    refine (KN.out _ (fatB FF.out B5)).mono ?_
    rintro r w6 ⟨rfl, b6⟩
    have B6 : Below w.heap.size w w6 := btr B5 b6
    have Ab := heap_of b6 _ _ _ Af
    have Ac := heap_of b6 _ _ _ Ag
    have Aa := heap_of b6 _ _ _ Aj
    have Ad := heap_of b6 _ _ _ Ah
    have Ae := heap_of b6 _ _ _ Ai
    clear b6 B5 Af AK AL Ag AM AN Aj Ah AO Ai AP
    obtain ⟨Ap, Aq⟩ := cells2s Ab
    obtain ⟨Ar, As⟩ := cells2s Ac
    have At := (pt_cells Ad).1
    have Au := (pt_cells Ae).1
    obtain ⟨Bw, Bx⟩ := cells2s Aa
    have q0 := fz (k := 0) Aa
    have q1 := fz (k := 1) Aa
    obtain ⟨E0, E1⟩ := set2_cells Aa (.int .u64 u) (.int .u64 v)
    go_wp2
    exact bodyPost_ret (v := .tuple #[.agg #[.int .u64 u, .int .u64 v], .int .u8 0, .int .i64 0]) (by simp [results, Tryd.results20, go_sem, E0, E1]) rfl ⟨rfl, set2_below B6 (by first | exact Nat.le_refl _ | omega | (have := S2.out; have := AD.out; have := AE.out; have := AF.out; have := S4.out; have := AG.out; have := AH.out; have := AI.out; have := AJ.out; omega)) _ _⟩
  · clear H
    go_wp2_with fail
    refine (KN.out _ (fatB FF.out B5)).mono ?_
    rintro r w6 ⟨rfl, b6⟩
    have B6 : Below w.heap.size w w6 := btr B5 b6
    have Ab := heap_of b6 _ _ _ Af
    have Ac := heap_of b6 _ _ _ Ag
    have Aa := heap_of b6 _ _ _ Aj
    have Ad := heap_of b6 _ _ _ Ah
    have Ae := heap_of b6 _ _ _ Ai
    clear b6 B5 Af AK AL Ag AM AN Aj Ah AO Ai AP
    obtain ⟨Ap, Aq⟩ := cells2s Ab
    obtain ⟨Ar, As⟩ := cells2s Ac
    have At := (pt_cells Ad).1
    have Au := (pt_cells Ae).1
    obtain ⟨Bw, Bx⟩ := cells2s Aa
    have q0 := fz (k := 0) Aa
    have q1 := fz (k := 1) Aa
    obtain ⟨E0, E1⟩ := set2_cells Aa (.int .u64 u) (.int .u64 v)
    go_wp2
    exact bodyPost_ret (v := .tuple #[.agg #[.int .u64 u, .int .u64 v], .int .u8 0, .int .i64 0]) (by simp [results, Tryd.results20, go_sem, E0, E1]) rfl ⟨rfl, set2_below B6 (by first | exact Nat.le_refl _ | omega | (have := S2.out; have := AD.out; have := AE.out; have := AF.out; have := S4.out; have := AG.out; have := AH.out; have := AI.out; have := AJ.out; omega)) _ _⟩
  · clear H
    go_wp2_with fail
    refine (KT1.out _).mono ?_
    rintro r w6 ⟨rfl, b6⟩
    have B6 : Below w.heap.size w w6 := btr B5 b6
    have Ab := heap_of b6 _ _ _ Af
    have Ac := heap_of b6 _ _ _ Ag
    have Aa := heap_of b6 _ _ _ Aj
    have Ad := heap_of b6 _ _ _ Ah
    have Ae := heap_of b6 _ _ _ Ai
    clear b6 B5 Af AK AL Ag AM AN Aj Ah AO Ai AP
    obtain ⟨Ap, Aq⟩ := cells2s Ab
    obtain ⟨Ar, As⟩ := cells2s Ac
    have At := (pt_cells Ad).1
    have Au := (pt_cells Ae).1
    go_wp2_with fail
    refine (KN.out _ (fatB FF.out B6)).mono ?_
    rintro r w7 ⟨rfl, b7⟩
    have B7 : Below w.heap.size w w7 := btr B6 b7
    have Ak := heap_of b7 _ _ _ Ab
    have Al := heap_of b7 _ _ _ Ac
    have Ao := heap_of b7 _ _ _ Aa
    have Am := heap_of b7 _ _ _ Ad
    have An := heap_of b7 _ _ _ Ae
    clear b7 B6 Ab Ap Aq Ac Ar As Aa Ad At Ae Au
    obtain ⟨AS, AT⟩ := cells2s Ak
    obtain ⟨AU, AV⟩ := cells2s Al
    have AW := (pt_cells Am).1
    have AX := (pt_cells An).1
    obtain ⟨C5, C6⟩ := cells2s Ao
    have q0 := fz (k := 0) Ao
    have q1 := fz (k := 1) Ao
    obtain ⟨E0, E1⟩ := set2_cells Ao (.int .u64 u) (.int .u64 v)
    go_wp2
    exact bodyPost_ret (v := .tuple #[.agg #[.int .u64 u, .int .u64 v], .int .u8 16, .int .i64 0]) (by simp [results, Tryd.results20, go_sem, E0, E1]) rfl ⟨rfl, set2_below B7 (by first | exact Nat.le_refl _ | omega | (have := S2.out; have := AD.out; have := AE.out; have := AF.out; have := S4.out; have := AG.out; have := AH.out; have := AI.out; have := AJ.out; omega)) _ _⟩
  · clear H
    go_wp2_with fail
    refine (KT1.out _).mono ?_
    rintro r w6 ⟨rfl, b6⟩
    have B6 : Below w.heap.size w w6 := btr B5 b6
    have Ab := heap_of b6 _ _ _ Af
    have Ac := heap_of b6 _ _ _ Ag
    have Aa := heap_of b6 _ _ _ Aj
    have Ad := heap_of b6 _ _ _ Ah
    have Ae := heap_of b6 _ _ _ Ai
    clear b6 B5 Af AK AL Ag AM AN Aj Ah AO Ai AP
    obtain ⟨Ap, Aq⟩ := cells2s Ab
    obtain ⟨Ar, As⟩ := cells2s Ac
    have At := (pt_cells Ad).1
    have Au := (pt_cells Ae).1
    go_wp2_with fail
    refine (KT2.out _).mono ?_
    rintro r w7 ⟨rfl, b7⟩
    have B7 : Below w.heap.size w w7 := btr B6 b7
    have Ak := heap_of b7 _ _ _ Ab
    have Al := heap_of b7 _ _ _ Ac
    have Ao := heap_of b7 _ _ _ Aa
    have Am := heap_of b7 _ _ _ Ad
    have An := heap_of b7 _ _ _ Ae
    clear b7 B6 Ab Ap Aq Ac Ar As Aa Ad At Ae Au
    obtain ⟨AS, AT⟩ := cells2s Ak
    obtain ⟨AU, AV⟩ := cells2s Al
    have AW := (pt_cells Am).1
    have AX := (pt_cells An).1
    go_wp2_with fail
    refine (KN.out _ (fatB FF.out B7)).mono ?_
    rintro r w8 ⟨rfl, b8⟩
    have B8 : Below w.heap.size w w8 := btr B7 b8
    have Av := heap_of b8 _ _ _ Ak
    have Aw := heap_of b8 _ _ _ Al
    have Ax := heap_of b8 _ _ _ Ao
    have Ay := heap_of b8 _ _ _ Am
    have Az := heap_of b8 _ _ _ An
    clear b8 B7 Ak AS AT Al AU AV Ao Am AW An AX
    obtain ⟨AZ, A0⟩ := cells2s Av
    obtain ⟨A1, A2⟩ := cells2s Aw
    have A3 := (pt_cells Ay).1
    have A4 := (pt_cells Az).1
    obtain ⟨C7, C8⟩ := cells2s Ax
    have q0 := fz (k := 0) Ax
    have q1 := fz (k := 1) Ax
    obtain ⟨E0, E1⟩ := set2_cells Ax (.int .u64 u) (.int .u64 v)
    go_wp2
    exact bodyPost_ret (v := .tuple #[.agg #[.int .u64 u, .int .u64 v], .int .u8 16, .int .i64 0]) (by simp [results, Tryd.results20, go_sem, E0, E1]) rfl ⟨rfl, set2_below B8 (by first | exact Nat.le_refl _ | omega | (have := S2.out; have := AD.out; have := AE.out; have := AF.out; have := S4.out; have := AG.out; have := AH.out; have := AI.out; have := AJ.out; omega)) _ _⟩
  · clear H
    go_wp2_with fail
    refine (KT1.out _).mono ?_
    rintro r w6 ⟨rfl, b6⟩
    have B6 : Below w.heap.size w w6 := btr B5 b6
    have Ab := heap_of b6 _ _ _ Af
    have Ac := heap_of b6 _ _ _ Ag
    have Aa := heap_of b6 _ _ _ Aj
    have Ad := heap_of b6 _ _ _ Ah
    have Ae := heap_of b6 _ _ _ Ai
    clear b6 B5 Af AK AL Ag AM AN Aj Ah AO Ai AP
    obtain ⟨Ap, Aq⟩ := cells2s Ab
    obtain ⟨Ar, As⟩ := cells2s Ac
    have At := (pt_cells Ad).1
    have Au := (pt_cells Ae).1
    go_wp2_with fail
    refine (KT2.out _).mono ?_
    rintro r w7 ⟨rfl, b7⟩
    have B7 : Below w.heap.size w w7 := btr B6 b7
    have Ak := heap_of b7 _ _ _ Ab
    have Al := heap_of b7 _ _ _ Ac
    have Ao := heap_of b7 _ _ _ Aa
    have Am := heap_of b7 _ _ _ Ad
    have An := heap_of b7 _ _ _ Ae
    clear b7 B6 Ab Ap Aq Ac Ar As Aa Ad At Ae Au
    obtain ⟨AS, AT⟩ := cells2s Ak
    obtain ⟨AU, AV⟩ := cells2s Al
    have AW := (pt_cells Am).1
    have AX := (pt_cells An).1
    go_wp2_with fail
    refine (KE1.out _).mono ?_
    rintro r w8 ⟨rfl, b8⟩
    have B8 : Below w.heap.size w w8 := btr B7 b8
    have Av := heap_of b8 _ _ _ Ak
    have Aw := heap_of b8 _ _ _ Al
    have Ax := heap_of b8 _ _ _ Ao
    have Ay := heap_of b8 _ _ _ Am
    have Az := heap_of b8 _ _ _ An
    clear b8 B7 Ak AS AT Al AU AV Ao Am AW An AX
    obtain ⟨AZ, A0⟩ := cells2s Av
    obtain ⟨A1, A2⟩ := cells2s Aw
    have A3 := (pt_cells Ay).1
    have A4 := (pt_cells Az).1
    go_wp2_with fail
    refine (KI.out _ (fatB FF.out B8)).mono ?_
    rintro r w9 ⟨rfl, b9⟩
    have B9 : Below w.heap.size w w9 := btr B8 b9
    have AQ := heap_of b9 _ _ _ Av
    have AR := heap_of b9 _ _ _ Aw
    have AA := heap_of b9 _ _ _ Ax
    have AB := heap_of b9 _ _ _ Ay
    have AC := heap_of b9 _ _ _ Az
    clear b9 B8 Av AZ A0 Aw A1 A2 Ax Ay A3 Az A4
    obtain ⟨Bg, Bh⟩ := cells2s AQ
    obtain ⟨Bi, Bj⟩ := cells2s AR
    have A7 := (pt_cells AB).1
    have A8 := (pt_cells AC).1
    obtain ⟨C9, Da⟩ := cells2s AA
    have q0 := fz (k := 0) AA
    have q1 := fz (k := 1) AA
    obtain ⟨E0, E1⟩ := set2_cells AA (.int .u64 u) (.int .u64 v)
    go_wp2
    exact bodyPost_ret (v := .tuple #[.agg #[.int .u64 u, .int .u64 v], .int .u8 0, .int .i64 0]) (by simp [results, Tryd.results20, go_sem, E0, E1]) rfl ⟨rfl, set2_below B9 (by first | exact Nat.le_refl _ | omega | (have := S2.out; have := AD.out; have := AE.out; have := AF.out; have := S4.out; have := AG.out; have := AH.out; have := AI.out; have := AJ.out; omega)) _ _⟩
  · clear H
    go_wp2_with fail
    refine (KT1.out _).mono ?_
    rintro r w6 ⟨rfl, b6⟩
    have B6 : Below w.heap.size w w6 := btr B5 b6
    have Ab := heap_of b6 _ _ _ Af
    have Ac := heap_of b6 _ _ _ Ag
    have Aa := heap_of b6 _ _ _ Aj
    have Ad := heap_of b6 _ _ _ Ah
    have Ae := heap_of b6 _ _ _ Ai
    clear b6 B5 Af AK AL Ag AM AN Aj Ah AO Ai AP
    obtain ⟨Ap, Aq⟩ := cells2s Ab
    obtain ⟨Ar, As⟩ := cells2s Ac
    have At := (pt_cells Ad).1
    have Au := (pt_cells Ae).1
    go_wp2_with fail
    refine (KT2.out _).mono ?_
    rintro r w7 ⟨rfl, b7⟩
    have B7 : Below w.heap.size w w7 := btr B6 b7
    have Ak := heap_of b7 _ _ _ Ab
    have Al := heap_of b7 _ _ _ Ac
    have Ao := heap_of b7 _ _ _ Aa
    have Am := heap_of b7 _ _ _ Ad
    have An := heap_of b7 _ _ _ Ae
    clear b7 B6 Ab Ap Aq Ac Ar As Aa Ad At Ae Au
    obtain ⟨AS, AT⟩ := cells2s Ak
    obtain ⟨AU, AV⟩ := cells2s Al
    have AW := (pt_cells Am).1
    have AX := (pt_cells An).1
    go_wp2_with fail
    refine (KE1.out _).mono ?_
    rintro r w8 ⟨rfl, b8⟩
    have B8 : Below w.heap.size w w8 := btr B7 b8
    have Av := heap_of b8 _ _ _ Ak
    have Aw := heap_of b8 _ _ _ Al
    have Ax := heap_of b8 _ _ _ Ao
    have Ay := heap_of b8 _ _ _ Am
    have Az := heap_of b8 _ _ _ An
    clear b8 B7 Ak AS AT Al AU AV Ao Am AW An AX
    obtain ⟨AZ, A0⟩ := cells2s Av
    obtain ⟨A1, A2⟩ := cells2s Aw
    have A3 := (pt_cells Ay).1
    have A4 := (pt_cells Az).1
    go_wp2_with fail
    refine (KE2.out _).mono ?_
    rintro r w9 ⟨rfl, b9⟩
    have B9 : Below w.heap.size w w9 := btr B8 b9
    have AQ := heap_of b9 _ _ _ Av
    have AR := heap_of b9 _ _ _ Aw
    have AA := heap_of b9 _ _ _ Ax
    have AB := heap_of b9 _ _ _ Ay
    have AC := heap_of b9 _ _ _ Az
    clear b9 B8 Av AZ A0 Aw A1 A2 Ax Ay A3 Az A4
    obtain ⟨Bg, Bh⟩ := cells2s AQ
    obtain ⟨Bi, Bj⟩ := cells2s AR
    have A7 := (pt_cells AB).1
    have A8 := (pt_cells AC).1
    go_wp2_with fail
    refine (KI.out _ (fatB FF.out B9)).mono ?_
    rintro r w10 ⟨rfl, b10⟩
    have B10 : Below w.heap.size w w10 := btr B9 b10
    have Bk := heap_of b10 _ _ _ AQ
    have Bl := heap_of b10 _ _ _ AR
    have AY := heap_of b10 _ _ _ AA
    have A9 := heap_of b10 _ _ _ AB
    have Ba := heap_of b10 _ _ _ AC
    clear b10 B9 AQ Bg Bh AR Bi Bj AA AB A7 AC A8
    obtain ⟨Db, Dc⟩ := cells2s Bk
    obtain ⟨Dd, De⟩ := cells2s Bl
    have BB := (pt_cells A9).1
    have BC := (pt_cells Ba).1
    obtain ⟨Df, Dg⟩ := cells2s AY
    have q0 := fz (k := 0) AY
    have q1 := fz (k := 1) AY
    obtain ⟨E0, E1⟩ := set2_cells AY (.int .u64 u) (.int .u64 v)
    go_wp2
    exact bodyPost_ret (v := .tuple #[.agg #[.int .u64 u, .int .u64 v], .int .u8 0, .int .i64 0]) (by simp [results, Tryd.results20, go_sem, E0, E1]) rfl ⟨rfl, set2_below B10 (by first | exact Nat.le_refl _ | omega | (have := S2.out; have := AD.out; have := AE.out; have := AF.out; have := S4.out; have := AG.out; have := AH.out; have := AI.out; have := AJ.out; omega)) _ _⟩
  · clear H
    go_wp2_with fail
    refine (KT1.out _).mono ?_
    rintro r w6 ⟨rfl, b6⟩
    have B6 : Below w.heap.size w w6 := btr B5 b6
    have Ab := heap_of b6 _ _ _ Af
    have Ac := heap_of b6 _ _ _ Ag
    have Aa := heap_of b6 _ _ _ Aj
    have Ad := heap_of b6 _ _ _ Ah
    have Ae := heap_of b6 _ _ _ Ai
    clear b6 B5 Af AK AL Ag AM AN Aj Ah AO Ai AP
    obtain ⟨Ap, Aq⟩ := cells2s Ab
    obtain ⟨Ar, As⟩ := cells2s Ac
    have At := (pt_cells Ad).1
    have Au := (pt_cells Ae).1
    go_wp2_with fail
    refine (KT2.out _).mono ?_
    rintro r w7 ⟨rfl, b7⟩
    have B7 : Below w.heap.size w w7 := btr B6 b7
    have Ak := heap_of b7 _ _ _ Ab
    have Al := heap_of b7 _ _ _ Ac
    have Ao := heap_of b7 _ _ _ Aa
    have Am := heap_of b7 _ _ _ Ad
    have An := heap_of b7 _ _ _ Ae
    clear b7 B6 Ab Ap Aq Ac Ar As Aa Ad At Ae Au
    obtain ⟨AS, AT⟩ := cells2s Ak
    obtain ⟨AU, AV⟩ := cells2s Al
    have AW := (pt_cells Am).1
    have AX := (pt_cells An).1
    go_wp2_with fail
    refine (KE1.out _).mono ?_
    rintro r w8 ⟨rfl, b8⟩
    have B8 : Below w.heap.size w w8 := btr B7 b8
    have Av := heap_of b8 _ _ _ Ak
    have Aw := heap_of b8 _ _ _ Al
    have Ax := heap_of b8 _ _ _ Ao
    have Ay := heap_of b8 _ _ _ Am
    have Az := heap_of b8 _ _ _ An
    clear b8 B7 Ak AS AT Al AU AV Ao Am AW An AX
    obtain ⟨AZ, A0⟩ := cells2s Av
    obtain ⟨A1, A2⟩ := cells2s Aw
    have A3 := (pt_cells Ay).1
    have A4 := (pt_cells Az).1
    go_wp2_with fail
    refine (KE2.out _).mono ?_
    rintro r w9 ⟨rfl, b9⟩
    have B9 : Below w.heap.size w w9 := btr B8 b9
    have AQ := heap_of b9 _ _ _ Av
    have AR := heap_of b9 _ _ _ Aw
    have AA := heap_of b9 _ _ _ Ax
    have AB := heap_of b9 _ _ _ Ay
    have AC := heap_of b9 _ _ _ Az
    clear b9 B8 Av AZ A0 Aw A1 A2 Ax Ay A3 Az A4
    obtain ⟨Bg, Bh⟩ := cells2s AQ
    obtain ⟨Bi, Bj⟩ := cells2s AR
    have A7 := (pt_cells AB).1
    have A8 := (pt_cells AC).1
    clear Bg Bh
    clear Bi Bj
    obtain ⟨A7, Cb, Cc, Cd, Ce, Cf, Cg, Ch, Ci, Cj, Ck, Cl, Cm, Cn⟩ := pt_cells AB
    obtain ⟨A8, Co, Cp, Cq, Cr, Cs, Ct, Cu, Cv, Cw, Cx, Cy, Cz, CA⟩ := pt_cells AC
    go_wp2_with fail
    refine (KX.out _).mono ?_
    rintro r w10 ⟨rfl, b10⟩
    have B10 : Below w.heap.size w w10 := btr B9 b10
    have Bk := heap_of b10 _ _ _ AQ
    have Bl := heap_of b10 _ _ _ AR
    have AY := heap_of b10 _ _ _ AA
    have A9 := heap_of b10 _ _ _ AB
    have Ba := heap_of b10 _ _ _ AC
    clear b10 B9 AQ AR AA AB A7 Cb Cc Cd Ce Cf Cg Ch Ci Cj Ck Cl Cm Cn AC A8 Co Cp Cq Cr Cs Ct Cu Cv Cw Cx Cy Cz CA
    obtain ⟨BB, CB, CC, CD, CE, CF, CG, CH, CI, CJ, CK, CL, CM, CN⟩ := pt_cells A9
    obtain ⟨BC, CO, CP, CQ, CR, CS, CT, CU, CV, CW, CX, CY, CZ, C0⟩ := pt_cells Ba
    clear BB CB CC CD CE CF CG CH CI CJ CK CL CM CN
    clear BC CO CP CQ CR CS CT CU CV CW CX CY CZ C0
    go_wp2_with fail
    refine (KP.out _ (fatB FF.out B10)).mono ?_
    rintro r w11 ⟨rfl, b11⟩
    have B11 : Below w.heap.size w w11 := btr B10 b11
    have Dh := heap_of b11 _ _ _ Bk
    have Di := heap_of b11 _ _ _ Bl
    have Bm := heap_of b11 _ _ _ AY
    have Dj := heap_of b11 _ _ _ A9
    have Dk := heap_of b11 _ _ _ Ba
    clear b11 B10 Bk Bl AY A9 Ba
    obtain ⟨Dl, Dm⟩ := cells2s Bm
    have q0 := fz (k := 0) Bm
    have q1 := fz (k := 1) Bm
    obtain ⟨E0, E1⟩ := set2_cells Bm (.int .u64 u) (.int .u64 v)
    go_wp2
    exact bodyPost_ret (v := .tuple #[.agg #[.int .u64 u, .int .u64 v], .int .u8 fl, .int .i64 0]) (by simp [results, Tryd.results20, go_sem, E0, E1]) rfl ⟨rfl, set2_below B11 (by first | exact Nat.le_refl _ | omega | (have := S2.out; have := AD.out; have := AE.out; have := AF.out; have := S4.out; have := AG.out; have := AH.out; have := AI.out; have := AJ.out; omega)) _ _⟩
end Go.Proofs.YtoaaajeblhaeoaaDoor
