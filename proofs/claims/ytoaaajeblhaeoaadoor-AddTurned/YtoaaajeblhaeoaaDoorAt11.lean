/-
  What the functions that the statement reaches return: part 11 (O1, O2, O3, M0, M2, A0).
-/
import Derived.Test.YtoaaajeblhaeoaaDoorAt10
namespace Go.Proofs.YtoaaajeblhaeoaaDoor
set_option maxRecDepth 100000
set_option maxHeartbeats 40000000
set_option maxRecDepth 100000
open Go.RowKit WMath
set_option linter.unusedSimpArgs false
set_option linter.unusedVariables false
theorem op_endless (c : Nat) (o : Bool) (ho : (decide (c = 0) || decide (c = 7)) = o) (w : World) : Calls Tryd.prog 29 #[.int .u8 c] w fun r w' => r = .returned (.bool o) ∧ Below w.heap.size w w' := by
  by_cases c0 : c = 0
  · rw [decide_eq_true c0, Bool.true_or] at ho
    subst ho
    have d0 : ((c : Int) == 0) = true := by rw [c0]; rfl
    clear c0
    have B0 : Below w.heap.size w w := (Below.refl _ _)
    go_enter Tryd.func29, Tryd.ntmps29
    go_wp2
    go_ret
    exact ⟨rfl, B0⟩
  · rw [decide_eq_false c0, Bool.false_or] at ho
    have d0 : ((c : Int) == 0) = false := by rw [beq_eq_false_iff_ne]; omega
    have d7 : ((c : Int) == 7) = o := by
      rw [← ho]
      by_cases c7 : c = 7
      · rw [decide_eq_true c7, c7]; rfl
      · rw [decide_eq_false c7, beq_eq_false_iff_ne]; omega
    clear ho c0
    have B0 : Below w.heap.size w w := (Below.refl _ _)
    go_enter Tryd.func29, Tryd.ntmps29
    go_wp2
    go_ret
    exact ⟨rfl, B0⟩
theorem op_inf (f : Int) (neg : Bool) (u v : Nat) (w : World) (KI : Box (∀ w, FAt w → Calls Tryd.prog 53 #[.int .u8 f, .int .u8 0, .bool neg] w fun r w' => r = .returned (.tuple #[.agg #[.int .u64 u, .int .u64 v], .int .u8 5, .int .i64 0]) ∧ Below w.heap.size w w')) (hT : FAt w) : Calls Tryd.prog 39 #[.int .u8 f, .bool neg] w fun r w' => r = .returned (.agg #[.int .u64 u, .int .u64 v]) ∧ Below w.heap.size w w' := by
  have FF := box hT
  clear hT
  obtain ⟨Ac, B0⟩ := opn1 w (Obj.cells #[.int .u64 0, .int .u64 0] 26)
  go_enter Tryd.func39, Tryd.ntmps39
  go_wp2_with fail
  refine (KI.out _ (fatB FF.out B0)).mono ?_
  rintro r w1 ⟨rfl, b1⟩
  have B1 : Below w.heap.size w w1 := btr B0 b1
  have Aa := heap_of b1 _ _ _ Ac
  clear b1 B0 Ac
  obtain ⟨Ad, Ae⟩ := cells2s Aa
  have S2 := box B1.size
  have Af := ltR Aa
  have Ag := heap_alloc_last w1 (Obj.cells #[.int .u64 u, .int .u64 v] 26)
  have B2 := btr B1 (bal w1 (Obj.cells #[.int .u64 u, .int .u64 v] 26))
  have Ab := heap_of (bal w1 (Obj.cells #[.int .u64 u, .int .u64 v] 26)) _ _ _ Aa
  clear B1 Aa Ad Ae
  obtain ⟨Ah, Ai⟩ := cells2s Ab
  obtain ⟨Aj, Ak⟩ := cells2s Ag
  have q0 := fz (k := 0) Ab
  have q1 := fz (k := 1) Ab
  obtain ⟨E0, E1⟩ := set2_cells Ab (.int .u64 u) (.int .u64 v)
  go_wp2
  exact bodyPost_ret (v := .agg #[.int .u64 u, .int .u64 v]) (by simp [results, Tryd.results39, go_sem, E0, E1]) rfl ⟨rfl, set2_below B2 (by first | exact Nat.le_refl _ | omega | (have := S2.out; have := Af.out; omega)) _ _⟩
theorem op_nan (f : Int) (iu iv a b c u v : Nat) (l o : Bool) (w : World) (KI : Box (∀ w, FAt w → Calls Tryd.prog 39 #[.int .u8 f, .bool false] w fun r w' => r = .returned (.agg #[.int .u64 iu, .int .u64 iv]) ∧ Below w.heap.size w w'))
    (KO : Box (∀ w, Calls Tryd.prog 57 #[.agg #[.int .u64 iu, .int .u64 iv]] w fun r w' => r = .returned (.agg (cw 6 a)) ∧ Below w.heap.size w w'))
    (KR : Box (∀ w, Calls Tryd.prog 59 #[.agg (cw 6 a), .int .i64 1] w fun r w' => r = .returned (.tuple #[.agg (cw 6 b), .bool l]) ∧ Below w.heap.size w w'))
    (KU : Box (∀ w, Calls Tryd.prog 61 #[.agg (cw 6 a), .agg (cw 6 b)] w fun r w' => r = .returned (.agg (cw 6 c)) ∧ Below w.heap.size w w'))
    (KT : Box (∀ w, Calls Tryd.prog 60 #[.agg (cw 6 c)] w fun r w' => r = .returned (.tuple #[.agg #[.int .u64 u, .int .u64 v], .bool o]) ∧ Below w.heap.size w w')) (hT : FAt w) : Calls Tryd.prog 28 #[.int .u8 f] w fun r w' => r = .returned (.agg #[.int .u64 u, .int .u64 v]) ∧ Below w.heap.size w w' := by
  have FF := box hT
  clear hT
  have hat := cw_at 6
  have hz := cw6z
  have hff := cw6f
  have hs0 := st0
  have hcs : ∀ x, ((cw 6 x).size = 6) = True := fun x => eq_true (cw_size 6 x)
  obtain ⟨Aq, B0⟩ := opn1 w (Obj.cells #[.int .u64 0, .int .u64 0] 26)
  go_enter Tryd.func28, Tryd.ntmps28
  go_wp2_with fail
  refine (KI.out _ (fatB FF.out B0)).mono ?_
  rintro r w1 ⟨rfl, b1⟩
  have B1 : Below w.heap.size w w1 := btr B0 b1
  have Ah := heap_of b1 _ _ _ Aq
  clear b1 B0 Aq
  obtain ⟨Ar, As⟩ := cells2s Ah
  go_wp2_with fail
  refine (KO.out _).mono ?_
  rintro r w2 ⟨rfl, b2⟩
  have B2 : Below w.heap.size w w2 := btr B1 b2
  have Aa := heap_of b2 _ _ _ Ah
  clear b2 B1 Ah Ar As
  obtain ⟨At, Au⟩ := cells2s Aa
  have S3 := box B2.size
  have Av := ltR Aa
  have Ai := heap_alloc_last w2 (Obj.cells (cw 6 a) 47)
  have B3 := btr B2 (bal w2 (Obj.cells (cw 6 a) 47))
  have Aj := heap_of (bal w2 (Obj.cells (cw 6 a) 47)) _ _ _ Aa
  clear B2 Aa At Au
  obtain ⟨Aw, Ax⟩ := cells2s Aj
  have Ay := row_cell Ai
  go_wp2_with fail
  refine (KR.out _).mono ?_
  rintro r w4 ⟨rfl, b4⟩
  have B4 : Below w.heap.size w w4 := btr B3 b4
  have Ab := heap_of b4 _ _ _ Aj
  have Ac := heap_of b4 _ _ _ Ai
  clear b4 B3 Aj Aw Ax Ai Ay
  obtain ⟨Az, AA⟩ := cells2s Ab
  have AB := row_cell Ac
  have S5 := box B4.size
  have AC := ltR Ab
  have AD := ltR Ac
  have Ak := heap_alloc_last w4 (Obj.cells (cw 6 b) 47)
  have B5 := btr B4 (bal w4 (Obj.cells (cw 6 b) 47))
  have Al := heap_of (bal w4 (Obj.cells (cw 6 b) 47)) _ _ _ Ab
  have Am := heap_of (bal w4 (Obj.cells (cw 6 b) 47)) _ _ _ Ac
  clear B4 Ab Az AA Ac AB
  obtain ⟨AE, AF⟩ := cells2s Al
  have AG := row_cell Am
  have AH := row_cell Ak
  go_wp2_with fail
  refine (KU.out _).mono ?_
  rintro r w6 ⟨rfl, b6⟩
  have B6 : Below w.heap.size w w6 := btr B5 b6
  have An := heap_of b6 _ _ _ Al
  have Ao := heap_of b6 _ _ _ Am
  have Ap := heap_of b6 _ _ _ Ak
  clear b6 B5 Al AE AF Am AG Ak AH
  obtain ⟨AI, AJ⟩ := cells2s An
  have AK := row_cell Ao
  have AL := row_cell Ap
  go_wp2_with fail
  refine (KT.out _).mono ?_
  rintro r w7 ⟨rfl, b7⟩
  have B7 : Below w.heap.size w w7 := btr B6 b7
  have Ad := heap_of b7 _ _ _ An
  have Ae := heap_of b7 _ _ _ Ao
  have Af := heap_of b7 _ _ _ Ap
  clear b7 B6 An AI AJ Ao AK Ap AL
  obtain ⟨AM, AN⟩ := cells2s Ad
  have AO := row_cell Ae
  have AP := row_cell Af
  have S8 := box B7.size
  have AQ := ltR Ad
  have AR := ltR Ae
  have AS := ltR Af
  have AT := heap_alloc_last w7 (Obj.cells #[.int .u64 u, .int .u64 v] 26)
  have B8 := btr B7 (bal w7 (Obj.cells #[.int .u64 u, .int .u64 v] 26))
  have Ag := heap_of (bal w7 (Obj.cells #[.int .u64 u, .int .u64 v] 26)) _ _ _ Ad
  have AU := heap_of (bal w7 (Obj.cells #[.int .u64 u, .int .u64 v] 26)) _ _ _ Ae
  have AV := heap_of (bal w7 (Obj.cells #[.int .u64 u, .int .u64 v] 26)) _ _ _ Af
  clear B7 Ad AM AN Ae AO Af AP
  obtain ⟨AW, AX⟩ := cells2s Ag
  have AY := row_cell AU
  have AZ := row_cell AV
  obtain ⟨A0, A1⟩ := cells2s AT
  have q0 := fz (k := 0) Ag
  have q1 := fz (k := 1) Ag
  obtain ⟨E0, E1⟩ := set2_cells Ag (.int .u64 u) (.int .u64 v)
  go_wp2
  exact bodyPost_ret (v := .agg #[.int .u64 u, .int .u64 v]) (by simp [results, Tryd.results28, go_sem, E0, E1]) rfl ⟨rfl, set2_below B8 (by first | exact Nat.le_refl _ | omega | (have := S3.out; have := Av.out; have := S5.out; have := AC.out; have := AD.out; have := S8.out; have := AQ.out; have := AR.out; have := AS.out; omega)) _ _⟩
def bls (l : List (Nat × Nat)) : Array Value := (l.flatMap fun p => [Value.int .u64 (p.1 : Nat), Value.int .u64 (p.2 : Nat)]).toArray
def okP (f : Int) (p : Nat × Nat) : Bool := okB f (p.2 + 18446744073709551616 * p.1)
theorem bls_at (l : List (Nat × Nat)) (k : Nat) (p : Nat × Nat) (h : l[k]? = some p) : (bls l)[k * 2]? = some (.int .u64 (p.1 : Nat)) ∧ (bls l)[k * 2 + 1]? = some (.int .u64 (p.2 : Nat)) := by
  unfold bls
  rw [List.getElem?_toArray, List.getElem?_toArray]
  induction l generalizing k with
  | nil => simp at h
  | cons a t ih =>
    cases k with
    | zero =>
      simp at h
      subst h
      simp
    | succ k =>
      simp only [List.getElem?_cons_succ] at h
      have := ih k h
      rw [show (k + 1) * 2 = k * 2 + 1 + 1 by omega]
      simpa using this
theorem bls_cell {w : World} {g : Nat} {T : TypeId} {l : List (Nat × Nat)} (row : w.heap[g]? = some (.cells (bls l) T)) (k : Nat) (p : Nat × Nat) (h : l[k]? = some p) : w.cell? ⟨g, k * 2, none⟩ = some (.int .u64 (p.1 : Nat)) ∧ w.cell? ⟨g, k * 2 + 1, none⟩ = some (.int .u64 (p.2 : Nat)) := by
  obtain ⟨a, b⟩ := bls_at l k p h
  exact ⟨(cell_of_row w g (k * 2) _ _ _ row).trans a, (cell_of_row w g (k * 2 + 1) _ _ _ row).trans b⟩
theorem op_may_no (f m : Int) (pu pv : Nat) (fl c : Int) (sl : Value) (hc : (c != 0) = true) (w : World)
    (KP : Box (∀ w, FAt w → Calls Tryd.prog 24 #[.int .u8 f, .int .u8 m, .agg (rg false 0 0 false)] w fun r w' => r = .returned (.tuple #[.agg #[.int .u64 pu, .int .u64 pv], .int .u8 fl, .int .i64 c]) ∧ Below w.heap.size w w')) (hT : FAt w) : Calls Tryd.prog 15 #[.int .u8 f, .int .u8 m, sl] w fun r w' => r = .returned (.bool false) ∧ Below w.heap.size w w' := by
  have FF := box hT
  clear hT
  have hp3 := rgz
  have B0 : Below w.heap.size w w := (Below.refl _ _)
  go_enter Tryd.func15, Tryd.ntmps15
  go_wp2_with fail
  refine (KP.out _ (fatB FF.out B0)).mono ?_
  rintro r w1 ⟨rfl, b1⟩
  have B1 : Below w.heap.size w w1 := btr B0 b1
  clear b1 B0 
  have S2 := box B1.size
  have Aa := heap_alloc_last w1 (Obj.cells #[.int .u64 pu, .int .u64 pv] 26)
  have B2 := btr B1 (bal w1 (Obj.cells #[.int .u64 pu, .int .u64 pv] 26))
  clear B1 
  obtain ⟨Ab, Ac⟩ := cells2s Aa
  go_wp2
  go_ret
  exact ⟨rfl, B2⟩
theorem kClass_any (f : Int) (hf : Is4 f) (p : Nat × Nat) (h : p.1 < 18446744073709551616 ∧ p.2 < 18446744073709551616) (o : Bool) (ho : okP f p = o) : ∃ (c e : Int), (e != 0) = (!o) ∧ Box (∀ w, FAt w → Calls Tryd.prog 11 #[.int .u8 f, .agg #[.int .u64 (p.1 : Nat), .int .u64 (p.2 : Nat)]] w fun r w' => r = .returned (.tuple #[.int .u8 c, .int .i64 e]) ∧ Below w.heap.size w w') := by
  have h0 : 0 ≤ f ∧ f ≤ 255 := by rcases hf with rfl | rfl | rfl | rfl <;> decide
  cases o
  · exact ⟨0, 2, rfl, box (fun w hT => kClass_no f h0.1 h0.2 p.1 p.2 _ h.1 h.2 rfl ho w hT)⟩
  · exact ⟨_, 0, rfl, box (fun w hT => kClass_yes f hf p.1 p.2 _ _ h.1 h.2 rfl ho rfl w hT)⟩
theorem op_may (f m : Int) (hf : Is4 f) (l : List (Nat × Nat)) (L g c : Nat) (T : TypeId) (w : World) (hl : l.length = L) (hL : L ≤ 1000) (hb : Box (∀ p ∈ l, p.1 < 18446744073709551616 ∧ p.2 < 18446744073709551616)) (row : w.heap[g]? = some (.cells (bls l) T)) (pu pv : Nat) (fl : Int)
    (KP : Box (∀ w, FAt w → Calls Tryd.prog 24 #[.int .u8 f, .int .u8 m, .agg (rg false 0 0 false)] w fun r w' => r = .returned (.tuple #[.agg #[.int .u64 pu, .int .u64 pv], .int .u8 fl, .int .i64 0]) ∧ Below w.heap.size w w'))
    (o : Bool) (ho : l.all (okP f) = o) (hT : FAt w) : Calls Tryd.prog 15 #[.int .u8 f, .int .u8 m, .slice (some ⟨g, 0, none⟩) L c] w fun r w' => r = .returned (.bool o) ∧ Below w.heap.size w w' := by
  have FF := box hT
  have HO := box ho
  have HL := box hl
  have HF := box hf
  clear ho hl hT hf
  have hp3 := rgz
  go_enter Tryd.func15, Tryd.ntmps15
  go_wp2_with fail
  refine (KP.out _ FF.out).mono ?_
  rintro r w1 ⟨rfl, b1⟩
  have BP := btr b1 (bal w1 (.cells #[.int .u64 pu, .int .u64 pv] 26))
  obtain ⟨V, hV⟩ : ∃ V, w1.alloc (.cells #[.int .u64 pu, .int .u64 pv] 26) = V := ⟨_, rfl⟩
  go_wp2
  rw [hV] at BP
  clear b1 KP hV
  go_loopw [26] (fun iv wr => ∃ k : Nat, k ≤ L ∧ iv = .int .i64 k ∧ Below w.heap.size w wr ∧ Box (∀ j p, j < k → l[j]? = some p → okP f p = true)) (fun iv _ => L - (intOf iv).toNat)
  case atStart => exact ⟨0, by omega, rfl, BP, box (fun j s hj => absurd hj (by omega))⟩
  case round =>
    obtain ⟨k, hk, rfl, bw, HA⟩ := hrel
    by_cases hlt : k < L
    · obtain ⟨p, hs⟩ : ∃ p, l[k]? = some p := ⟨_, List.getElem?_eq_getElem (by rw [HL.out]; exact hlt)⟩
      obtain ⟨c1, c2⟩ := bls_cell (heap_of bw _ _ _ row) k p hs
      have dl : decide ((k : Int) < (L : Int)) = true := decide_eq_true (by omega)
      have HS := box hs
      obtain ⟨o1, hm⟩ : ∃ o1, okP f p = o1 := ⟨_, rfl⟩
      have HM := box hm
      obtain ⟨cc, ee, hee, KC⟩ := kClass_any f HF.out p (hb.out p (List.mem_of_getElem? hs)) o1 hm
      have FA : Box (FAt (wr.alloc (.cells #[.int .u64 (p.1 : Nat), .int .u64 (p.2 : Nat)] 26))) := box (fatB FF.out (btr bw (bal _ _)))
      have BA := btr bw (bal wr (.cells #[.int .u64 (p.1 : Nat), .int .u64 (p.2 : Nat)] 26))
      clear hs hm
      cases o1
      · have e : o = false := by
          rw [← HO.out, Bool.eq_false_iff]
          intro h
          rw [List.all_eq_true] at h
          have := h p (List.mem_of_getElem? HS.out)
          rw [HM.out] at this
          exact absurd this (by decide)
        subst e
        go_wp2_with fail
        refine (KC.out _ FA.out).mono ?_
        rintro r w2 ⟨rfl, b2⟩
        go_wp2
        go_ret
        exact ⟨rfl, btr BA b2⟩
      · have NA : Box (∀ j p, j < k + 1 → l[j]? = some p → okP f p = true) := box (fun j p2 hj h2 => by
          by_cases e : j = k
          · subst e
            rw [HS.out] at h2
            cases h2
            exact HM.out
          · exact HA.out j p2 (by omega) h2)
        go_wp2_with fail
        refine (KC.out _ FA.out).mono ?_
        rintro r w2 ⟨rfl, b2⟩
        go_wp2
        go_roundw
        case rel => exact ⟨k + 1, by omega, by go_num, btr BA b2, NA⟩
        case measure => simp [intOf] <;> omega
    · obtain rfl : k = L := by omega
      have e : o = true := by
        rw [← HO.out, List.all_eq_true]
        intro s hs
        obtain ⟨j, hj⟩ := List.mem_iff_getElem?.1 hs
        have := (List.getElem?_eq_some_iff.1 hj).1
        exact HA.out j s (by rw [← HL.out]; exact this) hj
      subst e
      have dl : decide ((k : Int) < (k : Int)) = false := by rw [decide_eq_false_iff_not]; omega
      go_wp2
      go_ret
      exact ⟨rfl, bw⟩
theorem add_add_no (f m : Int) (x1 y1 x2 y2 u v p q : Nat) (fl c : Int) (w : World)
    (KF : Box (∀ (T : TypeId) (g : Nat) (w : World), w.heap.size = g → FAt w → Calls Tryd.prog 15 #[.int .u8 f, .int .u8 m, .slice (some ⟨g, 0, none⟩) 2 2] (w.alloc (.cells #[.int .u64 x1, .int .u64 y1, .int .u64 x2, .int .u64 y2] T)) fun r w' => r = .returned (.bool false) ∧ Below w.heap.size w w'))
    (hT : FAt w) : Calls Tryd.prog 5 #[.int .u8 f, .int .u8 m, .agg #[.int .u64 x1, .int .u64 y1], .agg #[.int .u64 x2, .int .u64 y2]] w fun r w' => r = .returned (.tuple #[.agg #[.int .u64 0, .int .u64 0], .int .u8 0, .int .i64 2]) ∧ Below w.heap.size w w' := by
  have FF := box hT
  clear hT
  obtain ⟨Ab, Ac, Ad, B0⟩ := opn3 w (Obj.cells #[.int .u64 x1, .int .u64 y1] 26) (Obj.cells #[.int .u64 x2, .int .u64 y2] 26) (Obj.cells #[.int .u64 0, .int .u64 0] 26)
  go_enter Tryd.func5, Tryd.ntmps5
  obtain ⟨Ae, Af⟩ := cells2s Ab
  obtain ⟨Ag, Ah⟩ := cells2s Ac
  go_wp2_with fail
  refine (KF.out _ _ (((w.alloc (Obj.cells #[.int .u64 x1, .int .u64 y1] 26)).alloc (Obj.cells #[.int .u64 x2, .int .u64 y2] 26)).alloc (Obj.cells #[.int .u64 0, .int .u64 0] 26)) (by first | rfl | simp only [size_al]) (fatB FF.out B0)).mono ?_
  rintro r w1 ⟨rfl, b1⟩
  have B1 : Below w.heap.size w w1 := btr B0 b1
  have Ai := heap_of b1 _ _ _ Ab
  have Aj := heap_of b1 _ _ _ Ac
  have Aa := heap_of b1 _ _ _ Ad
  clear b1 B0 Ab Ae Af Ac Ag Ah Ad
  obtain ⟨Ak, Al⟩ := cells2s Ai
  obtain ⟨Am, An⟩ := cells2s Aj
  obtain ⟨Ao, Ap⟩ := cells2s Aa
  have q0 := fz (k := 0) Aa
  have q1 := fz (k := 1) Aa
  obtain ⟨E0, E1⟩ := set2_cells Aa (.int .u64 0) (.int .u64 0)
  go_wp2
  exact bodyPost_ret (v := .tuple #[.agg #[.int .u64 0, .int .u64 0], .int .u8 0, .int .i64 2]) (by simp [results, Tryd.results5, go_sem, E0, E1]) rfl ⟨rfl, set2_below B1 (by first | exact Nat.le_refl _ | omega | (skip; omega)) _ _⟩
theorem add_add_yes (f m : Int) (x1 y1 x2 y2 u v p q : Nat) (fl c : Int) (w : World)
    (KF : Box (∀ (T : TypeId) (g : Nat) (w : World), w.heap.size = g → FAt w → Calls Tryd.prog 15 #[.int .u8 f, .int .u8 m, .slice (some ⟨g, 0, none⟩) 2 2] (w.alloc (.cells #[.int .u64 x1, .int .u64 y1, .int .u64 x2, .int .u64 y2] T)) fun r w' => r = .returned (.bool true) ∧ Below w.heap.size w w'))
    (KT : Box (∀ w, FAt w → Calls Tryd.prog 16 #[.int .u8 f, .int .u8 m, .agg #[.int .u64 x1, .int .u64 y1], .agg #[.int .u64 x2, .int .u64 y2]] w fun r w' => r = .returned (.tuple #[.agg #[.int .u64 u, .int .u64 v], .int .u8 fl, .int .i64 c]) ∧ Below w.heap.size w w'))
    (hT : FAt w) : Calls Tryd.prog 5 #[.int .u8 f, .int .u8 m, .agg #[.int .u64 x1, .int .u64 y1], .agg #[.int .u64 x2, .int .u64 y2]] w fun r w' => r = .returned (.tuple #[.agg #[.int .u64 u, .int .u64 v], .int .u8 fl, .int .i64 c]) ∧ Below w.heap.size w w' := by
  have FF := box hT
  clear hT
  obtain ⟨Ab, Ac, Af, B0⟩ := opn3 w (Obj.cells #[.int .u64 x1, .int .u64 y1] 26) (Obj.cells #[.int .u64 x2, .int .u64 y2] 26) (Obj.cells #[.int .u64 0, .int .u64 0] 26)
  go_enter Tryd.func5, Tryd.ntmps5
  obtain ⟨Ah, Ai⟩ := cells2s Ab
  obtain ⟨Aj, Ak⟩ := cells2s Ac
  go_wp2_with fail
  refine (KF.out _ _ (((w.alloc (Obj.cells #[.int .u64 x1, .int .u64 y1] 26)).alloc (Obj.cells #[.int .u64 x2, .int .u64 y2] 26)).alloc (Obj.cells #[.int .u64 0, .int .u64 0] 26)) (by first | rfl | simp only [size_al]) (fatB FF.out B0)).mono ?_
  rintro r w1 ⟨rfl, b1⟩
  have B1 : Below w.heap.size w w1 := btr B0 b1
  have Ad := heap_of b1 _ _ _ Ab
  have Ae := heap_of b1 _ _ _ Ac
  have Ag := heap_of b1 _ _ _ Af
  clear b1 B0 Ab Ah Ai Ac Aj Ak Af
  obtain ⟨Al, Am⟩ := cells2s Ad
  obtain ⟨An, Ao⟩ := cells2s Ae
  go_wp2_with fail
  refine (KT.out _ (fatB FF.out B1)).mono ?_
  rintro r w2 ⟨rfl, b2⟩
  have B2 : Below w.heap.size w w2 := btr B1 b2
  have Ap := heap_of b2 _ _ _ Ad
  have Aq := heap_of b2 _ _ _ Ae
  have Aa := heap_of b2 _ _ _ Ag
  clear b2 B1 Ad Al Am Ae An Ao Ag
  obtain ⟨Ar, As⟩ := cells2s Ap
  obtain ⟨At, Au⟩ := cells2s Aq
  obtain ⟨Av, Aw⟩ := cells2s Aa
  have q0 := fz (k := 0) Aa
  have q1 := fz (k := 1) Aa
  obtain ⟨E0, E1⟩ := set2_cells Aa (.int .u64 u) (.int .u64 v)
  go_wp2
  exact bodyPost_ret (v := .tuple #[.agg #[.int .u64 u, .int .u64 v], .int .u8 fl, .int .i64 c]) (by simp [results, Tryd.results5, go_sem, E0, E1]) rfl ⟨rfl, set2_below B2 (by first | exact Nat.le_refl _ | omega | (skip; omega)) _ _⟩
theorem two_row (x1 y1 x2 y2 : Nat) (T : TypeId) (g : Nat) (w : World) (hg : w.heap.size = g) : (w.alloc (.cells #[.int .u64 x1, .int .u64 y1, .int .u64 x2, .int .u64 y2] T)).heap[g]? = some (.cells (bls [(x1, y1), (x2, y2)]) T) := by
  rw [← hg]
  exact heap_alloc_last _ _
theorem two_lim {x1 y1 x2 y2 : Nat} (hx1 : x1 < 18446744073709551616) (hy1 : y1 < 18446744073709551616) (hx2 : x2 < 18446744073709551616) (hy2 : y2 < 18446744073709551616) : Box (∀ p ∈ [(x1, y1), (x2, y2)], p.1 < 18446744073709551616 ∧ p.2 < 18446744073709551616) := box (fun p hp => by
  rcases List.mem_cons.1 hp with rfl | h
  · exact ⟨hx1, hy1⟩
  · rcases List.mem_cons.1 h with rfl | h
    · exact ⟨hx2, hy2⟩
    · exact absurd h List.not_mem_nil)
theorem kmay2 (f m : Int) (h0 : 0 ≤ f) (h1 : f ≤ 255) (m0 : 0 ≤ m) (x1 y1 a x2 y2 b : Nat) (hx1 : x1 < 18446744073709551616) (hy1 : y1 < 18446744073709551616) (ha : y1 + 18446744073709551616 * x1 = a) (hx2 : x2 < 18446744073709551616) (hy2 : y2 < 18446744073709551616) (hb : y2 + 18446744073709551616 * x2 = b) (o : Bool) (ho : (decide (f ≤ 3 ∧ m ≤ 4) && okB f a && okB f b) = o) :
    Box (∀ (T : TypeId) (g : Nat) (w : World), w.heap.size = g → FAt w → Calls Tryd.prog 15 #[.int .u8 f, .int .u8 m, .slice (some ⟨g, 0, none⟩) 2 2] (w.alloc (.cells #[.int .u64 x1, .int .u64 y1, .int .u64 x2, .int .u64 y2] T)) fun r w' => r = .returned (.bool o) ∧ Below w.heap.size w w') := by
  refine box (fun T g w hg hT => ?_)
  have B := (bal w (.cells #[.int .u64 x1, .int .u64 y1, .int .u64 x2, .int .u64 y2] T))
  have row := two_row x1 y1 x2 y2 T g w hg
  have hT2 := fatB hT B
  by_cases c : f ≤ 3 ∧ m ≤ 4
  · have hf := is4_of h0 c.1
    obtain ⟨u, v, hv⟩ : ∃ u v, bv7 (eZero f false) = (u, v) := ⟨_, _, rfl⟩
    have KP : Box (∀ w, FAt w → Calls Tryd.prog 24 #[.int .u8 f, .int .u8 m, .agg (rg false 0 0 false)] w fun r w' => r = .returned (.tuple #[.agg #[.int .u64 u, .int .u64 v], .int .u8 0, .int .i64 0]) ∧ Below w.heap.size w w') := box (fun w hT => kPack_zero f m hf ⟨m0, c.2⟩ false 0 (by decide) (by decide) u v hv w hT)
    refine (op_may f m hf [(x1, y1), (x2, y2)] 2 g 2 T _ rfl (by decide) (two_lim hx1 hy1 hx2 hy2) row u v 0 KP o ?_ hT2).mono fun _ _ ⟨q1, q2⟩ => ⟨q1, btr B q2⟩
    rw [← ho, decide_eq_true c]
    show (okP f (x1, y1) && (okP f (x2, y2) && true)) = _
    unfold okP
    rw [ha, hb, Bool.and_true, Bool.true_and]
  · have e : o = false := by rw [← ho, decide_eq_false c]; rfl
    subst e
    exact (op_may_no f m 0 0 0 2 _ rfl _ (box (fun w hT => kPack_no f m h0 h1 false 0 Q_pos 0 false (fun q => c ⟨q.1, q.2.1⟩) w hT)) hT2).mono fun _ _ ⟨q1, q2⟩ => ⟨q1, btr B q2⟩
end Go.Proofs.YtoaaajeblhaeoaaDoor
namespace Go.Proofs.YtoaaajeblhaeoaaDoor
set_option maxRecDepth 100000
set_option maxHeartbeats 40000000
set_option maxRecDepth 100000
open Go.RowKit WMath XMath
set_option linter.unusedSimpArgs false
set_option linter.unusedVariables false
theorem vX_whole {f : Int} (hf : Is4 f) (n : Nat) (h : 0 < kC f n ∧ kC f n < 7) (h2 : ¬ (kC f n = 3 ∨ kC f n = 4)) : kS f n ≠ 0 ∧ kS f n < 2 ^ 128 ∧ vX f n = ⟨kN f n, od (kS f n), 1, kX f n + (tz (kS f n) : Int)⟩ ∧ (vX f n).can := by
  obtain ⟨l1, l2, l3⟩ := kS_lim hf n
  obtain ⟨a, b, d, e⟩ := k_parts (f := f) n (by omega)
  have l4 : kS f n < 2 ^ 128 := l1
  obtain ⟨w1, w2, w3, w4, w5, w6, w7⟩ := x_whole hf (kN f n) (kS f n) (kX f n) e (by have := (blen_iff (kS f n) 128).2 l4; omega) (by omega) (by omega)
  have := vX_mk hf n h
  rw [w1] at this
  injection this with h3 h4
  exact ⟨e, l4, h3.symm, by rw [← h3]; exact w2⟩
theorem ov_inf (f : Int) (neg : Bool) : ovB f 0 neg = eInf f neg := by
  unfold ovB
  rw [if_pos (by unfold gO; rw [if_pos rfl]; rfl)]
theorem nan_or {f : Int} (hf : Is4 f) : eInf f false ||| eInf f false / 2 = eNaN f ∧ eInf f false < 340282366920938463463374607431768211456 ∧ eNaN f < 340282366920938463463374607431768211456 := by
  rcases hf with rfl | rfl | rfl | rfl <;> decide +kernel
theorem kInf_is (f : Int) (hf : Is4 f) (neg : Bool) (u v : Nat) (hv : bv7 (eInf f neg) = (u, v)) (w : World) (hT : FAt w) : Calls Tryd.prog 39 #[.int .u8 f, .bool neg] w fun r w' => r = .returned (.agg #[.int .u64 u, .int .u64 v]) ∧ Below w.heap.size w w' :=
  op_inf f neg u v w (box (fun w hT => kover f 0 hf (by decide) neg u v (by rw [ov_inf]; exact hv) w hT)) hT
theorem kNaN_is (f : Int) (hf : Is4 f) (u v : Nat) (hv : bv7 (eNaN f) = (u, v)) (w : World) (hT : FAt w) : Calls Tryd.prog 28 #[.int .u8 f] w fun r w' => r = .returned (.agg #[.int .u64 u, .int .u64 v]) ∧ Below w.heap.size w w' := by
  obtain ⟨n1, n2, n3⟩ := nan_or hf
  obtain ⟨iu, iv, hi⟩ : ∃ iu iv, bv7 (eInf f false) = (iu, iv) := ⟨_, _, rfl⟩
  obtain ⟨i1, i2, i3⟩ := bv_lt n2 hi
  obtain ⟨w0, w1⟩ := wd01 n3
  have hQ := lt_Q7 n2
  have hQ2 := lt_Q7 n3
  have hQ3 : eInf f false / 2 < Q := Nat.lt_of_le_of_lt (Nat.div_le_self _ _) hQ
  unfold bv7 at hv
  injection hv with v1 v2
  have KT : Box (∀ w, Calls Tryd.prog 60 #[.agg (cw 6 (eNaN f))] w fun r w' => r = .returned (.tuple #[.agg #[.int .u64 u, .int .u64 v], .bool true]) ∧ Below w.heap.size w w') := box (fun w => by
    have := wtobits_yes (eNaN f) hQ2 (by rw [w0, w1]; exact Nat.mod_add_div _ _) w
    rw [w0, w1, v1, v2] at this
    exact this)
  exact op_nan f iu iv _ _ _ u v _ true w (box (fun w hT => kInf_is f hf false iu iv hi w hT)) (box (fun w => wofbits_is iu iv _ i1 i2 i3 w))
    (box (fun w => wright_is (eInf f false) (eInf f false / 2) 1 _ hQ rfl rfl w)) (box (fun w => wor_is _ _ _ hQ hQ3 n1 w)) KT hT
theorem ieq {c : Nat} {k : Int} (h : (c : Int) = k) : ((c : Int) == k) = true := by rw [h]; exact beq_self_eq_true k
theorem ine {c : Nat} {k : Int} (h : (c : Int) ≠ k) : ((c : Int) == k) = false := beq_eq_false_iff_ne.2 h
theorem three_up (N : Nat) : N * 2 ^ 3 = 8 * N := by omega
theorem sum_exact (P S N n : Nat) (S0 : S ≠ 0) (N0 : N ≠ 0) (h : S * 2 ^ n = 8 * N) : blen S + n = blen N + 3 ∧ qW P S = qW P N ∧ qM P S false = qM P N false := by
  have b1 := blen_shift S n S0
  have b2 := blen_shift N 3 N0
  have q1 := q_longer P S n S0
  have q2 := q_longer P N 3 N0
  rw [three_up] at b2 q2
  rw [h] at b1 q1
  exact ⟨by omega, by rw [← q1.1, q2.1], by rw [← q1.2, q2.2]⟩
theorem sum_lost (P s N n r : Nat) (N0 : N ≠ 0) (hs : P + 2 ≤ blen s) (r0 : r ≠ 0) (hr : r < 2 ^ n) (h : s * 2 ^ n + r = 8 * N) : blen (s / 2 * 2 + 1) + n = blen N + 3 ∧ qW P (s / 2 * 2 + 1) = qW P N ∧ qM P (s / 2 * 2 + 1) false = qM P N false := by
  have s0 : s ≠ 0 := by intro e; subst e; rw [blen_zero] at hs; omega
  obtain ⟨j1, j2, j3, j4⟩ := q_jam P s hs
  have b1 := blen_more s n r s0 hr
  have b2 := blen_shift N 3 N0
  have q1 := q_more P s n r s0 hr (fun _ => by omega)
  have q2 := q_longer P N 3 N0
  rw [three_up] at b2 q2
  rw [h] at b1 q1
  rw [decide_eq_true r0] at q1
  exact ⟨by omega, by rw [j2, ← q1.1, q2.1], by rw [j3, ← q2.2, q1.2, j4]⟩
theorem lost_four (Y n : Nat) (h : 8 * Y % 2 ^ n ≠ 0) : 4 ≤ n := by
  rcases Nat.lt_or_ge n 4 with c | c
  · exfalso
    apply h
    have : n = 0 ∨ n = 1 ∨ n = 2 ∨ n = 3 := by omega
    rcases this with rfl | rfl | rfl | rfl <;> omega
  · exact c
theorem sum_like (p X Y n : Nat) (X0 : X ≠ 0) (hl : 8 * Y % 2 ^ n ≠ 0 → 2 ^ p ≤ X) : blen (8 * X + jr (8 * Y) n) + n = blen (X * 2 ^ n + Y) + 3 ∧ qW (p + 1) (8 * X + jr (8 * Y) n) = qW (p + 1) (X * 2 ^ n + Y) ∧ qM (p + 1) (8 * X + jr (8 * Y) n) false = qM (p + 1) (X * 2 ^ n + Y) false := by
  have p0 := Nat.two_pow_pos n
  have dm := Nat.div_add_mod (8 * Y) (2 ^ n)
  have lt := Nat.mod_lt (8 * Y) p0
  have XN : X * 2 ^ n + Y ≠ 0 := by
    have := Nat.mul_pos (Nat.pos_of_ne_zero X0) p0
    omega
  obtain ⟨A, hA⟩ : ∃ A, 8 * Y / 2 ^ n = A := ⟨_, rfl⟩
  obtain ⟨r, hr⟩ : ∃ r, 8 * Y % 2 ^ n = r := ⟨_, rfl⟩
  have e8 : (8 * X + A) * 2 ^ n + r = 8 * (X * 2 ^ n + Y) := by
    rw [hA, hr, Nat.mul_comm] at dm
    rw [Nat.add_mul, Nat.mul_assoc, Nat.mul_add]
    omega
  by_cases c : 8 * Y % 2 ^ n = 0
  · rw [jr_even _ _ c, hA]
    rw [hr] at c
    rw [c, Nat.add_zero] at e8
    exact sum_exact (p + 1) _ _ n (by omega) XN e8
  · rw [jr_odd _ _ c, hA]
    have hX := hl c
    rw [hr] at c lt
    have e : 8 * X + (A / 2 * 2 + 1) = (8 * X + A) / 2 * 2 + 1 := by omega
    rw [e]
    refine sum_lost (p + 1) _ _ n r XN ?_ c lt e8
    have := (blen_low (8 * X + A) (by omega)).2.2
    have l : 2 ^ (p + 3) ≤ 8 * X + A := by rw [Nat.pow_add]; omega
    have : 2 ^ (p + 3) < 2 ^ blen (8 * X + A) := by omega
    have := (Nat.pow_lt_pow_iff_right (show 1 < 2 by decide)).1 this
    omega
theorem sum_unlike (p X Y n : Nat) (hl : 8 * Y % 2 ^ n ≠ 0 → 2 ^ p ≤ X) (hY : Y < 2 * 2 ^ p) (hg : Y ≤ X * 2 ^ n) :
    jr (8 * Y) n ≤ 8 * X ∧ (X * 2 ^ n - Y = 0 ↔ 8 * X - jr (8 * Y) n = 0) ∧ (X * 2 ^ n - Y ≠ 0 → blen (8 * X - jr (8 * Y) n) + n = blen (X * 2 ^ n - Y) + 3 ∧ qW (p + 1) (8 * X - jr (8 * Y) n) = qW (p + 1) (X * 2 ^ n - Y) ∧ qM (p + 1) (8 * X - jr (8 * Y) n) false = qM (p + 1) (X * 2 ^ n - Y) false) := by
  have p0 := Nat.two_pow_pos n
  have dm := Nat.div_add_mod (8 * Y) (2 ^ n)
  have lt := Nat.mod_lt (8 * Y) p0
  obtain ⟨A, hA⟩ : ∃ A, 8 * Y / 2 ^ n = A := ⟨_, rfl⟩
  obtain ⟨r, hr⟩ : ∃ r, 8 * Y % 2 ^ n = r := ⟨_, rfl⟩
  obtain ⟨N, hN⟩ : ∃ N, X * 2 ^ n - Y = N := ⟨_, rfl⟩
  have eX : 8 * (X * 2 ^ n) = 8 * X * 2 ^ n := (Nat.mul_assoc 8 X (2 ^ n)).symm
  have eN : 8 * N + 8 * Y = 8 * X * 2 ^ n := by omega
  rw [hA, hr, Nat.mul_comm] at dm
  by_cases c : 8 * Y % 2 ^ n = 0
  · rw [jr_even _ _ c, hA, hN]
    rw [hr] at c
    rw [c, Nat.add_zero] at dm
    have le : A ≤ 8 * X := by
      have : A * 2 ^ n ≤ 8 * X * 2 ^ n := by omega
      exact Nat.le_of_mul_le_mul_right this p0
    have eS : (8 * X - A) * 2 ^ n = 8 * N := by
      rw [Nat.sub_mul]
      omega
    refine ⟨le, ⟨fun h => ?_, fun h => ?_⟩, fun N0 => ?_⟩
    · rw [h] at eS
      rcases Nat.mul_eq_zero.1 (eS.trans (Nat.mul_zero 8)) with q | q
      · exact q
      · omega
    · rw [h, Nat.zero_mul] at eS
      omega
    · refine sum_exact (p + 1) _ _ n (fun h => ?_) N0 eS
      rw [h, Nat.zero_mul] at eS
      omega
  · have n4 := lost_four Y n c
    have hX := hl c
    rw [jr_odd _ _ c, hA, hN]
    rw [hr] at c lt
    have AY : A < 2 ^ p := by
      have h16 : 2 ^ 4 ≤ 2 ^ n := Nat.pow_le_pow_right (by decide) n4
      have h1 : A * 2 ^ 4 ≤ A * 2 ^ n := Nat.mul_le_mul_left A h16
      omega
    have X8 : 2 ^ (p + 3) ≤ 8 * X := by rw [Nat.pow_add]; omega
    have P3 : 2 ^ (p + 3) = 8 * 2 ^ p := by rw [Nat.pow_add]; omega
    have e8 : (8 * X - A - 1) * 2 ^ n + (2 ^ n - r) = 8 * N := by
      rw [Nat.sub_mul, Nat.sub_mul, Nat.one_mul]
      have : A * 2 ^ n + 2 ^ n ≤ 8 * X * 2 ^ n := by
        have := Nat.mul_le_mul_right (2 ^ n) (show A + 1 ≤ 8 * X by omega)
        rw [Nat.add_mul, Nat.one_mul] at this
        exact this
      omega
    have N0 : N ≠ 0 := by omega
    have e : 8 * X - (A / 2 * 2 + 1) = (8 * X - A - 1) / 2 * 2 + 1 := by omega
    refine ⟨by omega, ⟨fun h => absurd h N0, fun h => ?_⟩, fun _ => ?_⟩
    · exfalso
      omega
    · rw [e]
      refine sum_lost (p + 1) _ _ n (2 ^ n - r) N0 ?_ (by omega) (by omega) e8
      have := (blen_low (8 * X - A - 1) (by omega)).2.2
      have l : 2 ^ (p + 2) ≤ 8 * X - A - 1 := by
        have : 2 ^ (p + 2) = 4 * 2 ^ p := by rw [Nat.pow_add]; omega
        omega
      have : 2 ^ (p + 2) < 2 ^ blen (8 * X - A - 1) := by omega
      have := (Nat.pow_lt_pow_iff_right (show 1 < 2 by decide)).1 this
      omega
end Go.Proofs.YtoaaajeblhaeoaaDoor
