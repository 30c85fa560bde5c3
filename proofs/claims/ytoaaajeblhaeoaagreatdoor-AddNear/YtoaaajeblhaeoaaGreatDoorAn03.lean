/-
  What the functions that the statement reaches return: part 3 (Jam1, Jam2, Nat3, Nat6, List0, List2, List6, Door1, Dmath, Gmath, List16, Xmath, X1).
-/
import Derived.Deep.RegionWith
import Derived.Laws.Cover1
import Derived.Test.YtoaaajeblhaeoaaGreatDoorAn02
namespace Go.Proofs.YtoaaajeblhaeoaaGreatDoor
set_option maxRecDepth 100000
set_option maxHeartbeats 40000000
set_option maxRecDepth 100000
open Go.RowKit WMath

theorem jcount_any (n : Int) (w : World) :
    Calls Tryz.prog 305 #[.int .i64 n] w fun e w' => e = .returned (.int .i64 (cnt5 n : Nat)) ∧ w' = w := by
  go_enter Tryz.func305, Tryz.ntmps305
  go_wp2
  all_goals go_ret
  all_goals
    refine ⟨ret_int ?_, rfl⟩
    unfold cnt5
    omega

theorem jzero_is (n : Nat) (o : Bool) (hn : n < Q) (ho : decide (n = 0) = o) (w : World) :
    Calls Tryz.prog 309 #[.agg (cw 6 n)] w fun e w' => e = .returned (.bool o) ∧ Below w.heap.size w w' := by
  have hat := cw_at 6
  have hz := cw6z
  have hf := cw6f
  have heq := eq6
  have hg := eqg6
  have hQ := Q_pos
  have HO := box ho
  clear ho
  go_enter Tryz.func309, Tryz.ntmps309
  go_wp2
  go_ret
  exact ⟨by rw [HO.out]; rfl, (Below.refl _ _).alloc (Nat.le_refl _) _⟩

theorem wand_is (n m v : Nat) (hn : n < Q) (hv : n &&& m = v) (w : World) :
    Calls Tryz.prog 334 #[.agg (cw 6 n), .agg (cw 6 m)] w fun e w' => e = .returned (.agg (cw 6 v)) ∧ Below w.heap.size w w' := by
  subst hv; exact wand_any n m hn w

theorem jwhole_is (n v : Nat) (s : Int) (hn : n < Q) (hv : n / 2 ^ cnt6 s = v) (w : World) :
    Calls Tryz.prog 307 #[.agg (cw 6 n), .int .i64 s] w fun e w' => e = .returned (.agg (cw 6 v)) ∧ Below w.heap.size w w' := by
  have hat := cw_at 6
  have hz := cw6z
  have hf := cw6f
  have hs0 := st0
  have hcs : ∀ x, ((cw 6 x).size = 6) = True := fun x => eq_true (cw_size 6 x)
  have HV := box hv
  clear hv
  go_enter Tryz.func307, Tryz.ntmps307
  go_wp2_with fail
  refine (wright_is n v s _ hn HV.out rfl _).mono ?_
  rintro e w1 ⟨rfl, hb1⟩
  obtain ⟨r0, r1, b1, s1⟩ := rows_two hb1
  clear hb1
  have q1 : (w1.alloc (.cells (cw 6 v) 71)).heap[w.heap.size + 1]? = some (.cells (cw 6 0) 71) := by rw [heap_below _ _ _ s1]; exact r1
  have hst := st_any (w1.alloc (.cells (cw 6 v) 71)) (w.heap.size + 1) v 0 q1
  have q2 := row_cell (setRow_row (c' := cw 6 v) q1)
  have bz : Below w.heap.size w ((w1.alloc (.cells (cw 6 v) 71)).setRow (w.heap.size + 1) (cw 6 v)) := Below.setRow (b1.alloc b1.size _) (by omega)
  go_wp2
  exact bodyPost_ret (v := .agg (cw 6 v)) (by simp [results, Tryz.results307, go_sem, q2, hf]) rfl ⟨rfl, bz⟩

theorem jrows2 (w : World) (n : Nat) : RowsL w ((w.alloc (.cells (cw 6 n) 71)).alloc (.cells (cw 6 0) 71)) [n, 0] := rowsL_new (rowsL_new (rowsL_nil w) rfl n) (by simp) 0

theorem jleft_is (n v : Nat) (s : Int) (hn : n < Q) (hv : n % 2 ^ cnt6 s = v) (w : World) :
    Calls Tryz.prog 306 #[.agg (cw 6 n), .int .i64 s] w fun e w' => e = .returned (.agg (cw 6 v)) ∧ Below w.heap.size w w' := by
  have hat := cw_at 6
  have hz := cw6z
  have hf := cw6f
  have hs0 := st0
  have hcs : ∀ x, ((cw 6 x).size = 6) = True := fun x => eq_true (cw_size 6 x)
  obtain ⟨m, hm⟩ : ∃ m, 2 ^ cnt6 s - 1 = m := ⟨_, rfl⟩
  have HV : Box (n &&& m = v) := box (by rw [← hm, jand_mask, hv])
  have HM := box hm
  have R := jrows2 w n
  obtain ⟨W0, hW0⟩ : ∃ W0, (w.alloc (.cells (cw 6 n) 71)).alloc (.cells (cw 6 0) 71) = W0 := ⟨_, rfl⟩
  rw [hW0] at R
  have c0 := row_cell (rows0 R)
  clear hv hm
  go_enter Tryz.func306, Tryz.ntmps306
  go_wp2
  clear hW0
  go_region_with (first
    | (go_at_call 335; refine (wmask_is s m HM.out _).mono ?_; rintro e w1 ⟨rfl, hb1⟩; have R1 := rowsL_below (rowsL_drew R _) hb1; have c1 := row_cell (rows0 R1))
    | (go_at_call 334; refine (wand_is n m v hn HV.out _).mono ?_; rintro e w2 ⟨rfl, hb2⟩; have R2 := rowsL_below R1 hb2; have hst := st_any w2 (w.heap.size + 1) v 0 (rows1 R2)))
  all_goals
    have R3 : RowsL w (w2.setRow (w.heap.size + 1) (cw 6 v)) [n, v] := rowsL_set R2 1 v _ (by simp) rfl rfl
    have d := row_cell (rows1 R3)
    go_wp2
    exact bodyPost_ret (v := .agg (cw 6 v)) (by simp [results, Tryz.results306, go_sem, d, hf]) rfl ⟨rfl, R3.2⟩

theorem jhalf_out (r c : Nat) (hc : c = 0 ∨ 384 < c) (w : World) :
    Calls Tryz.prog 308 #[.agg (cw 6 r), .int .i64 (c : Nat)] w fun e w' => e = .returned (.int .i64 (-1)) ∧ Below w.heap.size w w' := by
  have hat := cw_at 6
  have hz := cw6z
  have hf := cw6f
  have hh : ((c : Int) == 0) = true ∨ (((c : Int) == 0) = false ∧ decide ((384 : Int) < (c : Int)) = true) := by
    simp only [decide_eq_true_eq, beq_iff_eq, beq_eq_false_iff_ne]
    omega
  clear hc
  rcases hh with h0 | ⟨h0, h1⟩
  all_goals
    go_enter Tryz.func308, Tryz.ntmps308
    go_wp2
    go_ret
    exact ⟨rfl, (Below.refl _ _).alloc (Nat.le_refl _) _⟩

theorem jhalf_in (r k : Nat) (h : Int) (hr : r < Q) (hk : k < 384) (hh : cmpv r (2 ^ k) = h) (w : World) :
    Calls Tryz.prog 308 #[.agg (cw 6 r), .int .i64 ((k + 1 : Nat) : Int)] w fun e w' => e = .returned (.int .i64 h) ∧ Below w.heap.size w w' := by
  have hat := cw_at 6
  have hz := cw6z
  have hf := cw6f
  have hs0 := st0
  have hcs : ∀ x, ((cw 6 x).size = 6) = True := fun x => eq_true (cw_size 6 x)
  obtain ⟨c, hc⟩ : ∃ c : Int, ((k + 1 : Nat) : Int) = c := ⟨_, rfl⟩
  obtain ⟨p, hp⟩ : ∃ p, 2 ^ k = p := ⟨_, rfl⟩
  have d0 : (c == 0) = false := by simp only [beq_eq_false_iff_ne]; omega
  have d1 : decide ((384 : Int) < c) = false := by rw [decide_eq_false_iff_not]; omega
  have n1 : IntKind.i64.wrap (c - 1) = (k : Int) := by rw [wrap_i64_is _ (by omega) (by omega)]; omega
  have pQ : p < Q := by rw [← hp]; exact pow_ltQ k hk
  have q1 : 1 < Q := by have := Q_big; omega
  have HP : Box (1 * 2 ^ cnt6 (k : Int) % Q = p) := box (by rw [show cnt6 (k : Int) = k by unfold cnt6; omega, Nat.one_mul, hp, Nat.mod_eq_of_lt pQ])
  rw [hp] at hh
  have HH := box hh
  rw [hc]
  clear hh hp hc
  go_enter Tryz.func308, Tryz.ntmps308
  go_wp2_with fail
  refine (wof_al 1 (by decide) _).mono ?_
  rintro e w1 ⟨rfl, hb1⟩
  have r1 : w1.heap[w.heap.size]? = some (.cells (cw 6 r) 71) := heap_of hb1 _ _ _ (heap_alloc_last w _)
  have b1 : Below w.heap.size w w1 := ((Below.refl _ _).alloc (Nat.le_refl _) _).trans (hb1.mono (by simp))
  clear hb1
  go_wp2_with fail
  refine (wleft_is 1 p (k : Int) _ q1 HP.out rfl _).mono ?_
  rintro e w2 ⟨rfl, hb2⟩
  have r2 : w2.heap[w.heap.size]? = some (.cells (cw 6 r) 71) := heap_of hb2 _ _ _ r1
  have b2 : Below w.heap.size w w2 := b1.trans (hb2.mono b1.size)
  clear hb2 b1 r1
  have z2 : w.heap.size < w2.heap.size := (Array.getElem?_eq_some_iff.1 r2).1
  have c2 := row_cell (show (w2.alloc (.cells (cw 6 p) 71)).heap[w.heap.size]? = some (.cells (cw 6 r) 71) by rw [heap_below _ _ _ z2]; exact r2)
  go_wp2_with fail
  refine (wcmp_is r p h hr pQ HH.out _).mono ?_
  rintro e w3 ⟨rfl, hb3⟩
  have b3 : Below w.heap.size w w3 := (b2.alloc b2.size _).trans (hb3.mono (by have := b2.size; simp; omega))
  clear hb3
  go_wp2
  go_ret
  exact ⟨rfl, b3⟩

/-- What is left by c against the half of 2^c, as package jam tells it. -/
theorem jhalf_is (a c r : Nat) (h : Int) (hr : r < Q) (hc : c ≤ 385) (e : a % 2 ^ cnt6 (c : Int) = r) (hh : halfv a c = h) (w : World) :
    Calls Tryz.prog 308 #[.agg (cw 6 r), .int .i64 (c : Nat)] w fun e w' => e = .returned (.int .i64 h) ∧ Below w.heap.size w w' := by
  by_cases ho : c = 0 ∨ 384 < c
  · have : h = -1 := by rw [← hh]; unfold halfv; rw [if_pos ho]
    subst this
    exact jhalf_out r c ho w
  · obtain ⟨k, rfl⟩ : ∃ k, c = k + 1 := ⟨c - 1, by omega⟩
    refine jhalf_in r k h hr (by omega) ?_ w
    rw [← hh, ← e]
    unfold halfv
    rw [if_neg ho, Nat.add_sub_cancel, show cnt6 ((k + 1 : Nat) : Int) = k + 1 by unfold cnt6; omega]

theorem jalign_is (n v : Nat) (s : Int) (o : Bool) (hn : n < Q) (hv : n / 2 ^ cnt6 s = v) (ho : decide (n % 2 ^ cnt6 s ≠ 0) = o) (w : World) :
    Calls Tryz.prog 294 #[.agg (cw 6 n), .int .i64 s] w fun e w' => e = .returned (.tuple #[.agg (cw 6 v), .bool o]) ∧ Below w.heap.size w w' := by
  have hat := cw_at 6
  have hz := cw6z
  have hf := cw6f
  have hs0 := st0
  have hcs : ∀ x, ((cw 6 x).size = 6) = True := fun x => eq_true (cw_size 6 x)
  obtain ⟨c, hc⟩ : ∃ c, cnt5 s = c := ⟨_, rfl⟩
  have h65 : cnt6 (c : Int) = cnt6 s := by rw [← hc]; exact cnt65 s
  obtain ⟨r, hr⟩ : ∃ r, n % 2 ^ cnt6 (c : Int) = r := ⟨_, rfl⟩
  have rQ : r < Q := by rw [← hr]; exact Nat.lt_of_le_of_lt (Nat.mod_le _ _) hn
  rw [← h65] at hv ho
  rw [hr] at ho
  have HV := box hv
  have HR := box hr
  have HC := box hc
  have HO : Box (decide (r = 0) = !o) := box (by rw [← ho]; by_cases e : r = 0 <;> simp [e])
  have hoo : (!!o) = o := by cases o <;> rfl
  have R := jrows2 w n
  obtain ⟨W0, hW0⟩ : ∃ W0, (w.alloc (.cells (cw 6 n) 71)).alloc (.cells (cw 6 0) 71) = W0 := ⟨_, rfl⟩
  rw [hW0] at R
  have c0 := row_cell (rows0 R)
  clear hv ho hc hr h65
  go_enter Tryz.func294, Tryz.ntmps294
  go_wp2_with fail
  refine (jcount_any s _).mono ?_
  rw [HC.out]
  rintro e w' ⟨rfl, rfl⟩
  go_wp2
  clear hW0
  go_region_with (first
    | (go_at_call 307; refine (jwhole_is n v (c : Int) hn HV.out _).mono ?_; rintro e w1 ⟨rfl, hb1⟩; have R1 := rowsL_below (rowsL_drew R _) hb1; have c1 := row_cell (rows0 R1))
    | (go_at_call 306; refine (jleft_is n r (c : Int) hn HR.out _).mono ?_; rintro e w2 ⟨rfl, hb2⟩; have R2 := rowsL_below R1 hb2)
    | (go_at_call 309; refine (jzero_is r (!o) rQ HO.out _).mono ?_; rintro e w3 ⟨rfl, hb3⟩; have R3 := rowsL_below R2 hb3; have hst := st_any w3 (w.heap.size + 1) v 0 (rows1 R3)))
  all_goals
    have R4 : RowsL w (w3.setRow (w.heap.size + 1) (cw 6 v)) [n, v] := rowsL_set R3 1 v _ (by simp) rfl rfl
    have d := row_cell (rows1 R4)
    go_wp2
    exact bodyPost_ret (v := .tuple #[.agg (cw 6 v), .bool o]) (by simp [results, Tryz.results294, go_sem, d, hf]) rfl ⟨rfl, R4.2⟩

theorem jright_is (n v : Nat) (s : Int) (hn : n < Q) (hv : jr n (cnt6 s) = v) (w : World) :
    Calls Tryz.prog 246 #[.agg (cw 6 n), .int .i64 s] w fun e w' => e = .returned (.agg (cw 6 v)) ∧ Below w.heap.size w w' := by
  have hat := cw_at 6
  have hz := cw6z
  have hf := cw6f
  have hs0 := st0
  have hcs : ∀ x, ((cw 6 x).size = 6) = True := fun x => eq_true (cw_size 6 x)
  obtain ⟨x, hx⟩ : ∃ x, n / 2 ^ cnt6 s = x := ⟨_, rfl⟩
  obtain ⟨o, ho⟩ : ∃ o, decide (n % 2 ^ cnt6 s ≠ 0) = o := ⟨_, rfl⟩
  have hvo : v = if o then x ||| 1 else x := by
    rw [← hv, ← ho, ← hx]; unfold jr
    by_cases e : n % 2 ^ cnt6 s = 0 <;> simp [e]
  have HX := box hx
  have HO := box ho
  clear hv hx ho
  have x3 : bits .or .u64 (wd x 0 : Nat) 1 = ((wd x 0 ||| 1 : Nat) : Int) := bor x 0 1 (by decide)
  cases o
  · rw [if_neg (by decide)] at hvo
    subst hvo
    go_enter Tryz.func246, Tryz.ntmps246
    go_wp2_with fail
    refine (jalign_is n v s _ hn HX.out HO.out _).mono ?_
    rintro e w1 ⟨rfl, hb1⟩
    obtain ⟨r0, r1, b1, s1⟩ := rows_two hb1
    clear hb1
    have q1 : (w1.alloc (.cells (cw 6 v) 71)).heap[w.heap.size + 1]? = some (.cells (cw 6 0) 71) := by rw [heap_below _ _ _ s1]; exact r1
    have hst := st_any (w1.alloc (.cells (cw 6 v) 71)) (w.heap.size + 1) v 0 q1
    have q2 := row_cell (setRow_row (c' := cw 6 v) q1)
    have bz : Below w.heap.size w ((w1.alloc (.cells (cw 6 v) 71)).setRow (w.heap.size + 1) (cw 6 v)) := Below.setRow (b1.alloc b1.size _) (by omega)
    go_wp2
    exact bodyPost_ret (v := .agg (cw 6 v)) (by simp [results, Tryz.results246, go_sem, q2, hf]) rfl ⟨rfl, bz⟩
  · rw [if_pos rfl] at hvo
    have x4 : (cw 6 x).setIfInBounds 0 (.int .u64 ((wd x 0 ||| 1 : Nat) : Int)) = cw 6 v := cw_or 6 x 0 1 v (by omega) (by decide) (by rw [hvo])
    clear hvo
    go_enter Tryz.func246, Tryz.ntmps246
    go_wp2_with fail
    refine (jalign_is n x s _ hn HX.out HO.out _).mono ?_
    rintro e w1 ⟨rfl, hb1⟩
    obtain ⟨r0, r1, b1, s1⟩ := rows_two hb1
    clear hb1
    have q1 : (w1.alloc (.cells (cw 6 v) 71)).heap[w.heap.size + 1]? = some (.cells (cw 6 0) 71) := by rw [heap_below _ _ _ s1]; exact r1
    have hst := st_any (w1.alloc (.cells (cw 6 v) 71)) (w.heap.size + 1) v 0 q1
    have q2 := row_cell (setRow_row (c' := cw 6 v) q1)
    have bz : Below w.heap.size w ((w1.alloc (.cells (cw 6 v) 71)).setRow (w.heap.size + 1) (cw 6 v)) := Below.setRow (b1.alloc b1.size _) (by omega)
    go_wp2
    exact bodyPost_ret (v := .agg (cw 6 v)) (by simp [results, Tryz.results246, go_sem, q2, hf]) rfl ⟨rfl, bz⟩
end Go.Proofs.YtoaaajeblhaeoaaGreatDoor
namespace Go.Proofs.YtoaaajeblhaeoaaGreatDoor
set_option maxRecDepth 100000
set_option maxHeartbeats 40000000
set_option maxRecDepth 100000
open Go.RowKit WMath

theorem jcut_is (n v : Nat) (s h : Int) (o : Bool) (hn : n < Q) (hv : n / 2 ^ cnt6 s = v) (hh : halfv n (cnt5 s) = h) (ho : decide (n % 2 ^ cnt6 s = 0) = o) (w : World) :
    Calls Tryz.prog 262 #[.agg (cw 6 n), .int .i64 s] w fun e w' => e = .returned (.tuple #[.agg (cw 6 v), .int .i64 h, .bool o]) ∧ Below w.heap.size w w' := by
  have hat := cw_at 6
  have hz := cw6z
  have hf := cw6f
  have hs0 := st0
  have hcs : ∀ x, ((cw 6 x).size = 6) = True := fun x => eq_true (cw_size 6 x)
  obtain ⟨c, hc⟩ : ∃ c, cnt5 s = c := ⟨_, rfl⟩
  have c385 : c ≤ 385 := by rw [← hc]; unfold cnt5; omega
  have h65 : cnt6 (c : Int) = cnt6 s := by rw [← hc]; exact cnt65 s
  obtain ⟨r, hr⟩ : ∃ r, n % 2 ^ cnt6 (c : Int) = r := ⟨_, rfl⟩
  have rQ : r < Q := by rw [← hr]; exact Nat.lt_of_le_of_lt (Nat.mod_le _ _) hn
  rw [← h65] at hv ho
  rw [hr] at ho
  rw [hc] at hh
  have HV := box hv
  have HR := box hr
  have HC := box hc
  have HO := box ho
  have HH := box hh
  have C385 := box c385
  clear hv ho hc hr h65 hh c385
  go_enter Tryz.func262, Tryz.ntmps262
  go_wp2_with fail
  refine (jcount_any s _).mono ?_
  rw [HC.out]
  rintro e w' ⟨rfl, rfl⟩
  go_wp2_with fail
  refine (jleft_is n r (c : Int) hn HR.out _).mono ?_
  rintro e w1 ⟨rfl, hb1⟩
  have R1 : RowsL w w1 [n, 0] := rowsL_below (jrows2 w n) hb1
  clear hb1
  have z1 := rowsL_size R1 1 _ rfl
  have R := rowsL_alloc R1 (.cells (cw 6 r) 71)
  have S : (w1.alloc (.cells (cw 6 r) 71)).heap[w1.heap.size]? = some (.cells (cw 6 r) 71) := heap_alloc_last w1 _
  obtain ⟨W0, hW0⟩ : ∃ W0, w1.alloc (.cells (cw 6 r) 71) = W0 := ⟨_, rfl⟩
  rw [hW0] at R S
  have c0 := row_cell (rows0 R)
  have s0 := row_cell S
  clear R1
  go_wp2
  clear hW0
  go_region_with (first
    | (go_at_call 307; refine (jwhole_is n v (c : Int) hn HV.out _).mono ?_; rintro e w2 ⟨rfl, hb2⟩; have R2 := rowsL_below (rowsL_drew R _) hb2; have S2 := heap_of hb2 _ _ _ S; have s2 := row_cell S2)
    | (go_at_call 308; refine (jhalf_is n c r h rQ C385.out HR.out HH.out _).mono ?_; rintro e w3 ⟨rfl, hb3⟩; have R3 := rowsL_below R2 hb3; have s3 := row_cell (heap_of hb3 _ _ _ S2))
    | (go_at_call 309; refine (jzero_is r o rQ HO.out _).mono ?_; rintro e w4 ⟨rfl, hb4⟩; have R4 := rowsL_below R3 hb4; have hst := st_any w4 (w.heap.size + 1) v 0 (rows1 R4)))
  all_goals
    have R5 : RowsL w (w4.setRow (w.heap.size + 1) (cw 6 v)) [n, v] := rowsL_set R4 1 v _ (by simp) rfl rfl
    have d := row_cell (rows1 R5)
    go_wp2
    exact bodyPost_ret (v := .tuple #[.agg (cw 6 v), .int .i64 h, .bool o]) (by simp [results, Tryz.results262, go_sem, d, hf]) rfl ⟨rfl, R5.2⟩

end Go.Proofs.YtoaaajeblhaeoaaGreatDoor
namespace Go.Proofs.YtoaaajeblhaeoaaGreatDoor
set_option maxRecDepth 100000
set_option maxHeartbeats 40000000
set_option maxRecDepth 100000
open Go.RowKit WMath

/-- A result, or that it is too long. -/
def lg (x : Nat) : ByteArray × Int := if nl x ≤ 16384 then (nbA x, 0) else (⟨#[]⟩, 4)
/-- A difference, or that there is none. -/
def sb (a b : Nat) : ByteArray × Int := if a < b then (⟨#[]⟩, 2) else (nbA (a - b), 0)

end Go.Proofs.YtoaaajeblhaeoaaGreatDoor
namespace Go.Proofs.YtoaaajeblhaeoaaGreatDoor
set_option maxRecDepth 100000
set_option maxHeartbeats 40000000
set_option maxRecDepth 100000
open Go.RowKit WMath

/-- What is moved to the left, or that it is too long, or that the count is below 0. -/
def lf (a : Nat) (n : Int) : ByteArray × Int := if n < 0 then (⟨#[]⟩, 2) else lg (a * 2 ^ n.toNat)

end Go.Proofs.YtoaaajeblhaeoaaGreatDoor
namespace Go.Proofs.YtoaaajeblhaeoaaGreatDoor
set_option maxRecDepth 100000
set_option maxHeartbeats 40000000
set_option maxRecDepth 100000
open Go.RowKit WMath

/-- A slice of words that holds a number: L words from the place p on, in a block below B. -/
def SL (B : Nat) (w : World) (p : Option Addr) (L c n : Nat) : Prop := n < 2 ^ (64 * L) ∧ L ≤ c ∧ (0 < L → ∃ b o, p = some ⟨b, o, none⟩ ∧ b < B ∧ ∀ k, k < L → w.cell? ⟨b, o + k, none⟩ = some (.int .u64 (wd n k : Nat)))
theorem SL.mono {B B' : Nat} {w : World} {p : Option Addr} {L c n : Nat} (h : SL B w p L c n) (hB : B ≤ B') : SL B' w p L c n :=
  ⟨h.1, h.2.1, fun hL => by
    obtain ⟨b, o, hp, hlt, hc⟩ := h.2.2 hL
    exact ⟨b, o, hp, Nat.lt_of_lt_of_le hlt hB, hc⟩⟩
theorem cell_size {w : World} {b o : Nat} {v : Value} (h : w.cell? ⟨b, o, none⟩ = some v) : b < w.heap.size := by
  by_cases e : b < w.heap.size
  · exact e
  · exfalso
    have : w.heap[b]? = none := Array.getElem?_eq_none (by omega)
    simp [World.cell?, this] at h
/-- Nothing but the block g is another. -/
def Only (g : Nat) (w w' : World) : Prop := w'.os = w.os ∧ w'.tape = w.tape ∧ w'.output = w.output ∧ w.heap.size ≤ w'.heap.size ∧ ∀ k, k < w.heap.size → k ≠ g → w'.heap[k]? = w.heap[k]?
theorem Only.refl (g : Nat) (w : World) : Only g w w := ⟨rfl, rfl, rfl, Nat.le_refl _, fun _ _ _ => rfl⟩
theorem Only.trans {g : Nat} {a b c : World} (h : Only g a b) (k : Only g b c) : Only g a c :=
  ⟨k.1.trans h.1, k.2.1.trans h.2.1, k.2.2.1.trans h.2.2.1, Nat.le_trans h.2.2.2.1 k.2.2.2.1, fun i hi hg => (k.2.2.2.2 i (Nat.lt_of_lt_of_le hi h.2.2.2.1) hg).trans (h.2.2.2.2 i hi hg)⟩
theorem Only.size {g : Nat} {a b : World} (h : Only g a b) : a.heap.size ≤ b.heap.size := h.2.2.2.1
theorem Only.setCell {g o : Nat} {a w : World} (h : Only g a w) (u : Value) : Only g a (w.setCell ⟨g, o, none⟩ u) :=
  h.trans ⟨rfl, rfl, rfl, by simp [World.setCell], fun k _ hg => Below.heap_setCell _ _ _ _ hg⟩
theorem Only.drew {g : Nat} {a w : World} (h : Only g a w) : Only g a w.drew := h.trans ⟨rfl, rfl, rfl, Nat.le_refl _, fun _ _ _ => rfl⟩
theorem Only.row {g b : Nat} {w w' : World} {c : Array Value} {t : TypeId} (k : Only g w w') (hb : b ≠ g) (h : w.heap[b]? = some (.cells c t)) : w'.heap[b]? = some (.cells c t) := by
  rw [k.2.2.2.2 b (Array.getElem?_eq_some_iff.1 h).1 hb, h]
theorem SL.only {B g : Nat} {w w' : World} {p : Option Addr} {L c n : Nat} (h : SL B w p L c n) (k : Only g w w') (hB : B ≤ g) : SL B w' p L c n := by
  refine ⟨h.1, h.2.1, fun hL => ?_⟩
  obtain ⟨b, o, hp, hlt, hc⟩ := h.2.2 hL
  refine ⟨b, o, hp, hlt, fun i hi => ?_⟩
  have h1 := hc i hi
  rw [World.cell?_of_block (w := w) (k.2.2.2.2 b (cell_size h1) (by omega))]
  exact h1

end Go.Proofs.YtoaaajeblhaeoaaGreatDoor
namespace Go.Proofs.YtoaaajeblhaeoaaGreatDoor
set_option maxRecDepth 100000
set_option maxHeartbeats 40000000
set_option maxRecDepth 100000
open Go.RowKit WMath

theorem SL.cell {B : Nat} {w : World} {b o L c n : Nat} (h : SL B w (some ⟨b, o, none⟩) L c n) (k x : Nat) (hk : k < L) (hx : wd n k = x) : w.cell? ⟨b, o + k, none⟩ = some (.int .u64 x) := by
  obtain ⟨b', o', e, _, hc⟩ := h.2.2 (by omega)
  simp only [Option.some.injEq, Addr.mk.injEq] at e
  obtain ⟨rfl, rfl, _⟩ := e
  rw [hc k hk, hx]
theorem SL.row {w : World} {b N X c : Nat} {T : TypeId} (r : w.heap[b]? = some (.cells (cw N X) T)) (B : Nat) (hB : b < B) (hX : X < 2 ^ (64 * N)) (hc : N ≤ c) : SL B w (some ⟨b, 0, none⟩) N c X :=
  ⟨hX, hc, fun _ => ⟨b, 0, rfl, hB, fun k hk => by rw [Nat.zero_add, cell_of_row w b k _ _ _ r, cw_at N X k hk]⟩⟩

end Go.Proofs.YtoaaajeblhaeoaaGreatDoor
namespace Go.Proofs.YtoaaajeblhaeoaaGreatDoor
set_option maxRecDepth 100000
set_option maxHeartbeats 40000000
set_option maxRecDepth 100000
open Go.RowKit WMath

theorem bal (w : World) (o : Obj) : Below w.heap.size w (w.alloc o) := (Below.refl _ _).alloc (Nat.le_refl _) _
theorem btr {a b c : World} (h : Below a.heap.size a b) (k : Below b.heap.size b c) : Below a.heap.size a c := h.trans (k.mono h.size)

end Go.Proofs.YtoaaajeblhaeoaaGreatDoor
namespace Go.Proofs.YtoaaajeblhaeoaaGreatDoor
set_option maxRecDepth 100000
set_option maxHeartbeats 40000000
set_option maxRecDepth 100000
open Go.RowKit WMath

theorem blen_shl (b n : Nat) (hb : b ≠ 0) : blen (b * 2 ^ n) = blen b + n := by
  have h1 := blen_le b hb
  have h2 := blen_lt b
  have h3 := blen_pos b hb
  have e : blen b + n = blen b - 1 + n + 1 := by omega
  rw [e]
  apply blen_of
  · rw [Nat.pow_add]; exact Nat.mul_le_mul_right _ h1
  · rw [show blen b - 1 + n + 1 = blen b + n by omega, Nat.pow_add]
    exact Nat.mul_lt_mul_of_pos_right h2 (Nat.two_pow_pos _)
end Go.Proofs.YtoaaajeblhaeoaaGreatDoor
namespace Go.Proofs.YtoaaajeblhaeoaaGreatDoor.WMath
set_option maxRecDepth 100000
set_option maxHeartbeats 40000000
set_option maxRecDepth 100000

/-- The guess at a digit, out of the highest words. -/
def gs (hi lo top : Nat) : Nat := if hi < top then (hi * 18446744073709551616 + lo) / top else 18446744073709551615
end Go.Proofs.YtoaaajeblhaeoaaGreatDoor.WMath
namespace Go.Proofs.YtoaaajeblhaeoaaGreatDoor.WMath
set_option maxRecDepth 100000
set_option maxHeartbeats 40000000
set_option maxRecDepth 100000

/-- What the lower bits move is at most the greater count, times less than their power. -/
theorem near_num (K a b x y a0 b0 A B r N s : Int) (hs : s = 1 ∨ s = -1) (ha : a = K * x + a0) (hb : b = K * y + b0) (a1 : 0 ≤ a0) (a2 : a0 ≤ K - 1) (b1 : 0 ≤ b0) (b2 : b0 ≤ K - 1) (hA : 0 ≤ A) (hAB : A ≤ B)
    (hr : r = s * (x * A - y * B)) (hN : N = s * (a * A - b * B)) : K * r ≤ N + (K - 1) * B ∧ N ≤ K * r + (K - 1) * B := by
  have p1 : 0 ≤ a0 * A := Int.mul_nonneg a1 hA
  have p2 : a0 * A ≤ (K - 1) * B := Int.mul_le_mul a2 hAB hA (by omega)
  have p3 : 0 ≤ b0 * B := Int.mul_nonneg b1 (by omega)
  have p4 : b0 * B ≤ (K - 1) * B := Int.mul_le_mul_of_nonneg_right b2 (by omega)
  have e1 : a * A = K * (x * A) + a0 * A := by rw [ha, Int.add_mul, Int.mul_assoc]
  have e2 : b * B = K * (y * B) + b0 * B := by rw [hb, Int.add_mul, Int.mul_assoc]
  have e3 : K * (x * A - y * B) = K * (x * A) - K * (y * B) := Int.mul_sub _ _ _
  generalize (K - 1) * B = Z at *
  generalize a0 * A = u at *
  generalize b0 * B = v at *
  rcases hs with rfl | rfl
  · rw [Int.one_mul] at hr hN
    rw [hr, hN, e1, e2, e3]
    omega
  · rw [Int.neg_mul, Int.one_mul] at hr hN
    rw [hr, hN, e1, e2, Int.mul_neg, e3]
    omega

end Go.Proofs.YtoaaajeblhaeoaaGreatDoor.WMath
namespace Go.Proofs.YtoaaajeblhaeoaaGreatDoor
set_option maxRecDepth 100000
set_option maxHeartbeats 40000000
set_option maxRecDepth 100000
open Go.RowKit WMath

/-- A turn as a struct of three words. -/
def tn (r A B : Nat) : Value := .agg #[.int .u64 r, .int .u64 A, .int .u64 B]

end Go.Proofs.YtoaaajeblhaeoaaGreatDoor
namespace Go.Proofs.YtoaaajeblhaeoaaGreatDoor.XMath
set_option maxRecDepth 100000
set_option maxHeartbeats 40000000
set_option maxRecDepth 100000
open WMath

/-- How many twos a number has. -/
def tz (n : Nat) : Nat := if h : n = 0 ∨ n % 2 = 1 then 0 else tz (n / 2) + 1
termination_by n
decreasing_by omega
theorem tz_odd (n : Nat) (h : n % 2 = 1) : tz n = 0 := by rw [tz, dif_pos (Or.inr h)]
theorem tz_even (n : Nat) (h0 : n ≠ 0) (h : n % 2 = 0) : tz n = tz (n / 2) + 1 := by rw [tz, dif_neg (by omega)]
theorem tz_is (n : Nat) (h : n ≠ 0) : ∃ m, n = m * 2 ^ tz n ∧ m % 2 = 1 := by
  induction n using Nat.strongRecOn with
  | _ n ih =>
    by_cases h1 : n % 2 = 1
    · exact ⟨n, by rw [tz_odd n h1, Nat.pow_zero, Nat.mul_one], h1⟩
    · obtain ⟨m, hm, ho⟩ := ih (n / 2) (by omega) (by omega)
      refine ⟨m, ?_, ho⟩
      rw [tz_even n h (by omega), Nat.pow_succ, ← Nat.mul_assoc, ← hm]
      omega
/-- A number without its twos. -/
def od (n : Nat) : Nat := n / 2 ^ tz n
theorem od_is (n : Nat) (h : n ≠ 0) : n = od n * 2 ^ tz n ∧ od n % 2 = 1 := by
  obtain ⟨m, hm, ho⟩ := tz_is n h
  have e : od n = m := by
    unfold od
    generalize tz n = k at hm ⊢
    rw [hm]
    exact Nat.mul_div_cancel _ (Nat.two_pow_pos _)
  rw [e]
  exact ⟨hm, ho⟩
theorem od_odd (n : Nat) (h : n % 2 = 1) : od n = n := by unfold od; rw [tz_odd n h, Nat.pow_zero, Nat.div_one]
theorem od_le (n : Nat) : od n ≤ n := Nat.div_le_self _ _
theorem tz_blen (n : Nat) : tz n ≤ blen n := by
  by_cases h : n = 0
  · rw [h, tz, dif_pos (Or.inl rfl)]; omega
  · obtain ⟨h1, h2⟩ := od_is n h
    have h3 : 2 ^ tz n ≤ n := by
      generalize tz n = k at h1 ⊢
      rw [h1]
      exact Nat.le_mul_of_pos_left _ (by omega)
    have h4 := blen_lt n
    exact Nat.le_of_lt ((Nat.pow_lt_pow_iff_right (by decide : 1 < 2)).1 (Nat.lt_of_le_of_lt h3 h4))

/-- A rational number: its sign, numerator, denominator, exponent. -/
structure XN where
  b : Bool
  n : Nat
  d : Nat
  e : Int
/-- May it be? -/
def XN.can (x : XN) : Prop := nl x.n ≤ 16384 ∧ nl x.d ≤ 16384 ∧ -1048576 ≤ x.e ∧ x.e ≤ 1048576 ∧ ((x.b = false ∧ x.n = 0 ∧ x.d = 1 ∧ x.e = 0) ∨ (x.n % 2 = 1 ∧ x.d % 2 = 1 ∧ Nat.gcd x.n x.d = 1))
def sgn (b : Bool) : Rat := if b then -1 else 1
def XN.val (x : XN) : Rat := sgn x.b * ((x.n : Rat) / (x.d : Rat)) * (2 : Rat) ^ x.e
def X0 : XN := ⟨false, 0, 1, 0⟩
def XZ : XN := ⟨false, 0, 0, 0⟩
theorem XN.can.d {x : XN} (h : x.can) : x.d % 2 = 1 := by rcases h.2.2.2.2 with h | h <;> omega
theorem XN.can.d0 {x : XN} (h : x.can) : x.d ≠ 0 := by have := h.d; omega
theorem XN.can.null {x : XN} (h : x.can) (h0 : x.n = 0) : x = X0 := by
  rcases h.2.2.2.2 with h | h
  · cases x; simp_all [X0]
  · omega
theorem XN.can.odd {x : XN} (h : x.can) (h0 : x.n ≠ 0) : x.n % 2 = 1 ∧ x.d % 2 = 1 ∧ Nat.gcd x.n x.d = 1 := by
  rcases h.2.2.2.2 with h | h
  · exact absurd h.2.1 h0
  · exact h
theorem x0_can : X0.can := ⟨Nat.le_trans (nl_mono 0 1 (by decide)) (Nat.le_trans (nl_le_of 1 1 (by decide)) (by decide)), Nat.le_trans (nl_le_of 1 1 (by decide)) (by decide), by decide, by decide, Or.inl ⟨rfl, rfl, rfl, rfl⟩⟩

def mk (neg : Bool) (n d : Nat) (e : Int) : XN × Int :=
  if n = 0 then (X0, 0)
  else if -1048576 ≤ e + (tz n : Int) - (tz d : Int) ∧ e + (tz n : Int) - (tz d : Int) ≤ 1048576 then (⟨neg, od n / Nat.gcd (od n) (od d), od d / Nat.gcd (od n) (od d), e + (tz n : Int) - (tz d : Int)⟩, 0)
  else (XZ, 4)
theorem mk_null (neg : Bool) (d : Nat) (e : Int) : mk neg 0 d e = (X0, 0) := by unfold mk; rw [if_pos rfl]
theorem div_odd (a g : Nat) (h : g ∣ a) (ha : a % 2 = 1) : a / g % 2 = 1 := by
  obtain ⟨k, rfl⟩ := h
  have g0 : 0 < g := by
    rcases Nat.eq_zero_or_pos g with h | h
    · rw [h, Nat.zero_mul] at ha; omega
    · exact h
  rw [Nat.mul_div_cancel_left _ g0]
  rcases Nat.mod_two_eq_zero_or_one k with h | h
  · rw [Nat.mul_mod, h, Nat.mul_zero] at ha; omega
  · exact h
theorem mul_odd (a b : Nat) (ha : a % 2 = 1) (hb : b % 2 = 1) : a * b % 2 = 1 := by rw [Nat.mul_mod, ha, hb]
theorem mk_can (neg : Bool) (n d : Nat) (e : Int) (hn : nl n ≤ 16384) (hd : nl d ≤ 16384) (d0 : d ≠ 0) (h : (mk neg n d e).2 = 0) : (mk neg n d e).1.can := by
  unfold mk at h ⊢
  split
  · exact x0_can
  · rename_i n0
    rw [if_neg n0] at h
    split
    · rename_i hb
      obtain ⟨h1, h2⟩ := od_is n n0
      obtain ⟨h3, h4⟩ := od_is d d0
      have g1 := Nat.gcd_dvd_left (od n) (od d)
      have g2 := Nat.gcd_dvd_right (od n) (od d)
      refine ⟨Nat.le_trans (nl_mono _ _ (Nat.le_trans (Nat.div_le_self _ _) (od_le n))) hn, Nat.le_trans (nl_mono _ _ (Nat.le_trans (Nat.div_le_self _ _) (od_le d))) hd, hb.1, hb.2, Or.inr ⟨div_odd _ _ g1 h2, div_odd _ _ g2 h4, ?_⟩⟩
      show Nat.gcd (od n / Nat.gcd (od n) (od d)) (od d / Nat.gcd (od n) (od d)) = 1
      rw [Nat.gcd_div g1 g2]
      exact Nat.div_self (Nat.gcd_pos_of_pos_left _ (by omega))
    · rename_i hb
      rw [if_neg hb] at h
      exact absurd h (by decide)
theorem p2 (e : Int) : (0 : Rat) < (2 : Rat) ^ e := Rat.zpow_pos (by decide)
theorem p2ne (e : Int) : (2 : Rat) ^ e ≠ 0 := Rat.ne_of_gt (p2 e)
theorem p2add (e f : Int) : (2 : Rat) ^ (e + f) = (2 : Rat) ^ e * (2 : Rat) ^ f := Rat.zpow_add (by decide) e f
theorem p2nat (n : Nat) : (2 : Rat) ^ (n : Int) = ((2 ^ n : Nat) : Rat) := by rw [Rat.zpow_natCast, Rat.natCast_pow]; rfl
theorem p2sub (e f : Int) : (2 : Rat) ^ (e - f) * (2 : Rat) ^ f = (2 : Rat) ^ e := by rw [← p2add, Int.sub_add_cancel]
theorem mk_val (neg : Bool) (n d : Nat) (e : Int) (d0 : d ≠ 0) (h : (mk neg n d e).2 = 0) : (mk neg n d e).1.val = sgn neg * ((n : Rat) / (d : Rat)) * (2 : Rat) ^ e := by
  unfold mk at h ⊢
  split
  · rename_i n0
    rw [n0]
    show sgn false * (((0 : Nat) : Rat) / ((1 : Nat) : Rat)) * (2 : Rat) ^ (0 : Int) = sgn neg * (((0 : Nat) : Rat) / (d : Rat)) * (2 : Rat) ^ e
    have : ((0 : Nat) : Rat) = 0 := rfl
    rw [this]
    simp [Rat.div_def]
  · rename_i n0
    rw [if_neg n0] at h
    split
    · rename_i hb
      obtain ⟨h1, h2⟩ := od_is n n0
      obtain ⟨h3, h4⟩ := od_is d d0
      obtain ⟨n', e1⟩ := Nat.gcd_dvd_left (od n) (od d)
      obtain ⟨d', e2⟩ := Nat.gcd_dvd_right (od n) (od d)
      have g0 : 0 < Nat.gcd (od n) (od d) := Nat.gcd_pos_of_pos_left _ (by omega)
      show sgn neg * (((od n / Nat.gcd (od n) (od d) : Nat) : Rat) / ((od d / Nat.gcd (od n) (od d) : Nat) : Rat)) * (2 : Rat) ^ (e + (tz n : Int) - (tz d : Int)) = _
      generalize Nat.gcd (od n) (od d) = g at *
      have c1 : od n / g = n' := by rw [e1]; exact Nat.mul_div_cancel_left _ g0
      have c2 : od d / g = d' := by rw [e2]; exact Nat.mul_div_cancel_left _ g0
      rw [c1, c2]
      have d'0 : d' ≠ 0 := by
        intro hz
        rw [hz, Nat.mul_zero] at e2
        omega
      rw [e1] at h1
      rw [e2] at h3
      have k1 : (n : Rat) = (g : Rat) * (n' : Rat) * (2 : Rat) ^ (tz n : Int) := by
        rw [p2nat, ← Rat.natCast_mul, ← Rat.natCast_mul, ← h1]
      have k2 : (d : Rat) = (g : Rat) * (d' : Rat) * (2 : Rat) ^ (tz d : Int) := by
        rw [p2nat, ← Rat.natCast_mul, ← Rat.natCast_mul, ← h3]
      have k3 := p2sub (e + (tz n : Int)) (tz d : Int)
      rw [p2add e] at k3
      have z1 := p2ne (tz d : Int)
      have z2 : (g : Rat) ≠ 0 := fun h => by rw [Rat.natCast_eq_zero_iff] at h; omega
      have z3 : (d' : Rat) ≠ 0 := fun h => d'0 (Rat.natCast_eq_zero_iff.1 h)
      rw [k1, k2]
      generalize (2 : Rat) ^ (e + (tz n : Int) - (tz d : Int)) = E at *
      generalize (2 : Rat) ^ (tz d : Int) = D at *
      generalize (2 : Rat) ^ (tz n : Int) = N at *
      generalize (2 : Rat) ^ e = F at *
      grind
    · rename_i hb
      rw [if_neg hb] at h
      exact absurd h (by decide)

theorem cast_ne {n : Nat} (h : n ≠ 0) : (n : Rat) ≠ 0 := fun e => h (Rat.natCast_eq_zero_iff.1 e)
theorem cast_pos {n : Nat} (h : n ≠ 0) : (0 : Rat) < (n : Rat) := Rat.natCast_pos.2 (by omega)
theorem sgn_ne (b : Bool) : sgn b ≠ 0 := by cases b <;> decide
/-- The magnitude. -/
def XN.mag (x : XN) : Rat := ((x.n : Rat) / (x.d : Rat)) * (2 : Rat) ^ x.e
theorem val_mag (x : XN) : x.val = sgn x.b * x.mag := by unfold XN.val XN.mag; rw [Rat.mul_assoc]
theorem mag_pos (x : XN) (hn : x.n ≠ 0) (hd : x.d ≠ 0) : 0 < x.mag := by
  unfold XN.mag
  rw [Rat.div_def]
  exact Rat.mul_pos (Rat.mul_pos (cast_pos hn) (Rat.inv_pos.2 (cast_pos hd))) (p2 _)
theorem mag_zero (x : XN) (hn : x.n = 0) : x.mag = 0 := by
  unfold XN.mag
  rw [hn]
  have : ((0 : Nat) : Rat) = 0 := rfl
  rw [this, Rat.div_def, Rat.zero_mul, Rat.zero_mul]
/-- Two magnitudes, at the lesser exponent. -/
theorem mag_shift (x y : XN) (dx : x.d ≠ 0) (m : Int) (hm : m ≤ x.e) :
    x.mag * ((x.d * y.d : Nat) : Rat) = ((x.n * y.d * 2 ^ (x.e - m).toNat : Nat) : Rat) * (2 : Rat) ^ m := by
  have e1 : (2 : Rat) ^ x.e = (2 : Rat) ^ ((x.e - m).toNat : Int) * (2 : Rat) ^ m := by
    rw [← p2add]
    congr 1
    omega
  unfold XN.mag
  rw [Rat.natCast_mul, Rat.natCast_mul, Rat.natCast_mul, ← p2nat, e1]
  have z1 := cast_ne dx
  generalize (2 : Rat) ^ ((x.e - m).toNat : Int) = A at *
  generalize (2 : Rat) ^ m = B at *
  grind
theorem mag_one (x y : XN) (hx : x.n % 2 = 1 ∧ x.d % 2 = 1 ∧ Nat.gcd x.n x.d = 1) (hy : y.n % 2 = 1 ∧ y.d % 2 = 1 ∧ Nat.gcd y.n y.d = 1) (hle : x.e ≤ y.e) (h : x.mag = y.mag) : x.n = y.n ∧ x.d = y.d ∧ x.e = y.e := by
  have d1 : x.d ≠ 0 := by omega
  have d2 : y.d ≠ 0 := by omega
  have m1 := mag_shift x y d1 x.e (Int.le_refl _)
  have m2 := mag_shift y x d2 x.e hle
  rw [h, Nat.mul_comm x.d y.d, m2] at m1
  have m3 : ((y.n * x.d * 2 ^ (y.e - x.e).toNat : Nat) : Rat) = ((x.n * y.d * 2 ^ (x.e - x.e).toNat : Nat) : Rat) := by
    have z := p2ne x.e
    generalize (2 : Rat) ^ x.e = A at *
    generalize ((y.n * x.d * 2 ^ (y.e - x.e).toNat : Nat) : Rat) = B at *
    generalize ((x.n * y.d * 2 ^ (x.e - x.e).toNat : Nat) : Rat) = C at *
    grind
  rw [Rat.natCast_inj, Int.sub_self] at m3
  have m4 : y.n * x.d * 2 ^ (y.e - x.e).toNat = x.n * y.d := by rw [m3]; simp
  have e0 : (y.e - x.e).toNat = 0 := by
    by_cases hz : (y.e - x.e).toNat = 0
    · exact hz
    · exfalso
      obtain ⟨k, hk⟩ : ∃ k, (y.e - x.e).toNat = k + 1 := ⟨_, (Nat.succ_pred_eq_of_ne_zero hz).symm⟩
      rw [hk, Nat.pow_succ, ← Nat.mul_assoc] at m4
      have := mul_odd _ _ hx.1 hy.2.1
      omega
  rw [e0, Nat.pow_zero, Nat.mul_one] at m4
  have q1 : x.n ∣ y.n := by
    have : x.n ∣ y.n * x.d := ⟨y.d, m4⟩
    exact Nat.Coprime.dvd_of_dvd_mul_right hx.2.2 this
  have q2 : y.n ∣ x.n := by
    have : y.n ∣ x.n * y.d := ⟨x.d, m4.symm⟩
    exact Nat.Coprime.dvd_of_dvd_mul_right hy.2.2 this
  have q3 := Nat.dvd_antisymm q1 q2
  refine ⟨q3, ?_, by omega⟩
  rw [q3] at m4
  exact Nat.eq_of_mul_eq_mul_left (by omega) m4
/-- Reduced forms are one. -/
theorem can_inj (x y : XN) (hx : x.can) (hy : y.can) (h : x.val = y.val) : x = y := by
  rw [val_mag, val_mag] at h
  by_cases n1 : x.n = 0
  · rw [mag_zero x n1, Rat.mul_zero] at h
    by_cases n2 : y.n = 0
    · rw [hx.null n1, hy.null n2]
    · exfalso
      have p := mag_pos y n2 hy.d0
      rcases (Rat.mul_eq_zero.1 h.symm) with h | h
      · exact sgn_ne _ h
      · rw [h] at p; exact absurd p Rat.lt_irrefl
  · by_cases n2 : y.n = 0
    · exfalso
      rw [mag_zero y n2, Rat.mul_zero] at h
      have p := mag_pos x n1 hx.d0
      rcases (Rat.mul_eq_zero.1 h) with h | h
      · exact sgn_ne _ h
      · rw [h] at p; exact absurd p Rat.lt_irrefl
    · have p1 := mag_pos x n1 hx.d0
      have p2 := mag_pos y n2 hy.d0
      have hb : x.b = y.b := by
        cases e1 : x.b <;> cases e2 : y.b
        · rfl
        · exfalso
          rw [e1, e2] at h
          unfold sgn at h
          simp at h
          grind
        · exfalso
          rw [e1, e2] at h
          unfold sgn at h
          simp at h
          grind
        · rfl
      have hm : x.mag = y.mag := by
        rw [hb] at h
        have := sgn_ne y.b
        generalize sgn y.b = s at *
        grind
      have key : x.n = y.n ∧ x.d = y.d ∧ x.e = y.e := by
        by_cases hle : x.e ≤ y.e
        · exact mag_one x y (hx.odd n1) (hy.odd n2) hle hm
        · obtain ⟨a, b, c⟩ := mag_one y x (hy.odd n2) (hx.odd n1) (by omega) hm.symm
          exact ⟨a.symm, b.symm, c.symm⟩
      obtain ⟨k1, k2, k3⟩ := key
      cases x; cases y
      simp_all

/-- What the sum's formula makes of the one number: at the lesser exponent, over both denominators. -/
def sA (x y : XN) : Nat := x.n * y.d * 2 ^ (x.e - min x.e y.e).toNat
def sS (x y : XN) : Nat := if x.b = y.b then sA x y + sA y x else if sA x y < sA y x then sA y x - sA x y else sA x y - sA y x
def sN (x y : XN) : Bool := if x.b = y.b then x.b else if sA x y < sA y x then y.b else x.b
def addX (x y : XN) : XN × Int :=
  if x.n = 0 then (y, 0) else if y.n = 0 then (x, 0)
  else if nl (sA x y) ≤ 16384 ∧ nl (sA y x) ≤ 16384 ∧ nl (x.d * y.d) ≤ 16384 ∧ nl (sS x y) ≤ 16384 then mk (sN x y) (sS x y) (x.d * y.d) (min x.e y.e) else (XZ, 4)
theorem sA_mag (x y : XN) (dx : x.d ≠ 0) : x.mag * ((x.d * y.d : Nat) : Rat) = ((sA x y : Nat) : Rat) * (2 : Rat) ^ (min x.e y.e) :=
  mag_shift x y dx _ (Int.min_le_left _ _)
theorem mul_ne {a b : Nat} (ha : a ≠ 0) (hb : b ≠ 0) : a * b ≠ 0 := fun h => by rcases Nat.mul_eq_zero.1 h with h | h <;> contradiction
theorem sS_val (x y : XN) : sgn (sN x y) * ((sS x y : Nat) : Rat) = sgn x.b * ((sA x y : Nat) : Rat) + sgn y.b * ((sA y x : Nat) : Rat) := by
  unfold sS sN
  split
  · rename_i h
    rw [h, Rat.natCast_add, Rat.mul_add]
  · rename_i h
    have hs : sgn y.b = - sgn x.b := by
      cases e1 : x.b <;> cases e2 : y.b <;> rw [e1, e2] at h <;> first | exact absurd rfl h | decide
    split
    · rename_i hl
      have e : ((sA y x - sA x y : Nat) : Rat) = ((sA y x : Nat) : Rat) - ((sA x y : Nat) : Rat) := by
        have : ((sA y x - sA x y : Nat) : Rat) + ((sA x y : Nat) : Rat) = ((sA y x : Nat) : Rat) := by rw [← Rat.natCast_add, Nat.sub_add_cancel (Nat.le_of_lt hl)]
        rw [← this]
        grind
      rw [e, hs]
      grind
    · rename_i hl
      have e : ((sA x y - sA y x : Nat) : Rat) = ((sA x y : Nat) : Rat) - ((sA y x : Nat) : Rat) := by
        have : ((sA x y - sA y x : Nat) : Rat) + ((sA y x : Nat) : Rat) = ((sA x y : Nat) : Rat) := by rw [← Rat.natCast_add, Nat.sub_add_cancel (by omega)]
        rw [← this]
        grind
      rw [e, hs]
      grind
theorem add_good (x y : XN) (hx : x.can) (hy : y.can) (h : (addX x y).2 = 0) : (addX x y).1.can ∧ (addX x y).1.val = x.val + y.val := by
  unfold addX at h ⊢
  split
  · rename_i n0
    refine ⟨hy, ?_⟩
    rw [val_mag x, mag_zero x n0, Rat.mul_zero, Rat.zero_add]
  · rename_i n0
    split
    · rename_i m0
      refine ⟨hx, ?_⟩
      rw [val_mag y, mag_zero y m0, Rat.mul_zero, Rat.add_zero]
    · rename_i m0
      rw [if_neg n0, if_neg m0] at h
      split
      · rename_i hl
        rw [if_pos hl] at h
        have dz := mul_ne hx.d0 hy.d0
        refine ⟨mk_can _ _ _ _ hl.2.2.2 hl.2.2.1 dz h, ?_⟩
        rw [mk_val _ _ _ _ dz h, val_mag x, val_mag y]
        have k1 := sA_mag x y hx.d0
        have k2 := sA_mag y x hy.d0
        have k3 := sS_val x y
        rw [Nat.mul_comm y.d x.d, show min y.e x.e = min x.e y.e from Int.min_comm _ _] at k2
        have z := cast_ne dz
        generalize (2 : Rat) ^ (min x.e y.e) = P at *
        generalize ((x.d * y.d : Nat) : Rat) = D at *
        generalize ((sA x y : Nat) : Rat) = A at *
        generalize ((sA y x : Nat) : Rat) = B at *
        generalize ((sS x y : Nat) : Rat) = S at *
        generalize sgn (sN x y) = s at *
        generalize sgn x.b = s1 at *
        generalize sgn y.b = s2 at *
        generalize x.mag = u at *
        generalize y.mag = v at *
        have e1 : s * (S / D) * P = (s * S) * P / D := by grind
        rw [e1, k3]
        have e2 : (s1 * A + s2 * B) * P / D = (s1 * (A * P) + s2 * (B * P)) / D := by grind
        rw [e2, ← k1, ← k2]
        grind
      · rename_i hl
        rw [if_neg hl] at h
        exact absurd h (by decide)
def sg (x : XN) : Int := if x.n = 0 then 0 else if x.b then -1 else 1
def lenD (x : XN) : Int := (blen x.n : Int) - (blen x.d : Int)
def tA (x : XN) : Nat := x.n * 2 ^ (max (-lenD x) 0).toNat
def tB (x : XN) : Nat := x.d * 2 ^ (max (lenD x) 0).toNat
def topX (x : XN) : Int := (if tA x < tB x then lenD x - 1 else lenD x) + x.e
def flX (x : XN) (e : Int) : (Nat × Bool) × Int :=
  if e < -2097152 ∨ 2097152 < e then ((0, false), 2) else if x.n = 0 then ((0, true), 0)
  else if e ≤ x.e then (if nl (x.n * 2 ^ (x.e - e).toNat) ≤ 16384 then ((x.n * 2 ^ (x.e - e).toNat / x.d, decide (x.n * 2 ^ (x.e - e).toNat % x.d = 0)), 0) else ((0, false), 4))
  else if topX x < e then ((0, false), 0) else ((x.n / (x.d * 2 ^ (e - x.e).toNat), false), 0)

theorem tA_len (x : XN) (n0 : x.n ≠ 0) (d0 : x.d ≠ 0) : blen (tA x) = blen (tB x) ∧ tA x ≠ 0 ∧ tB x ≠ 0 := by
  unfold tA tB
  rw [blen_shl _ _ n0, blen_shl _ _ d0]
  refine ⟨?_, mul_ne n0 (Nat.pos_iff_ne_zero.1 (Nat.two_pow_pos _)), mul_ne d0 (Nat.pos_iff_ne_zero.1 (Nat.two_pow_pos _))⟩
  unfold lenD
  omega
theorem tA_near (x : XN) (n0 : x.n ≠ 0) (d0 : x.d ≠ 0) : tA x < 2 * tB x ∧ tB x < 2 * tA x := by
  obtain ⟨h1, h2, h3⟩ := tA_len x n0 d0
  have a1 := blen_lt (tA x)
  have a2 := blen_le (tA x) h2
  have b1 := blen_lt (tB x)
  have b2 := blen_le (tB x) h3
  have p := blen_pos (tA x) h2
  rw [← h1] at b1 b2
  obtain ⟨k, hk⟩ : ∃ k, blen (tA x) = k + 1 := ⟨_, (Nat.succ_pred_eq_of_ne_zero (Nat.pos_iff_ne_zero.1 p)).symm⟩
  rw [hk, Nat.pow_succ] at a1 b1
  rw [hk, Nat.add_sub_cancel] at a2 b2
  omega
theorem tA_mag (x : XN) (d0 : x.d ≠ 0) : x.mag * ((tB x : Nat) : Rat) = ((tA x : Nat) : Rat) * (2 : Rat) ^ (lenD x + x.e) := by
  unfold tA tB XN.mag
  rw [Rat.natCast_mul, Rat.natCast_mul, ← p2nat, ← p2nat, p2add]
  have e : (2 : Rat) ^ ((max (lenD x) 0).toNat : Int) = (2 : Rat) ^ ((max (-lenD x) 0).toNat : Int) * (2 : Rat) ^ (lenD x) := by
    rw [← p2add]
    congr 1
    omega
  rw [e]
  have z := cast_ne d0
  generalize (2 : Rat) ^ ((max (-lenD x) 0).toNat : Int) = A at *
  generalize (2 : Rat) ^ (lenD x) = B at *
  generalize (2 : Rat) ^ x.e = C at *
  grind
theorem p2succ (e : Int) : (2 : Rat) ^ (e + 1) = 2 * (2 : Rat) ^ e := by rw [p2add, Rat.zpow_one, Rat.mul_comm]
theorem top_good (x : XN) (n0 : x.n ≠ 0) (d0 : x.d ≠ 0) : (2 : Rat) ^ (topX x) ≤ x.mag ∧ x.mag < (2 : Rat) ^ (topX x + 1) := by
  obtain ⟨h1, h2⟩ := tA_near x n0 d0
  have k := tA_mag x d0
  have zB : (0 : Rat) < ((tB x : Nat) : Rat) := cast_pos (tA_len x n0 d0).2.2
  have zP := p2 (lenD x + x.e)
  have c1 : ((tA x : Nat) : Rat) < 2 * ((tB x : Nat) : Rat) := by
    have := Rat.natCast_lt_natCast.2 h1
    rwa [Rat.natCast_mul] at this
  have c2 : ((tB x : Nat) : Rat) < 2 * ((tA x : Nat) : Rat) := by
    have := Rat.natCast_lt_natCast.2 h2
    rwa [Rat.natCast_mul] at this
  unfold topX
  split
  · rename_i hl
    have c3 := Rat.natCast_lt_natCast.2 hl
    have e1 := p2succ (lenD x - 1 + x.e)
    rw [show lenD x - 1 + x.e + 1 = lenD x + x.e by omega] at e1
    rw [show lenD x - 1 + x.e + 1 = lenD x + x.e by omega]
    generalize (2 : Rat) ^ (lenD x + x.e) = P at *
    generalize (2 : Rat) ^ (lenD x - 1 + x.e) = H at *
    generalize ((tA x : Nat) : Rat) = A at *
    generalize ((tB x : Nat) : Rat) = B at *
    constructor
    · refine Rat.le_of_mul_le_mul_right (c := B) ?_ zB
      rw [k, e1]
      have : H * B ≤ H * (2 * A) := Rat.mul_le_mul_of_nonneg_left (Rat.le_of_lt c2) (by grind)
      grind
    · refine Rat.lt_of_mul_lt_mul_right (c := B) ?_ (Rat.le_of_lt zB)
      rw [k, Rat.mul_comm A P]
      exact Rat.mul_lt_mul_of_pos_left c3 zP
  · rename_i hl
    have c3 := Rat.natCast_le_natCast.2 (Nat.le_of_not_lt hl)
    have e1 := p2succ (lenD x + x.e)
    rw [e1]
    generalize (2 : Rat) ^ (lenD x + x.e) = P at *
    generalize ((tA x : Nat) : Rat) = A at *
    generalize ((tB x : Nat) : Rat) = B at *
    constructor
    · refine Rat.le_of_mul_le_mul_right (c := B) ?_ zB
      rw [k, Rat.mul_comm A P]
      exact Rat.mul_le_mul_of_nonneg_left c3 (Rat.le_of_lt zP)
    · refine Rat.lt_of_mul_lt_mul_right (c := B) ?_ (Rat.le_of_lt zB)
      rw [k]
      have : P * A < P * (2 * B) := Rat.mul_lt_mul_of_pos_left c1 zP
      grind
/-- The whole part: a number over another one, at a power of two. -/
theorem quot_good (u : Rat) (N D : Nat) (P : Rat) (hP : 0 < P) (D0 : D ≠ 0) (k : u * (D : Rat) = (N : Rat) * P) : ((N / D : Nat) : Rat) * P ≤ u ∧ u < ((N / D + 1 : Nat) : Rat) * P ∧ (N % D = 0 ↔ ((N / D : Nat) : Rat) * P = u) := by
  have zD := cast_pos D0
  have h1 : N / D * D ≤ N := Nat.div_mul_le_self N D
  have h2 : N < (N / D + 1) * D := by
    have := Nat.div_add_mod N D
    have := Nat.mod_lt N (Nat.pos_of_ne_zero D0)
    rw [Nat.add_mul, Nat.one_mul, Nat.mul_comm (N / D) D]
    omega
  have h3 : N % D = 0 ↔ N / D * D = N := by
    have := Nat.div_add_mod N D
    rw [Nat.mul_comm (N / D) D]
    omega
  have c1 := Rat.natCast_le_natCast.2 h1
  have c2 := Rat.natCast_lt_natCast.2 h2
  rw [Rat.natCast_mul] at c1 c2
  have c3 : N / D * D = N ↔ ((N / D : Nat) : Rat) * (D : Rat) = (N : Rat) := by rw [← Rat.natCast_mul, Rat.natCast_inj]
  rw [h3, c3]
  generalize ((N / D + 1 : Nat) : Rat) = M1 at *
  generalize ((N / D : Nat) : Rat) = M at *
  generalize (N : Rat) = n at *
  generalize (D : Rat) = d at *
  refine ⟨?_, ?_, ?_, ?_⟩
  · refine Rat.le_of_mul_le_mul_right (c := d) ?_ zD
    rw [k]
    have := Rat.mul_le_mul_of_nonneg_left c1 (Rat.le_of_lt hP)
    grind
  · refine Rat.lt_of_mul_lt_mul_right (c := d) ?_ (Rat.le_of_lt zD)
    rw [k]
    have := Rat.mul_lt_mul_of_pos_left c2 hP
    grind
  · intro h
    rw [← h] at k
    have : d ≠ 0 := Rat.ne_of_gt zD
    grind
  · intro h
    rw [← h] at k
    have : P ≠ 0 := Rat.ne_of_gt hP
    grind
theorem p2mono (e f : Int) (h : e ≤ f) : (2 : Rat) ^ e ≤ (2 : Rat) ^ f := by
  obtain ⟨k, rfl⟩ : ∃ k : Nat, f = (k : Int) + e := ⟨(f - e).toNat, by omega⟩
  rw [p2add (k : Int) e, p2nat]
  have a : (1 : Rat) ≤ ((2 ^ k : Nat) : Rat) := Rat.natCast_le_natCast.2 (Nat.one_le_two_pow (n := k))
  have b := Rat.mul_le_mul_of_nonneg_right a (Rat.le_of_lt (p2 e))
  rwa [Rat.one_mul] at b
theorem fl_good (x : XN) (e : Int) (hx : x.can) (n0 : x.n ≠ 0) (h : (flX x e).2 = 0) : (((flX x e).1.1 : Nat) : Rat) * (2 : Rat) ^ e ≤ x.mag ∧ x.mag < (((flX x e).1.1 + 1 : Nat) : Rat) * (2 : Rat) ^ e ∧ ((flX x e).1.2 = true ↔ (((flX x e).1.1 : Nat) : Rat) * (2 : Rat) ^ e = x.mag) := by
  have d0 := hx.d0
  unfold flX at h ⊢
  by_cases hr : e < -2097152 ∨ 2097152 < e
  · rw [if_pos hr] at h
    exact absurd h (by decide)
  rw [if_neg hr, if_neg n0] at h ⊢
  by_cases he : e ≤ x.e
  · rw [if_pos he] at h ⊢
    by_cases hl : nl (x.n * 2 ^ (x.e - e).toNat) ≤ 16384
    · rw [if_pos hl]
      have k : x.mag * (x.d : Rat) = ((x.n * 2 ^ (x.e - e).toNat : Nat) : Rat) * (2 : Rat) ^ e := by
        have e1 : (2 : Rat) ^ x.e = (2 : Rat) ^ ((x.e - e).toNat : Int) * (2 : Rat) ^ e := by rw [← p2add]; congr 1; omega
        unfold XN.mag
        rw [Rat.natCast_mul, ← p2nat, e1]
        have z := cast_ne d0
        grind
      have := quot_good _ _ _ _ (p2 e) d0 k
      simp only [decide_eq_true_eq]
      exact this
    · rw [if_neg hl] at h
      exact absurd h (by decide)
  · rw [if_neg he] at h ⊢
    have hz : ¬ x.n % (x.d * 2 ^ (e - x.e).toNat) = 0 := by
      intro hm
      obtain ⟨k, hk⟩ : ∃ k, (e - x.e).toNat = k + 1 := ⟨(e - x.e).toNat - 1, by omega⟩
      rw [hk, Nat.pow_succ, ← Nat.mul_assoc] at hm
      obtain ⟨q, hq⟩ := Nat.dvd_of_mod_eq_zero hm
      have := (hx.odd n0).1
      rw [hq, Nat.mul_assoc, Nat.mul_assoc, Nat.mul_left_comm (2 ^ k) 2, Nat.mul_left_comm x.d 2, Nat.mul_mod_right] at this
      omega
    have k : x.mag * ((x.d * 2 ^ (e - x.e).toNat : Nat) : Rat) = (x.n : Rat) * (2 : Rat) ^ e := by
      have e1 : (2 : Rat) ^ e = (2 : Rat) ^ ((e - x.e).toNat : Int) * (2 : Rat) ^ x.e := by rw [← p2add]; congr 1; omega
      unfold XN.mag
      rw [Rat.natCast_mul, ← p2nat, e1]
      have z := cast_ne d0
      grind
    have D0 : x.d * 2 ^ (e - x.e).toNat ≠ 0 := mul_ne d0 (Nat.pos_iff_ne_zero.1 (Nat.two_pow_pos _))
    have q := quot_good _ _ _ _ (p2 e) D0 k
    by_cases ht : topX x < e
    · rw [if_pos ht]
      have t2 := (top_good x n0 d0).2
      have := p2mono (topX x + 1) e (by omega)
      have up : x.mag < (2 : Rat) ^ e := by grind
      have p := mag_pos x n0 d0
      have z0 : ((0 : Nat) : Rat) = 0 := rfl
      have z1 : ((0 + 1 : Nat) : Rat) = 1 := rfl
      refine ⟨?_, ?_, ?_⟩
      · show ((0 : Nat) : Rat) * _ ≤ _
        rw [z0, Rat.zero_mul]
        exact Rat.le_of_lt p
      · show _ < ((0 + 1 : Nat) : Rat) * _
        rw [z1, Rat.one_mul]
        exact up
      · show false = true ↔ ((0 : Nat) : Rat) * _ = _
        rw [z0, Rat.zero_mul]
        exact ⟨fun h => absurd h (by decide), fun h => absurd p (by rw [← h]; exact Rat.lt_irrefl)⟩
    · rw [if_neg ht]
      refine ⟨q.1, q.2.1, ?_⟩
      exact ⟨fun h => Bool.noConfusion h, fun h => absurd (q.2.2.2 h) hz⟩

/-- How long a number may be. -/
def Bd (x : XN) (p E : Nat) : Prop := x.n < 2 ^ p ∧ x.d < 2 ^ p ∧ -(E : Int) ≤ x.e ∧ x.e ≤ E
theorem nl_pow (n p : Nat) (h : n < 2 ^ p) (hp : p ≤ 131072) : nl n ≤ 16384 := by
  have := blen_le_of n p h
  unfold nl
  omega
theorem mul_pow_lt (a b p q : Nat) (ha : a < 2 ^ p) (hb : b < 2 ^ q) : a * b < 2 ^ (p + q) := by
  rw [Nat.pow_add]
  exact Nat.mul_lt_mul'' ha hb
theorem pow_le2 (p q : Nat) (h : p ≤ q) : (2 : Nat) ^ p ≤ 2 ^ q := Nat.pow_le_pow_right (by decide) h
theorem mk_ok (neg : Bool) (n d : Nat) (e : Int) (P E F : Nat) (hn : n < 2 ^ P) (hd : d < 2 ^ P) (ho : d % 2 = 1) (he1 : -(E : Int) ≤ e) (he2 : e ≤ E) (hF : E + P = F) (h : F ≤ 1048576) : (mk neg n d e).2 = 0 ∧ Bd (mk neg n d e).1 P F := by
  have P1 : 1 < 2 ^ P := by omega
  have t0 := tz_odd d ho
  have t1 := Nat.le_trans (tz_blen n) (blen_le_of n P hn)
  unfold mk
  split
  · exact ⟨rfl, Nat.two_pow_pos _, P1, by show -(F : Int) ≤ 0; omega, by show (0 : Int) ≤ F; omega⟩
  · rw [t0, if_pos (by omega)]
    refine ⟨rfl, Nat.lt_of_le_of_lt (Nat.le_trans (Nat.div_le_self _ _) (od_le _)) hn, Nat.lt_of_le_of_lt (Nat.le_trans (Nat.div_le_self _ _) (od_le _)) hd, ?_, ?_⟩
    · show -(F : Int) ≤ e + (tz n : Int) - ((0 : Nat) : Int); omega
    · show e + (tz n : Int) - ((0 : Nat) : Int) ≤ (F : Int); omega
theorem sA_lt (x y : XN) (p q E F : Nat) (hx : Bd x p E) (hy : Bd y q F) : sA x y < 2 ^ (p + q + (E + F)) := by
  obtain ⟨a1, a2, a3, a4⟩ := hx
  obtain ⟨b1, b2, b3, b4⟩ := hy
  unfold sA
  rw [Nat.pow_add]
  have h1 := mul_pow_lt _ _ _ _ a1 b2
  have h2 : (2 : Nat) ^ (x.e - min x.e y.e).toNat ≤ 2 ^ (E + F) := pow_le2 _ _ (by omega)
  exact Nat.lt_of_lt_of_le (Nat.mul_lt_mul_of_pos_right h1 (Nat.two_pow_pos _)) (Nat.mul_le_mul_left _ h2)
theorem add_ok (x y : XN) (p q E F P G : Nat) (hx : x.can) (hy : y.can) (bx : Bd x p E) (bz : Bd y q F) (hP : p + q + (E + F) + 1 = P) (hG : E + F + P = G) (h1 : P ≤ 131072) (h2 : G ≤ 1048576) : (addX x y).2 = 0 ∧ Bd (addX x y).1 P G := by
  have s1 := sA_lt x y p q E F bx bz
  have s2 := sA_lt y x q p F E bz bx
  rw [show q + p + (F + E) = p + q + (E + F) by omega] at s2
  obtain ⟨a1, a2, a3, a4⟩ := bx
  obtain ⟨b1, b2, b3, b4⟩ := bz
  have dd : x.d * y.d < 2 ^ P := Nat.lt_of_lt_of_le (mul_pow_lt _ _ _ _ a2 b2) (pow_le2 _ _ (by omega))
  have e2 : 2 ^ P = 2 * 2 ^ (p + q + (E + F)) := by rw [← hP, Nat.pow_succ, Nat.mul_comm]
  have ss : sS x y < 2 ^ P := by
    rw [e2]
    unfold sS
    split
    · omega
    · split <;> omega
  unfold addX
  split
  · exact ⟨rfl, Nat.lt_of_lt_of_le b1 (pow_le2 _ _ (by omega)), Nat.lt_of_lt_of_le b2 (pow_le2 _ _ (by omega)), by show -(G : Int) ≤ y.e; omega, by show y.e ≤ (G : Int); omega⟩
  · split
    · exact ⟨rfl, Nat.lt_of_lt_of_le a1 (pow_le2 _ _ (by omega)), Nat.lt_of_lt_of_le a2 (pow_le2 _ _ (by omega)), by show -(G : Int) ≤ x.e; omega, by show x.e ≤ (G : Int); omega⟩
    · rw [if_pos ⟨nl_pow _ P (by omega) h1, nl_pow _ P (by omega) h1, nl_pow _ P dd h1, nl_pow _ P ss h1⟩]
      exact mk_ok _ _ _ _ P (E + F) G ss dd (mul_odd _ _ hx.d hy.d) (by omega) (by omega) hG h2
end Go.Proofs.YtoaaajeblhaeoaaGreatDoor.XMath
namespace Go.Proofs.YtoaaajeblhaeoaaGreatDoor
set_option maxRecDepth 100000
set_option maxHeartbeats 40000000
set_option maxRecDepth 100000
open Go.RowKit WMath XMath

theorem cells4 {w : World} {g : Nat} {T : TypeId} {c : Array Value} (row : w.heap[g]? = some (.cells c T)) (k : Nat) (v : Value) (h : c[k]? = some v) : w.cell? ⟨g, k, none⟩ = some v := by
  rw [cell_of_row w g k _ _ _ row]
  exact h

theorem cells2s {w : World} {g : Nat} {T : TypeId} {a b : Value} (R : w.heap[g]? = some (.cells #[a, b] T)) : w.cell? ⟨g, 0, none⟩ = some a ∧ w.cell? ⟨g, 1, none⟩ = some b := ⟨cells4 R 0 _ rfl, cells4 R 1 _ rfl⟩
theorem ltR {w : World} {b : Nat} {o : Obj} (h : w.heap[b]? = some o) : Box (b < w.heap.size) := box (Array.getElem?_eq_some_iff.1 h).1
theorem opn1 (w : World) (o : Obj) : (w.alloc o).heap[w.heap.size]? = some o ∧ Below w.heap.size w (w.alloc o) := ⟨heap_alloc_last _ _, (Below.refl _ _).alloc (Nat.le_refl _) _⟩
theorem opn2 (w : World) (o1 o2 : Obj) : ((w.alloc o1).alloc o2).heap[w.heap.size]? = some o1 ∧ ((w.alloc o1).alloc o2).heap[w.heap.size + 1]? = some o2 ∧ Below w.heap.size w ((w.alloc o1).alloc o2) := by
  obtain ⟨r0, b⟩ := opn1 w o1
  have z : (w.alloc o1).heap.size = w.heap.size + 1 := by simp only [size_al]
  exact ⟨by rw [heap_below _ _ _ (by omega)]; exact r0, by rw [← z]; exact heap_alloc_last _ _, b.alloc (by omega) _⟩
theorem opn3 (w : World) (o1 o2 o3 : Obj) : (((w.alloc o1).alloc o2).alloc o3).heap[w.heap.size]? = some o1 ∧ (((w.alloc o1).alloc o2).alloc o3).heap[w.heap.size + 1]? = some o2 ∧ (((w.alloc o1).alloc o2).alloc o3).heap[w.heap.size + 1 + 1]? = some o3 ∧ Below w.heap.size w (((w.alloc o1).alloc o2).alloc o3) := by
  obtain ⟨r0, r1, b⟩ := opn2 w o1 o2
  have z : ((w.alloc o1).alloc o2).heap.size = w.heap.size + 1 + 1 := by simp only [size_al]
  exact ⟨by rw [heap_below _ _ _ (by omega)]; exact r0, by rw [heap_below _ _ _ (by omega)]; exact r1, by rw [← z]; exact heap_alloc_last _ _, b.alloc (by omega) _⟩
end Go.Proofs.YtoaaajeblhaeoaaGreatDoor
