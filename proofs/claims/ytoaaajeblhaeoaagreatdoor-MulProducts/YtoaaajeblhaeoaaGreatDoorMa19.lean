/-
  What the functions that the statement reaches return: part 19 (R14).
-/
import Derived.Test.YtoaaajeblhaeoaaGreatDoorMa18
namespace Go.Proofs.YtoaaajeblhaeoaaGreatDoor
set_option maxRecDepth 100000
set_option maxHeartbeats 40000000
set_option maxRecDepth 100000
open Go.RowKit WMath
set_option linter.unusedSimpArgs false
set_option linter.unusedVariables false
theorem cw_zip (K : Nat) : (cw 6 K).zipIdx = #[(.int .u64 (wd K 0), 0), (.int .u64 (wd K 1), 1), (.int .u64 (wd K 2), 2), (.int .u64 (wd K 3), 3), (.int .u64 (wd K 4), 4), (.int .u64 (wd K 5), 5)] := by kernel_rfl
theorem rg_sets (neg : Bool) (K : Nat) (st : Int) : ((((((((rg false 0 0 false).toList.set 0 (.bool neg)).set 1 (.int .u64 (wd K 0))).set 2 (.int .u64 (wd K 1))).set 3 (.int .u64 (wd K 2))).set 4 (.int .u64 (wd K 3))).set 5 (.int .u64 (wd K 4))).set 6 (.int .u64 (wd K 5))).set 7 (.int .i64 st) = (rg neg K st false).toList := rfl
theorem ro_grid_no (m st : Int) (neg : Bool) (s : Nat) (x : Int) (more : Bool) (R K : Nat) (lo : Bool) (A1 A2 h : Int) (ex od : Bool) (w : World) (hQ : Box (R < Q ∧ K < Q))
    (K1 : Box (∀ w, Calls Tryz.prog 185 #[.agg (cw 6 s), .int .i64 A1] w fun r w' => r = .returned (.tuple #[.agg (cw 6 R), .bool lo]) ∧ Below w.heap.size w w'))
    (K2 : Box (∀ w, Calls Tryz.prog 262 #[.agg (cw 6 R), .int .i64 A2] w fun r w' => r = .returned (.tuple #[.agg (cw 6 K), .int .i64 h, .bool ex]) ∧ Below w.heap.size w w'))
    (K3 : Box (∀ w, Calls Tryz.prog 264 #[.agg (cw 6 K), .int .i64 0] w fun r w' => r = .returned (.bool od) ∧ Below w.heap.size w w'))
    (K4 : Box (∀ w, Calls Tryz.prog 263 #[.int .u8 m, .bool neg, .bool od, .int .i64 h, .bool ex] w fun r w' => r = .returned (.bool false) ∧ Below w.heap.size w w'))
    (h1 : IntKind.i64.wrap (x - st) = A1) (h2 : IntKind.i64.wrap (st - x) = A2) : Calls Tryz.prog 177 #[.int .u8 m, .agg (rg neg s x more), .int .i64 st] w fun r w' => r = .returned (.tuple #[.agg (rg neg K st false), .bool ex]) ∧ Below w.heap.size w w' := by
  have hat := cw_at 6
  have hz := cw6z
  have hff := cw6f
  have hs0 := st0
  have hcs : ∀ x, ((cw 6 x).size = 6) = True := fun x => eq_true (cw_size 6 x)
  have hp1 := rgf
  have hp3 := rgz
  have hp4 := st_r0
  have hzi := cw_zip
  have hls := rg_sets
  have hp5 : ∀ (c : Bool) (s : Nat) (x : Int) (r : Bool), ((rg c s x r).size = 9) = True := fun _ _ _ _ => eq_true rfl
  obtain ⟨Af, Ag, B0⟩ := opn2 w (Obj.cells (rg neg s x more) 114) (Obj.cells (rg false 0 0 false) 114)
  go_enter Tryz.func177, Tryz.ntmps177
  obtain ⟨Ap, Aq, Ar, As, At, Au, Av, Aw, Ax⟩ := rg_cells Af
  obtain ⟨Ay, Az, AA, AB, AC, AD, AE, AF, AG⟩ := rg_cells Ag
  go_wp2_with fail
  refine (K1.out _).mono ?_
  rintro r w1 ⟨rfl, b1⟩
  have B1 : Below w.heap.size w w1 := btr B0 b1
  have Aa := heap_of b1 _ _ _ Af
  have Ab := heap_of b1 _ _ _ Ag
  clear b1 B0 Af Ap Aq Ar As At Au Av Aw Ax Ag Ay Az AA AB AC AD AE AF AG
  obtain ⟨AH, AI, AJ, AK, AL, AM, AN, AO, AP⟩ := rg_cells Aa
  obtain ⟨AQ, AR, AS, AT, AU, AV, AW, AX, AY⟩ := rg_cells Ab
  have S2 := box B1.size
  have AZ := ltR Aa
  have A0 := ltR Ab
  have Ah := heap_alloc_last w1 (Obj.cells (cw 6 R) 71)
  have B2 := btr B1 (bal w1 (Obj.cells (cw 6 R) 71))
  have Ai := heap_of (bal w1 (Obj.cells (cw 6 R) 71)) _ _ _ Aa
  have Aj := heap_of (bal w1 (Obj.cells (cw 6 R) 71)) _ _ _ Ab
  clear B1 Aa AH AI AJ AK AL AM AN AO AP Ab AQ AR AS AT AU AV AW AX AY
  obtain ⟨A3, A4, A5, A6, A7, A8, A9, Ba, Bb⟩ := rg_cells Ai
  obtain ⟨Bc, Bd, Be, Bf, Bg, Bh, Bi, Bj, Bk⟩ := rg_cells Aj
  have Bl := row_cell Ah
  go_wp2_with fail
  refine (K2.out _).mono ?_
  rintro r w3 ⟨rfl, b3⟩
  have B3 : Below w.heap.size w w3 := btr B2 b3
  have Ac := heap_of b3 _ _ _ Ai
  have Ad := heap_of b3 _ _ _ Aj
  have Ae := heap_of b3 _ _ _ Ah
  clear b3 B2 Ai A3 A4 A5 A6 A7 A8 A9 Ba Bb Aj Bc Bd Be Bf Bg Bh Bi Bj Bk Ah Bl
  obtain ⟨Bm, Bn, Bo, Bp, Bq, Br, Bs, Bt, Bu⟩ := rg_cells Ac
  obtain ⟨Bv, Bw, Bx, By, Bz, BA, BB, BC, BD⟩ := rg_cells Ad
  have BE := row_cell Ae
  have S4 := box B3.size
  have BF := ltR Ac
  have BG := ltR Ad
  have BH := ltR Ae
  have Ak := heap_alloc_last w3 (Obj.cells (cw 6 K) 71)
  have B4 := btr B3 (bal w3 (Obj.cells (cw 6 K) 71))
  have Al := heap_of (bal w3 (Obj.cells (cw 6 K) 71)) _ _ _ Ac
  have Am := heap_of (bal w3 (Obj.cells (cw 6 K) 71)) _ _ _ Ad
  have Ao := heap_of (bal w3 (Obj.cells (cw 6 K) 71)) _ _ _ Ae
  clear B3 Ac Bm Bn Bo Bp Bq Br Bs Bt Bu Ad Bv Bw Bx By Bz BA BB BC BD Ae BE
  obtain ⟨BI, BJ, BK, BL, BM, BN, BO, BP, BQ⟩ := rg_cells Al
  obtain ⟨BR, BS, BT, BU, BV, BW, BX, BY, BZ⟩ := rg_cells Am
  have B6 := row_cell Ao
  have B7 := row_cell Ak
  clear Ao B6
  have sS : Box (∀ W W1 : World, (Below w.heap.size w W ∧ W.heap[w.heap.size]? = some (.cells (rg neg s x more) 114) ∧ W.heap[w.heap.size + 1]? = some (.cells (rg false 0 0 false) 114) ∧ W.heap[w3.heap.size]? = some (.cells (cw 6 K) 71)) → Below W.heap.size W W1 → (Below w.heap.size w W1 ∧ W1.heap[w.heap.size]? = some (.cells (rg neg s x more) 114) ∧ W1.heap[w.heap.size + 1]? = some (.cells (rg false 0 0 false) 114) ∧ W1.heap[w3.heap.size]? = some (.cells (cw 6 K) 71))) := box (fun W W1 h b => ⟨btr h.1 b, heap_of b _ _ _ h.2.1, heap_of b _ _ _ h.2.2.1, heap_of b _ _ _ h.2.2.2⟩)
  have sC : Box (∀ W : World, (Below w.heap.size w W ∧ W.heap[w.heap.size]? = some (.cells (rg neg s x more) 114) ∧ W.heap[w.heap.size + 1]? = some (.cells (rg false 0 0 false) 114) ∧ W.heap[w3.heap.size]? = some (.cells (cw 6 K) 71)) → (Below w.heap.size w W ∧ W.heap[w.heap.size]? = some (.cells (rg neg s x more) 114) ∧ W.heap[w.heap.size + 1]? = some (.cells (rg false 0 0 false) 114) ∧ W.heap[w3.heap.size]? = some (.cells (cw 6 K) 71) ∧ W.cell? ⟨w.heap.size, 0, none⟩ = some (.bool neg) ∧ W.cell? ⟨w.heap.size, 1, none⟩ = some (.int .u64 (wd s 0)) ∧ W.cell? ⟨w.heap.size, 2, none⟩ = some (.int .u64 (wd s 1)) ∧ W.cell? ⟨w.heap.size, 3, none⟩ = some (.int .u64 (wd s 2)) ∧ W.cell? ⟨w.heap.size, 4, none⟩ = some (.int .u64 (wd s 3)) ∧ W.cell? ⟨w.heap.size, 5, none⟩ = some (.int .u64 (wd s 4)) ∧ W.cell? ⟨w.heap.size, 6, none⟩ = some (.int .u64 (wd s 5)) ∧ W.cell? ⟨w.heap.size, 7, none⟩ = some (.int .i64 x) ∧ W.cell? ⟨w.heap.size, 8, none⟩ = some (.bool more) ∧ W.cell? ⟨w3.heap.size, 0, none⟩ = some (.int .u64 (wd K 0)) ∧ W.cell? ⟨w3.heap.size, 1, none⟩ = some (.int .u64 (wd K 1)) ∧ W.cell? ⟨w3.heap.size, 2, none⟩ = some (.int .u64 (wd K 2)) ∧ W.cell? ⟨w3.heap.size, 3, none⟩ = some (.int .u64 (wd K 3)) ∧ W.cell? ⟨w3.heap.size, 4, none⟩ = some (.int .u64 (wd K 4)) ∧ W.cell? ⟨w3.heap.size, 5, none⟩ = some (.int .u64 (wd K 5)))) := box (fun W h => ⟨h.1, h.2.1, h.2.2.1, h.2.2.2, cell7 (h.2.1) 0 _ rfl, cell7 (h.2.1) 1 _ rfl, cell7 (h.2.1) 2 _ rfl, cell7 (h.2.1) 3 _ rfl, cell7 (h.2.1) 4 _ rfl, cell7 (h.2.1) 5 _ rfl, cell7 (h.2.1) 6 _ rfl, cell7 (h.2.1) 7 _ rfl, cell7 (h.2.1) 8 _ rfl, row_cell (h.2.2.2) 0 (by decide), row_cell (h.2.2.2) 1 (by decide), row_cell (h.2.2.2) 2 (by decide), row_cell (h.2.2.2) 3 (by decide), row_cell (h.2.2.2) 4 (by decide), row_cell (h.2.2.2) 5 (by decide)⟩)
  have s0 : Below w.heap.size w ((w3.alloc (Obj.cells (cw 6 K) 71))).drew ∧ ((w3.alloc (Obj.cells (cw 6 K) 71))).drew.heap[w.heap.size]? = some (.cells (rg neg s x more) 114) ∧ ((w3.alloc (Obj.cells (cw 6 K) 71))).drew.heap[w.heap.size + 1]? = some (.cells (rg false 0 0 false) 114) ∧ ((w3.alloc (Obj.cells (cw 6 K) 71))).drew.heap[w3.heap.size]? = some (.cells (cw 6 K) 71) := ⟨B4.drew, Al, Am, Ak⟩
  go_wp2_with fail
  go_region_held3 (fun W => Below w.heap.size w W ∧ W.heap[w.heap.size]? = some (.cells (rg neg s x more) 114) ∧ W.heap[w.heap.size + 1]? = some (.cells (rg false 0 0 false) 114) ∧ W.heap[w3.heap.size]? = some (.cells (cw 6 K) 71) ∧ W.cell? ⟨w.heap.size, 0, none⟩ = some (.bool neg) ∧ W.cell? ⟨w.heap.size, 1, none⟩ = some (.int .u64 (wd s 0)) ∧ W.cell? ⟨w.heap.size, 2, none⟩ = some (.int .u64 (wd s 1)) ∧ W.cell? ⟨w.heap.size, 3, none⟩ = some (.int .u64 (wd s 2)) ∧ W.cell? ⟨w.heap.size, 4, none⟩ = some (.int .u64 (wd s 3)) ∧ W.cell? ⟨w.heap.size, 5, none⟩ = some (.int .u64 (wd s 4)) ∧ W.cell? ⟨w.heap.size, 6, none⟩ = some (.int .u64 (wd s 5)) ∧ W.cell? ⟨w.heap.size, 7, none⟩ = some (.int .i64 x) ∧ W.cell? ⟨w.heap.size, 8, none⟩ = some (.bool more) ∧ W.cell? ⟨w3.heap.size, 0, none⟩ = some (.int .u64 (wd K 0)) ∧ W.cell? ⟨w3.heap.size, 1, none⟩ = some (.int .u64 (wd K 1)) ∧ W.cell? ⟨w3.heap.size, 2, none⟩ = some (.int .u64 (wd K 2)) ∧ W.cell? ⟨w3.heap.size, 3, none⟩ = some (.int .u64 (wd K 3)) ∧ W.cell? ⟨w3.heap.size, 4, none⟩ = some (.int .u64 (wd K 4)) ∧ W.cell? ⟨w3.heap.size, 5, none⟩ = some (.int .u64 (wd K 5))) (first | exact sC.out _ s1 | exact sC.out _ s0)
    (first | (go_at_call 264; refine (K3.out _).mono ?_; rintro r wq ⟨rfl, bq⟩; (first | have s1 := sS.out _ _ s1 bq | have s1 := sS.out _ _ s0 bq); clear bq) | (go_at_call 263; refine (K4.out _).mono ?_; rintro r wq ⟨rfl, bq⟩; (first | have s1 := sS.out _ _ s1 bq | have s1 := sS.out _ _ s0 bq); clear bq) | fail)
  have B5 := (And.left s1)
  have B8 := s1.2.1
  have An := s1.2.2.1
  have B9 := s1.2.2.2
  clear s0 s1 sS sC B4 Al BI BJ BK BL BM BN BO BP BQ Am BR BS BT BU BV BW BX BY BZ Ak B7
  obtain ⟨Ca, Cb, Cc, Cd, Ce, Cf, Cg, Ch, Ci⟩ := rg_cells B8
  obtain ⟨Cj, Ck, Cl, Cm, Cn, Co, Cp, Cq, Cr⟩ := rg_cells An
  have Cs := row_cell B9
  have hstz := st_r wq (w.heap.size + 1) neg K st false false 0 0 false An
  have RZ := setRow_row (c' := rg neg K st false) An
  obtain ⟨dz0, dz1, dz2, dz3, dz4, dz5, dz6, dz7, dz8⟩ := rg_cells RZ
  have bz := bel_set (c := rg neg K st false) B5 (show w.heap.size ≤ w.heap.size + 1 by first | exact Nat.le_refl _ | omega | (have := S2.out; have := AZ.out; have := A0.out; have := S4.out; have := BF.out; have := BG.out; have := BH.out; omega))
  go_wp2
  exact bodyPost_ret (v := .tuple #[.agg (rg neg K st false), .bool ex]) (by simp [results, Tryz.results177, go_sem, dz0, dz1, dz2, dz3, dz4, dz5, dz6, dz7, dz8, rgf] <;> rfl) rfl ⟨rfl, bz⟩
theorem ro_grid_up (m st : Int) (neg : Bool) (s : Nat) (x : Int) (more : Bool) (R K K' : Nat) (lo l2 : Bool) (A1 A2 h : Int) (ex od : Bool) (w : World)
    (K1 : Box (∀ w, Calls Tryz.prog 185 #[.agg (cw 6 s), .int .i64 A1] w fun r w' => r = .returned (.tuple #[.agg (cw 6 R), .bool lo]) ∧ Below w.heap.size w w'))
    (K2 : Box (∀ w, Calls Tryz.prog 262 #[.agg (cw 6 R), .int .i64 A2] w fun r w' => r = .returned (.tuple #[.agg (cw 6 K), .int .i64 h, .bool ex]) ∧ Below w.heap.size w w'))
    (K3 : Box (∀ w, Calls Tryz.prog 264 #[.agg (cw 6 K), .int .i64 0] w fun r w' => r = .returned (.bool od) ∧ Below w.heap.size w w'))
    (K4 : Box (∀ w, Calls Tryz.prog 263 #[.int .u8 m, .bool neg, .bool od, .int .i64 h, .bool ex] w fun r w' => r = .returned (.bool true) ∧ Below w.heap.size w w'))
    (K5 : Box (∀ w, Calls Tryz.prog 94 #[.int .u64 1] w fun r w' => r = .returned (.agg (cw 6 1)) ∧ Below w.heap.size w w'))
    (K6 : Box (∀ w, Calls Tryz.prog 247 #[.agg (cw 6 K), .agg (cw 6 1)] w fun r w' => r = .returned (.tuple #[.agg (cw 6 K'), .bool l2]) ∧ Below w.heap.size w w'))
    (h1 : IntKind.i64.wrap (x - st) = A1) (h2 : IntKind.i64.wrap (st - x) = A2) : Calls Tryz.prog 177 #[.int .u8 m, .agg (rg neg s x more), .int .i64 st] w fun r w' => r = .returned (.tuple #[.agg (rg neg K' st false), .bool ex]) ∧ Below w.heap.size w w' := by
  have hat := cw_at 6
  have hz := cw6z
  have hff := cw6f
  have hs0 := st0
  have hcs : ∀ x, ((cw 6 x).size = 6) = True := fun x => eq_true (cw_size 6 x)
  have hp1 := rgf
  have hp3 := rgz
  have hp4 := st_r0
  have hzi := cw_zip
  have hls := rg_sets
  have hp5 : ∀ (c : Bool) (s : Nat) (x : Int) (r : Bool), ((rg c s x r).size = 9) = True := fun _ _ _ _ => eq_true rfl
  obtain ⟨Al, Am, B0⟩ := opn2 w (Obj.cells (rg neg s x more) 114) (Obj.cells (rg false 0 0 false) 114)
  go_enter Tryz.func177, Tryz.ntmps177
  obtain ⟨AA, AB, AC, AD, AE, AF, AG, AH, AI⟩ := rg_cells Al
  obtain ⟨AJ, AK, AL, AM, AN, AO, AP, AQ, AR⟩ := rg_cells Am
  go_wp2_with fail
  refine (K1.out _).mono ?_
  rintro r w1 ⟨rfl, b1⟩
  have B1 : Below w.heap.size w w1 := btr B0 b1
  have Aa := heap_of b1 _ _ _ Al
  have Ab := heap_of b1 _ _ _ Am
  clear b1 B0 Al AA AB AC AD AE AF AG AH AI Am AJ AK AL AM AN AO AP AQ AR
  obtain ⟨AS, AT, AU, AV, AW, AX, AY, AZ, A0⟩ := rg_cells Aa
  obtain ⟨A3, A4, A5, A6, A7, A8, A9, Ba, Bb⟩ := rg_cells Ab
  have S2 := box B1.size
  have Ac := ltR Aa
  have Ad := ltR Ab
  have An := heap_alloc_last w1 (Obj.cells (cw 6 R) 71)
  have B2 := btr B1 (bal w1 (Obj.cells (cw 6 R) 71))
  have Ao := heap_of (bal w1 (Obj.cells (cw 6 R) 71)) _ _ _ Aa
  have Ap := heap_of (bal w1 (Obj.cells (cw 6 R) 71)) _ _ _ Ab
  clear B1 Aa AS AT AU AV AW AX AY AZ A0 Ab A3 A4 A5 A6 A7 A8 A9 Ba Bb
  obtain ⟨Bc, Bd, Be, Bf, Bg, Bh, Bi, Bj, Bk⟩ := rg_cells Ao
  obtain ⟨Bl, Bm, Bn, Bo, Bp, Bq, Br, Bs, Bt⟩ := rg_cells Ap
  have Bu := row_cell An
  go_wp2_with fail
  refine (K2.out _).mono ?_
  rintro r w3 ⟨rfl, b3⟩
  have B3 : Below w.heap.size w w3 := btr B2 b3
  have Ae := heap_of b3 _ _ _ Ao
  have Af := heap_of b3 _ _ _ Ap
  have Ag := heap_of b3 _ _ _ An
  clear b3 B2 Ao Bc Bd Be Bf Bg Bh Bi Bj Bk Ap Bl Bm Bn Bo Bp Bq Br Bs Bt An Bu
  obtain ⟨Bv, Bw, Bx, By, Bz, BA, BB, BC, BD⟩ := rg_cells Ae
  obtain ⟨BE, BF, BG, BH, BI, BJ, BK, BL, BM⟩ := rg_cells Af
  have BN := row_cell Ag
  have S4 := box B3.size
  have Ah := ltR Ae
  have Ai := ltR Af
  have Aj := ltR Ag
  have Aq := heap_alloc_last w3 (Obj.cells (cw 6 K) 71)
  have B4 := btr B3 (bal w3 (Obj.cells (cw 6 K) 71))
  have Ar := heap_of (bal w3 (Obj.cells (cw 6 K) 71)) _ _ _ Ae
  have As := heap_of (bal w3 (Obj.cells (cw 6 K) 71)) _ _ _ Af
  have Aw := heap_of (bal w3 (Obj.cells (cw 6 K) 71)) _ _ _ Ag
  clear B3 Ae Bv Bw Bx By Bz BA BB BC BD Af BE BF BG BH BI BJ BK BL BM Ag BN
  obtain ⟨BO, BP, BQ, BR, BS, BT, BU, BV, BW⟩ := rg_cells Ar
  obtain ⟨BX, BY, BZ, B7, B8, B9, Ca, Cb, Cc⟩ := rg_cells As
  have Cd := row_cell Aw
  have Ce := row_cell Aq
  clear Aw Cd
  have sS : Box (∀ W W1 : World, (Below w.heap.size w W ∧ W.heap[w.heap.size]? = some (.cells (rg neg s x more) 114) ∧ W.heap[w.heap.size + 1]? = some (.cells (rg false 0 0 false) 114) ∧ W.heap[w3.heap.size]? = some (.cells (cw 6 K) 71)) → Below W.heap.size W W1 → (Below w.heap.size w W1 ∧ W1.heap[w.heap.size]? = some (.cells (rg neg s x more) 114) ∧ W1.heap[w.heap.size + 1]? = some (.cells (rg false 0 0 false) 114) ∧ W1.heap[w3.heap.size]? = some (.cells (cw 6 K) 71))) := box (fun W W1 h b => ⟨btr h.1 b, heap_of b _ _ _ h.2.1, heap_of b _ _ _ h.2.2.1, heap_of b _ _ _ h.2.2.2⟩)
  have sC : Box (∀ W : World, (Below w.heap.size w W ∧ W.heap[w.heap.size]? = some (.cells (rg neg s x more) 114) ∧ W.heap[w.heap.size + 1]? = some (.cells (rg false 0 0 false) 114) ∧ W.heap[w3.heap.size]? = some (.cells (cw 6 K) 71)) → (Below w.heap.size w W ∧ W.heap[w.heap.size]? = some (.cells (rg neg s x more) 114) ∧ W.heap[w.heap.size + 1]? = some (.cells (rg false 0 0 false) 114) ∧ W.heap[w3.heap.size]? = some (.cells (cw 6 K) 71) ∧ W.cell? ⟨w.heap.size, 0, none⟩ = some (.bool neg) ∧ W.cell? ⟨w.heap.size, 1, none⟩ = some (.int .u64 (wd s 0)) ∧ W.cell? ⟨w.heap.size, 2, none⟩ = some (.int .u64 (wd s 1)) ∧ W.cell? ⟨w.heap.size, 3, none⟩ = some (.int .u64 (wd s 2)) ∧ W.cell? ⟨w.heap.size, 4, none⟩ = some (.int .u64 (wd s 3)) ∧ W.cell? ⟨w.heap.size, 5, none⟩ = some (.int .u64 (wd s 4)) ∧ W.cell? ⟨w.heap.size, 6, none⟩ = some (.int .u64 (wd s 5)) ∧ W.cell? ⟨w.heap.size, 7, none⟩ = some (.int .i64 x) ∧ W.cell? ⟨w.heap.size, 8, none⟩ = some (.bool more) ∧ W.cell? ⟨w3.heap.size, 0, none⟩ = some (.int .u64 (wd K 0)) ∧ W.cell? ⟨w3.heap.size, 1, none⟩ = some (.int .u64 (wd K 1)) ∧ W.cell? ⟨w3.heap.size, 2, none⟩ = some (.int .u64 (wd K 2)) ∧ W.cell? ⟨w3.heap.size, 3, none⟩ = some (.int .u64 (wd K 3)) ∧ W.cell? ⟨w3.heap.size, 4, none⟩ = some (.int .u64 (wd K 4)) ∧ W.cell? ⟨w3.heap.size, 5, none⟩ = some (.int .u64 (wd K 5)))) := box (fun W h => ⟨h.1, h.2.1, h.2.2.1, h.2.2.2, cell7 (h.2.1) 0 _ rfl, cell7 (h.2.1) 1 _ rfl, cell7 (h.2.1) 2 _ rfl, cell7 (h.2.1) 3 _ rfl, cell7 (h.2.1) 4 _ rfl, cell7 (h.2.1) 5 _ rfl, cell7 (h.2.1) 6 _ rfl, cell7 (h.2.1) 7 _ rfl, cell7 (h.2.1) 8 _ rfl, row_cell (h.2.2.2) 0 (by decide), row_cell (h.2.2.2) 1 (by decide), row_cell (h.2.2.2) 2 (by decide), row_cell (h.2.2.2) 3 (by decide), row_cell (h.2.2.2) 4 (by decide), row_cell (h.2.2.2) 5 (by decide)⟩)
  have s0 : Below w.heap.size w ((w3.alloc (Obj.cells (cw 6 K) 71))).drew ∧ ((w3.alloc (Obj.cells (cw 6 K) 71))).drew.heap[w.heap.size]? = some (.cells (rg neg s x more) 114) ∧ ((w3.alloc (Obj.cells (cw 6 K) 71))).drew.heap[w.heap.size + 1]? = some (.cells (rg false 0 0 false) 114) ∧ ((w3.alloc (Obj.cells (cw 6 K) 71))).drew.heap[w3.heap.size]? = some (.cells (cw 6 K) 71) := ⟨B4.drew, Ar, As, Aq⟩
  go_wp2_with fail
  go_region_held3 (fun W => Below w.heap.size w W ∧ W.heap[w.heap.size]? = some (.cells (rg neg s x more) 114) ∧ W.heap[w.heap.size + 1]? = some (.cells (rg false 0 0 false) 114) ∧ W.heap[w3.heap.size]? = some (.cells (cw 6 K) 71) ∧ W.cell? ⟨w.heap.size, 0, none⟩ = some (.bool neg) ∧ W.cell? ⟨w.heap.size, 1, none⟩ = some (.int .u64 (wd s 0)) ∧ W.cell? ⟨w.heap.size, 2, none⟩ = some (.int .u64 (wd s 1)) ∧ W.cell? ⟨w.heap.size, 3, none⟩ = some (.int .u64 (wd s 2)) ∧ W.cell? ⟨w.heap.size, 4, none⟩ = some (.int .u64 (wd s 3)) ∧ W.cell? ⟨w.heap.size, 5, none⟩ = some (.int .u64 (wd s 4)) ∧ W.cell? ⟨w.heap.size, 6, none⟩ = some (.int .u64 (wd s 5)) ∧ W.cell? ⟨w.heap.size, 7, none⟩ = some (.int .i64 x) ∧ W.cell? ⟨w.heap.size, 8, none⟩ = some (.bool more) ∧ W.cell? ⟨w3.heap.size, 0, none⟩ = some (.int .u64 (wd K 0)) ∧ W.cell? ⟨w3.heap.size, 1, none⟩ = some (.int .u64 (wd K 1)) ∧ W.cell? ⟨w3.heap.size, 2, none⟩ = some (.int .u64 (wd K 2)) ∧ W.cell? ⟨w3.heap.size, 3, none⟩ = some (.int .u64 (wd K 3)) ∧ W.cell? ⟨w3.heap.size, 4, none⟩ = some (.int .u64 (wd K 4)) ∧ W.cell? ⟨w3.heap.size, 5, none⟩ = some (.int .u64 (wd K 5))) (first | exact sC.out _ s1 | exact sC.out _ s0)
    (first | (go_at_call 264; refine (K3.out _).mono ?_; rintro r wq ⟨rfl, bq⟩; (first | have s1 := sS.out _ _ s1 bq | have s1 := sS.out _ _ s0 bq); clear bq) | (go_at_call 263; refine (K4.out _).mono ?_; rintro r wq ⟨rfl, bq⟩; (first | have s1 := sS.out _ _ s1 bq | have s1 := sS.out _ _ s0 bq); clear bq) | fail)
  have B5 := (And.left s1)
  have At := s1.2.1
  have Au := s1.2.2.1
  have Av := s1.2.2.2
  clear s0 s1 sS sC B4 Ar BO BP BQ BR BS BT BU BV BW As BX BY BZ B7 B8 B9 Ca Cb Cc Aq Ce
  obtain ⟨Cf, Cg, Ch, Ci, Cj, Ck, Cl, Cm, Cn⟩ := rg_cells At
  obtain ⟨Co, Cp, Cq, Cr, Cs, Ct, Cu, Cv, Cw⟩ := rg_cells Au
  have Cx := row_cell Av
  have qx : (wq).drew.heap[w.heap.size]? = some (.cells (rg neg s x more) 114) := At
  have qz : (wq).drew.heap[w.heap.size + 1]? = some (.cells (rg false 0 0 false) 114) := Au
  have qk : (wq).drew.heap[w3.heap.size]? = some (.cells (cw 6 K) 71) := Av
  have qB := B5.drew
  have qc := row_cell qk
  go_wp2_with fail
  go_region_with (first | (go_at_call 94; refine (K5.out _).mono ?_; rintro r wq ⟨rfl, bq⟩; have qx := heap_of bq _ _ _ qx; have qz := heap_of bq _ _ _ qz; have qk := heap_of bq _ _ _ qk; have qB := btr qB bq; have qc := row_cell qk; have hst := st_any wq (w3.heap.size) K' K qk; clear bq) | (go_at_call 247; refine (K6.out _).mono ?_; rintro r wq ⟨rfl, bq⟩; have qx := heap_of bq _ _ _ qx; have qz := heap_of bq _ _ _ qz; have qk := heap_of bq _ _ _ qk; have qB := btr qB bq; have qc := row_cell qk; have hst := st_any wq (w3.heap.size) K' K qk; clear bq) | fail)
  all_goals
    have Ax : (wq.setRow (w3.heap.size) (cw 6 K')).heap[w3.heap.size]? = some (.cells (cw 6 K') 71) := setRow_row qk
    have B6 : Below w.heap.size w (wq.setRow (w3.heap.size) (cw 6 K')) := bel_set qB (show w.heap.size ≤ w3.heap.size by first | exact Nat.le_refl _ | omega | (have := S2.out; have := Ac.out; have := Ad.out; have := S4.out; have := Ah.out; have := Ai.out; have := Aj.out; omega))
    have Ay : (wq.setRow (w3.heap.size) (cw 6 K')).heap[w.heap.size]? = some (.cells (rg neg s x more) 114) := (setRow_other (by first | omega | (have := S2.out; have := Ac.out; have := Ad.out; have := S4.out; have := Ah.out; have := Ai.out; have := Aj.out; omega))).trans qx
    have Ak : (wq.setRow (w3.heap.size) (cw 6 K')).heap[w.heap.size + 1]? = some (.cells (rg false 0 0 false) 114) := (setRow_other (by first | omega | (have := S2.out; have := Ac.out; have := Ad.out; have := S4.out; have := Ah.out; have := Ai.out; have := Aj.out; omega))).trans qz
    obtain ⟨w6, Az⟩ : ∃ V, (wq.setRow (w3.heap.size) (cw 6 K')) = V := ⟨_, rfl⟩
    rw [Az] at B6 Ay Ak Ax ⊢
    clear Az qB qc hst qx qz qk B5 At Cf Cg Ch Ci Cj Ck Cl Cm Cn Au Co Cp Cq Cr Cs Ct Cu Cv Cw Av Cx
    obtain ⟨Cy, Cz, CA, CB, CC, CD, CE, CF, CG⟩ := rg_cells Ay
    obtain ⟨CH, CI, CJ, CK, CL, CM, CN, CO, CP⟩ := rg_cells Ak
    have CQ := row_cell Ax
    have hstz := st_r w6 (w.heap.size + 1) neg K' st false false 0 0 false Ak
    have RZ := setRow_row (c' := rg neg K' st false) Ak
    obtain ⟨dz0, dz1, dz2, dz3, dz4, dz5, dz6, dz7, dz8⟩ := rg_cells RZ
    have bz := bel_set (c := rg neg K' st false) B6 (show w.heap.size ≤ w.heap.size + 1 by first | exact Nat.le_refl _ | omega | (have := S2.out; have := Ac.out; have := Ad.out; have := S4.out; have := Ah.out; have := Ai.out; have := Aj.out; omega))
    go_wp2
    exact bodyPost_ret (v := .tuple #[.agg (rg neg K' st false), .bool ex]) (by simp [results, Tryz.results177, go_sem, dz0, dz1, dz2, dz3, dz4, dz5, dz6, dz7, dz8, rgf] <;> rfl) rfl ⟨rfl, bz⟩
end Go.Proofs.YtoaaajeblhaeoaaGreatDoor
