/-
  What the functions that the statement reaches return: part 20 (R14, R31).
-/
import Derived.Test.YtapikkbifdldfaaGreatDoorFa19
namespace Go.Proofs.YtapikkbifdldfaaGreatDoor
set_option maxRecDepth 100000
set_option maxHeartbeats 40000000
open Go.RowKit WMath
set_option linter.unusedSimpArgs false
set_option linter.unusedVariables false
theorem cw_zip (K : Nat) : (cw 6 K).zipIdx = #[(.int .u64 (wd K 0), 0), (.int .u64 (wd K 1), 1), (.int .u64 (wd K 2), 2), (.int .u64 (wd K 3), 3), (.int .u64 (wd K 4), 4), (.int .u64 (wd K 5), 5)] := by kernel_rfl
theorem rg_sets (neg : Bool) (K : Nat) (st : Int) : ((((((((rg false 0 0 false).toList.set 0 (.bool neg)).set 1 (.int .u64 (wd K 0))).set 2 (.int .u64 (wd K 1))).set 3 (.int .u64 (wd K 2))).set 4 (.int .u64 (wd K 3))).set 5 (.int .u64 (wd K 4))).set 6 (.int .u64 (wd K 5))).set 7 (.int .i64 st) = (rg neg K st false).toList := rfl
theorem ro_grid_no (m st : Int) (neg : Bool) (s : Nat) (x : Int) (more : Bool) (R K : Nat) (lo : Bool) (A1 A2 h : Int) (ex od : Bool) (w : World) (hQ : zR (R < Q ∧ K < Q))
  (K1 : zR (∀ w, Calls Tryz.prog 126 #[.agg (cw 6 s), .int .i64 A1] w fun r w' => r = .returned (.tuple #[.agg (cw 6 R), .bool lo]) ∧ Below w.heap.size w w'))
  (K2 : zR (∀ w, Calls Tryz.prog 134 #[.agg (cw 6 R), .int .i64 A2] w fun r w' => r = .returned (.tuple #[.agg (cw 6 K), .int .i64 h, .bool ex]) ∧ Below w.heap.size w w'))
  (K3 : zR (∀ w, Calls Tryz.prog 135 #[.agg (cw 6 K), .int .i64 0] w fun r w' => r = .returned (.bool od) ∧ Below w.heap.size w w'))
  (K4 : zR (∀ w, Calls Tryz.prog 133 #[.int .u8 m, .bool neg, .bool od, .int .i64 h, .bool ex] w fun r w' => r = .returned (.bool false) ∧ Below w.heap.size w w'))
  (h1 : IntKind.i64.wrap (x - st) = A1) (h2 : IntKind.i64.wrap (st - x) = A2) : Calls Tryz.prog 80 #[.int .u8 m, .agg (rg neg s x more), .int .i64 st] w fun r w' => r = .returned (.tuple #[.agg (rg neg K st false), .bool ex]) ∧ Below w.heap.size w w' := by
 have hat := yD 6
 have hz := yZ
 have hff := yY
 have hs0 := q8
 have hcs : ∀ x, ((cw 6 x).size = 6) = True := fun x => eq_true (z7 6 x)
 have hp1 := rgf
 have hp3 := rgz
 have hp4 := st_r0
 have hzi := cw_zip
 have hls := rg_sets
 have hp5 : ∀ (c : Bool) (s : Nat) (x : Int) (r : Bool), ((rg c s x r).size = 9) = True := fun _ _ _ _ => eq_true rfl
 obtain ⟨Af, Ag, B0⟩ := x9 w (Obj.cells (rg neg s x more) 62) (Obj.cells (rg false 0 0 false) 62)
 go_enter Tryz.func80, Tryz.ntmps80
 obtain ⟨Ap, Aq, Ar, As, At, Au, Av, Aw, Ax⟩ := zL Af
 obtain ⟨Ay, Az, AA, AB, AC, AD, AE, AF, AG⟩ := zL Ag
 go_wp2_with fail
 refine (K1.out _).mono ?_
 rintro r w1 ⟨rfl, b1⟩
 have B1 := zW B0 b1
 obtain ⟨Aa, Ab⟩ := z6 b1 Af Ag
 clear b1 B0 Af Ap Aq Ar As At Au Av Aw Ax Ag Ay Az AA AB AC AD AE AF AG
 obtain ⟨AH, AI, AJ, AK, AL, AM, AN, AO, AP⟩ := zL Aa
 obtain ⟨AQ, AR, AS, AT, AU, AV, AW, AX, AY⟩ := zL Ab
 have S2 := zK B1.size
 have AZ := yC Aa
 have A0 := yC Ab
 have Ah := heap_alloc_last w1 (Obj.cells (cw 6 R) 52)
 have B2 := zW B1 (yQ w1 (Obj.cells (cw 6 R) 52))
 obtain ⟨Ai, Aj⟩ := z6 (yQ w1 (Obj.cells (cw 6 R) 52)) Aa Ab
 clear B1 Aa AH AI AJ AK AL AM AN AO AP Ab AQ AR AS AT AU AV AW AX AY
 obtain ⟨A3, A4, A5, A6, A7, A8, A9, Ba, Bb⟩ := zL Ai
 obtain ⟨Bc, Bd, Be, Bf, Bg, Bh, Bi, Bj, Bk⟩ := zL Aj
 have Bl := zF Ah
 go_wp2_with fail
 refine (K2.out _).mono ?_
 rintro r w3 ⟨rfl, b3⟩
 have B3 := zW B2 b3
 obtain ⟨Ac, Ad, Ae⟩ := yI b3 Ai Aj Ah
 clear b3 B2 Ai A3 A4 A5 A6 A7 A8 A9 Ba Bb Aj Bc Bd Be Bf Bg Bh Bi Bj Bk Ah Bl
 obtain ⟨Bm, Bn, Bo, Bp, Bq, Br, Bs, Bt, Bu⟩ := zL Ac
 obtain ⟨Bv, Bw, Bx, By, Bz, BA, BB, BC, BD⟩ := zL Ad
 have BE := zF Ae
 have S4 := zK B3.size
 have BF := yC Ac
 have BG := yC Ad
 have BH := yC Ae
 have Ak := heap_alloc_last w3 (Obj.cells (cw 6 K) 52)
 have B4 := zW B3 (yQ w3 (Obj.cells (cw 6 K) 52))
 obtain ⟨Al, Am, Ao⟩ := yI (yQ w3 (Obj.cells (cw 6 K) 52)) Ac Ad Ae
 clear B3 Ac Bm Bn Bo Bp Bq Br Bs Bt Bu Ad Bv Bw Bx By Bz BA BB BC BD Ae BE
 obtain ⟨BI, BJ, BK, BL, BM, BN, BO, BP, BQ⟩ := zL Al
 obtain ⟨BR, BS, BT, BU, BV, BW, BX, BY, BZ⟩ := zL Am
 have B6 := zF Ao
 have B7 := zF Ak
 clear Ao B6
 have sS : zR (∀ W W1 : World, (Below w.heap.size w W ∧ W.heap[w.heap.size]? = some (.cells (rg neg s x more) 62) ∧ W.heap[w.heap.size + 1]? = some (.cells (rg false 0 0 false) 62) ∧ W.heap[w3.heap.size]? = some (.cells (cw 6 K) 52)) → Below W.heap.size W W1 → (Below w.heap.size w W1 ∧ W1.heap[w.heap.size]? = some (.cells (rg neg s x more) 62) ∧ W1.heap[w.heap.size + 1]? = some (.cells (rg false 0 0 false) 62) ∧ W1.heap[w3.heap.size]? = some (.cells (cw 6 K) 52))) := zK (fun W W1 h b => ⟨zW h.1 b, zA b _ _ _ h.2.1, zA b _ _ _ h.2.2.1, zA b _ _ _ h.2.2.2⟩)
 have sC : zR (∀ W : World, (Below w.heap.size w W ∧ W.heap[w.heap.size]? = some (.cells (rg neg s x more) 62) ∧ W.heap[w.heap.size + 1]? = some (.cells (rg false 0 0 false) 62) ∧ W.heap[w3.heap.size]? = some (.cells (cw 6 K) 52)) → (Below w.heap.size w W ∧ W.heap[w.heap.size]? = some (.cells (rg neg s x more) 62) ∧ W.heap[w.heap.size + 1]? = some (.cells (rg false 0 0 false) 62) ∧ W.heap[w3.heap.size]? = some (.cells (cw 6 K) 52) ∧ W.cell? ⟨w.heap.size, 0, none⟩ = some (.bool neg) ∧ W.cell? ⟨w.heap.size, 1, none⟩ = some (.int .u64 (wd s 0)) ∧ W.cell? ⟨w.heap.size, 2, none⟩ = some (.int .u64 (wd s 1)) ∧ W.cell? ⟨w.heap.size, 3, none⟩ = some (.int .u64 (wd s 2)) ∧ W.cell? ⟨w.heap.size, 4, none⟩ = some (.int .u64 (wd s 3)) ∧ W.cell? ⟨w.heap.size, 5, none⟩ = some (.int .u64 (wd s 4)) ∧ W.cell? ⟨w.heap.size, 6, none⟩ = some (.int .u64 (wd s 5)) ∧ W.cell? ⟨w.heap.size, 7, none⟩ = some (.int .i64 x) ∧ W.cell? ⟨w.heap.size, 8, none⟩ = some (.bool more) ∧ W.cell? ⟨w3.heap.size, 0, none⟩ = some (.int .u64 (wd K 0)) ∧ W.cell? ⟨w3.heap.size, 1, none⟩ = some (.int .u64 (wd K 1)) ∧ W.cell? ⟨w3.heap.size, 2, none⟩ = some (.int .u64 (wd K 2)) ∧ W.cell? ⟨w3.heap.size, 3, none⟩ = some (.int .u64 (wd K 3)) ∧ W.cell? ⟨w3.heap.size, 4, none⟩ = some (.int .u64 (wd K 4)) ∧ W.cell? ⟨w3.heap.size, 5, none⟩ = some (.int .u64 (wd K 5)))) := zK (fun W h => ⟨h.1, h.2.1, h.2.2.1, h.2.2.2, zJ (h.2.1) 0 _ rfl, zJ (h.2.1) 1 _ rfl, zJ (h.2.1) 2 _ rfl, zJ (h.2.1) 3 _ rfl, zJ (h.2.1) 4 _ rfl, zJ (h.2.1) 5 _ rfl, zJ (h.2.1) 6 _ rfl, zJ (h.2.1) 7 _ rfl, zJ (h.2.1) 8 _ rfl, zF (h.2.2.2) 0 (by decide), zF (h.2.2.2) 1 (by decide), zF (h.2.2.2) 2 (by decide), zF (h.2.2.2) 3 (by decide), zF (h.2.2.2) 4 (by decide), zF (h.2.2.2) 5 (by decide)⟩)
 have s0 : Below w.heap.size w ((w3.alloc (Obj.cells (cw 6 K) 52))).drew ∧ ((w3.alloc (Obj.cells (cw 6 K) 52))).drew.heap[w.heap.size]? = some (.cells (rg neg s x more) 62) ∧ ((w3.alloc (Obj.cells (cw 6 K) 52))).drew.heap[w.heap.size + 1]? = some (.cells (rg false 0 0 false) 62) ∧ ((w3.alloc (Obj.cells (cw 6 K) 52))).drew.heap[w3.heap.size]? = some (.cells (cw 6 K) 52) := ⟨B4.drew, Al, Am, Ak⟩
 go_wp2_with fail
 go_region_held3 (fun W => Below w.heap.size w W ∧ W.heap[w.heap.size]? = some (.cells (rg neg s x more) 62) ∧ W.heap[w.heap.size + 1]? = some (.cells (rg false 0 0 false) 62) ∧ W.heap[w3.heap.size]? = some (.cells (cw 6 K) 52) ∧ W.cell? ⟨w.heap.size, 0, none⟩ = some (.bool neg) ∧ W.cell? ⟨w.heap.size, 1, none⟩ = some (.int .u64 (wd s 0)) ∧ W.cell? ⟨w.heap.size, 2, none⟩ = some (.int .u64 (wd s 1)) ∧ W.cell? ⟨w.heap.size, 3, none⟩ = some (.int .u64 (wd s 2)) ∧ W.cell? ⟨w.heap.size, 4, none⟩ = some (.int .u64 (wd s 3)) ∧ W.cell? ⟨w.heap.size, 5, none⟩ = some (.int .u64 (wd s 4)) ∧ W.cell? ⟨w.heap.size, 6, none⟩ = some (.int .u64 (wd s 5)) ∧ W.cell? ⟨w.heap.size, 7, none⟩ = some (.int .i64 x) ∧ W.cell? ⟨w.heap.size, 8, none⟩ = some (.bool more) ∧ W.cell? ⟨w3.heap.size, 0, none⟩ = some (.int .u64 (wd K 0)) ∧ W.cell? ⟨w3.heap.size, 1, none⟩ = some (.int .u64 (wd K 1)) ∧ W.cell? ⟨w3.heap.size, 2, none⟩ = some (.int .u64 (wd K 2)) ∧ W.cell? ⟨w3.heap.size, 3, none⟩ = some (.int .u64 (wd K 3)) ∧ W.cell? ⟨w3.heap.size, 4, none⟩ = some (.int .u64 (wd K 4)) ∧ W.cell? ⟨w3.heap.size, 5, none⟩ = some (.int .u64 (wd K 5))) (first | exact sC.out _ s1 | exact sC.out _ s0)
  (((first | (go_at_call 135; refine (K3.out _).mono ?_) | (go_at_call 133; refine (K4.out _).mono ?_) | fail); rintro r wq ⟨rfl, bq⟩; (first | have s1 := sS.out _ _ s1 bq | have s1 := sS.out _ _ s0 bq); clear bq))
 have B5 := (And.left s1)
 have B8 := s1.2.1
 have An := s1.2.2.1
 have B9 := s1.2.2.2
 clear s0 s1 sS sC B4 Al BI BJ BK BL BM BN BO BP BQ Am BR BS BT BU BV BW BX BY BZ Ak B7
 obtain ⟨Ca, Cb, Cc, Cd, Ce, Cf, Cg, Ch, Ci⟩ := zL B8
 obtain ⟨Cj, Ck, Cl, Cm, Cn, Co, Cp, Cq, Cr⟩ := zL An
 have Cs := zF B9
 have hstz := st_r wq (w.heap.size + 1) neg K st false false 0 0 false An
 have RZ := zU (c' := rg neg K st false) An
 obtain ⟨dz0, dz1, dz2, dz3, dz4, dz5, dz6, dz7, dz8⟩ := zL RZ
 have bz := z9 (c := rg neg K st false) B5 (show w.heap.size ≤ w.heap.size + 1 by first | exact Nat.le_refl _ | omega | (have := S2.out; have := AZ.out; have := A0.out; have := S4.out; have := BF.out; have := BG.out; have := BH.out; omega))
 go_wp2
 exact bodyPost_ret (v := .tuple #[.agg (rg neg K st false), .bool ex]) (by simp [results, Tryz.results80, go_sem, dz0, dz1, dz2, dz3, dz4, dz5, dz6, dz7, dz8, rgf] <;> rfl) rfl ⟨rfl, bz⟩
theorem ro_grid_up (m st : Int) (neg : Bool) (s : Nat) (x : Int) (more : Bool) (R K K' : Nat) (lo l2 : Bool) (A1 A2 h : Int) (ex od : Bool) (w : World)
  (K1 : zR (∀ w, Calls Tryz.prog 126 #[.agg (cw 6 s), .int .i64 A1] w fun r w' => r = .returned (.tuple #[.agg (cw 6 R), .bool lo]) ∧ Below w.heap.size w w'))
  (K2 : zR (∀ w, Calls Tryz.prog 134 #[.agg (cw 6 R), .int .i64 A2] w fun r w' => r = .returned (.tuple #[.agg (cw 6 K), .int .i64 h, .bool ex]) ∧ Below w.heap.size w w'))
  (K3 : zR (∀ w, Calls Tryz.prog 135 #[.agg (cw 6 K), .int .i64 0] w fun r w' => r = .returned (.bool od) ∧ Below w.heap.size w w'))
  (K4 : zR (∀ w, Calls Tryz.prog 133 #[.int .u8 m, .bool neg, .bool od, .int .i64 h, .bool ex] w fun r w' => r = .returned (.bool true) ∧ Below w.heap.size w w'))
  (K5 : zR (∀ w, Calls Tryz.prog 127 #[.int .u64 1] w fun r w' => r = .returned (.agg (cw 6 1)) ∧ Below w.heap.size w w'))
  (K6 : zR (∀ w, Calls Tryz.prog 136 #[.agg (cw 6 K), .agg (cw 6 1)] w fun r w' => r = .returned (.tuple #[.agg (cw 6 K'), .bool l2]) ∧ Below w.heap.size w w'))
  (h1 : IntKind.i64.wrap (x - st) = A1) (h2 : IntKind.i64.wrap (st - x) = A2) : Calls Tryz.prog 80 #[.int .u8 m, .agg (rg neg s x more), .int .i64 st] w fun r w' => r = .returned (.tuple #[.agg (rg neg K' st false), .bool ex]) ∧ Below w.heap.size w w' := by
 have hat := yD 6
 have hz := yZ
 have hff := yY
 have hs0 := q8
 have hcs : ∀ x, ((cw 6 x).size = 6) = True := fun x => eq_true (z7 6 x)
 have hp1 := rgf
 have hp3 := rgz
 have hp4 := st_r0
 have hzi := cw_zip
 have hls := rg_sets
 have hp5 : ∀ (c : Bool) (s : Nat) (x : Int) (r : Bool), ((rg c s x r).size = 9) = True := fun _ _ _ _ => eq_true rfl
 obtain ⟨Al, Am, B0⟩ := x9 w (Obj.cells (rg neg s x more) 62) (Obj.cells (rg false 0 0 false) 62)
 go_enter Tryz.func80, Tryz.ntmps80
 obtain ⟨AA, AB, AC, AD, AE, AF, AG, AH, AI⟩ := zL Al
 obtain ⟨AJ, AK, AL, AM, AN, AO, AP, AQ, AR⟩ := zL Am
 go_wp2_with fail
 refine (K1.out _).mono ?_
 rintro r w1 ⟨rfl, b1⟩
 have B1 := zW B0 b1
 obtain ⟨Aa, Ab⟩ := z6 b1 Al Am
 clear b1 B0 Al AA AB AC AD AE AF AG AH AI Am AJ AK AL AM AN AO AP AQ AR
 obtain ⟨AS, AT, AU, AV, AW, AX, AY, AZ, A0⟩ := zL Aa
 obtain ⟨A3, A4, A5, A6, A7, A8, A9, Ba, Bb⟩ := zL Ab
 have S2 := zK B1.size
 have Ac := yC Aa
 have Ad := yC Ab
 have An := heap_alloc_last w1 (Obj.cells (cw 6 R) 52)
 have B2 := zW B1 (yQ w1 (Obj.cells (cw 6 R) 52))
 obtain ⟨Ao, Ap⟩ := z6 (yQ w1 (Obj.cells (cw 6 R) 52)) Aa Ab
 clear B1 Aa AS AT AU AV AW AX AY AZ A0 Ab A3 A4 A5 A6 A7 A8 A9 Ba Bb
 obtain ⟨Bc, Bd, Be, Bf, Bg, Bh, Bi, Bj, Bk⟩ := zL Ao
 obtain ⟨Bl, Bm, Bn, Bo, Bp, Bq, Br, Bs, Bt⟩ := zL Ap
 have Bu := zF An
 go_wp2_with fail
 refine (K2.out _).mono ?_
 rintro r w3 ⟨rfl, b3⟩
 have B3 := zW B2 b3
 obtain ⟨Ae, Af, Ag⟩ := yI b3 Ao Ap An
 clear b3 B2 Ao Bc Bd Be Bf Bg Bh Bi Bj Bk Ap Bl Bm Bn Bo Bp Bq Br Bs Bt An Bu
 obtain ⟨Bv, Bw, Bx, By, Bz, BA, BB, BC, BD⟩ := zL Ae
 obtain ⟨BE, BF, BG, BH, BI, BJ, BK, BL, BM⟩ := zL Af
 have BN := zF Ag
 have S4 := zK B3.size
 have Ah := yC Ae
 have Ai := yC Af
 have Aj := yC Ag
 have Aq := heap_alloc_last w3 (Obj.cells (cw 6 K) 52)
 have B4 := zW B3 (yQ w3 (Obj.cells (cw 6 K) 52))
 obtain ⟨Ar, As, Aw⟩ := yI (yQ w3 (Obj.cells (cw 6 K) 52)) Ae Af Ag
 clear B3 Ae Bv Bw Bx By Bz BA BB BC BD Af BE BF BG BH BI BJ BK BL BM Ag BN
 obtain ⟨BO, BP, BQ, BR, BS, BT, BU, BV, BW⟩ := zL Ar
 obtain ⟨BX, BY, BZ, B7, B8, B9, Ca, Cb, Cc⟩ := zL As
 have Cd := zF Aw
 have Ce := zF Aq
 clear Aw Cd
 have sS : zR (∀ W W1 : World, (Below w.heap.size w W ∧ W.heap[w.heap.size]? = some (.cells (rg neg s x more) 62) ∧ W.heap[w.heap.size + 1]? = some (.cells (rg false 0 0 false) 62) ∧ W.heap[w3.heap.size]? = some (.cells (cw 6 K) 52)) → Below W.heap.size W W1 → (Below w.heap.size w W1 ∧ W1.heap[w.heap.size]? = some (.cells (rg neg s x more) 62) ∧ W1.heap[w.heap.size + 1]? = some (.cells (rg false 0 0 false) 62) ∧ W1.heap[w3.heap.size]? = some (.cells (cw 6 K) 52))) := zK (fun W W1 h b => ⟨zW h.1 b, zA b _ _ _ h.2.1, zA b _ _ _ h.2.2.1, zA b _ _ _ h.2.2.2⟩)
 have sC : zR (∀ W : World, (Below w.heap.size w W ∧ W.heap[w.heap.size]? = some (.cells (rg neg s x more) 62) ∧ W.heap[w.heap.size + 1]? = some (.cells (rg false 0 0 false) 62) ∧ W.heap[w3.heap.size]? = some (.cells (cw 6 K) 52)) → (Below w.heap.size w W ∧ W.heap[w.heap.size]? = some (.cells (rg neg s x more) 62) ∧ W.heap[w.heap.size + 1]? = some (.cells (rg false 0 0 false) 62) ∧ W.heap[w3.heap.size]? = some (.cells (cw 6 K) 52) ∧ W.cell? ⟨w.heap.size, 0, none⟩ = some (.bool neg) ∧ W.cell? ⟨w.heap.size, 1, none⟩ = some (.int .u64 (wd s 0)) ∧ W.cell? ⟨w.heap.size, 2, none⟩ = some (.int .u64 (wd s 1)) ∧ W.cell? ⟨w.heap.size, 3, none⟩ = some (.int .u64 (wd s 2)) ∧ W.cell? ⟨w.heap.size, 4, none⟩ = some (.int .u64 (wd s 3)) ∧ W.cell? ⟨w.heap.size, 5, none⟩ = some (.int .u64 (wd s 4)) ∧ W.cell? ⟨w.heap.size, 6, none⟩ = some (.int .u64 (wd s 5)) ∧ W.cell? ⟨w.heap.size, 7, none⟩ = some (.int .i64 x) ∧ W.cell? ⟨w.heap.size, 8, none⟩ = some (.bool more) ∧ W.cell? ⟨w3.heap.size, 0, none⟩ = some (.int .u64 (wd K 0)) ∧ W.cell? ⟨w3.heap.size, 1, none⟩ = some (.int .u64 (wd K 1)) ∧ W.cell? ⟨w3.heap.size, 2, none⟩ = some (.int .u64 (wd K 2)) ∧ W.cell? ⟨w3.heap.size, 3, none⟩ = some (.int .u64 (wd K 3)) ∧ W.cell? ⟨w3.heap.size, 4, none⟩ = some (.int .u64 (wd K 4)) ∧ W.cell? ⟨w3.heap.size, 5, none⟩ = some (.int .u64 (wd K 5)))) := zK (fun W h => ⟨h.1, h.2.1, h.2.2.1, h.2.2.2, zJ (h.2.1) 0 _ rfl, zJ (h.2.1) 1 _ rfl, zJ (h.2.1) 2 _ rfl, zJ (h.2.1) 3 _ rfl, zJ (h.2.1) 4 _ rfl, zJ (h.2.1) 5 _ rfl, zJ (h.2.1) 6 _ rfl, zJ (h.2.1) 7 _ rfl, zJ (h.2.1) 8 _ rfl, zF (h.2.2.2) 0 (by decide), zF (h.2.2.2) 1 (by decide), zF (h.2.2.2) 2 (by decide), zF (h.2.2.2) 3 (by decide), zF (h.2.2.2) 4 (by decide), zF (h.2.2.2) 5 (by decide)⟩)
 have s0 : Below w.heap.size w ((w3.alloc (Obj.cells (cw 6 K) 52))).drew ∧ ((w3.alloc (Obj.cells (cw 6 K) 52))).drew.heap[w.heap.size]? = some (.cells (rg neg s x more) 62) ∧ ((w3.alloc (Obj.cells (cw 6 K) 52))).drew.heap[w.heap.size + 1]? = some (.cells (rg false 0 0 false) 62) ∧ ((w3.alloc (Obj.cells (cw 6 K) 52))).drew.heap[w3.heap.size]? = some (.cells (cw 6 K) 52) := ⟨B4.drew, Ar, As, Aq⟩
 go_wp2_with fail
 go_region_held3 (fun W => Below w.heap.size w W ∧ W.heap[w.heap.size]? = some (.cells (rg neg s x more) 62) ∧ W.heap[w.heap.size + 1]? = some (.cells (rg false 0 0 false) 62) ∧ W.heap[w3.heap.size]? = some (.cells (cw 6 K) 52) ∧ W.cell? ⟨w.heap.size, 0, none⟩ = some (.bool neg) ∧ W.cell? ⟨w.heap.size, 1, none⟩ = some (.int .u64 (wd s 0)) ∧ W.cell? ⟨w.heap.size, 2, none⟩ = some (.int .u64 (wd s 1)) ∧ W.cell? ⟨w.heap.size, 3, none⟩ = some (.int .u64 (wd s 2)) ∧ W.cell? ⟨w.heap.size, 4, none⟩ = some (.int .u64 (wd s 3)) ∧ W.cell? ⟨w.heap.size, 5, none⟩ = some (.int .u64 (wd s 4)) ∧ W.cell? ⟨w.heap.size, 6, none⟩ = some (.int .u64 (wd s 5)) ∧ W.cell? ⟨w.heap.size, 7, none⟩ = some (.int .i64 x) ∧ W.cell? ⟨w.heap.size, 8, none⟩ = some (.bool more) ∧ W.cell? ⟨w3.heap.size, 0, none⟩ = some (.int .u64 (wd K 0)) ∧ W.cell? ⟨w3.heap.size, 1, none⟩ = some (.int .u64 (wd K 1)) ∧ W.cell? ⟨w3.heap.size, 2, none⟩ = some (.int .u64 (wd K 2)) ∧ W.cell? ⟨w3.heap.size, 3, none⟩ = some (.int .u64 (wd K 3)) ∧ W.cell? ⟨w3.heap.size, 4, none⟩ = some (.int .u64 (wd K 4)) ∧ W.cell? ⟨w3.heap.size, 5, none⟩ = some (.int .u64 (wd K 5))) (first | exact sC.out _ s1 | exact sC.out _ s0)
  (((first | (go_at_call 135; refine (K3.out _).mono ?_) | (go_at_call 133; refine (K4.out _).mono ?_) | fail); rintro r wq ⟨rfl, bq⟩; (first | have s1 := sS.out _ _ s1 bq | have s1 := sS.out _ _ s0 bq); clear bq))
 have B5 := (And.left s1)
 have At := s1.2.1
 have Au := s1.2.2.1
 have Av := s1.2.2.2
 clear s0 s1 sS sC B4 Ar BO BP BQ BR BS BT BU BV BW As BX BY BZ B7 B8 B9 Ca Cb Cc Aq Ce
 obtain ⟨Cf, Cg, Ch, Ci, Cj, Ck, Cl, Cm, Cn⟩ := zL At
 obtain ⟨Co, Cp, Cq, Cr, Cs, Ct, Cu, Cv, Cw⟩ := zL Au
 have Cx := zF Av
 have qx : (wq).drew.heap[w.heap.size]? = some (.cells (rg neg s x more) 62) := At
 have qz : (wq).drew.heap[w.heap.size + 1]? = some (.cells (rg false 0 0 false) 62) := Au
 have qk : (wq).drew.heap[w3.heap.size]? = some (.cells (cw 6 K) 52) := Av
 have qB := B5.drew
 have qc := zF qk
 go_wp2_with fail
 go_region_with (((first | (go_at_call 127; refine (K5.out _).mono ?_) | (go_at_call 136; refine (K6.out _).mono ?_) | fail); rintro r wq ⟨rfl, bq⟩; have qx := zA bq _ _ _ qx; have qz := zA bq _ _ _ qz; have qk := zA bq _ _ _ qk; have qB := zW qB bq; have qc := zF qk; have hst := xE wq (w3.heap.size) K' K qk; clear bq))
 all_goals
  have Ax : (wq.setRow (w3.heap.size) (cw 6 K')).heap[w3.heap.size]? = some (.cells (cw 6 K') 52) := zU qk
  have B6 : Below w.heap.size w (wq.setRow (w3.heap.size) (cw 6 K')) := z9 qB (show w.heap.size ≤ w3.heap.size by first | exact Nat.le_refl _ | omega | (have := S2.out; have := Ac.out; have := Ad.out; have := S4.out; have := Ah.out; have := Ai.out; have := Aj.out; omega))
  have Ay : (wq.setRow (w3.heap.size) (cw 6 K')).heap[w.heap.size]? = some (.cells (rg neg s x more) 62) := (zI (by first | omega | (have := S2.out; have := Ac.out; have := Ad.out; have := S4.out; have := Ah.out; have := Ai.out; have := Aj.out; omega))).trans qx
  have Ak : (wq.setRow (w3.heap.size) (cw 6 K')).heap[w.heap.size + 1]? = some (.cells (rg false 0 0 false) 62) := (zI (by first | omega | (have := S2.out; have := Ac.out; have := Ad.out; have := S4.out; have := Ah.out; have := Ai.out; have := Aj.out; omega))).trans qz
  obtain ⟨w6, Az⟩ : ∃ V, (wq.setRow (w3.heap.size) (cw 6 K')) = V := ⟨_, rfl⟩
  rw [Az] at B6 Ay Ak Ax ⊢
  clear Az qB qc hst qx qz qk B5 At Cf Cg Ch Ci Cj Ck Cl Cm Cn Au Co Cp Cq Cr Cs Ct Cu Cv Cw Av Cx
  obtain ⟨Cy, Cz, CA, CB, CC, CD, CE, CF, CG⟩ := zL Ay
  obtain ⟨CH, CI, CJ, CK, CL, CM, CN, CO, CP⟩ := zL Ak
  have CQ := zF Ax
  have hstz := st_r w6 (w.heap.size + 1) neg K' st false false 0 0 false Ak
  have RZ := zU (c' := rg neg K' st false) Ak
  obtain ⟨dz0, dz1, dz2, dz3, dz4, dz5, dz6, dz7, dz8⟩ := zL RZ
  have bz := z9 (c := rg neg K' st false) B6 (show w.heap.size ≤ w.heap.size + 1 by first | exact Nat.le_refl _ | omega | (have := S2.out; have := Ac.out; have := Ad.out; have := S4.out; have := Ah.out; have := Ai.out; have := Aj.out; omega))
  go_wp2
  exact bodyPost_ret (v := .tuple #[.agg (rg neg K' st false), .bool ex]) (by simp [results, Tryz.results80, go_sem, dz0, dz1, dz2, dz3, dz4, dz5, dz6, dz7, dz8, rgf] <;> rfl) rfl ⟨rfl, bz⟩
theorem gen_round_encoding_8 {X : Act → World → Prop} {R : World → Nat → Prop} {t0 t1 t2 t3 t4 t5 t6 t7 t9 t10 t11 t12 t13 t14 t15 t16 t17 t18 t19 t20 t21 t22 t23 t24 t25 t26 t27 t28 t29 t30 t31 t32 t33 t34 t35 t36 t37 t38 t39 t40 t41 t42 t43 t44 t45 t46 : Value} {d : List Deferred} {W : World} {G : Nat}
  (key : ∀ w5 g, R w5 g → X ⟨#[t0, t1, t2, t3, t4, t5, t6, t7, .pointer (some ⟨g, 0, none⟩), t9, t10, t11, t12, t13, t14, t15, t16, t17, t18, t19, t20, t21, t22, t23, t24, t25, t26, t27, t28, t29, t30, t31, t32, t33, t34, t35, t36, t37, t38, t39, t40, t41, t42, t43, t44, t45, t46], d⟩ w5) (r : R W G) : X ⟨#[t0, t1, t2, t3, t4, t5, t6, t7, .pointer (some ⟨G, 0, none⟩), t9, t10, t11, t12, t13, t14, t15, t16, t17, t18, t19, t20, t21, t22, t23, t24, t25, t26, t27, t28, t29, t30, t31, t32, t33, t34, t35, t36, t37, t38, t39, t40, t41, t42, t43, t44, t45, t46], d⟩ W := key W G r

theorem rg_set2 (neg : Bool) (s t : Nat) (x : Int) (more : Bool) (h : ∀ k, k ≠ 1 → k < 6 → wd t k = wd s k) : (rg neg s x more).setIfInBounds 2 (.int .u64 (wd t 1)) = rg neg t x more := by
 have h0 := h 0 (by decide) (by decide)
 have h2 := h 2 (by decide) (by decide)
 have h3 := h 3 (by decide) (by decide)
 have h4 := h 4 (by decide) (by decide)
 have h5 := h 5 (by decide) (by decide)
 unfold rg
 rw [h0, h2, h3, h4, h5]
 rfl
theorem ro_encv (f p q : Int) (s : Nat) (Ah : IntKind.i64.wrap (p - 1) = q) (hq2 : Int.tdiv q 64 = 0) (hq3 : Int.tmod q 64 = (s : Int)) (hq4 : decide (q = -9223372036854775808) = false) (neg : Bool) (K K' S : Nat) (x I st A1 F G : Int) (u v zu zv O : Nat) (ob : Bool) (w : World)
  (KP : zR (∀ w, yN w → Calls Tryz.prog 121 #[.int .u8 f] w fun r w' => r = .returned (.int .i64 p) ∧ Below w.heap.size w w'))
  (KI : zR (∀ w, yN w → Calls Tryz.prog 83 #[.int .u8 f] w fun r w' => r = .returned (.int .i64 I) ∧ Below w.heap.size w w'))
  (KS : zR (∀ w, yN w → Calls Tryz.prog 81 #[.int .u8 f, .int .i64 I] w fun r w' => r = .returned (.int .i64 st) ∧ Below w.heap.size w w'))
  (h1 : IntKind.i64.wrap (x - st) = A1) (h2 : IntKind.u64.wrap A1 = F) (h3 : IntKind.u64.wrap (F * 2 ^ min s 64) = G) (h4 : IntKind.u64.wrap (((wd K 0 : Nat) : Int) + G) = ((wd K' 0 : Nat) : Int))
  (hk : zR (∀ k, 0 < k → k < 6 → wd K' k = wd K k))
  (KZ : zR (∀ w, yN w → Calls Tryz.prog 21 #[.int .u8 f, .bool neg] w fun r w' => r = .returned (.agg #[.int .u64 zu, .int .u64 zv]) ∧ Below w.heap.size w w'))
  (KB : zR (∀ w, Calls Tryz.prog 72 #[.agg #[.int .u64 zu, .int .u64 zv]] w fun r w' => r = .returned (.agg (cw 6 S)) ∧ Below w.heap.size w w'))
  (KO : zR (∀ w, Calls Tryz.prog 75 #[.agg (cw 6 K'), .agg (cw 6 S)] w fun r w' => r = .returned (.agg (cw 6 O)) ∧ Below w.heap.size w w'))
  (KT : zR (∀ w, Calls Tryz.prog 74 #[.agg (cw 6 O)] w fun r w' => r = .returned (.tuple #[.agg #[.int .u64 u, .int .u64 v], .bool ob]) ∧ Below w.heap.size w w')) (hT : yN w) : Calls Tryz.prog 85 #[.int .u8 f, .agg (rg neg K x false)] w fun r w' => r = .returned (.agg #[.int .u64 u, .int .u64 v]) ∧ Below w.heap.size w w' := by
 have FF := zK hT
 clear hT
 have hat := yD 6
 have hz := yZ
 have hff := yY
 have hs0 := q8
 have hcs : ∀ x, ((cw 6 x).size = 6) = True := fun x => eq_true (z7 6 x)
 have hp1 := rgf
 have hp5 : ∀ (c : Bool) (s : Nat) (x : Int) (r : Bool), ((rg c s x r).size = 9) = True := fun _ _ _ _ => eq_true rfl
 obtain ⟨An, Ao, B0⟩ := x9 w (Obj.cells (rg neg K x false) 62) (Obj.cells #[.int .u64 0, .int .u64 0] 26)
 go_enter Tryz.func85, Tryz.ntmps85
 go_wp2_with fail
 refine (KP.out _ (z8 FF.out B0)).mono ?_
 rintro r w1 ⟨rfl, b1⟩
 have B1 := zW B0 b1
 obtain ⟨Aa, Ab⟩ := z6 b1 An Ao
 clear b1 B0 An Ao
 obtain ⟨At, Au, Av, Aw, Ax, Ay, Az, AA, AB⟩ := zL Aa
 obtain ⟨AC, AD⟩ := zC Ab
 have sS : zR (∀ W W1 : World, (Below w.heap.size w W ∧ W.heap[w.heap.size]? = some (.cells (rg neg K x false) 62) ∧ W.heap[w.heap.size + 1]? = some (.cells #[.int .u64 0, .int .u64 0] 26) ∧ W.cell? ⟨w.heap.size, 0, none⟩ = some (.bool neg) ∧ W.cell? ⟨w.heap.size, 1, none⟩ = some (.int .u64 (wd K 0)) ∧ W.cell? ⟨w.heap.size, 2, none⟩ = some (.int .u64 (wd K 1)) ∧ W.cell? ⟨w.heap.size, 3, none⟩ = some (.int .u64 (wd K 2)) ∧ W.cell? ⟨w.heap.size, 4, none⟩ = some (.int .u64 (wd K 3)) ∧ W.cell? ⟨w.heap.size, 5, none⟩ = some (.int .u64 (wd K 4)) ∧ W.cell? ⟨w.heap.size, 6, none⟩ = some (.int .u64 (wd K 5)) ∧ W.cell? ⟨w.heap.size, 7, none⟩ = some (.int .i64 x) ∧ W.cell? ⟨w.heap.size, 8, none⟩ = some (.bool false) ∧ W.cell? ⟨w.heap.size + 1, 0, none⟩ = some (.int .u64 0) ∧ W.cell? ⟨w.heap.size + 1, 1, none⟩ = some (.int .u64 0)) → Below W.heap.size W W1 → (Below w.heap.size w W1 ∧ W1.heap[w.heap.size]? = some (.cells (rg neg K x false) 62) ∧ W1.heap[w.heap.size + 1]? = some (.cells #[.int .u64 0, .int .u64 0] 26) ∧ W1.cell? ⟨w.heap.size, 0, none⟩ = some (.bool neg) ∧ W1.cell? ⟨w.heap.size, 1, none⟩ = some (.int .u64 (wd K 0)) ∧ W1.cell? ⟨w.heap.size, 2, none⟩ = some (.int .u64 (wd K 1)) ∧ W1.cell? ⟨w.heap.size, 3, none⟩ = some (.int .u64 (wd K 2)) ∧ W1.cell? ⟨w.heap.size, 4, none⟩ = some (.int .u64 (wd K 3)) ∧ W1.cell? ⟨w.heap.size, 5, none⟩ = some (.int .u64 (wd K 4)) ∧ W1.cell? ⟨w.heap.size, 6, none⟩ = some (.int .u64 (wd K 5)) ∧ W1.cell? ⟨w.heap.size, 7, none⟩ = some (.int .i64 x) ∧ W1.cell? ⟨w.heap.size, 8, none⟩ = some (.bool false) ∧ W1.cell? ⟨w.heap.size + 1, 0, none⟩ = some (.int .u64 0) ∧ W1.cell? ⟨w.heap.size + 1, 1, none⟩ = some (.int .u64 0))) := zK (fun W W1 h b => ⟨zW h.1 b, zA b _ _ _ h.2.1, zA b _ _ _ h.2.2.1, zJ (zA b _ _ _ h.2.1) 0 _ rfl, zJ (zA b _ _ _ h.2.1) 1 _ rfl, zJ (zA b _ _ _ h.2.1) 2 _ rfl, zJ (zA b _ _ _ h.2.1) 3 _ rfl, zJ (zA b _ _ _ h.2.1) 4 _ rfl, zJ (zA b _ _ _ h.2.1) 5 _ rfl, zJ (zA b _ _ _ h.2.1) 6 _ rfl, zJ (zA b _ _ _ h.2.1) 7 _ rfl, zJ (zA b _ _ _ h.2.1) 8 _ rfl, zJ (zA b _ _ _ h.2.2.1) 0 _ rfl, zJ (zA b _ _ _ h.2.2.1) 1 _ rfl⟩)
 have s0 : Below w.heap.size w (w1).drew ∧ (w1).drew.heap[w.heap.size]? = some (.cells (rg neg K x false) 62) ∧ (w1).drew.heap[w.heap.size + 1]? = some (.cells #[.int .u64 0, .int .u64 0] 26) ∧ (w1).drew.cell? ⟨w.heap.size, 0, none⟩ = some (.bool neg) ∧ (w1).drew.cell? ⟨w.heap.size, 1, none⟩ = some (.int .u64 (wd K 0)) ∧ (w1).drew.cell? ⟨w.heap.size, 2, none⟩ = some (.int .u64 (wd K 1)) ∧ (w1).drew.cell? ⟨w.heap.size, 3, none⟩ = some (.int .u64 (wd K 2)) ∧ (w1).drew.cell? ⟨w.heap.size, 4, none⟩ = some (.int .u64 (wd K 3)) ∧ (w1).drew.cell? ⟨w.heap.size, 5, none⟩ = some (.int .u64 (wd K 4)) ∧ (w1).drew.cell? ⟨w.heap.size, 6, none⟩ = some (.int .u64 (wd K 5)) ∧ (w1).drew.cell? ⟨w.heap.size, 7, none⟩ = some (.int .i64 x) ∧ (w1).drew.cell? ⟨w.heap.size, 8, none⟩ = some (.bool false) ∧ (w1).drew.cell? ⟨w.heap.size + 1, 0, none⟩ = some (.int .u64 0) ∧ (w1).drew.cell? ⟨w.heap.size + 1, 1, none⟩ = some (.int .u64 0) := ⟨B1.drew, Aa, Ab, zJ (Aa) 0 _ rfl, zJ (Aa) 1 _ rfl, zJ (Aa) 2 _ rfl, zJ (Aa) 3 _ rfl, zJ (Aa) 4 _ rfl, zJ (Aa) 5 _ rfl, zJ (Aa) 6 _ rfl, zJ (Aa) 7 _ rfl, zJ (Aa) 8 _ rfl, zJ (Ab) 0 _ rfl, zJ (Ab) 1 _ rfl⟩
 go_wp2_with fail
 go_region_held3 (fun W => Below w.heap.size w W ∧ W.heap[w.heap.size]? = some (.cells (rg neg K x false) 62) ∧ W.heap[w.heap.size + 1]? = some (.cells #[.int .u64 0, .int .u64 0] 26) ∧ W.cell? ⟨w.heap.size, 0, none⟩ = some (.bool neg) ∧ W.cell? ⟨w.heap.size, 1, none⟩ = some (.int .u64 (wd K 0)) ∧ W.cell? ⟨w.heap.size, 2, none⟩ = some (.int .u64 (wd K 1)) ∧ W.cell? ⟨w.heap.size, 3, none⟩ = some (.int .u64 (wd K 2)) ∧ W.cell? ⟨w.heap.size, 4, none⟩ = some (.int .u64 (wd K 3)) ∧ W.cell? ⟨w.heap.size, 5, none⟩ = some (.int .u64 (wd K 4)) ∧ W.cell? ⟨w.heap.size, 6, none⟩ = some (.int .u64 (wd K 5)) ∧ W.cell? ⟨w.heap.size, 7, none⟩ = some (.int .i64 x) ∧ W.cell? ⟨w.heap.size, 8, none⟩ = some (.bool false) ∧ W.cell? ⟨w.heap.size + 1, 0, none⟩ = some (.int .u64 0) ∧ W.cell? ⟨w.heap.size + 1, 1, none⟩ = some (.int .u64 0)) (first | exact s1 | exact s0)
  (((first | (go_at_call 83; (first | refine (KI.out _ (z8 FF.out (And.left s1))).mono ?_ | refine (KI.out _ (z8 FF.out (And.left s0))).mono ?_)) | (go_at_call 81; (first | refine (KS.out _ (z8 FF.out (And.left s1))).mono ?_ | refine (KS.out _ (z8 FF.out (And.left s0))).mono ?_)) | fail); rintro r wq ⟨rfl, bq⟩; have s1 := (by first | exact sS.out _ _ s1 bq | exact sS.out _ _ s0 bq); clear bq))
 have B2 := (And.left s1)
 have Ai := s1.2.1
 have Aj := s1.2.2.1
 clear s0 s1 sS B1 Aa At Au Av Aw Ax Ay Az AA AB Ab AC AD
 obtain ⟨AE, AF, AG, AH, AI, AJ, AK, AL, AM⟩ := zL Ai
 obtain ⟨AN, AO⟩ := zC Aj
 have sT : zR (∀ (W : World) (xA : Value), (Below w.heap.size w W ∧ W.heap[w.heap.size + 1]? = some (.cells #[.int .u64 0, .int .u64 0] 26)) → (Below w.heap.size w (W.setCell ⟨w.heap.size, 1, none⟩ xA) ∧ (W.setCell ⟨w.heap.size, 1, none⟩ xA).heap[w.heap.size + 1]? = some (.cells #[.int .u64 0, .int .u64 0] 26))) := zK (fun W xA h => ⟨Below.setCell h.1 (show w.heap.size ≤ w.heap.size by first | exact Nat.le_refl _ | omega | (skip; omega)) xA, (zH (by first | omega | (skip; omega))).trans h.2⟩)
 have s0 : Below w.heap.size w wq ∧ wq.heap[w.heap.size + 1]? = some (.cells #[.int .u64 0, .int .u64 0] 26) := ⟨B2, Aj⟩
 have rz : wq.heap[w.heap.size]? = some (.cells (rg neg K x false) 62) := Ai
 have hqz := fz (k := 1) rz
 obtain ⟨hz0, hz1, hz2, hz3, hz4, hz5, hz6, hz7, hz8⟩ := zL rz
 go_wp2_with fail
 go_region
 have s2 : Below w.heap.size w (wq.setCell ⟨w.heap.size, 1, none⟩ (.int .u64 ((wd K' 0 : Nat) : Int))) ∧ (wq.setCell ⟨w.heap.size, 1, none⟩ (.int .u64 ((wd K' 0 : Nat) : Int))).heap[w.heap.size + 1]? = some (.cells #[.int .u64 0, .int .u64 0] 26) := sT.out _ _ s0
 have Ac : ((wq.setCell ⟨w.heap.size, 1, none⟩ (.int .u64 ((wd K' 0 : Nat) : Int))).drew).heap[w.heap.size]? = some (.cells (rg neg K' x false) 62) := (by rw [zY rz]; rw [rg_set1 neg K K' x false hk.out] : (wq.setCell ⟨w.heap.size, 1, none⟩ (.int .u64 ((wd K' 0 : Nat) : Int))).heap[w.heap.size]? = some (.cells (rg neg K' x false) 62))
 have B3 : Below w.heap.size w ((wq.setCell ⟨w.heap.size, 1, none⟩ (.int .u64 ((wd K' 0 : Nat) : Int))).drew) := (And.left s2).drew
 have Ad : ((wq.setCell ⟨w.heap.size, 1, none⟩ (.int .u64 ((wd K' 0 : Nat) : Int))).drew).heap[w.heap.size + 1]? = some (.cells #[.int .u64 0, .int .u64 0] 26) := s2.2
 obtain ⟨w3, Ap⟩ : ∃ V, ((wq.setCell ⟨w.heap.size, 1, none⟩ (.int .u64 ((wd K' 0 : Nat) : Int))).drew) = V := ⟨_, rfl⟩
 rw [Ap] at B3 Ac Ad ⊢
 clear Ap sT s0 s2 rz hqz hz0 hz1 hz2 hz3 hz4 hz5 hz6 hz7 hz8 B2 Ai AE AF AG AH AI AJ AK AL AM Aj AN AO
 obtain ⟨AP, AQ, AR, AS, AT, AU, AV, AW, AX⟩ := zL Ac
 obtain ⟨AY, AZ⟩ := zC Ad
 go_wp2_with fail
 refine (KZ.out _ (z8 FF.out B3)).mono ?_
 rintro r w4 ⟨rfl, b4⟩
 have B4 := zW B3 b4
 obtain ⟨Ae, Af⟩ := z6 b4 Ac Ad
 clear b4 B3 Ac AP AQ AR AS AT AU AV AW AX Ad AY AZ
 obtain ⟨A0, A2, A3, A4, A5, A6, A7, A8, A9⟩ := zL Ae
 obtain ⟨Ba, Bb⟩ := zC Af
 have S5 := zK B4.size
 have Bc := yC Ae
 have Bd := yC Af
 have Ak := heap_alloc_last w4 (Obj.cells #[.int .u64 zu, .int .u64 zv] 26)
 have B5 := zW B4 (yQ w4 (Obj.cells #[.int .u64 zu, .int .u64 zv] 26))
 obtain ⟨Al, Am⟩ := z6 (yQ w4 (Obj.cells #[.int .u64 zu, .int .u64 zv] 26)) Ae Af
 clear B4 Ae A0 A2 A3 A4 A5 A6 A7 A8 A9 Af Ba Bb
 obtain ⟨Be, Bf, Bg, Bh, Bi, Bj, Bk, Bl, Bm⟩ := zL Al
 obtain ⟨Bn, Bo⟩ := zC Am
 obtain ⟨Bp, Bq⟩ := zC Ak
 have sS : zR (∀ W W1 : World, (Below w.heap.size w W ∧ W.heap[w.heap.size]? = some (.cells (rg neg K' x false) 62) ∧ W.heap[w.heap.size + 1]? = some (.cells #[.int .u64 0, .int .u64 0] 26) ∧ W.heap[w4.heap.size]? = some (.cells #[.int .u64 zu, .int .u64 zv] 26)) → Below W.heap.size W W1 → (Below w.heap.size w W1 ∧ W1.heap[w.heap.size]? = some (.cells (rg neg K' x false) 62) ∧ W1.heap[w.heap.size + 1]? = some (.cells #[.int .u64 0, .int .u64 0] 26) ∧ W1.heap[w4.heap.size]? = some (.cells #[.int .u64 zu, .int .u64 zv] 26))) := zK (fun W W1 h b => ⟨zW h.1 b, zA b _ _ _ h.2.1, zA b _ _ _ h.2.2.1, zA b _ _ _ h.2.2.2⟩)
 have sL : zR (∀ W : World, (Below w.heap.size w W ∧ W.heap[w.heap.size]? = some (.cells (rg neg K' x false) 62) ∧ W.heap[w.heap.size + 1]? = some (.cells #[.int .u64 0, .int .u64 0] 26) ∧ W.heap[w4.heap.size]? = some (.cells #[.int .u64 zu, .int .u64 zv] 26)) → (w.heap.size < W.heap.size ∧ w.heap.size + 1 < W.heap.size ∧ w4.heap.size < W.heap.size)) := zK (fun W h => ⟨(Array.getElem?_eq_some_iff.1 h.2.1).1, (Array.getElem?_eq_some_iff.1 h.2.2.1).1, (Array.getElem?_eq_some_iff.1 h.2.2.2).1⟩)
 have sT : zR (∀ (W : World) (gN : Nat) (xA xB : Value), (Below w.heap.size w W ∧ W.heap[w.heap.size]? = some (.cells (rg neg K' x false) 62) ∧ W.heap[w.heap.size + 1]? = some (.cells #[.int .u64 0, .int .u64 0] 26) ∧ W.heap[w4.heap.size]? = some (.cells #[.int .u64 zu, .int .u64 zv] 26)) → (w.heap.size < gN ∧ w.heap.size + 1 < gN ∧ w4.heap.size < gN) → (Below w.heap.size w ((W.setCell ⟨gN, 0, none⟩ xA).setCell ⟨gN, 1, none⟩ xB) ∧ ((W.setCell ⟨gN, 0, none⟩ xA).setCell ⟨gN, 1, none⟩ xB).heap[w.heap.size]? = some (.cells (rg neg K' x false) 62) ∧ ((W.setCell ⟨gN, 0, none⟩ xA).setCell ⟨gN, 1, none⟩ xB).heap[w.heap.size + 1]? = some (.cells #[.int .u64 0, .int .u64 0] 26) ∧ ((W.setCell ⟨gN, 0, none⟩ xA).setCell ⟨gN, 1, none⟩ xB).heap[w4.heap.size]? = some (.cells #[.int .u64 zu, .int .u64 zv] 26))) := zK (fun W gN xA xB h l => ⟨zN h.1 (show w.heap.size ≤ gN by have := l.1; omega) _ _, (zH (by have := l.1; omega)).trans ((zH (by have := l.1; omega)).trans h.2.1), (zH (by have := l.2.1; omega)).trans ((zH (by have := l.2.1; omega)).trans h.2.2.1), (zH (by have := l.2.2; omega)).trans ((zH (by have := l.2.2; omega)).trans h.2.2.2)⟩)
 have sC : zR (∀ W : World, (Below w.heap.size w W ∧ W.heap[w.heap.size]? = some (.cells (rg neg K' x false) 62) ∧ W.heap[w.heap.size + 1]? = some (.cells #[.int .u64 0, .int .u64 0] 26) ∧ W.heap[w4.heap.size]? = some (.cells #[.int .u64 zu, .int .u64 zv] 26)) → (Below w.heap.size w W ∧ W.heap[w.heap.size]? = some (.cells (rg neg K' x false) 62) ∧ W.heap[w.heap.size + 1]? = some (.cells #[.int .u64 0, .int .u64 0] 26) ∧ W.heap[w4.heap.size]? = some (.cells #[.int .u64 zu, .int .u64 zv] 26) ∧ W.cell? ⟨w.heap.size, 0, none⟩ = some (.bool neg) ∧ W.cell? ⟨w.heap.size, 1, none⟩ = some (.int .u64 ((wd K' 0 : Nat) : Int)) ∧ W.cell? ⟨w.heap.size, 2, none⟩ = some (.int .u64 ((wd K' 1 : Nat) : Int)) ∧ W.cell? ⟨w.heap.size, 3, none⟩ = some (.int .u64 ((wd K' 2 : Nat) : Int)) ∧ W.cell? ⟨w.heap.size, 4, none⟩ = some (.int .u64 ((wd K' 3 : Nat) : Int)) ∧ W.cell? ⟨w.heap.size, 5, none⟩ = some (.int .u64 ((wd K' 4 : Nat) : Int)) ∧ W.cell? ⟨w.heap.size, 6, none⟩ = some (.int .u64 ((wd K' 5 : Nat) : Int)) ∧ W.cell? ⟨w.heap.size, 7, none⟩ = some (.int .i64 x) ∧ W.cell? ⟨w.heap.size, 8, none⟩ = some (.bool false) ∧ W.cell? ⟨w.heap.size + 1, 0, none⟩ = some (.int .u64 0) ∧ W.cell? ⟨w.heap.size + 1, 1, none⟩ = some (.int .u64 0) ∧ W.cell? ⟨w4.heap.size, 0, none⟩ = some (.int .u64 zu) ∧ W.cell? ⟨w4.heap.size, 1, none⟩ = some (.int .u64 zv))) := zK (fun W h => ⟨h.1, h.2.1, h.2.2.1, h.2.2.2, zJ (h.2.1) 0 _ rfl, zJ (h.2.1) 1 _ rfl, zJ (h.2.1) 2 _ rfl, zJ (h.2.1) 3 _ rfl, zJ (h.2.1) 4 _ rfl, zJ (h.2.1) 5 _ rfl, zJ (h.2.1) 6 _ rfl, zJ (h.2.1) 7 _ rfl, zJ (h.2.1) 8 _ rfl, zJ (h.2.2.1) 0 _ rfl, zJ (h.2.2.1) 1 _ rfl, zJ (h.2.2.2) 0 _ rfl, zJ (h.2.2.2) 1 _ rfl⟩)
 have s0 : Below w.heap.size w ((w4.alloc (Obj.cells #[.int .u64 zu, .int .u64 zv] 26))).drew ∧ ((w4.alloc (Obj.cells #[.int .u64 zu, .int .u64 zv] 26))).drew.heap[w.heap.size]? = some (.cells (rg neg K' x false) 62) ∧ ((w4.alloc (Obj.cells #[.int .u64 zu, .int .u64 zv] 26))).drew.heap[w.heap.size + 1]? = some (.cells #[.int .u64 0, .int .u64 0] 26) ∧ ((w4.alloc (Obj.cells #[.int .u64 zu, .int .u64 zv] 26))).drew.heap[w4.heap.size]? = some (.cells #[.int .u64 zu, .int .u64 zv] 26) := ⟨B5.drew, Al, Am, Ak⟩
 clear B5 Al Be Bf Bg Bh Bi Bj Bk Bl Bm Am Bn Bo Ak Bp Bq
 go_wp2_with fail
 apply cut7
 ·
  intro key0
  have key := zK key0
  clear key0
  go_region_held3 (fun W => Below w.heap.size w W ∧ W.heap[w.heap.size]? = some (.cells (rg neg K' x false) 62) ∧ W.heap[w.heap.size + 1]? = some (.cells #[.int .u64 0, .int .u64 0] 26) ∧ W.heap[w4.heap.size]? = some (.cells #[.int .u64 zu, .int .u64 zv] 26) ∧ W.cell? ⟨w.heap.size, 0, none⟩ = some (.bool neg) ∧ W.cell? ⟨w.heap.size, 1, none⟩ = some (.int .u64 ((wd K' 0 : Nat) : Int)) ∧ W.cell? ⟨w.heap.size, 2, none⟩ = some (.int .u64 ((wd K' 1 : Nat) : Int)) ∧ W.cell? ⟨w.heap.size, 3, none⟩ = some (.int .u64 ((wd K' 2 : Nat) : Int)) ∧ W.cell? ⟨w.heap.size, 4, none⟩ = some (.int .u64 ((wd K' 3 : Nat) : Int)) ∧ W.cell? ⟨w.heap.size, 5, none⟩ = some (.int .u64 ((wd K' 4 : Nat) : Int)) ∧ W.cell? ⟨w.heap.size, 6, none⟩ = some (.int .u64 ((wd K' 5 : Nat) : Int)) ∧ W.cell? ⟨w.heap.size, 7, none⟩ = some (.int .i64 x) ∧ W.cell? ⟨w.heap.size, 8, none⟩ = some (.bool false) ∧ W.cell? ⟨w.heap.size + 1, 0, none⟩ = some (.int .u64 0) ∧ W.cell? ⟨w.heap.size + 1, 1, none⟩ = some (.int .u64 0) ∧ W.cell? ⟨w4.heap.size, 0, none⟩ = some (.int .u64 zu) ∧ W.cell? ⟨w4.heap.size, 1, none⟩ = some (.int .u64 zv)) (first | exact sC.out _ s1 | exact sC.out _ s0 | exact sC.out _ (sS.out _ _ s1 (yQ _ _)) | exact sC.out _ (sS.out _ _ s0 (yQ _ _)) | exact sC.out _ (sT.out _ _ _ _ s1 hl))
   (((first | (go_at_call 72; (first | refine (KB.out _).mono ?_ | refine (KB.out _).mono ?_)) | (go_at_call 75; (first | refine (KO.out _).mono ?_ | refine (KO.out _).mono ?_)) | (go_at_call 74; (first | refine (KT.out _).mono ?_ | refine (KT.out _).mono ?_)) | fail); rintro r wq ⟨rfl, bq⟩; (first | (have hg := zA bq _ _ _ (heap_alloc_last _ _); have hl := (by first | exact sL.out _ s1 | exact sL.out _ s0)) | have hg := zA bq _ _ _ hg | skip); (try simp only [xH, zM] at hg hl); (first | (have Aq := fz (k := 0) hg; have Ah := fz (k := 1) hg; have Ar := zJ hg 0 _ rfl; have As := zJ hg 1 _ rfl) | skip); have s2 := (by first | exact sS.out _ _ s1 bq | exact sS.out _ _ s0 bq | exact sS.out _ _ (sS.out _ _ s1 (yQ _ _)) bq | exact sS.out _ _ (sS.out _ _ s0 (yQ _ _)) bq); (try clear s1); have s1 := s2; clear s2 bq))
  all_goals
   refine gen_round_encoding_8 (R := fun W gN => (Below w.heap.size w W ∧ W.heap[w.heap.size]? = some (.cells (rg neg K' x false) 62) ∧ W.heap[w.heap.size + 1]? = some (.cells #[.int .u64 0, .int .u64 0] 26) ∧ W.heap[w4.heap.size]? = some (.cells #[.int .u64 zu, .int .u64 zv] 26)) ∧ W.heap[gN]? = some (.cells #[.int .u64 u, .int .u64 v] 26) ∧ (w.heap.size < gN ∧ w.heap.size + 1 < gN ∧ w4.heap.size < gN)) key.out ?_
   first
    | exact ⟨(sT.out _ _ _ _ s1 hl), set2_row hg _ _, hl⟩
    | exact ⟨sS.out _ _ s1 (yQ _ _), heap_alloc_last _ _, sL.out _ s1⟩
    | exact ⟨sS.out _ _ s0 (yQ _ _), heap_alloc_last _ _, sL.out _ s0⟩
 rintro w6 g6 ⟨s1, Br, l6⟩
 have B6 := And.left s1
 have Bs := s1.2.1
 have Ag := s1.2.2.1
 have Bt := s1.2.2.2
 have H6 := zK l6
 clear s0 s1 sS sC sL sT l6
 obtain ⟨Bu, Bv, Bw, Bx, By, Bz, BA, BB, BC⟩ := zL Bs
 obtain ⟨BD, BE⟩ := zC Ag
 obtain ⟨BF, BG⟩ := zC Bt
 obtain ⟨BH, BI⟩ := zC Br
 have q0 := fz (k := 0) Ag
 have q1 := fz (k := 1) Ag
 obtain ⟨E0, E1⟩ := zQ Ag (.int .u64 u) (.int .u64 v)
 go_wp2
 exact bodyPost_ret (v := .agg #[.int .u64 u, .int .u64 v]) (by simp [results, Tryz.results85, go_sem, E0, E1]) rfl ⟨rfl, zN B6 (by first | exact Nat.le_refl _ | omega | (have := S5.out; have := Bc.out; have := Bd.out; have := H6.out; omega)) _ _⟩
theorem ro_enc_3 (neg : Bool) (K K' S : Nat) (x I st A1 F G : Int) (u v zu zv O : Nat) (ob : Bool) (w : World)
  (KP : zR (∀ w, yN w → Calls Tryz.prog 121 #[.int .u8 3] w fun r w' => r = .returned (.int .i64 113) ∧ Below w.heap.size w w'))
  (KI : zR (∀ w, yN w → Calls Tryz.prog 83 #[.int .u8 3] w fun r w' => r = .returned (.int .i64 I) ∧ Below w.heap.size w w'))
  (KS : zR (∀ w, yN w → Calls Tryz.prog 81 #[.int .u8 3, .int .i64 I] w fun r w' => r = .returned (.int .i64 st) ∧ Below w.heap.size w w'))
  (h1 : IntKind.i64.wrap (x - st) = A1) (h2 : IntKind.u64.wrap A1 = F) (h3 : IntKind.u64.wrap (F * 281474976710656) = G) (h4 : IntKind.u64.wrap (((wd K 1 : Nat) : Int) + G) = ((wd K' 1 : Nat) : Int))
  (hk : zR (∀ k, k ≠ 1 → k < 6 → wd K' k = wd K k))
  (KZ : zR (∀ w, yN w → Calls Tryz.prog 21 #[.int .u8 3, .bool neg] w fun r w' => r = .returned (.agg #[.int .u64 zu, .int .u64 zv]) ∧ Below w.heap.size w w'))
  (KB : zR (∀ w, Calls Tryz.prog 72 #[.agg #[.int .u64 zu, .int .u64 zv]] w fun r w' => r = .returned (.agg (cw 6 S)) ∧ Below w.heap.size w w'))
  (KO : zR (∀ w, Calls Tryz.prog 75 #[.agg (cw 6 K'), .agg (cw 6 S)] w fun r w' => r = .returned (.agg (cw 6 O)) ∧ Below w.heap.size w w'))
  (KT : zR (∀ w, Calls Tryz.prog 74 #[.agg (cw 6 O)] w fun r w' => r = .returned (.tuple #[.agg #[.int .u64 u, .int .u64 v], .bool ob]) ∧ Below w.heap.size w w')) (hT : yN w) : Calls Tryz.prog 85 #[.int .u8 3, .agg (rg neg K x false)] w fun r w' => r = .returned (.agg #[.int .u64 u, .int .u64 v]) ∧ Below w.heap.size w w' := by
 have FF := zK hT
 clear hT
 have hat := yD 6
 have hz := yZ
 have hff := yY
 have hs0 := q8
 have hcs : ∀ x, ((cw 6 x).size = 6) = True := fun x => eq_true (z7 6 x)
 have hp1 := rgf
 have hp5 : ∀ (c : Bool) (s : Nat) (x : Int) (r : Bool), ((rg c s x r).size = 9) = True := fun _ _ _ _ => eq_true rfl
 obtain ⟨Am, An, B0⟩ := x9 w (Obj.cells (rg neg K x false) 62) (Obj.cells #[.int .u64 0, .int .u64 0] 26)
 go_enter Tryz.func85, Tryz.ntmps85
 go_wp2_with fail
 refine (KP.out _ (z8 FF.out B0)).mono ?_
 rintro r w1 ⟨rfl, b1⟩
 have B1 := zW B0 b1
 obtain ⟨Aa, Ab⟩ := z6 b1 Am An
 clear b1 B0 Am An
 obtain ⟨At, Au, Av, Aw, Ax, Ay, Az, AA, AB⟩ := zL Aa
 obtain ⟨AC, AD⟩ := zC Ab
 have sS : zR (∀ W W1 : World, (Below w.heap.size w W ∧ W.heap[w.heap.size]? = some (.cells (rg neg K x false) 62) ∧ W.heap[w.heap.size + 1]? = some (.cells #[.int .u64 0, .int .u64 0] 26) ∧ W.cell? ⟨w.heap.size, 0, none⟩ = some (.bool neg) ∧ W.cell? ⟨w.heap.size, 1, none⟩ = some (.int .u64 (wd K 0)) ∧ W.cell? ⟨w.heap.size, 2, none⟩ = some (.int .u64 (wd K 1)) ∧ W.cell? ⟨w.heap.size, 3, none⟩ = some (.int .u64 (wd K 2)) ∧ W.cell? ⟨w.heap.size, 4, none⟩ = some (.int .u64 (wd K 3)) ∧ W.cell? ⟨w.heap.size, 5, none⟩ = some (.int .u64 (wd K 4)) ∧ W.cell? ⟨w.heap.size, 6, none⟩ = some (.int .u64 (wd K 5)) ∧ W.cell? ⟨w.heap.size, 7, none⟩ = some (.int .i64 x) ∧ W.cell? ⟨w.heap.size, 8, none⟩ = some (.bool false) ∧ W.cell? ⟨w.heap.size + 1, 0, none⟩ = some (.int .u64 0) ∧ W.cell? ⟨w.heap.size + 1, 1, none⟩ = some (.int .u64 0)) → Below W.heap.size W W1 → (Below w.heap.size w W1 ∧ W1.heap[w.heap.size]? = some (.cells (rg neg K x false) 62) ∧ W1.heap[w.heap.size + 1]? = some (.cells #[.int .u64 0, .int .u64 0] 26) ∧ W1.cell? ⟨w.heap.size, 0, none⟩ = some (.bool neg) ∧ W1.cell? ⟨w.heap.size, 1, none⟩ = some (.int .u64 (wd K 0)) ∧ W1.cell? ⟨w.heap.size, 2, none⟩ = some (.int .u64 (wd K 1)) ∧ W1.cell? ⟨w.heap.size, 3, none⟩ = some (.int .u64 (wd K 2)) ∧ W1.cell? ⟨w.heap.size, 4, none⟩ = some (.int .u64 (wd K 3)) ∧ W1.cell? ⟨w.heap.size, 5, none⟩ = some (.int .u64 (wd K 4)) ∧ W1.cell? ⟨w.heap.size, 6, none⟩ = some (.int .u64 (wd K 5)) ∧ W1.cell? ⟨w.heap.size, 7, none⟩ = some (.int .i64 x) ∧ W1.cell? ⟨w.heap.size, 8, none⟩ = some (.bool false) ∧ W1.cell? ⟨w.heap.size + 1, 0, none⟩ = some (.int .u64 0) ∧ W1.cell? ⟨w.heap.size + 1, 1, none⟩ = some (.int .u64 0))) := zK (fun W W1 h b => ⟨zW h.1 b, zA b _ _ _ h.2.1, zA b _ _ _ h.2.2.1, zJ (zA b _ _ _ h.2.1) 0 _ rfl, zJ (zA b _ _ _ h.2.1) 1 _ rfl, zJ (zA b _ _ _ h.2.1) 2 _ rfl, zJ (zA b _ _ _ h.2.1) 3 _ rfl, zJ (zA b _ _ _ h.2.1) 4 _ rfl, zJ (zA b _ _ _ h.2.1) 5 _ rfl, zJ (zA b _ _ _ h.2.1) 6 _ rfl, zJ (zA b _ _ _ h.2.1) 7 _ rfl, zJ (zA b _ _ _ h.2.1) 8 _ rfl, zJ (zA b _ _ _ h.2.2.1) 0 _ rfl, zJ (zA b _ _ _ h.2.2.1) 1 _ rfl⟩)
 have s0 : Below w.heap.size w (w1).drew ∧ (w1).drew.heap[w.heap.size]? = some (.cells (rg neg K x false) 62) ∧ (w1).drew.heap[w.heap.size + 1]? = some (.cells #[.int .u64 0, .int .u64 0] 26) ∧ (w1).drew.cell? ⟨w.heap.size, 0, none⟩ = some (.bool neg) ∧ (w1).drew.cell? ⟨w.heap.size, 1, none⟩ = some (.int .u64 (wd K 0)) ∧ (w1).drew.cell? ⟨w.heap.size, 2, none⟩ = some (.int .u64 (wd K 1)) ∧ (w1).drew.cell? ⟨w.heap.size, 3, none⟩ = some (.int .u64 (wd K 2)) ∧ (w1).drew.cell? ⟨w.heap.size, 4, none⟩ = some (.int .u64 (wd K 3)) ∧ (w1).drew.cell? ⟨w.heap.size, 5, none⟩ = some (.int .u64 (wd K 4)) ∧ (w1).drew.cell? ⟨w.heap.size, 6, none⟩ = some (.int .u64 (wd K 5)) ∧ (w1).drew.cell? ⟨w.heap.size, 7, none⟩ = some (.int .i64 x) ∧ (w1).drew.cell? ⟨w.heap.size, 8, none⟩ = some (.bool false) ∧ (w1).drew.cell? ⟨w.heap.size + 1, 0, none⟩ = some (.int .u64 0) ∧ (w1).drew.cell? ⟨w.heap.size + 1, 1, none⟩ = some (.int .u64 0) := ⟨B1.drew, Aa, Ab, zJ (Aa) 0 _ rfl, zJ (Aa) 1 _ rfl, zJ (Aa) 2 _ rfl, zJ (Aa) 3 _ rfl, zJ (Aa) 4 _ rfl, zJ (Aa) 5 _ rfl, zJ (Aa) 6 _ rfl, zJ (Aa) 7 _ rfl, zJ (Aa) 8 _ rfl, zJ (Ab) 0 _ rfl, zJ (Ab) 1 _ rfl⟩
 go_wp2_with fail
 go_region_held3 (fun W => Below w.heap.size w W ∧ W.heap[w.heap.size]? = some (.cells (rg neg K x false) 62) ∧ W.heap[w.heap.size + 1]? = some (.cells #[.int .u64 0, .int .u64 0] 26) ∧ W.cell? ⟨w.heap.size, 0, none⟩ = some (.bool neg) ∧ W.cell? ⟨w.heap.size, 1, none⟩ = some (.int .u64 (wd K 0)) ∧ W.cell? ⟨w.heap.size, 2, none⟩ = some (.int .u64 (wd K 1)) ∧ W.cell? ⟨w.heap.size, 3, none⟩ = some (.int .u64 (wd K 2)) ∧ W.cell? ⟨w.heap.size, 4, none⟩ = some (.int .u64 (wd K 3)) ∧ W.cell? ⟨w.heap.size, 5, none⟩ = some (.int .u64 (wd K 4)) ∧ W.cell? ⟨w.heap.size, 6, none⟩ = some (.int .u64 (wd K 5)) ∧ W.cell? ⟨w.heap.size, 7, none⟩ = some (.int .i64 x) ∧ W.cell? ⟨w.heap.size, 8, none⟩ = some (.bool false) ∧ W.cell? ⟨w.heap.size + 1, 0, none⟩ = some (.int .u64 0) ∧ W.cell? ⟨w.heap.size + 1, 1, none⟩ = some (.int .u64 0)) (first | exact s1 | exact s0)
  (((first | (go_at_call 83; (first | refine (KI.out _ (z8 FF.out (And.left s1))).mono ?_ | refine (KI.out _ (z8 FF.out (And.left s0))).mono ?_)) | (go_at_call 81; (first | refine (KS.out _ (z8 FF.out (And.left s1))).mono ?_ | refine (KS.out _ (z8 FF.out (And.left s0))).mono ?_)) | fail); rintro r wq ⟨rfl, bq⟩; have s1 := (by first | exact sS.out _ _ s1 bq | exact sS.out _ _ s0 bq); clear bq))
 have B2 := (And.left s1)
 have Ah := s1.2.1
 have Ai := s1.2.2.1
 clear s0 s1 sS B1 Aa At Au Av Aw Ax Ay Az AA AB Ab AC AD
 obtain ⟨AE, AF, AG, AH, AI, AJ, AK, AL, AM⟩ := zL Ah
 obtain ⟨AN, AO⟩ := zC Ai
 have sT : zR (∀ (W : World) (xA : Value), (Below w.heap.size w W ∧ W.heap[w.heap.size + 1]? = some (.cells #[.int .u64 0, .int .u64 0] 26)) → (Below w.heap.size w (W.setCell ⟨w.heap.size, 2, none⟩ xA) ∧ (W.setCell ⟨w.heap.size, 2, none⟩ xA).heap[w.heap.size + 1]? = some (.cells #[.int .u64 0, .int .u64 0] 26))) := zK (fun W xA h => ⟨Below.setCell h.1 (show w.heap.size ≤ w.heap.size by first | exact Nat.le_refl _ | omega | (skip; omega)) xA, (zH (by first | omega | (skip; omega))).trans h.2⟩)
 have s0 : Below w.heap.size w wq ∧ wq.heap[w.heap.size + 1]? = some (.cells #[.int .u64 0, .int .u64 0] 26) := ⟨B2, Ai⟩
 have rz : wq.heap[w.heap.size]? = some (.cells (rg neg K x false) 62) := Ah
 have hqz := fz (k := 2) rz
 obtain ⟨hz0, hz1, hz2, hz3, hz4, hz5, hz6, hz7, hz8⟩ := zL rz
 go_wp2_with fail
 go_region
 have s2 : Below w.heap.size w (wq.setCell ⟨w.heap.size, 2, none⟩ (.int .u64 ((wd K' 1 : Nat) : Int))) ∧ (wq.setCell ⟨w.heap.size, 2, none⟩ (.int .u64 ((wd K' 1 : Nat) : Int))).heap[w.heap.size + 1]? = some (.cells #[.int .u64 0, .int .u64 0] 26) := sT.out _ _ s0
 have Ac : ((wq.setCell ⟨w.heap.size, 2, none⟩ (.int .u64 ((wd K' 1 : Nat) : Int))).drew).heap[w.heap.size]? = some (.cells (rg neg K' x false) 62) := (by rw [zY rz]; rw [rg_set2 neg K K' x false hk.out] : (wq.setCell ⟨w.heap.size, 2, none⟩ (.int .u64 ((wd K' 1 : Nat) : Int))).heap[w.heap.size]? = some (.cells (rg neg K' x false) 62))
 have B3 : Below w.heap.size w ((wq.setCell ⟨w.heap.size, 2, none⟩ (.int .u64 ((wd K' 1 : Nat) : Int))).drew) := (And.left s2).drew
 have Ad : ((wq.setCell ⟨w.heap.size, 2, none⟩ (.int .u64 ((wd K' 1 : Nat) : Int))).drew).heap[w.heap.size + 1]? = some (.cells #[.int .u64 0, .int .u64 0] 26) := s2.2
 obtain ⟨w3, Ao⟩ : ∃ V, ((wq.setCell ⟨w.heap.size, 2, none⟩ (.int .u64 ((wd K' 1 : Nat) : Int))).drew) = V := ⟨_, rfl⟩
 rw [Ao] at B3 Ac Ad ⊢
 clear Ao sT s0 s2 rz hqz hz0 hz1 hz2 hz3 hz4 hz5 hz6 hz7 hz8 B2 Ah AE AF AG AH AI AJ AK AL AM Ai AN AO
 obtain ⟨AP, AQ, AR, AS, AT, AU, AV, AW, AX⟩ := zL Ac
 obtain ⟨AY, AZ⟩ := zC Ad
 go_wp2_with fail
 refine (KZ.out _ (z8 FF.out B3)).mono ?_
 rintro r w4 ⟨rfl, b4⟩
 have B4 := zW B3 b4
 obtain ⟨Ae, Af⟩ := z6 b4 Ac Ad
 clear b4 B3 Ac AP AQ AR AS AT AU AV AW AX Ad AY AZ
 obtain ⟨A0, A2, A3, A4, A5, A6, A7, A8, A9⟩ := zL Ae
 obtain ⟨Ba, Bb⟩ := zC Af
 have S5 := zK B4.size
 have Bc := yC Ae
 have Bd := yC Af
 have Aj := heap_alloc_last w4 (Obj.cells #[.int .u64 zu, .int .u64 zv] 26)
 have B5 := zW B4 (yQ w4 (Obj.cells #[.int .u64 zu, .int .u64 zv] 26))
 obtain ⟨Ak, Al⟩ := z6 (yQ w4 (Obj.cells #[.int .u64 zu, .int .u64 zv] 26)) Ae Af
 clear B4 Ae A0 A2 A3 A4 A5 A6 A7 A8 A9 Af Ba Bb
 obtain ⟨Be, Bf, Bg, Bh, Bi, Bj, Bk, Bl, Bm⟩ := zL Ak
 obtain ⟨Bn, Bo⟩ := zC Al
 obtain ⟨Bp, Bq⟩ := zC Aj
 have sS : zR (∀ W W1 : World, (Below w.heap.size w W ∧ W.heap[w.heap.size]? = some (.cells (rg neg K' x false) 62) ∧ W.heap[w.heap.size + 1]? = some (.cells #[.int .u64 0, .int .u64 0] 26) ∧ W.heap[w4.heap.size]? = some (.cells #[.int .u64 zu, .int .u64 zv] 26)) → Below W.heap.size W W1 → (Below w.heap.size w W1 ∧ W1.heap[w.heap.size]? = some (.cells (rg neg K' x false) 62) ∧ W1.heap[w.heap.size + 1]? = some (.cells #[.int .u64 0, .int .u64 0] 26) ∧ W1.heap[w4.heap.size]? = some (.cells #[.int .u64 zu, .int .u64 zv] 26))) := zK (fun W W1 h b => ⟨zW h.1 b, zA b _ _ _ h.2.1, zA b _ _ _ h.2.2.1, zA b _ _ _ h.2.2.2⟩)
 have sL : zR (∀ W : World, (Below w.heap.size w W ∧ W.heap[w.heap.size]? = some (.cells (rg neg K' x false) 62) ∧ W.heap[w.heap.size + 1]? = some (.cells #[.int .u64 0, .int .u64 0] 26) ∧ W.heap[w4.heap.size]? = some (.cells #[.int .u64 zu, .int .u64 zv] 26)) → (w.heap.size < W.heap.size ∧ w.heap.size + 1 < W.heap.size ∧ w4.heap.size < W.heap.size)) := zK (fun W h => ⟨(Array.getElem?_eq_some_iff.1 h.2.1).1, (Array.getElem?_eq_some_iff.1 h.2.2.1).1, (Array.getElem?_eq_some_iff.1 h.2.2.2).1⟩)
 have sT : zR (∀ (W : World) (gN : Nat) (xA xB : Value), (Below w.heap.size w W ∧ W.heap[w.heap.size]? = some (.cells (rg neg K' x false) 62) ∧ W.heap[w.heap.size + 1]? = some (.cells #[.int .u64 0, .int .u64 0] 26) ∧ W.heap[w4.heap.size]? = some (.cells #[.int .u64 zu, .int .u64 zv] 26)) → (w.heap.size < gN ∧ w.heap.size + 1 < gN ∧ w4.heap.size < gN) → (Below w.heap.size w ((W.setCell ⟨gN, 0, none⟩ xA).setCell ⟨gN, 1, none⟩ xB) ∧ ((W.setCell ⟨gN, 0, none⟩ xA).setCell ⟨gN, 1, none⟩ xB).heap[w.heap.size]? = some (.cells (rg neg K' x false) 62) ∧ ((W.setCell ⟨gN, 0, none⟩ xA).setCell ⟨gN, 1, none⟩ xB).heap[w.heap.size + 1]? = some (.cells #[.int .u64 0, .int .u64 0] 26) ∧ ((W.setCell ⟨gN, 0, none⟩ xA).setCell ⟨gN, 1, none⟩ xB).heap[w4.heap.size]? = some (.cells #[.int .u64 zu, .int .u64 zv] 26))) := zK (fun W gN xA xB h l => ⟨zN h.1 (show w.heap.size ≤ gN by have := l.1; omega) _ _, (zH (by have := l.1; omega)).trans ((zH (by have := l.1; omega)).trans h.2.1), (zH (by have := l.2.1; omega)).trans ((zH (by have := l.2.1; omega)).trans h.2.2.1), (zH (by have := l.2.2; omega)).trans ((zH (by have := l.2.2; omega)).trans h.2.2.2)⟩)
 have sC : zR (∀ W : World, (Below w.heap.size w W ∧ W.heap[w.heap.size]? = some (.cells (rg neg K' x false) 62) ∧ W.heap[w.heap.size + 1]? = some (.cells #[.int .u64 0, .int .u64 0] 26) ∧ W.heap[w4.heap.size]? = some (.cells #[.int .u64 zu, .int .u64 zv] 26)) → (Below w.heap.size w W ∧ W.heap[w.heap.size]? = some (.cells (rg neg K' x false) 62) ∧ W.heap[w.heap.size + 1]? = some (.cells #[.int .u64 0, .int .u64 0] 26) ∧ W.heap[w4.heap.size]? = some (.cells #[.int .u64 zu, .int .u64 zv] 26) ∧ W.cell? ⟨w.heap.size, 0, none⟩ = some (.bool neg) ∧ W.cell? ⟨w.heap.size, 1, none⟩ = some (.int .u64 ((wd K' 0 : Nat) : Int)) ∧ W.cell? ⟨w.heap.size, 2, none⟩ = some (.int .u64 ((wd K' 1 : Nat) : Int)) ∧ W.cell? ⟨w.heap.size, 3, none⟩ = some (.int .u64 ((wd K' 2 : Nat) : Int)) ∧ W.cell? ⟨w.heap.size, 4, none⟩ = some (.int .u64 ((wd K' 3 : Nat) : Int)) ∧ W.cell? ⟨w.heap.size, 5, none⟩ = some (.int .u64 ((wd K' 4 : Nat) : Int)) ∧ W.cell? ⟨w.heap.size, 6, none⟩ = some (.int .u64 ((wd K' 5 : Nat) : Int)) ∧ W.cell? ⟨w.heap.size, 7, none⟩ = some (.int .i64 x) ∧ W.cell? ⟨w.heap.size, 8, none⟩ = some (.bool false) ∧ W.cell? ⟨w.heap.size + 1, 0, none⟩ = some (.int .u64 0) ∧ W.cell? ⟨w.heap.size + 1, 1, none⟩ = some (.int .u64 0) ∧ W.cell? ⟨w4.heap.size, 0, none⟩ = some (.int .u64 zu) ∧ W.cell? ⟨w4.heap.size, 1, none⟩ = some (.int .u64 zv))) := zK (fun W h => ⟨h.1, h.2.1, h.2.2.1, h.2.2.2, zJ (h.2.1) 0 _ rfl, zJ (h.2.1) 1 _ rfl, zJ (h.2.1) 2 _ rfl, zJ (h.2.1) 3 _ rfl, zJ (h.2.1) 4 _ rfl, zJ (h.2.1) 5 _ rfl, zJ (h.2.1) 6 _ rfl, zJ (h.2.1) 7 _ rfl, zJ (h.2.1) 8 _ rfl, zJ (h.2.2.1) 0 _ rfl, zJ (h.2.2.1) 1 _ rfl, zJ (h.2.2.2) 0 _ rfl, zJ (h.2.2.2) 1 _ rfl⟩)
 have s0 : Below w.heap.size w ((w4.alloc (Obj.cells #[.int .u64 zu, .int .u64 zv] 26))).drew ∧ ((w4.alloc (Obj.cells #[.int .u64 zu, .int .u64 zv] 26))).drew.heap[w.heap.size]? = some (.cells (rg neg K' x false) 62) ∧ ((w4.alloc (Obj.cells #[.int .u64 zu, .int .u64 zv] 26))).drew.heap[w.heap.size + 1]? = some (.cells #[.int .u64 0, .int .u64 0] 26) ∧ ((w4.alloc (Obj.cells #[.int .u64 zu, .int .u64 zv] 26))).drew.heap[w4.heap.size]? = some (.cells #[.int .u64 zu, .int .u64 zv] 26) := ⟨B5.drew, Ak, Al, Aj⟩
 clear B5 Ak Be Bf Bg Bh Bi Bj Bk Bl Bm Al Bn Bo Aj Bp Bq
 go_wp2_with fail
 apply cut7
 ·
  intro key0
  have key := zK key0
  clear key0
  go_region_held3 (fun W => Below w.heap.size w W ∧ W.heap[w.heap.size]? = some (.cells (rg neg K' x false) 62) ∧ W.heap[w.heap.size + 1]? = some (.cells #[.int .u64 0, .int .u64 0] 26) ∧ W.heap[w4.heap.size]? = some (.cells #[.int .u64 zu, .int .u64 zv] 26) ∧ W.cell? ⟨w.heap.size, 0, none⟩ = some (.bool neg) ∧ W.cell? ⟨w.heap.size, 1, none⟩ = some (.int .u64 ((wd K' 0 : Nat) : Int)) ∧ W.cell? ⟨w.heap.size, 2, none⟩ = some (.int .u64 ((wd K' 1 : Nat) : Int)) ∧ W.cell? ⟨w.heap.size, 3, none⟩ = some (.int .u64 ((wd K' 2 : Nat) : Int)) ∧ W.cell? ⟨w.heap.size, 4, none⟩ = some (.int .u64 ((wd K' 3 : Nat) : Int)) ∧ W.cell? ⟨w.heap.size, 5, none⟩ = some (.int .u64 ((wd K' 4 : Nat) : Int)) ∧ W.cell? ⟨w.heap.size, 6, none⟩ = some (.int .u64 ((wd K' 5 : Nat) : Int)) ∧ W.cell? ⟨w.heap.size, 7, none⟩ = some (.int .i64 x) ∧ W.cell? ⟨w.heap.size, 8, none⟩ = some (.bool false) ∧ W.cell? ⟨w.heap.size + 1, 0, none⟩ = some (.int .u64 0) ∧ W.cell? ⟨w.heap.size + 1, 1, none⟩ = some (.int .u64 0) ∧ W.cell? ⟨w4.heap.size, 0, none⟩ = some (.int .u64 zu) ∧ W.cell? ⟨w4.heap.size, 1, none⟩ = some (.int .u64 zv)) (first | exact sC.out _ s1 | exact sC.out _ s0 | exact sC.out _ (sS.out _ _ s1 (yQ _ _)) | exact sC.out _ (sS.out _ _ s0 (yQ _ _)) | exact sC.out _ (sT.out _ _ _ _ s1 hl))
   (((first | (go_at_call 72; (first | refine (KB.out _).mono ?_ | refine (KB.out _).mono ?_)) | (go_at_call 75; (first | refine (KO.out _).mono ?_ | refine (KO.out _).mono ?_)) | (go_at_call 74; (first | refine (KT.out _).mono ?_ | refine (KT.out _).mono ?_)) | fail); rintro r wq ⟨rfl, bq⟩; (first | (have hg := zA bq _ _ _ (heap_alloc_last _ _); have hl := (by first | exact sL.out _ s1 | exact sL.out _ s0)) | have hg := zA bq _ _ _ hg | skip); (try simp only [xH, zM] at hg hl); (first | (have Ap := fz (k := 0) hg; have Aq := fz (k := 1) hg; have Ar := zJ hg 0 _ rfl; have As := zJ hg 1 _ rfl) | skip); have s2 := (by first | exact sS.out _ _ s1 bq | exact sS.out _ _ s0 bq | exact sS.out _ _ (sS.out _ _ s1 (yQ _ _)) bq | exact sS.out _ _ (sS.out _ _ s0 (yQ _ _)) bq); (try clear s1); have s1 := s2; clear s2 bq))
  all_goals
   refine gen_round_encoding_8 (R := fun W gN => (Below w.heap.size w W ∧ W.heap[w.heap.size]? = some (.cells (rg neg K' x false) 62) ∧ W.heap[w.heap.size + 1]? = some (.cells #[.int .u64 0, .int .u64 0] 26) ∧ W.heap[w4.heap.size]? = some (.cells #[.int .u64 zu, .int .u64 zv] 26)) ∧ W.heap[gN]? = some (.cells #[.int .u64 u, .int .u64 v] 26) ∧ (w.heap.size < gN ∧ w.heap.size + 1 < gN ∧ w4.heap.size < gN)) key.out ?_
   first
    | exact ⟨(sT.out _ _ _ _ s1 hl), set2_row hg _ _, hl⟩
    | exact ⟨sS.out _ _ s1 (yQ _ _), heap_alloc_last _ _, sL.out _ s1⟩
    | exact ⟨sS.out _ _ s0 (yQ _ _), heap_alloc_last _ _, sL.out _ s0⟩
 rintro w6 g6 ⟨s1, Br, l6⟩
 have B6 := And.left s1
 have Bs := s1.2.1
 have Ag := s1.2.2.1
 have Bt := s1.2.2.2
 have H6 := zK l6
 clear s0 s1 sS sC sL sT l6
 obtain ⟨Bu, Bv, Bw, Bx, By, Bz, BA, BB, BC⟩ := zL Bs
 obtain ⟨BD, BE⟩ := zC Ag
 obtain ⟨BF, BG⟩ := zC Bt
 obtain ⟨BH, BI⟩ := zC Br
 have q0 := fz (k := 0) Ag
 have q1 := fz (k := 1) Ag
 obtain ⟨E0, E1⟩ := zQ Ag (.int .u64 u) (.int .u64 v)
 go_wp2
 exact bodyPost_ret (v := .agg #[.int .u64 u, .int .u64 v]) (by simp [results, Tryz.results85, go_sem, E0, E1]) rfl ⟨rfl, zN B6 (by first | exact Nat.le_refl _ | omega | (have := S5.out; have := Bc.out; have := Bd.out; have := H6.out; omega)) _ _⟩
end Go.Proofs.YtapikkbifdldfaaGreatDoor
