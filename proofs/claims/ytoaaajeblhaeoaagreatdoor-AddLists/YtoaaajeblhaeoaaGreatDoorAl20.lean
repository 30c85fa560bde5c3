/-
  What the functions that the statement reaches return: part 20 (R14, R31).
-/
import Derived.Test.YtoaaajeblhaeoaaGreatDoorAl19
namespace Go.Proofs.YtoaaajeblhaeoaaGreatDoor
set_option maxRecDepth 100000
set_option maxHeartbeats 40000000
open Go.RowKit WMath
set_option linter.unusedSimpArgs false
set_option linter.unusedVariables false
theorem cw_zip (K : Nat) : (cw 6 K).zipIdx = #[(.int .u64 (wd K 0), 0), (.int .u64 (wd K 1), 1), (.int .u64 (wd K 2), 2), (.int .u64 (wd K 3), 3), (.int .u64 (wd K 4), 4), (.int .u64 (wd K 5), 5)] := by kernel_rfl
theorem rg_sets (neg : Bool) (K : Nat) (st : Int) : ((((((((rg false 0 0 false).toList.set 0 (.bool neg)).set 1 (.int .u64 (wd K 0))).set 2 (.int .u64 (wd K 1))).set 3 (.int .u64 (wd K 2))).set 4 (.int .u64 (wd K 3))).set 5 (.int .u64 (wd K 4))).set 6 (.int .u64 (wd K 5))).set 7 (.int .i64 st) = (rg neg K st false).toList := rfl
theorem ro_grid_no (m st : Int) (neg : Bool) (s : Nat) (x : Int) (more : Bool) (R K : Nat) (lo : Bool) (A1 A2 h : Int) (ex od : Bool) (w : World) (hQ : zO (R < Q ∧ K < Q))
  (K1 : zO (∀ w, Calls Tryz.prog 185 #[.agg (cw 6 s), .int .i64 A1] w fun r w' => r = .returned (.tuple #[.agg (cw 6 R), .bool lo]) ∧ Below w.heap.size w w'))
  (K2 : zO (∀ w, Calls Tryz.prog 262 #[.agg (cw 6 R), .int .i64 A2] w fun r w' => r = .returned (.tuple #[.agg (cw 6 K), .int .i64 h, .bool ex]) ∧ Below w.heap.size w w'))
  (K3 : zO (∀ w, Calls Tryz.prog 264 #[.agg (cw 6 K), .int .i64 0] w fun r w' => r = .returned (.bool od) ∧ Below w.heap.size w w'))
  (K4 : zO (∀ w, Calls Tryz.prog 263 #[.int .u8 m, .bool neg, .bool od, .int .i64 h, .bool ex] w fun r w' => r = .returned (.bool false) ∧ Below w.heap.size w w'))
  (h1 : IntKind.i64.wrap (x - st) = A1) (h2 : IntKind.i64.wrap (st - x) = A2) : Calls Tryz.prog 177 #[.int .u8 m, .agg (rg neg s x more), .int .i64 st] w fun r w' => r = .returned (.tuple #[.agg (rg neg K st false), .bool ex]) ∧ Below w.heap.size w w' := by
 have hat := yB 6
 have hz := yT
 have hff := yQ
 have hs0 := qZ
 have hcs : ∀ x, ((cw 6 x).size = 6) = True := fun x => eq_true (z8 6 x)
 have hp1 := rgf
 have hp3 := rgz
 have hp4 := st_r0
 have hzi := cw_zip
 have hls := rg_sets
 have hp5 : ∀ (c : Bool) (s : Nat) (x : Int) (r : Bool), ((rg c s x r).size = 9) = True := fun _ _ _ _ => eq_true rfl
 obtain ⟨Af, Ag, B0⟩ := x7 w (Obj.cells (rg neg s x more) 114) (Obj.cells (rg false 0 0 false) 114)
 go_enter Tryz.func177, Tryz.ntmps177
 obtain ⟨Ap, Aq, Ar, As, At, Au, Av, Aw, Ax⟩ := zQ Af
 obtain ⟨Ay, Az, AA, AB, AC, AD, AE, AF, AG⟩ := zQ Ag
 go_wp2_with fail
 refine (K1.out _).mono ?_
 rintro r w1 ⟨rfl, b1⟩
 have B1 := zU B0 b1
 obtain ⟨Aa, Ab⟩ := zY b1 Af Ag
 clear b1 B0 Af Ap Aq Ar As At Au Av Aw Ax Ag Ay Az AA AB AC AD AE AF AG
 obtain ⟨AH, AI, AJ, AK, AL, AM, AN, AO, AP⟩ := zQ Aa
 obtain ⟨AQ, AR, AS, AT, AU, AV, AW, AX, AY⟩ := zQ Ab
 have S2 := zJ B1.size
 have AZ := yE Aa
 have A0 := yE Ab
 have Ah := heap_alloc_last w1 (Obj.cells (cw 6 R) 71)
 have B2 := zU B1 (yO w1 (Obj.cells (cw 6 R) 71))
 obtain ⟨Ai, Aj⟩ := zY (yO w1 (Obj.cells (cw 6 R) 71)) Aa Ab
 clear B1 Aa AH AI AJ AK AL AM AN AO AP Ab AQ AR AS AT AU AV AW AX AY
 obtain ⟨A3, A4, A5, A6, A7, A8, A9, Ba, Bb⟩ := zQ Ai
 obtain ⟨Bc, Bd, Be, Bf, Bg, Bh, Bi, Bj, Bk⟩ := zQ Aj
 have Bl := zE Ah
 go_wp2_with fail
 refine (K2.out _).mono ?_
 rintro r w3 ⟨rfl, b3⟩
 have B3 := zU B2 b3
 obtain ⟨Ac, Ad, Ae⟩ := yA b3 Ai Aj Ah
 clear b3 B2 Ai A3 A4 A5 A6 A7 A8 A9 Ba Bb Aj Bc Bd Be Bf Bg Bh Bi Bj Bk Ah Bl
 obtain ⟨Bm, Bn, Bo, Bp, Bq, Br, Bs, Bt, Bu⟩ := zQ Ac
 obtain ⟨Bv, Bw, Bx, By, Bz, BA, BB, BC, BD⟩ := zQ Ad
 have BE := zE Ae
 have S4 := zJ B3.size
 have BF := yE Ac
 have BG := yE Ad
 have BH := yE Ae
 have Ak := heap_alloc_last w3 (Obj.cells (cw 6 K) 71)
 have B4 := zU B3 (yO w3 (Obj.cells (cw 6 K) 71))
 obtain ⟨Al, Am, Ao⟩ := yA (yO w3 (Obj.cells (cw 6 K) 71)) Ac Ad Ae
 clear B3 Ac Bm Bn Bo Bp Bq Br Bs Bt Bu Ad Bv Bw Bx By Bz BA BB BC BD Ae BE
 obtain ⟨BI, BJ, BK, BL, BM, BN, BO, BP, BQ⟩ := zQ Al
 obtain ⟨BR, BS, BT, BU, BV, BW, BX, BY, BZ⟩ := zQ Am
 have B6 := zE Ao
 have B7 := zE Ak
 clear Ao B6
 have sS : zO (∀ W W1 : World, (Below w.heap.size w W ∧ W.heap[w.heap.size]? = some (.cells (rg neg s x more) 114) ∧ W.heap[w.heap.size + 1]? = some (.cells (rg false 0 0 false) 114) ∧ W.heap[w3.heap.size]? = some (.cells (cw 6 K) 71)) → Below W.heap.size W W1 → (Below w.heap.size w W1 ∧ W1.heap[w.heap.size]? = some (.cells (rg neg s x more) 114) ∧ W1.heap[w.heap.size + 1]? = some (.cells (rg false 0 0 false) 114) ∧ W1.heap[w3.heap.size]? = some (.cells (cw 6 K) 71))) := zJ (fun W W1 h b => ⟨zU h.1 b, zA b _ _ _ h.2.1, zA b _ _ _ h.2.2.1, zA b _ _ _ h.2.2.2⟩)
 have sC : zO (∀ W : World, (Below w.heap.size w W ∧ W.heap[w.heap.size]? = some (.cells (rg neg s x more) 114) ∧ W.heap[w.heap.size + 1]? = some (.cells (rg false 0 0 false) 114) ∧ W.heap[w3.heap.size]? = some (.cells (cw 6 K) 71)) → (Below w.heap.size w W ∧ W.heap[w.heap.size]? = some (.cells (rg neg s x more) 114) ∧ W.heap[w.heap.size + 1]? = some (.cells (rg false 0 0 false) 114) ∧ W.heap[w3.heap.size]? = some (.cells (cw 6 K) 71) ∧ W.cell? ⟨w.heap.size, 0, none⟩ = some (.bool neg) ∧ W.cell? ⟨w.heap.size, 1, none⟩ = some (.int .u64 (wd s 0)) ∧ W.cell? ⟨w.heap.size, 2, none⟩ = some (.int .u64 (wd s 1)) ∧ W.cell? ⟨w.heap.size, 3, none⟩ = some (.int .u64 (wd s 2)) ∧ W.cell? ⟨w.heap.size, 4, none⟩ = some (.int .u64 (wd s 3)) ∧ W.cell? ⟨w.heap.size, 5, none⟩ = some (.int .u64 (wd s 4)) ∧ W.cell? ⟨w.heap.size, 6, none⟩ = some (.int .u64 (wd s 5)) ∧ W.cell? ⟨w.heap.size, 7, none⟩ = some (.int .i64 x) ∧ W.cell? ⟨w.heap.size, 8, none⟩ = some (.bool more) ∧ W.cell? ⟨w3.heap.size, 0, none⟩ = some (.int .u64 (wd K 0)) ∧ W.cell? ⟨w3.heap.size, 1, none⟩ = some (.int .u64 (wd K 1)) ∧ W.cell? ⟨w3.heap.size, 2, none⟩ = some (.int .u64 (wd K 2)) ∧ W.cell? ⟨w3.heap.size, 3, none⟩ = some (.int .u64 (wd K 3)) ∧ W.cell? ⟨w3.heap.size, 4, none⟩ = some (.int .u64 (wd K 4)) ∧ W.cell? ⟨w3.heap.size, 5, none⟩ = some (.int .u64 (wd K 5)))) := zJ (fun W h => ⟨h.1, h.2.1, h.2.2.1, h.2.2.2, zI (h.2.1) 0 _ rfl, zI (h.2.1) 1 _ rfl, zI (h.2.1) 2 _ rfl, zI (h.2.1) 3 _ rfl, zI (h.2.1) 4 _ rfl, zI (h.2.1) 5 _ rfl, zI (h.2.1) 6 _ rfl, zI (h.2.1) 7 _ rfl, zI (h.2.1) 8 _ rfl, zE (h.2.2.2) 0 (by decide), zE (h.2.2.2) 1 (by decide), zE (h.2.2.2) 2 (by decide), zE (h.2.2.2) 3 (by decide), zE (h.2.2.2) 4 (by decide), zE (h.2.2.2) 5 (by decide)⟩)
 have s0 : Below w.heap.size w ((w3.alloc (Obj.cells (cw 6 K) 71))).drew ∧ ((w3.alloc (Obj.cells (cw 6 K) 71))).drew.heap[w.heap.size]? = some (.cells (rg neg s x more) 114) ∧ ((w3.alloc (Obj.cells (cw 6 K) 71))).drew.heap[w.heap.size + 1]? = some (.cells (rg false 0 0 false) 114) ∧ ((w3.alloc (Obj.cells (cw 6 K) 71))).drew.heap[w3.heap.size]? = some (.cells (cw 6 K) 71) := ⟨B4.drew, Al, Am, Ak⟩
 go_wp2_with fail
 go_region_held3 (fun W => Below w.heap.size w W ∧ W.heap[w.heap.size]? = some (.cells (rg neg s x more) 114) ∧ W.heap[w.heap.size + 1]? = some (.cells (rg false 0 0 false) 114) ∧ W.heap[w3.heap.size]? = some (.cells (cw 6 K) 71) ∧ W.cell? ⟨w.heap.size, 0, none⟩ = some (.bool neg) ∧ W.cell? ⟨w.heap.size, 1, none⟩ = some (.int .u64 (wd s 0)) ∧ W.cell? ⟨w.heap.size, 2, none⟩ = some (.int .u64 (wd s 1)) ∧ W.cell? ⟨w.heap.size, 3, none⟩ = some (.int .u64 (wd s 2)) ∧ W.cell? ⟨w.heap.size, 4, none⟩ = some (.int .u64 (wd s 3)) ∧ W.cell? ⟨w.heap.size, 5, none⟩ = some (.int .u64 (wd s 4)) ∧ W.cell? ⟨w.heap.size, 6, none⟩ = some (.int .u64 (wd s 5)) ∧ W.cell? ⟨w.heap.size, 7, none⟩ = some (.int .i64 x) ∧ W.cell? ⟨w.heap.size, 8, none⟩ = some (.bool more) ∧ W.cell? ⟨w3.heap.size, 0, none⟩ = some (.int .u64 (wd K 0)) ∧ W.cell? ⟨w3.heap.size, 1, none⟩ = some (.int .u64 (wd K 1)) ∧ W.cell? ⟨w3.heap.size, 2, none⟩ = some (.int .u64 (wd K 2)) ∧ W.cell? ⟨w3.heap.size, 3, none⟩ = some (.int .u64 (wd K 3)) ∧ W.cell? ⟨w3.heap.size, 4, none⟩ = some (.int .u64 (wd K 4)) ∧ W.cell? ⟨w3.heap.size, 5, none⟩ = some (.int .u64 (wd K 5))) (first | exact sC.out _ s1 | exact sC.out _ s0)
  (((first | (go_at_call 264; refine (K3.out _).mono ?_) | (go_at_call 263; refine (K4.out _).mono ?_) | fail); rintro r wq ⟨rfl, bq⟩; (first | have s1 := sS.out _ _ s1 bq | have s1 := sS.out _ _ s0 bq); clear bq))
 have B5 := (And.left s1)
 have B8 := s1.2.1
 have An := s1.2.2.1
 have B9 := s1.2.2.2
 clear s0 s1 sS sC B4 Al BI BJ BK BL BM BN BO BP BQ Am BR BS BT BU BV BW BX BY BZ Ak B7
 obtain ⟨Ca, Cb, Cc, Cd, Ce, Cf, Cg, Ch, Ci⟩ := zQ B8
 obtain ⟨Cj, Ck, Cl, Cm, Cn, Co, Cp, Cq, Cr⟩ := zQ An
 have Cs := zE B9
 have hstz := st_r wq (w.heap.size + 1) neg K st false false 0 0 false An
 have RZ := zS (c' := rg neg K st false) An
 obtain ⟨dz0, dz1, dz2, dz3, dz4, dz5, dz6, dz7, dz8⟩ := zQ RZ
 have bz := z7 (c := rg neg K st false) B5 (show w.heap.size ≤ w.heap.size + 1 by first | exact Nat.le_refl _ | omega | (have := S2.out; have := AZ.out; have := A0.out; have := S4.out; have := BF.out; have := BG.out; have := BH.out; omega))
 go_wp2
 exact bodyPost_ret (v := .tuple #[.agg (rg neg K st false), .bool ex]) (by simp [results, Tryz.results177, go_sem, dz0, dz1, dz2, dz3, dz4, dz5, dz6, dz7, dz8, rgf] <;> rfl) rfl ⟨rfl, bz⟩
theorem ro_grid_up (m st : Int) (neg : Bool) (s : Nat) (x : Int) (more : Bool) (R K K' : Nat) (lo l2 : Bool) (A1 A2 h : Int) (ex od : Bool) (w : World)
  (K1 : zO (∀ w, Calls Tryz.prog 185 #[.agg (cw 6 s), .int .i64 A1] w fun r w' => r = .returned (.tuple #[.agg (cw 6 R), .bool lo]) ∧ Below w.heap.size w w'))
  (K2 : zO (∀ w, Calls Tryz.prog 262 #[.agg (cw 6 R), .int .i64 A2] w fun r w' => r = .returned (.tuple #[.agg (cw 6 K), .int .i64 h, .bool ex]) ∧ Below w.heap.size w w'))
  (K3 : zO (∀ w, Calls Tryz.prog 264 #[.agg (cw 6 K), .int .i64 0] w fun r w' => r = .returned (.bool od) ∧ Below w.heap.size w w'))
  (K4 : zO (∀ w, Calls Tryz.prog 263 #[.int .u8 m, .bool neg, .bool od, .int .i64 h, .bool ex] w fun r w' => r = .returned (.bool true) ∧ Below w.heap.size w w'))
  (K5 : zO (∀ w, Calls Tryz.prog 94 #[.int .u64 1] w fun r w' => r = .returned (.agg (cw 6 1)) ∧ Below w.heap.size w w'))
  (K6 : zO (∀ w, Calls Tryz.prog 247 #[.agg (cw 6 K), .agg (cw 6 1)] w fun r w' => r = .returned (.tuple #[.agg (cw 6 K'), .bool l2]) ∧ Below w.heap.size w w'))
  (h1 : IntKind.i64.wrap (x - st) = A1) (h2 : IntKind.i64.wrap (st - x) = A2) : Calls Tryz.prog 177 #[.int .u8 m, .agg (rg neg s x more), .int .i64 st] w fun r w' => r = .returned (.tuple #[.agg (rg neg K' st false), .bool ex]) ∧ Below w.heap.size w w' := by
 have hat := yB 6
 have hz := yT
 have hff := yQ
 have hs0 := qZ
 have hcs : ∀ x, ((cw 6 x).size = 6) = True := fun x => eq_true (z8 6 x)
 have hp1 := rgf
 have hp3 := rgz
 have hp4 := st_r0
 have hzi := cw_zip
 have hls := rg_sets
 have hp5 : ∀ (c : Bool) (s : Nat) (x : Int) (r : Bool), ((rg c s x r).size = 9) = True := fun _ _ _ _ => eq_true rfl
 obtain ⟨Al, Am, B0⟩ := x7 w (Obj.cells (rg neg s x more) 114) (Obj.cells (rg false 0 0 false) 114)
 go_enter Tryz.func177, Tryz.ntmps177
 obtain ⟨AA, AB, AC, AD, AE, AF, AG, AH, AI⟩ := zQ Al
 obtain ⟨AJ, AK, AL, AM, AN, AO, AP, AQ, AR⟩ := zQ Am
 go_wp2_with fail
 refine (K1.out _).mono ?_
 rintro r w1 ⟨rfl, b1⟩
 have B1 := zU B0 b1
 obtain ⟨Aa, Ab⟩ := zY b1 Al Am
 clear b1 B0 Al AA AB AC AD AE AF AG AH AI Am AJ AK AL AM AN AO AP AQ AR
 obtain ⟨AS, AT, AU, AV, AW, AX, AY, AZ, A0⟩ := zQ Aa
 obtain ⟨A3, A4, A5, A6, A7, A8, A9, Ba, Bb⟩ := zQ Ab
 have S2 := zJ B1.size
 have Ac := yE Aa
 have Ad := yE Ab
 have An := heap_alloc_last w1 (Obj.cells (cw 6 R) 71)
 have B2 := zU B1 (yO w1 (Obj.cells (cw 6 R) 71))
 obtain ⟨Ao, Ap⟩ := zY (yO w1 (Obj.cells (cw 6 R) 71)) Aa Ab
 clear B1 Aa AS AT AU AV AW AX AY AZ A0 Ab A3 A4 A5 A6 A7 A8 A9 Ba Bb
 obtain ⟨Bc, Bd, Be, Bf, Bg, Bh, Bi, Bj, Bk⟩ := zQ Ao
 obtain ⟨Bl, Bm, Bn, Bo, Bp, Bq, Br, Bs, Bt⟩ := zQ Ap
 have Bu := zE An
 go_wp2_with fail
 refine (K2.out _).mono ?_
 rintro r w3 ⟨rfl, b3⟩
 have B3 := zU B2 b3
 obtain ⟨Ae, Af, Ag⟩ := yA b3 Ao Ap An
 clear b3 B2 Ao Bc Bd Be Bf Bg Bh Bi Bj Bk Ap Bl Bm Bn Bo Bp Bq Br Bs Bt An Bu
 obtain ⟨Bv, Bw, Bx, By, Bz, BA, BB, BC, BD⟩ := zQ Ae
 obtain ⟨BE, BF, BG, BH, BI, BJ, BK, BL, BM⟩ := zQ Af
 have BN := zE Ag
 have S4 := zJ B3.size
 have Ah := yE Ae
 have Ai := yE Af
 have Aj := yE Ag
 have Aq := heap_alloc_last w3 (Obj.cells (cw 6 K) 71)
 have B4 := zU B3 (yO w3 (Obj.cells (cw 6 K) 71))
 obtain ⟨Ar, As, Aw⟩ := yA (yO w3 (Obj.cells (cw 6 K) 71)) Ae Af Ag
 clear B3 Ae Bv Bw Bx By Bz BA BB BC BD Af BE BF BG BH BI BJ BK BL BM Ag BN
 obtain ⟨BO, BP, BQ, BR, BS, BT, BU, BV, BW⟩ := zQ Ar
 obtain ⟨BX, BY, BZ, B7, B8, B9, Ca, Cb, Cc⟩ := zQ As
 have Cd := zE Aw
 have Ce := zE Aq
 clear Aw Cd
 have sS : zO (∀ W W1 : World, (Below w.heap.size w W ∧ W.heap[w.heap.size]? = some (.cells (rg neg s x more) 114) ∧ W.heap[w.heap.size + 1]? = some (.cells (rg false 0 0 false) 114) ∧ W.heap[w3.heap.size]? = some (.cells (cw 6 K) 71)) → Below W.heap.size W W1 → (Below w.heap.size w W1 ∧ W1.heap[w.heap.size]? = some (.cells (rg neg s x more) 114) ∧ W1.heap[w.heap.size + 1]? = some (.cells (rg false 0 0 false) 114) ∧ W1.heap[w3.heap.size]? = some (.cells (cw 6 K) 71))) := zJ (fun W W1 h b => ⟨zU h.1 b, zA b _ _ _ h.2.1, zA b _ _ _ h.2.2.1, zA b _ _ _ h.2.2.2⟩)
 have sC : zO (∀ W : World, (Below w.heap.size w W ∧ W.heap[w.heap.size]? = some (.cells (rg neg s x more) 114) ∧ W.heap[w.heap.size + 1]? = some (.cells (rg false 0 0 false) 114) ∧ W.heap[w3.heap.size]? = some (.cells (cw 6 K) 71)) → (Below w.heap.size w W ∧ W.heap[w.heap.size]? = some (.cells (rg neg s x more) 114) ∧ W.heap[w.heap.size + 1]? = some (.cells (rg false 0 0 false) 114) ∧ W.heap[w3.heap.size]? = some (.cells (cw 6 K) 71) ∧ W.cell? ⟨w.heap.size, 0, none⟩ = some (.bool neg) ∧ W.cell? ⟨w.heap.size, 1, none⟩ = some (.int .u64 (wd s 0)) ∧ W.cell? ⟨w.heap.size, 2, none⟩ = some (.int .u64 (wd s 1)) ∧ W.cell? ⟨w.heap.size, 3, none⟩ = some (.int .u64 (wd s 2)) ∧ W.cell? ⟨w.heap.size, 4, none⟩ = some (.int .u64 (wd s 3)) ∧ W.cell? ⟨w.heap.size, 5, none⟩ = some (.int .u64 (wd s 4)) ∧ W.cell? ⟨w.heap.size, 6, none⟩ = some (.int .u64 (wd s 5)) ∧ W.cell? ⟨w.heap.size, 7, none⟩ = some (.int .i64 x) ∧ W.cell? ⟨w.heap.size, 8, none⟩ = some (.bool more) ∧ W.cell? ⟨w3.heap.size, 0, none⟩ = some (.int .u64 (wd K 0)) ∧ W.cell? ⟨w3.heap.size, 1, none⟩ = some (.int .u64 (wd K 1)) ∧ W.cell? ⟨w3.heap.size, 2, none⟩ = some (.int .u64 (wd K 2)) ∧ W.cell? ⟨w3.heap.size, 3, none⟩ = some (.int .u64 (wd K 3)) ∧ W.cell? ⟨w3.heap.size, 4, none⟩ = some (.int .u64 (wd K 4)) ∧ W.cell? ⟨w3.heap.size, 5, none⟩ = some (.int .u64 (wd K 5)))) := zJ (fun W h => ⟨h.1, h.2.1, h.2.2.1, h.2.2.2, zI (h.2.1) 0 _ rfl, zI (h.2.1) 1 _ rfl, zI (h.2.1) 2 _ rfl, zI (h.2.1) 3 _ rfl, zI (h.2.1) 4 _ rfl, zI (h.2.1) 5 _ rfl, zI (h.2.1) 6 _ rfl, zI (h.2.1) 7 _ rfl, zI (h.2.1) 8 _ rfl, zE (h.2.2.2) 0 (by decide), zE (h.2.2.2) 1 (by decide), zE (h.2.2.2) 2 (by decide), zE (h.2.2.2) 3 (by decide), zE (h.2.2.2) 4 (by decide), zE (h.2.2.2) 5 (by decide)⟩)
 have s0 : Below w.heap.size w ((w3.alloc (Obj.cells (cw 6 K) 71))).drew ∧ ((w3.alloc (Obj.cells (cw 6 K) 71))).drew.heap[w.heap.size]? = some (.cells (rg neg s x more) 114) ∧ ((w3.alloc (Obj.cells (cw 6 K) 71))).drew.heap[w.heap.size + 1]? = some (.cells (rg false 0 0 false) 114) ∧ ((w3.alloc (Obj.cells (cw 6 K) 71))).drew.heap[w3.heap.size]? = some (.cells (cw 6 K) 71) := ⟨B4.drew, Ar, As, Aq⟩
 go_wp2_with fail
 go_region_held3 (fun W => Below w.heap.size w W ∧ W.heap[w.heap.size]? = some (.cells (rg neg s x more) 114) ∧ W.heap[w.heap.size + 1]? = some (.cells (rg false 0 0 false) 114) ∧ W.heap[w3.heap.size]? = some (.cells (cw 6 K) 71) ∧ W.cell? ⟨w.heap.size, 0, none⟩ = some (.bool neg) ∧ W.cell? ⟨w.heap.size, 1, none⟩ = some (.int .u64 (wd s 0)) ∧ W.cell? ⟨w.heap.size, 2, none⟩ = some (.int .u64 (wd s 1)) ∧ W.cell? ⟨w.heap.size, 3, none⟩ = some (.int .u64 (wd s 2)) ∧ W.cell? ⟨w.heap.size, 4, none⟩ = some (.int .u64 (wd s 3)) ∧ W.cell? ⟨w.heap.size, 5, none⟩ = some (.int .u64 (wd s 4)) ∧ W.cell? ⟨w.heap.size, 6, none⟩ = some (.int .u64 (wd s 5)) ∧ W.cell? ⟨w.heap.size, 7, none⟩ = some (.int .i64 x) ∧ W.cell? ⟨w.heap.size, 8, none⟩ = some (.bool more) ∧ W.cell? ⟨w3.heap.size, 0, none⟩ = some (.int .u64 (wd K 0)) ∧ W.cell? ⟨w3.heap.size, 1, none⟩ = some (.int .u64 (wd K 1)) ∧ W.cell? ⟨w3.heap.size, 2, none⟩ = some (.int .u64 (wd K 2)) ∧ W.cell? ⟨w3.heap.size, 3, none⟩ = some (.int .u64 (wd K 3)) ∧ W.cell? ⟨w3.heap.size, 4, none⟩ = some (.int .u64 (wd K 4)) ∧ W.cell? ⟨w3.heap.size, 5, none⟩ = some (.int .u64 (wd K 5))) (first | exact sC.out _ s1 | exact sC.out _ s0)
  (((first | (go_at_call 264; refine (K3.out _).mono ?_) | (go_at_call 263; refine (K4.out _).mono ?_) | fail); rintro r wq ⟨rfl, bq⟩; (first | have s1 := sS.out _ _ s1 bq | have s1 := sS.out _ _ s0 bq); clear bq))
 have B5 := (And.left s1)
 have At := s1.2.1
 have Au := s1.2.2.1
 have Av := s1.2.2.2
 clear s0 s1 sS sC B4 Ar BO BP BQ BR BS BT BU BV BW As BX BY BZ B7 B8 B9 Ca Cb Cc Aq Ce
 obtain ⟨Cf, Cg, Ch, Ci, Cj, Ck, Cl, Cm, Cn⟩ := zQ At
 obtain ⟨Co, Cp, Cq, Cr, Cs, Ct, Cu, Cv, Cw⟩ := zQ Au
 have Cx := zE Av
 have qx : (wq).drew.heap[w.heap.size]? = some (.cells (rg neg s x more) 114) := At
 have qz : (wq).drew.heap[w.heap.size + 1]? = some (.cells (rg false 0 0 false) 114) := Au
 have qk : (wq).drew.heap[w3.heap.size]? = some (.cells (cw 6 K) 71) := Av
 have qB := B5.drew
 have qc := zE qk
 go_wp2_with fail
 go_region_with (((first | (go_at_call 94; refine (K5.out _).mono ?_) | (go_at_call 247; refine (K6.out _).mono ?_) | fail); rintro r wq ⟨rfl, bq⟩; have qx := zA bq _ _ _ qx; have qz := zA bq _ _ _ qz; have qk := zA bq _ _ _ qk; have qB := zU qB bq; have qc := zE qk; have hst := y6 wq (w3.heap.size) K' K qk; clear bq))
 all_goals
  have Ax : (wq.setRow (w3.heap.size) (cw 6 K')).heap[w3.heap.size]? = some (.cells (cw 6 K') 71) := zS qk
  have B6 : Below w.heap.size w (wq.setRow (w3.heap.size) (cw 6 K')) := z7 qB (show w.heap.size ≤ w3.heap.size by first | exact Nat.le_refl _ | omega | (have := S2.out; have := Ac.out; have := Ad.out; have := S4.out; have := Ah.out; have := Ai.out; have := Aj.out; omega))
  have Ay : (wq.setRow (w3.heap.size) (cw 6 K')).heap[w.heap.size]? = some (.cells (rg neg s x more) 114) := (zK (by first | omega | (have := S2.out; have := Ac.out; have := Ad.out; have := S4.out; have := Ah.out; have := Ai.out; have := Aj.out; omega))).trans qx
  have Ak : (wq.setRow (w3.heap.size) (cw 6 K')).heap[w.heap.size + 1]? = some (.cells (rg false 0 0 false) 114) := (zK (by first | omega | (have := S2.out; have := Ac.out; have := Ad.out; have := S4.out; have := Ah.out; have := Ai.out; have := Aj.out; omega))).trans qz
  obtain ⟨w6, Az⟩ : ∃ V, (wq.setRow (w3.heap.size) (cw 6 K')) = V := ⟨_, rfl⟩
  rw [Az] at B6 Ay Ak Ax ⊢
  clear Az qB qc hst qx qz qk B5 At Cf Cg Ch Ci Cj Ck Cl Cm Cn Au Co Cp Cq Cr Cs Ct Cu Cv Cw Av Cx
  obtain ⟨Cy, Cz, CA, CB, CC, CD, CE, CF, CG⟩ := zQ Ay
  obtain ⟨CH, CI, CJ, CK, CL, CM, CN, CO, CP⟩ := zQ Ak
  have CQ := zE Ax
  have hstz := st_r w6 (w.heap.size + 1) neg K' st false false 0 0 false Ak
  have RZ := zS (c' := rg neg K' st false) Ak
  obtain ⟨dz0, dz1, dz2, dz3, dz4, dz5, dz6, dz7, dz8⟩ := zQ RZ
  have bz := z7 (c := rg neg K' st false) B6 (show w.heap.size ≤ w.heap.size + 1 by first | exact Nat.le_refl _ | omega | (have := S2.out; have := Ac.out; have := Ad.out; have := S4.out; have := Ah.out; have := Ai.out; have := Aj.out; omega))
  go_wp2
  exact bodyPost_ret (v := .tuple #[.agg (rg neg K' st false), .bool ex]) (by simp [results, Tryz.results177, go_sem, dz0, dz1, dz2, dz3, dz4, dz5, dz6, dz7, dz8, rgf] <;> rfl) rfl ⟨rfl, bz⟩
theorem gen_round_encoding_8 {X : Act → World → Prop} {R : World → Nat → Prop} {t0 t1 t2 t3 t4 t5 t6 t7 t9 t10 t11 t12 t13 t14 t15 t16 t17 t18 t19 t20 t21 t22 t23 t24 t25 t26 t27 t28 t29 t30 t31 t32 t33 t34 t35 t36 t37 t38 t39 t40 t41 t42 t43 t44 t45 t46 : Value} {d : List Deferred} {W : World} {G : Nat}
  (key : ∀ w5 g, R w5 g → X ⟨#[t0, t1, t2, t3, t4, t5, t6, t7, .pointer (some ⟨g, 0, none⟩), t9, t10, t11, t12, t13, t14, t15, t16, t17, t18, t19, t20, t21, t22, t23, t24, t25, t26, t27, t28, t29, t30, t31, t32, t33, t34, t35, t36, t37, t38, t39, t40, t41, t42, t43, t44, t45, t46], d⟩ w5) (r : R W G) : X ⟨#[t0, t1, t2, t3, t4, t5, t6, t7, .pointer (some ⟨G, 0, none⟩), t9, t10, t11, t12, t13, t14, t15, t16, t17, t18, t19, t20, t21, t22, t23, t24, t25, t26, t27, t28, t29, t30, t31, t32, t33, t34, t35, t36, t37, t38, t39, t40, t41, t42, t43, t44, t45, t46], d⟩ W := key W G r

theorem rg_set2 (neg : Bool) (s t : Nat) (x : Int) (more : Bool) (h : ∀ k, k ≠ 1 → k < 6 → wd t k = wd s k) : (rg neg s x more).setIfInBounds 2 (.int .u64 (wd t 1)) = rg neg t x more := by
 have h0 := h 0 (by decide) (by decide)
 have h2 := h 2 (by decide) (by decide)
 have h3 := h 3 (by decide) (by decide)
 have h4 := h 4 (by decide) (by decide)
 have h5 := h 5 (by decide) (by decide)
 unfold rg
 rw [h0, h2, h3, h4, h5]
 rfl
theorem ro_encv (f p q : Int) (s : Nat) (Ah : IntKind.i64.wrap (p - 1) = q) (hq2 : Int.tdiv q 64 = 0) (hq3 : Int.tmod q 64 = (s : Int)) (hq4 : decide (q = -9223372036854775808) = false) (neg : Bool) (K K' S : Nat) (x I st A1 F G : Int) (u v zu zv O : Nat) (ob : Bool) (w : World)
  (KP : zO (∀ w, yG w → Calls Tryz.prog 186 #[.int .u8 f] w fun r w' => r = .returned (.int .i64 p) ∧ Below w.heap.size w w'))
  (KI : zO (∀ w, yG w → Calls Tryz.prog 131 #[.int .u8 f] w fun r w' => r = .returned (.int .i64 I) ∧ Below w.heap.size w w'))
  (KS : zO (∀ w, yG w → Calls Tryz.prog 178 #[.int .u8 f, .int .i64 I] w fun r w' => r = .returned (.int .i64 st) ∧ Below w.heap.size w w'))
  (h1 : IntKind.i64.wrap (x - st) = A1) (h2 : IntKind.u64.wrap A1 = F) (h3 : IntKind.u64.wrap (F * 2 ^ min s 64) = G) (h4 : IntKind.u64.wrap (((wd K 0 : Nat) : Int) + G) = ((wd K' 0 : Nat) : Int))
  (hk : zO (∀ k, 0 < k → k < 6 → wd K' k = wd K k))
  (KZ : zO (∀ w, yG w → Calls Tryz.prog 67 #[.int .u8 f, .bool neg] w fun r w' => r = .returned (.agg #[.int .u64 zu, .int .u64 zv]) ∧ Below w.heap.size w w'))
  (KB : zO (∀ w, Calls Tryz.prog 183 #[.agg #[.int .u64 zu, .int .u64 zv]] w fun r w' => r = .returned (.agg (cw 6 S)) ∧ Below w.heap.size w w'))
  (KO : zO (∀ w, Calls Tryz.prog 187 #[.agg (cw 6 K'), .agg (cw 6 S)] w fun r w' => r = .returned (.agg (cw 6 O)) ∧ Below w.heap.size w w'))
  (KT : zO (∀ w, Calls Tryz.prog 204 #[.agg (cw 6 O)] w fun r w' => r = .returned (.tuple #[.agg #[.int .u64 u, .int .u64 v], .bool ob]) ∧ Below w.heap.size w w')) (hT : yG w) : Calls Tryz.prog 182 #[.int .u8 f, .agg (rg neg K x false)] w fun r w' => r = .returned (.agg #[.int .u64 u, .int .u64 v]) ∧ Below w.heap.size w w' := by
 have FF := zJ hT
 clear hT
 have hat := yB 6
 have hz := yT
 have hff := yQ
 have hs0 := qZ
 have hcs : ∀ x, ((cw 6 x).size = 6) = True := fun x => eq_true (z8 6 x)
 have hp1 := rgf
 have hp5 : ∀ (c : Bool) (s : Nat) (x : Int) (r : Bool), ((rg c s x r).size = 9) = True := fun _ _ _ _ => eq_true rfl
 obtain ⟨An, Ao, B0⟩ := x7 w (Obj.cells (rg neg K x false) 114) (Obj.cells #[.int .u64 0, .int .u64 0] 25)
 go_enter Tryz.func182, Tryz.ntmps182
 go_wp2_with fail
 refine (KP.out _ (zZ FF.out B0)).mono ?_
 rintro r w1 ⟨rfl, b1⟩
 have B1 := zU B0 b1
 obtain ⟨Aa, Ab⟩ := zY b1 An Ao
 clear b1 B0 An Ao
 obtain ⟨At, Au, Av, Aw, Ax, Ay, Az, AA, AB⟩ := zQ Aa
 obtain ⟨AC, AD⟩ := zC Ab
 have sS : zO (∀ W W1 : World, (Below w.heap.size w W ∧ W.heap[w.heap.size]? = some (.cells (rg neg K x false) 114) ∧ W.heap[w.heap.size + 1]? = some (.cells #[.int .u64 0, .int .u64 0] 25) ∧ W.cell? ⟨w.heap.size, 0, none⟩ = some (.bool neg) ∧ W.cell? ⟨w.heap.size, 1, none⟩ = some (.int .u64 (wd K 0)) ∧ W.cell? ⟨w.heap.size, 2, none⟩ = some (.int .u64 (wd K 1)) ∧ W.cell? ⟨w.heap.size, 3, none⟩ = some (.int .u64 (wd K 2)) ∧ W.cell? ⟨w.heap.size, 4, none⟩ = some (.int .u64 (wd K 3)) ∧ W.cell? ⟨w.heap.size, 5, none⟩ = some (.int .u64 (wd K 4)) ∧ W.cell? ⟨w.heap.size, 6, none⟩ = some (.int .u64 (wd K 5)) ∧ W.cell? ⟨w.heap.size, 7, none⟩ = some (.int .i64 x) ∧ W.cell? ⟨w.heap.size, 8, none⟩ = some (.bool false) ∧ W.cell? ⟨w.heap.size + 1, 0, none⟩ = some (.int .u64 0) ∧ W.cell? ⟨w.heap.size + 1, 1, none⟩ = some (.int .u64 0)) → Below W.heap.size W W1 → (Below w.heap.size w W1 ∧ W1.heap[w.heap.size]? = some (.cells (rg neg K x false) 114) ∧ W1.heap[w.heap.size + 1]? = some (.cells #[.int .u64 0, .int .u64 0] 25) ∧ W1.cell? ⟨w.heap.size, 0, none⟩ = some (.bool neg) ∧ W1.cell? ⟨w.heap.size, 1, none⟩ = some (.int .u64 (wd K 0)) ∧ W1.cell? ⟨w.heap.size, 2, none⟩ = some (.int .u64 (wd K 1)) ∧ W1.cell? ⟨w.heap.size, 3, none⟩ = some (.int .u64 (wd K 2)) ∧ W1.cell? ⟨w.heap.size, 4, none⟩ = some (.int .u64 (wd K 3)) ∧ W1.cell? ⟨w.heap.size, 5, none⟩ = some (.int .u64 (wd K 4)) ∧ W1.cell? ⟨w.heap.size, 6, none⟩ = some (.int .u64 (wd K 5)) ∧ W1.cell? ⟨w.heap.size, 7, none⟩ = some (.int .i64 x) ∧ W1.cell? ⟨w.heap.size, 8, none⟩ = some (.bool false) ∧ W1.cell? ⟨w.heap.size + 1, 0, none⟩ = some (.int .u64 0) ∧ W1.cell? ⟨w.heap.size + 1, 1, none⟩ = some (.int .u64 0))) := zJ (fun W W1 h b => ⟨zU h.1 b, zA b _ _ _ h.2.1, zA b _ _ _ h.2.2.1, zI (zA b _ _ _ h.2.1) 0 _ rfl, zI (zA b _ _ _ h.2.1) 1 _ rfl, zI (zA b _ _ _ h.2.1) 2 _ rfl, zI (zA b _ _ _ h.2.1) 3 _ rfl, zI (zA b _ _ _ h.2.1) 4 _ rfl, zI (zA b _ _ _ h.2.1) 5 _ rfl, zI (zA b _ _ _ h.2.1) 6 _ rfl, zI (zA b _ _ _ h.2.1) 7 _ rfl, zI (zA b _ _ _ h.2.1) 8 _ rfl, zI (zA b _ _ _ h.2.2.1) 0 _ rfl, zI (zA b _ _ _ h.2.2.1) 1 _ rfl⟩)
 have s0 : Below w.heap.size w (w1).drew ∧ (w1).drew.heap[w.heap.size]? = some (.cells (rg neg K x false) 114) ∧ (w1).drew.heap[w.heap.size + 1]? = some (.cells #[.int .u64 0, .int .u64 0] 25) ∧ (w1).drew.cell? ⟨w.heap.size, 0, none⟩ = some (.bool neg) ∧ (w1).drew.cell? ⟨w.heap.size, 1, none⟩ = some (.int .u64 (wd K 0)) ∧ (w1).drew.cell? ⟨w.heap.size, 2, none⟩ = some (.int .u64 (wd K 1)) ∧ (w1).drew.cell? ⟨w.heap.size, 3, none⟩ = some (.int .u64 (wd K 2)) ∧ (w1).drew.cell? ⟨w.heap.size, 4, none⟩ = some (.int .u64 (wd K 3)) ∧ (w1).drew.cell? ⟨w.heap.size, 5, none⟩ = some (.int .u64 (wd K 4)) ∧ (w1).drew.cell? ⟨w.heap.size, 6, none⟩ = some (.int .u64 (wd K 5)) ∧ (w1).drew.cell? ⟨w.heap.size, 7, none⟩ = some (.int .i64 x) ∧ (w1).drew.cell? ⟨w.heap.size, 8, none⟩ = some (.bool false) ∧ (w1).drew.cell? ⟨w.heap.size + 1, 0, none⟩ = some (.int .u64 0) ∧ (w1).drew.cell? ⟨w.heap.size + 1, 1, none⟩ = some (.int .u64 0) := ⟨B1.drew, Aa, Ab, zI (Aa) 0 _ rfl, zI (Aa) 1 _ rfl, zI (Aa) 2 _ rfl, zI (Aa) 3 _ rfl, zI (Aa) 4 _ rfl, zI (Aa) 5 _ rfl, zI (Aa) 6 _ rfl, zI (Aa) 7 _ rfl, zI (Aa) 8 _ rfl, zI (Ab) 0 _ rfl, zI (Ab) 1 _ rfl⟩
 go_wp2_with fail
 go_region_held3 (fun W => Below w.heap.size w W ∧ W.heap[w.heap.size]? = some (.cells (rg neg K x false) 114) ∧ W.heap[w.heap.size + 1]? = some (.cells #[.int .u64 0, .int .u64 0] 25) ∧ W.cell? ⟨w.heap.size, 0, none⟩ = some (.bool neg) ∧ W.cell? ⟨w.heap.size, 1, none⟩ = some (.int .u64 (wd K 0)) ∧ W.cell? ⟨w.heap.size, 2, none⟩ = some (.int .u64 (wd K 1)) ∧ W.cell? ⟨w.heap.size, 3, none⟩ = some (.int .u64 (wd K 2)) ∧ W.cell? ⟨w.heap.size, 4, none⟩ = some (.int .u64 (wd K 3)) ∧ W.cell? ⟨w.heap.size, 5, none⟩ = some (.int .u64 (wd K 4)) ∧ W.cell? ⟨w.heap.size, 6, none⟩ = some (.int .u64 (wd K 5)) ∧ W.cell? ⟨w.heap.size, 7, none⟩ = some (.int .i64 x) ∧ W.cell? ⟨w.heap.size, 8, none⟩ = some (.bool false) ∧ W.cell? ⟨w.heap.size + 1, 0, none⟩ = some (.int .u64 0) ∧ W.cell? ⟨w.heap.size + 1, 1, none⟩ = some (.int .u64 0)) (first | exact s1 | exact s0)
  (((first | (go_at_call 131; (first | refine (KI.out _ (zZ FF.out (And.left s1))).mono ?_ | refine (KI.out _ (zZ FF.out (And.left s0))).mono ?_)) | (go_at_call 178; (first | refine (KS.out _ (zZ FF.out (And.left s1))).mono ?_ | refine (KS.out _ (zZ FF.out (And.left s0))).mono ?_)) | fail); rintro r wq ⟨rfl, bq⟩; have s1 := (by first | exact sS.out _ _ s1 bq | exact sS.out _ _ s0 bq); clear bq))
 have B2 := (And.left s1)
 have Ai := s1.2.1
 have Aj := s1.2.2.1
 clear s0 s1 sS B1 Aa At Au Av Aw Ax Ay Az AA AB Ab AC AD
 obtain ⟨AE, AF, AG, AH, AI, AJ, AK, AL, AM⟩ := zQ Ai
 obtain ⟨AN, AO⟩ := zC Aj
 have sT : zO (∀ (W : World) (xA : Value), (Below w.heap.size w W ∧ W.heap[w.heap.size + 1]? = some (.cells #[.int .u64 0, .int .u64 0] 25)) → (Below w.heap.size w (W.setCell ⟨w.heap.size, 1, none⟩ xA) ∧ (W.setCell ⟨w.heap.size, 1, none⟩ xA).heap[w.heap.size + 1]? = some (.cells #[.int .u64 0, .int .u64 0] 25))) := zJ (fun W xA h => ⟨Below.setCell h.1 (show w.heap.size ≤ w.heap.size by first | exact Nat.le_refl _ | omega | (skip; omega)) xA, (zH (by first | omega | (skip; omega))).trans h.2⟩)
 have s0 : Below w.heap.size w wq ∧ wq.heap[w.heap.size + 1]? = some (.cells #[.int .u64 0, .int .u64 0] 25) := ⟨B2, Aj⟩
 have rz : wq.heap[w.heap.size]? = some (.cells (rg neg K x false) 114) := Ai
 have hqz := fz (k := 1) rz
 obtain ⟨hz0, hz1, hz2, hz3, hz4, hz5, hz6, hz7, hz8⟩ := zQ rz
 go_wp2_with fail
 go_region
 have s2 : Below w.heap.size w (wq.setCell ⟨w.heap.size, 1, none⟩ (.int .u64 ((wd K' 0 : Nat) : Int))) ∧ (wq.setCell ⟨w.heap.size, 1, none⟩ (.int .u64 ((wd K' 0 : Nat) : Int))).heap[w.heap.size + 1]? = some (.cells #[.int .u64 0, .int .u64 0] 25) := sT.out _ _ s0
 have Ac : ((wq.setCell ⟨w.heap.size, 1, none⟩ (.int .u64 ((wd K' 0 : Nat) : Int))).drew).heap[w.heap.size]? = some (.cells (rg neg K' x false) 114) := (by rw [zX rz]; rw [rg_set1 neg K K' x false hk.out] : (wq.setCell ⟨w.heap.size, 1, none⟩ (.int .u64 ((wd K' 0 : Nat) : Int))).heap[w.heap.size]? = some (.cells (rg neg K' x false) 114))
 have B3 : Below w.heap.size w ((wq.setCell ⟨w.heap.size, 1, none⟩ (.int .u64 ((wd K' 0 : Nat) : Int))).drew) := (And.left s2).drew
 have Ad : ((wq.setCell ⟨w.heap.size, 1, none⟩ (.int .u64 ((wd K' 0 : Nat) : Int))).drew).heap[w.heap.size + 1]? = some (.cells #[.int .u64 0, .int .u64 0] 25) := s2.2
 obtain ⟨w3, Ap⟩ : ∃ V, ((wq.setCell ⟨w.heap.size, 1, none⟩ (.int .u64 ((wd K' 0 : Nat) : Int))).drew) = V := ⟨_, rfl⟩
 rw [Ap] at B3 Ac Ad ⊢
 clear Ap sT s0 s2 rz hqz hz0 hz1 hz2 hz3 hz4 hz5 hz6 hz7 hz8 B2 Ai AE AF AG AH AI AJ AK AL AM Aj AN AO
 obtain ⟨AP, AQ, AR, AS, AT, AU, AV, AW, AX⟩ := zQ Ac
 obtain ⟨AY, AZ⟩ := zC Ad
 go_wp2_with fail
 refine (KZ.out _ (zZ FF.out B3)).mono ?_
 rintro r w4 ⟨rfl, b4⟩
 have B4 := zU B3 b4
 obtain ⟨Ae, Af⟩ := zY b4 Ac Ad
 clear b4 B3 Ac AP AQ AR AS AT AU AV AW AX Ad AY AZ
 obtain ⟨A0, A2, A3, A4, A5, A6, A7, A8, A9⟩ := zQ Ae
 obtain ⟨Ba, Bb⟩ := zC Af
 have S5 := zJ B4.size
 have Bc := yE Ae
 have Bd := yE Af
 have Ak := heap_alloc_last w4 (Obj.cells #[.int .u64 zu, .int .u64 zv] 25)
 have B5 := zU B4 (yO w4 (Obj.cells #[.int .u64 zu, .int .u64 zv] 25))
 obtain ⟨Al, Am⟩ := zY (yO w4 (Obj.cells #[.int .u64 zu, .int .u64 zv] 25)) Ae Af
 clear B4 Ae A0 A2 A3 A4 A5 A6 A7 A8 A9 Af Ba Bb
 obtain ⟨Be, Bf, Bg, Bh, Bi, Bj, Bk, Bl, Bm⟩ := zQ Al
 obtain ⟨Bn, Bo⟩ := zC Am
 obtain ⟨Bp, Bq⟩ := zC Ak
 have sS : zO (∀ W W1 : World, (Below w.heap.size w W ∧ W.heap[w.heap.size]? = some (.cells (rg neg K' x false) 114) ∧ W.heap[w.heap.size + 1]? = some (.cells #[.int .u64 0, .int .u64 0] 25) ∧ W.heap[w4.heap.size]? = some (.cells #[.int .u64 zu, .int .u64 zv] 25)) → Below W.heap.size W W1 → (Below w.heap.size w W1 ∧ W1.heap[w.heap.size]? = some (.cells (rg neg K' x false) 114) ∧ W1.heap[w.heap.size + 1]? = some (.cells #[.int .u64 0, .int .u64 0] 25) ∧ W1.heap[w4.heap.size]? = some (.cells #[.int .u64 zu, .int .u64 zv] 25))) := zJ (fun W W1 h b => ⟨zU h.1 b, zA b _ _ _ h.2.1, zA b _ _ _ h.2.2.1, zA b _ _ _ h.2.2.2⟩)
 have sL : zO (∀ W : World, (Below w.heap.size w W ∧ W.heap[w.heap.size]? = some (.cells (rg neg K' x false) 114) ∧ W.heap[w.heap.size + 1]? = some (.cells #[.int .u64 0, .int .u64 0] 25) ∧ W.heap[w4.heap.size]? = some (.cells #[.int .u64 zu, .int .u64 zv] 25)) → (w.heap.size < W.heap.size ∧ w.heap.size + 1 < W.heap.size ∧ w4.heap.size < W.heap.size)) := zJ (fun W h => ⟨(Array.getElem?_eq_some_iff.1 h.2.1).1, (Array.getElem?_eq_some_iff.1 h.2.2.1).1, (Array.getElem?_eq_some_iff.1 h.2.2.2).1⟩)
 have sT : zO (∀ (W : World) (gN : Nat) (xA xB : Value), (Below w.heap.size w W ∧ W.heap[w.heap.size]? = some (.cells (rg neg K' x false) 114) ∧ W.heap[w.heap.size + 1]? = some (.cells #[.int .u64 0, .int .u64 0] 25) ∧ W.heap[w4.heap.size]? = some (.cells #[.int .u64 zu, .int .u64 zv] 25)) → (w.heap.size < gN ∧ w.heap.size + 1 < gN ∧ w4.heap.size < gN) → (Below w.heap.size w ((W.setCell ⟨gN, 0, none⟩ xA).setCell ⟨gN, 1, none⟩ xB) ∧ ((W.setCell ⟨gN, 0, none⟩ xA).setCell ⟨gN, 1, none⟩ xB).heap[w.heap.size]? = some (.cells (rg neg K' x false) 114) ∧ ((W.setCell ⟨gN, 0, none⟩ xA).setCell ⟨gN, 1, none⟩ xB).heap[w.heap.size + 1]? = some (.cells #[.int .u64 0, .int .u64 0] 25) ∧ ((W.setCell ⟨gN, 0, none⟩ xA).setCell ⟨gN, 1, none⟩ xB).heap[w4.heap.size]? = some (.cells #[.int .u64 zu, .int .u64 zv] 25))) := zJ (fun W gN xA xB h l => ⟨zM h.1 (show w.heap.size ≤ gN by have := l.1; omega) _ _, (zH (by have := l.1; omega)).trans ((zH (by have := l.1; omega)).trans h.2.1), (zH (by have := l.2.1; omega)).trans ((zH (by have := l.2.1; omega)).trans h.2.2.1), (zH (by have := l.2.2; omega)).trans ((zH (by have := l.2.2; omega)).trans h.2.2.2)⟩)
 have sC : zO (∀ W : World, (Below w.heap.size w W ∧ W.heap[w.heap.size]? = some (.cells (rg neg K' x false) 114) ∧ W.heap[w.heap.size + 1]? = some (.cells #[.int .u64 0, .int .u64 0] 25) ∧ W.heap[w4.heap.size]? = some (.cells #[.int .u64 zu, .int .u64 zv] 25)) → (Below w.heap.size w W ∧ W.heap[w.heap.size]? = some (.cells (rg neg K' x false) 114) ∧ W.heap[w.heap.size + 1]? = some (.cells #[.int .u64 0, .int .u64 0] 25) ∧ W.heap[w4.heap.size]? = some (.cells #[.int .u64 zu, .int .u64 zv] 25) ∧ W.cell? ⟨w.heap.size, 0, none⟩ = some (.bool neg) ∧ W.cell? ⟨w.heap.size, 1, none⟩ = some (.int .u64 ((wd K' 0 : Nat) : Int)) ∧ W.cell? ⟨w.heap.size, 2, none⟩ = some (.int .u64 ((wd K' 1 : Nat) : Int)) ∧ W.cell? ⟨w.heap.size, 3, none⟩ = some (.int .u64 ((wd K' 2 : Nat) : Int)) ∧ W.cell? ⟨w.heap.size, 4, none⟩ = some (.int .u64 ((wd K' 3 : Nat) : Int)) ∧ W.cell? ⟨w.heap.size, 5, none⟩ = some (.int .u64 ((wd K' 4 : Nat) : Int)) ∧ W.cell? ⟨w.heap.size, 6, none⟩ = some (.int .u64 ((wd K' 5 : Nat) : Int)) ∧ W.cell? ⟨w.heap.size, 7, none⟩ = some (.int .i64 x) ∧ W.cell? ⟨w.heap.size, 8, none⟩ = some (.bool false) ∧ W.cell? ⟨w.heap.size + 1, 0, none⟩ = some (.int .u64 0) ∧ W.cell? ⟨w.heap.size + 1, 1, none⟩ = some (.int .u64 0) ∧ W.cell? ⟨w4.heap.size, 0, none⟩ = some (.int .u64 zu) ∧ W.cell? ⟨w4.heap.size, 1, none⟩ = some (.int .u64 zv))) := zJ (fun W h => ⟨h.1, h.2.1, h.2.2.1, h.2.2.2, zI (h.2.1) 0 _ rfl, zI (h.2.1) 1 _ rfl, zI (h.2.1) 2 _ rfl, zI (h.2.1) 3 _ rfl, zI (h.2.1) 4 _ rfl, zI (h.2.1) 5 _ rfl, zI (h.2.1) 6 _ rfl, zI (h.2.1) 7 _ rfl, zI (h.2.1) 8 _ rfl, zI (h.2.2.1) 0 _ rfl, zI (h.2.2.1) 1 _ rfl, zI (h.2.2.2) 0 _ rfl, zI (h.2.2.2) 1 _ rfl⟩)
 have s0 : Below w.heap.size w ((w4.alloc (Obj.cells #[.int .u64 zu, .int .u64 zv] 25))).drew ∧ ((w4.alloc (Obj.cells #[.int .u64 zu, .int .u64 zv] 25))).drew.heap[w.heap.size]? = some (.cells (rg neg K' x false) 114) ∧ ((w4.alloc (Obj.cells #[.int .u64 zu, .int .u64 zv] 25))).drew.heap[w.heap.size + 1]? = some (.cells #[.int .u64 0, .int .u64 0] 25) ∧ ((w4.alloc (Obj.cells #[.int .u64 zu, .int .u64 zv] 25))).drew.heap[w4.heap.size]? = some (.cells #[.int .u64 zu, .int .u64 zv] 25) := ⟨B5.drew, Al, Am, Ak⟩
 clear B5 Al Be Bf Bg Bh Bi Bj Bk Bl Bm Am Bn Bo Ak Bp Bq
 go_wp2_with fail
 apply cut7
 ·
  intro key0
  have key := zJ key0
  clear key0
  go_region_held3 (fun W => Below w.heap.size w W ∧ W.heap[w.heap.size]? = some (.cells (rg neg K' x false) 114) ∧ W.heap[w.heap.size + 1]? = some (.cells #[.int .u64 0, .int .u64 0] 25) ∧ W.heap[w4.heap.size]? = some (.cells #[.int .u64 zu, .int .u64 zv] 25) ∧ W.cell? ⟨w.heap.size, 0, none⟩ = some (.bool neg) ∧ W.cell? ⟨w.heap.size, 1, none⟩ = some (.int .u64 ((wd K' 0 : Nat) : Int)) ∧ W.cell? ⟨w.heap.size, 2, none⟩ = some (.int .u64 ((wd K' 1 : Nat) : Int)) ∧ W.cell? ⟨w.heap.size, 3, none⟩ = some (.int .u64 ((wd K' 2 : Nat) : Int)) ∧ W.cell? ⟨w.heap.size, 4, none⟩ = some (.int .u64 ((wd K' 3 : Nat) : Int)) ∧ W.cell? ⟨w.heap.size, 5, none⟩ = some (.int .u64 ((wd K' 4 : Nat) : Int)) ∧ W.cell? ⟨w.heap.size, 6, none⟩ = some (.int .u64 ((wd K' 5 : Nat) : Int)) ∧ W.cell? ⟨w.heap.size, 7, none⟩ = some (.int .i64 x) ∧ W.cell? ⟨w.heap.size, 8, none⟩ = some (.bool false) ∧ W.cell? ⟨w.heap.size + 1, 0, none⟩ = some (.int .u64 0) ∧ W.cell? ⟨w.heap.size + 1, 1, none⟩ = some (.int .u64 0) ∧ W.cell? ⟨w4.heap.size, 0, none⟩ = some (.int .u64 zu) ∧ W.cell? ⟨w4.heap.size, 1, none⟩ = some (.int .u64 zv)) (first | exact sC.out _ s1 | exact sC.out _ s0 | exact sC.out _ (sS.out _ _ s1 (yO _ _)) | exact sC.out _ (sS.out _ _ s0 (yO _ _)) | exact sC.out _ (sT.out _ _ _ _ s1 hl))
   (((first | (go_at_call 183; (first | refine (KB.out _).mono ?_ | refine (KB.out _).mono ?_)) | (go_at_call 187; (first | refine (KO.out _).mono ?_ | refine (KO.out _).mono ?_)) | (go_at_call 204; (first | refine (KT.out _).mono ?_ | refine (KT.out _).mono ?_)) | fail); rintro r wq ⟨rfl, bq⟩; (first | (have hg := zA bq _ _ _ (heap_alloc_last _ _); have hl := (by first | exact sL.out _ s1 | exact sL.out _ s0)) | have hg := zA bq _ _ _ hg | skip); (try simp only [xJ, zW] at hg hl); (first | (have Aq := fz (k := 0) hg; have Ah := fz (k := 1) hg; have Ar := zI hg 0 _ rfl; have As := zI hg 1 _ rfl) | skip); have s2 := (by first | exact sS.out _ _ s1 bq | exact sS.out _ _ s0 bq | exact sS.out _ _ (sS.out _ _ s1 (yO _ _)) bq | exact sS.out _ _ (sS.out _ _ s0 (yO _ _)) bq); (try clear s1); have s1 := s2; clear s2 bq))
  all_goals
   refine gen_round_encoding_8 (R := fun W gN => (Below w.heap.size w W ∧ W.heap[w.heap.size]? = some (.cells (rg neg K' x false) 114) ∧ W.heap[w.heap.size + 1]? = some (.cells #[.int .u64 0, .int .u64 0] 25) ∧ W.heap[w4.heap.size]? = some (.cells #[.int .u64 zu, .int .u64 zv] 25)) ∧ W.heap[gN]? = some (.cells #[.int .u64 u, .int .u64 v] 25) ∧ (w.heap.size < gN ∧ w.heap.size + 1 < gN ∧ w4.heap.size < gN)) key.out ?_
   first
    | exact ⟨(sT.out _ _ _ _ s1 hl), x6 hg _ _, hl⟩
    | exact ⟨sS.out _ _ s1 (yO _ _), heap_alloc_last _ _, sL.out _ s1⟩
    | exact ⟨sS.out _ _ s0 (yO _ _), heap_alloc_last _ _, sL.out _ s0⟩
 rintro w6 g6 ⟨s1, Br, l6⟩
 have B6 := And.left s1
 have Bs := s1.2.1
 have Ag := s1.2.2.1
 have Bt := s1.2.2.2
 have H6 := zJ l6
 clear s0 s1 sS sC sL sT l6
 obtain ⟨Bu, Bv, Bw, Bx, By, Bz, BA, BB, BC⟩ := zQ Bs
 obtain ⟨BD, BE⟩ := zC Ag
 obtain ⟨BF, BG⟩ := zC Bt
 obtain ⟨BH, BI⟩ := zC Br
 have q0 := fz (k := 0) Ag
 have q1 := fz (k := 1) Ag
 obtain ⟨E0, E1⟩ := zN Ag (.int .u64 u) (.int .u64 v)
 go_wp2
 exact bodyPost_ret (v := .agg #[.int .u64 u, .int .u64 v]) (by simp [results, Tryz.results182, go_sem, E0, E1]) rfl ⟨rfl, zM B6 (by first | exact Nat.le_refl _ | omega | (have := S5.out; have := Bc.out; have := Bd.out; have := H6.out; omega)) _ _⟩
theorem ro_enc_3 (neg : Bool) (K K' S : Nat) (x I st A1 F G : Int) (u v zu zv O : Nat) (ob : Bool) (w : World)
  (KP : zO (∀ w, yG w → Calls Tryz.prog 186 #[.int .u8 3] w fun r w' => r = .returned (.int .i64 113) ∧ Below w.heap.size w w'))
  (KI : zO (∀ w, yG w → Calls Tryz.prog 131 #[.int .u8 3] w fun r w' => r = .returned (.int .i64 I) ∧ Below w.heap.size w w'))
  (KS : zO (∀ w, yG w → Calls Tryz.prog 178 #[.int .u8 3, .int .i64 I] w fun r w' => r = .returned (.int .i64 st) ∧ Below w.heap.size w w'))
  (h1 : IntKind.i64.wrap (x - st) = A1) (h2 : IntKind.u64.wrap A1 = F) (h3 : IntKind.u64.wrap (F * 281474976710656) = G) (h4 : IntKind.u64.wrap (((wd K 1 : Nat) : Int) + G) = ((wd K' 1 : Nat) : Int))
  (hk : zO (∀ k, k ≠ 1 → k < 6 → wd K' k = wd K k))
  (KZ : zO (∀ w, yG w → Calls Tryz.prog 67 #[.int .u8 3, .bool neg] w fun r w' => r = .returned (.agg #[.int .u64 zu, .int .u64 zv]) ∧ Below w.heap.size w w'))
  (KB : zO (∀ w, Calls Tryz.prog 183 #[.agg #[.int .u64 zu, .int .u64 zv]] w fun r w' => r = .returned (.agg (cw 6 S)) ∧ Below w.heap.size w w'))
  (KO : zO (∀ w, Calls Tryz.prog 187 #[.agg (cw 6 K'), .agg (cw 6 S)] w fun r w' => r = .returned (.agg (cw 6 O)) ∧ Below w.heap.size w w'))
  (KT : zO (∀ w, Calls Tryz.prog 204 #[.agg (cw 6 O)] w fun r w' => r = .returned (.tuple #[.agg #[.int .u64 u, .int .u64 v], .bool ob]) ∧ Below w.heap.size w w')) (hT : yG w) : Calls Tryz.prog 182 #[.int .u8 3, .agg (rg neg K x false)] w fun r w' => r = .returned (.agg #[.int .u64 u, .int .u64 v]) ∧ Below w.heap.size w w' := by
 have FF := zJ hT
 clear hT
 have hat := yB 6
 have hz := yT
 have hff := yQ
 have hs0 := qZ
 have hcs : ∀ x, ((cw 6 x).size = 6) = True := fun x => eq_true (z8 6 x)
 have hp1 := rgf
 have hp5 : ∀ (c : Bool) (s : Nat) (x : Int) (r : Bool), ((rg c s x r).size = 9) = True := fun _ _ _ _ => eq_true rfl
 obtain ⟨Am, An, B0⟩ := x7 w (Obj.cells (rg neg K x false) 114) (Obj.cells #[.int .u64 0, .int .u64 0] 25)
 go_enter Tryz.func182, Tryz.ntmps182
 go_wp2_with fail
 refine (KP.out _ (zZ FF.out B0)).mono ?_
 rintro r w1 ⟨rfl, b1⟩
 have B1 := zU B0 b1
 obtain ⟨Aa, Ab⟩ := zY b1 Am An
 clear b1 B0 Am An
 obtain ⟨At, Au, Av, Aw, Ax, Ay, Az, AA, AB⟩ := zQ Aa
 obtain ⟨AC, AD⟩ := zC Ab
 have sS : zO (∀ W W1 : World, (Below w.heap.size w W ∧ W.heap[w.heap.size]? = some (.cells (rg neg K x false) 114) ∧ W.heap[w.heap.size + 1]? = some (.cells #[.int .u64 0, .int .u64 0] 25) ∧ W.cell? ⟨w.heap.size, 0, none⟩ = some (.bool neg) ∧ W.cell? ⟨w.heap.size, 1, none⟩ = some (.int .u64 (wd K 0)) ∧ W.cell? ⟨w.heap.size, 2, none⟩ = some (.int .u64 (wd K 1)) ∧ W.cell? ⟨w.heap.size, 3, none⟩ = some (.int .u64 (wd K 2)) ∧ W.cell? ⟨w.heap.size, 4, none⟩ = some (.int .u64 (wd K 3)) ∧ W.cell? ⟨w.heap.size, 5, none⟩ = some (.int .u64 (wd K 4)) ∧ W.cell? ⟨w.heap.size, 6, none⟩ = some (.int .u64 (wd K 5)) ∧ W.cell? ⟨w.heap.size, 7, none⟩ = some (.int .i64 x) ∧ W.cell? ⟨w.heap.size, 8, none⟩ = some (.bool false) ∧ W.cell? ⟨w.heap.size + 1, 0, none⟩ = some (.int .u64 0) ∧ W.cell? ⟨w.heap.size + 1, 1, none⟩ = some (.int .u64 0)) → Below W.heap.size W W1 → (Below w.heap.size w W1 ∧ W1.heap[w.heap.size]? = some (.cells (rg neg K x false) 114) ∧ W1.heap[w.heap.size + 1]? = some (.cells #[.int .u64 0, .int .u64 0] 25) ∧ W1.cell? ⟨w.heap.size, 0, none⟩ = some (.bool neg) ∧ W1.cell? ⟨w.heap.size, 1, none⟩ = some (.int .u64 (wd K 0)) ∧ W1.cell? ⟨w.heap.size, 2, none⟩ = some (.int .u64 (wd K 1)) ∧ W1.cell? ⟨w.heap.size, 3, none⟩ = some (.int .u64 (wd K 2)) ∧ W1.cell? ⟨w.heap.size, 4, none⟩ = some (.int .u64 (wd K 3)) ∧ W1.cell? ⟨w.heap.size, 5, none⟩ = some (.int .u64 (wd K 4)) ∧ W1.cell? ⟨w.heap.size, 6, none⟩ = some (.int .u64 (wd K 5)) ∧ W1.cell? ⟨w.heap.size, 7, none⟩ = some (.int .i64 x) ∧ W1.cell? ⟨w.heap.size, 8, none⟩ = some (.bool false) ∧ W1.cell? ⟨w.heap.size + 1, 0, none⟩ = some (.int .u64 0) ∧ W1.cell? ⟨w.heap.size + 1, 1, none⟩ = some (.int .u64 0))) := zJ (fun W W1 h b => ⟨zU h.1 b, zA b _ _ _ h.2.1, zA b _ _ _ h.2.2.1, zI (zA b _ _ _ h.2.1) 0 _ rfl, zI (zA b _ _ _ h.2.1) 1 _ rfl, zI (zA b _ _ _ h.2.1) 2 _ rfl, zI (zA b _ _ _ h.2.1) 3 _ rfl, zI (zA b _ _ _ h.2.1) 4 _ rfl, zI (zA b _ _ _ h.2.1) 5 _ rfl, zI (zA b _ _ _ h.2.1) 6 _ rfl, zI (zA b _ _ _ h.2.1) 7 _ rfl, zI (zA b _ _ _ h.2.1) 8 _ rfl, zI (zA b _ _ _ h.2.2.1) 0 _ rfl, zI (zA b _ _ _ h.2.2.1) 1 _ rfl⟩)
 have s0 : Below w.heap.size w (w1).drew ∧ (w1).drew.heap[w.heap.size]? = some (.cells (rg neg K x false) 114) ∧ (w1).drew.heap[w.heap.size + 1]? = some (.cells #[.int .u64 0, .int .u64 0] 25) ∧ (w1).drew.cell? ⟨w.heap.size, 0, none⟩ = some (.bool neg) ∧ (w1).drew.cell? ⟨w.heap.size, 1, none⟩ = some (.int .u64 (wd K 0)) ∧ (w1).drew.cell? ⟨w.heap.size, 2, none⟩ = some (.int .u64 (wd K 1)) ∧ (w1).drew.cell? ⟨w.heap.size, 3, none⟩ = some (.int .u64 (wd K 2)) ∧ (w1).drew.cell? ⟨w.heap.size, 4, none⟩ = some (.int .u64 (wd K 3)) ∧ (w1).drew.cell? ⟨w.heap.size, 5, none⟩ = some (.int .u64 (wd K 4)) ∧ (w1).drew.cell? ⟨w.heap.size, 6, none⟩ = some (.int .u64 (wd K 5)) ∧ (w1).drew.cell? ⟨w.heap.size, 7, none⟩ = some (.int .i64 x) ∧ (w1).drew.cell? ⟨w.heap.size, 8, none⟩ = some (.bool false) ∧ (w1).drew.cell? ⟨w.heap.size + 1, 0, none⟩ = some (.int .u64 0) ∧ (w1).drew.cell? ⟨w.heap.size + 1, 1, none⟩ = some (.int .u64 0) := ⟨B1.drew, Aa, Ab, zI (Aa) 0 _ rfl, zI (Aa) 1 _ rfl, zI (Aa) 2 _ rfl, zI (Aa) 3 _ rfl, zI (Aa) 4 _ rfl, zI (Aa) 5 _ rfl, zI (Aa) 6 _ rfl, zI (Aa) 7 _ rfl, zI (Aa) 8 _ rfl, zI (Ab) 0 _ rfl, zI (Ab) 1 _ rfl⟩
 go_wp2_with fail
 go_region_held3 (fun W => Below w.heap.size w W ∧ W.heap[w.heap.size]? = some (.cells (rg neg K x false) 114) ∧ W.heap[w.heap.size + 1]? = some (.cells #[.int .u64 0, .int .u64 0] 25) ∧ W.cell? ⟨w.heap.size, 0, none⟩ = some (.bool neg) ∧ W.cell? ⟨w.heap.size, 1, none⟩ = some (.int .u64 (wd K 0)) ∧ W.cell? ⟨w.heap.size, 2, none⟩ = some (.int .u64 (wd K 1)) ∧ W.cell? ⟨w.heap.size, 3, none⟩ = some (.int .u64 (wd K 2)) ∧ W.cell? ⟨w.heap.size, 4, none⟩ = some (.int .u64 (wd K 3)) ∧ W.cell? ⟨w.heap.size, 5, none⟩ = some (.int .u64 (wd K 4)) ∧ W.cell? ⟨w.heap.size, 6, none⟩ = some (.int .u64 (wd K 5)) ∧ W.cell? ⟨w.heap.size, 7, none⟩ = some (.int .i64 x) ∧ W.cell? ⟨w.heap.size, 8, none⟩ = some (.bool false) ∧ W.cell? ⟨w.heap.size + 1, 0, none⟩ = some (.int .u64 0) ∧ W.cell? ⟨w.heap.size + 1, 1, none⟩ = some (.int .u64 0)) (first | exact s1 | exact s0)
  (((first | (go_at_call 131; (first | refine (KI.out _ (zZ FF.out (And.left s1))).mono ?_ | refine (KI.out _ (zZ FF.out (And.left s0))).mono ?_)) | (go_at_call 178; (first | refine (KS.out _ (zZ FF.out (And.left s1))).mono ?_ | refine (KS.out _ (zZ FF.out (And.left s0))).mono ?_)) | fail); rintro r wq ⟨rfl, bq⟩; have s1 := (by first | exact sS.out _ _ s1 bq | exact sS.out _ _ s0 bq); clear bq))
 have B2 := (And.left s1)
 have Ah := s1.2.1
 have Ai := s1.2.2.1
 clear s0 s1 sS B1 Aa At Au Av Aw Ax Ay Az AA AB Ab AC AD
 obtain ⟨AE, AF, AG, AH, AI, AJ, AK, AL, AM⟩ := zQ Ah
 obtain ⟨AN, AO⟩ := zC Ai
 have sT : zO (∀ (W : World) (xA : Value), (Below w.heap.size w W ∧ W.heap[w.heap.size + 1]? = some (.cells #[.int .u64 0, .int .u64 0] 25)) → (Below w.heap.size w (W.setCell ⟨w.heap.size, 2, none⟩ xA) ∧ (W.setCell ⟨w.heap.size, 2, none⟩ xA).heap[w.heap.size + 1]? = some (.cells #[.int .u64 0, .int .u64 0] 25))) := zJ (fun W xA h => ⟨Below.setCell h.1 (show w.heap.size ≤ w.heap.size by first | exact Nat.le_refl _ | omega | (skip; omega)) xA, (zH (by first | omega | (skip; omega))).trans h.2⟩)
 have s0 : Below w.heap.size w wq ∧ wq.heap[w.heap.size + 1]? = some (.cells #[.int .u64 0, .int .u64 0] 25) := ⟨B2, Ai⟩
 have rz : wq.heap[w.heap.size]? = some (.cells (rg neg K x false) 114) := Ah
 have hqz := fz (k := 2) rz
 obtain ⟨hz0, hz1, hz2, hz3, hz4, hz5, hz6, hz7, hz8⟩ := zQ rz
 go_wp2_with fail
 go_region
 have s2 : Below w.heap.size w (wq.setCell ⟨w.heap.size, 2, none⟩ (.int .u64 ((wd K' 1 : Nat) : Int))) ∧ (wq.setCell ⟨w.heap.size, 2, none⟩ (.int .u64 ((wd K' 1 : Nat) : Int))).heap[w.heap.size + 1]? = some (.cells #[.int .u64 0, .int .u64 0] 25) := sT.out _ _ s0
 have Ac : ((wq.setCell ⟨w.heap.size, 2, none⟩ (.int .u64 ((wd K' 1 : Nat) : Int))).drew).heap[w.heap.size]? = some (.cells (rg neg K' x false) 114) := (by rw [zX rz]; rw [rg_set2 neg K K' x false hk.out] : (wq.setCell ⟨w.heap.size, 2, none⟩ (.int .u64 ((wd K' 1 : Nat) : Int))).heap[w.heap.size]? = some (.cells (rg neg K' x false) 114))
 have B3 : Below w.heap.size w ((wq.setCell ⟨w.heap.size, 2, none⟩ (.int .u64 ((wd K' 1 : Nat) : Int))).drew) := (And.left s2).drew
 have Ad : ((wq.setCell ⟨w.heap.size, 2, none⟩ (.int .u64 ((wd K' 1 : Nat) : Int))).drew).heap[w.heap.size + 1]? = some (.cells #[.int .u64 0, .int .u64 0] 25) := s2.2
 obtain ⟨w3, Ao⟩ : ∃ V, ((wq.setCell ⟨w.heap.size, 2, none⟩ (.int .u64 ((wd K' 1 : Nat) : Int))).drew) = V := ⟨_, rfl⟩
 rw [Ao] at B3 Ac Ad ⊢
 clear Ao sT s0 s2 rz hqz hz0 hz1 hz2 hz3 hz4 hz5 hz6 hz7 hz8 B2 Ah AE AF AG AH AI AJ AK AL AM Ai AN AO
 obtain ⟨AP, AQ, AR, AS, AT, AU, AV, AW, AX⟩ := zQ Ac
 obtain ⟨AY, AZ⟩ := zC Ad
 go_wp2_with fail
 refine (KZ.out _ (zZ FF.out B3)).mono ?_
 rintro r w4 ⟨rfl, b4⟩
 have B4 := zU B3 b4
 obtain ⟨Ae, Af⟩ := zY b4 Ac Ad
 clear b4 B3 Ac AP AQ AR AS AT AU AV AW AX Ad AY AZ
 obtain ⟨A0, A2, A3, A4, A5, A6, A7, A8, A9⟩ := zQ Ae
 obtain ⟨Ba, Bb⟩ := zC Af
 have S5 := zJ B4.size
 have Bc := yE Ae
 have Bd := yE Af
 have Aj := heap_alloc_last w4 (Obj.cells #[.int .u64 zu, .int .u64 zv] 25)
 have B5 := zU B4 (yO w4 (Obj.cells #[.int .u64 zu, .int .u64 zv] 25))
 obtain ⟨Ak, Al⟩ := zY (yO w4 (Obj.cells #[.int .u64 zu, .int .u64 zv] 25)) Ae Af
 clear B4 Ae A0 A2 A3 A4 A5 A6 A7 A8 A9 Af Ba Bb
 obtain ⟨Be, Bf, Bg, Bh, Bi, Bj, Bk, Bl, Bm⟩ := zQ Ak
 obtain ⟨Bn, Bo⟩ := zC Al
 obtain ⟨Bp, Bq⟩ := zC Aj
 have sS : zO (∀ W W1 : World, (Below w.heap.size w W ∧ W.heap[w.heap.size]? = some (.cells (rg neg K' x false) 114) ∧ W.heap[w.heap.size + 1]? = some (.cells #[.int .u64 0, .int .u64 0] 25) ∧ W.heap[w4.heap.size]? = some (.cells #[.int .u64 zu, .int .u64 zv] 25)) → Below W.heap.size W W1 → (Below w.heap.size w W1 ∧ W1.heap[w.heap.size]? = some (.cells (rg neg K' x false) 114) ∧ W1.heap[w.heap.size + 1]? = some (.cells #[.int .u64 0, .int .u64 0] 25) ∧ W1.heap[w4.heap.size]? = some (.cells #[.int .u64 zu, .int .u64 zv] 25))) := zJ (fun W W1 h b => ⟨zU h.1 b, zA b _ _ _ h.2.1, zA b _ _ _ h.2.2.1, zA b _ _ _ h.2.2.2⟩)
 have sL : zO (∀ W : World, (Below w.heap.size w W ∧ W.heap[w.heap.size]? = some (.cells (rg neg K' x false) 114) ∧ W.heap[w.heap.size + 1]? = some (.cells #[.int .u64 0, .int .u64 0] 25) ∧ W.heap[w4.heap.size]? = some (.cells #[.int .u64 zu, .int .u64 zv] 25)) → (w.heap.size < W.heap.size ∧ w.heap.size + 1 < W.heap.size ∧ w4.heap.size < W.heap.size)) := zJ (fun W h => ⟨(Array.getElem?_eq_some_iff.1 h.2.1).1, (Array.getElem?_eq_some_iff.1 h.2.2.1).1, (Array.getElem?_eq_some_iff.1 h.2.2.2).1⟩)
 have sT : zO (∀ (W : World) (gN : Nat) (xA xB : Value), (Below w.heap.size w W ∧ W.heap[w.heap.size]? = some (.cells (rg neg K' x false) 114) ∧ W.heap[w.heap.size + 1]? = some (.cells #[.int .u64 0, .int .u64 0] 25) ∧ W.heap[w4.heap.size]? = some (.cells #[.int .u64 zu, .int .u64 zv] 25)) → (w.heap.size < gN ∧ w.heap.size + 1 < gN ∧ w4.heap.size < gN) → (Below w.heap.size w ((W.setCell ⟨gN, 0, none⟩ xA).setCell ⟨gN, 1, none⟩ xB) ∧ ((W.setCell ⟨gN, 0, none⟩ xA).setCell ⟨gN, 1, none⟩ xB).heap[w.heap.size]? = some (.cells (rg neg K' x false) 114) ∧ ((W.setCell ⟨gN, 0, none⟩ xA).setCell ⟨gN, 1, none⟩ xB).heap[w.heap.size + 1]? = some (.cells #[.int .u64 0, .int .u64 0] 25) ∧ ((W.setCell ⟨gN, 0, none⟩ xA).setCell ⟨gN, 1, none⟩ xB).heap[w4.heap.size]? = some (.cells #[.int .u64 zu, .int .u64 zv] 25))) := zJ (fun W gN xA xB h l => ⟨zM h.1 (show w.heap.size ≤ gN by have := l.1; omega) _ _, (zH (by have := l.1; omega)).trans ((zH (by have := l.1; omega)).trans h.2.1), (zH (by have := l.2.1; omega)).trans ((zH (by have := l.2.1; omega)).trans h.2.2.1), (zH (by have := l.2.2; omega)).trans ((zH (by have := l.2.2; omega)).trans h.2.2.2)⟩)
 have sC : zO (∀ W : World, (Below w.heap.size w W ∧ W.heap[w.heap.size]? = some (.cells (rg neg K' x false) 114) ∧ W.heap[w.heap.size + 1]? = some (.cells #[.int .u64 0, .int .u64 0] 25) ∧ W.heap[w4.heap.size]? = some (.cells #[.int .u64 zu, .int .u64 zv] 25)) → (Below w.heap.size w W ∧ W.heap[w.heap.size]? = some (.cells (rg neg K' x false) 114) ∧ W.heap[w.heap.size + 1]? = some (.cells #[.int .u64 0, .int .u64 0] 25) ∧ W.heap[w4.heap.size]? = some (.cells #[.int .u64 zu, .int .u64 zv] 25) ∧ W.cell? ⟨w.heap.size, 0, none⟩ = some (.bool neg) ∧ W.cell? ⟨w.heap.size, 1, none⟩ = some (.int .u64 ((wd K' 0 : Nat) : Int)) ∧ W.cell? ⟨w.heap.size, 2, none⟩ = some (.int .u64 ((wd K' 1 : Nat) : Int)) ∧ W.cell? ⟨w.heap.size, 3, none⟩ = some (.int .u64 ((wd K' 2 : Nat) : Int)) ∧ W.cell? ⟨w.heap.size, 4, none⟩ = some (.int .u64 ((wd K' 3 : Nat) : Int)) ∧ W.cell? ⟨w.heap.size, 5, none⟩ = some (.int .u64 ((wd K' 4 : Nat) : Int)) ∧ W.cell? ⟨w.heap.size, 6, none⟩ = some (.int .u64 ((wd K' 5 : Nat) : Int)) ∧ W.cell? ⟨w.heap.size, 7, none⟩ = some (.int .i64 x) ∧ W.cell? ⟨w.heap.size, 8, none⟩ = some (.bool false) ∧ W.cell? ⟨w.heap.size + 1, 0, none⟩ = some (.int .u64 0) ∧ W.cell? ⟨w.heap.size + 1, 1, none⟩ = some (.int .u64 0) ∧ W.cell? ⟨w4.heap.size, 0, none⟩ = some (.int .u64 zu) ∧ W.cell? ⟨w4.heap.size, 1, none⟩ = some (.int .u64 zv))) := zJ (fun W h => ⟨h.1, h.2.1, h.2.2.1, h.2.2.2, zI (h.2.1) 0 _ rfl, zI (h.2.1) 1 _ rfl, zI (h.2.1) 2 _ rfl, zI (h.2.1) 3 _ rfl, zI (h.2.1) 4 _ rfl, zI (h.2.1) 5 _ rfl, zI (h.2.1) 6 _ rfl, zI (h.2.1) 7 _ rfl, zI (h.2.1) 8 _ rfl, zI (h.2.2.1) 0 _ rfl, zI (h.2.2.1) 1 _ rfl, zI (h.2.2.2) 0 _ rfl, zI (h.2.2.2) 1 _ rfl⟩)
 have s0 : Below w.heap.size w ((w4.alloc (Obj.cells #[.int .u64 zu, .int .u64 zv] 25))).drew ∧ ((w4.alloc (Obj.cells #[.int .u64 zu, .int .u64 zv] 25))).drew.heap[w.heap.size]? = some (.cells (rg neg K' x false) 114) ∧ ((w4.alloc (Obj.cells #[.int .u64 zu, .int .u64 zv] 25))).drew.heap[w.heap.size + 1]? = some (.cells #[.int .u64 0, .int .u64 0] 25) ∧ ((w4.alloc (Obj.cells #[.int .u64 zu, .int .u64 zv] 25))).drew.heap[w4.heap.size]? = some (.cells #[.int .u64 zu, .int .u64 zv] 25) := ⟨B5.drew, Ak, Al, Aj⟩
 clear B5 Ak Be Bf Bg Bh Bi Bj Bk Bl Bm Al Bn Bo Aj Bp Bq
 go_wp2_with fail
 apply cut7
 ·
  intro key0
  have key := zJ key0
  clear key0
  go_region_held3 (fun W => Below w.heap.size w W ∧ W.heap[w.heap.size]? = some (.cells (rg neg K' x false) 114) ∧ W.heap[w.heap.size + 1]? = some (.cells #[.int .u64 0, .int .u64 0] 25) ∧ W.heap[w4.heap.size]? = some (.cells #[.int .u64 zu, .int .u64 zv] 25) ∧ W.cell? ⟨w.heap.size, 0, none⟩ = some (.bool neg) ∧ W.cell? ⟨w.heap.size, 1, none⟩ = some (.int .u64 ((wd K' 0 : Nat) : Int)) ∧ W.cell? ⟨w.heap.size, 2, none⟩ = some (.int .u64 ((wd K' 1 : Nat) : Int)) ∧ W.cell? ⟨w.heap.size, 3, none⟩ = some (.int .u64 ((wd K' 2 : Nat) : Int)) ∧ W.cell? ⟨w.heap.size, 4, none⟩ = some (.int .u64 ((wd K' 3 : Nat) : Int)) ∧ W.cell? ⟨w.heap.size, 5, none⟩ = some (.int .u64 ((wd K' 4 : Nat) : Int)) ∧ W.cell? ⟨w.heap.size, 6, none⟩ = some (.int .u64 ((wd K' 5 : Nat) : Int)) ∧ W.cell? ⟨w.heap.size, 7, none⟩ = some (.int .i64 x) ∧ W.cell? ⟨w.heap.size, 8, none⟩ = some (.bool false) ∧ W.cell? ⟨w.heap.size + 1, 0, none⟩ = some (.int .u64 0) ∧ W.cell? ⟨w.heap.size + 1, 1, none⟩ = some (.int .u64 0) ∧ W.cell? ⟨w4.heap.size, 0, none⟩ = some (.int .u64 zu) ∧ W.cell? ⟨w4.heap.size, 1, none⟩ = some (.int .u64 zv)) (first | exact sC.out _ s1 | exact sC.out _ s0 | exact sC.out _ (sS.out _ _ s1 (yO _ _)) | exact sC.out _ (sS.out _ _ s0 (yO _ _)) | exact sC.out _ (sT.out _ _ _ _ s1 hl))
   (((first | (go_at_call 183; (first | refine (KB.out _).mono ?_ | refine (KB.out _).mono ?_)) | (go_at_call 187; (first | refine (KO.out _).mono ?_ | refine (KO.out _).mono ?_)) | (go_at_call 204; (first | refine (KT.out _).mono ?_ | refine (KT.out _).mono ?_)) | fail); rintro r wq ⟨rfl, bq⟩; (first | (have hg := zA bq _ _ _ (heap_alloc_last _ _); have hl := (by first | exact sL.out _ s1 | exact sL.out _ s0)) | have hg := zA bq _ _ _ hg | skip); (try simp only [xJ, zW] at hg hl); (first | (have Ap := fz (k := 0) hg; have Aq := fz (k := 1) hg; have Ar := zI hg 0 _ rfl; have As := zI hg 1 _ rfl) | skip); have s2 := (by first | exact sS.out _ _ s1 bq | exact sS.out _ _ s0 bq | exact sS.out _ _ (sS.out _ _ s1 (yO _ _)) bq | exact sS.out _ _ (sS.out _ _ s0 (yO _ _)) bq); (try clear s1); have s1 := s2; clear s2 bq))
  all_goals
   refine gen_round_encoding_8 (R := fun W gN => (Below w.heap.size w W ∧ W.heap[w.heap.size]? = some (.cells (rg neg K' x false) 114) ∧ W.heap[w.heap.size + 1]? = some (.cells #[.int .u64 0, .int .u64 0] 25) ∧ W.heap[w4.heap.size]? = some (.cells #[.int .u64 zu, .int .u64 zv] 25)) ∧ W.heap[gN]? = some (.cells #[.int .u64 u, .int .u64 v] 25) ∧ (w.heap.size < gN ∧ w.heap.size + 1 < gN ∧ w4.heap.size < gN)) key.out ?_
   first
    | exact ⟨(sT.out _ _ _ _ s1 hl), x6 hg _ _, hl⟩
    | exact ⟨sS.out _ _ s1 (yO _ _), heap_alloc_last _ _, sL.out _ s1⟩
    | exact ⟨sS.out _ _ s0 (yO _ _), heap_alloc_last _ _, sL.out _ s0⟩
 rintro w6 g6 ⟨s1, Br, l6⟩
 have B6 := And.left s1
 have Bs := s1.2.1
 have Ag := s1.2.2.1
 have Bt := s1.2.2.2
 have H6 := zJ l6
 clear s0 s1 sS sC sL sT l6
 obtain ⟨Bu, Bv, Bw, Bx, By, Bz, BA, BB, BC⟩ := zQ Bs
 obtain ⟨BD, BE⟩ := zC Ag
 obtain ⟨BF, BG⟩ := zC Bt
 obtain ⟨BH, BI⟩ := zC Br
 have q0 := fz (k := 0) Ag
 have q1 := fz (k := 1) Ag
 obtain ⟨E0, E1⟩ := zN Ag (.int .u64 u) (.int .u64 v)
 go_wp2
 exact bodyPost_ret (v := .agg #[.int .u64 u, .int .u64 v]) (by simp [results, Tryz.results182, go_sem, E0, E1]) rfl ⟨rfl, zM B6 (by first | exact Nat.le_refl _ | omega | (have := S5.out; have := Bc.out; have := Bd.out; have := H6.out; omega)) _ _⟩
end Go.Proofs.YtoaaajeblhaeoaaGreatDoor
