/-
  What the functions that the statement reaches return: part 12 (KC).
-/
import Derived.Test.YtapikkbifdldfaaGreatDoorFa11
namespace Go.Proofs.YtapikkbifdldfaaGreatDoor
set_option maxRecDepth 100000
set_option maxHeartbeats 40000000
open Go.RowKit WMath
set_option linter.unusedSimpArgs false
set_option linter.unusedVariables false
theorem kparts_sub (f : Int) (x y c u v t : Nat) (m : Int) (w : World)
  (KC : zR (∀ w, yN w → Calls Tryz.prog 123 #[.int .u8 f, .agg #[.int .u64 x, .int .u64 y]] w fun r w' => r = .returned (.int .u8 c) ∧ Below w.heap.size w w'))
  (KF : zR (∀ w, yN w → Calls Tryz.prog 124 #[.int .u8 f, .agg #[.int .u64 x, .int .u64 y]] w fun r w' => r = .returned (.agg #[.int .u64 u, .int .u64 v]) ∧ Below w.heap.size w w'))
  (KO : zR (∀ w, Calls Tryz.prog 72 #[.agg #[.int .u64 u, .int .u64 v]] w fun r w' => r = .returned (.agg (cw 6 t)) ∧ Below w.heap.size w w'))
  (KL : zR (∀ w, yN w → Calls Tryz.prog 125 #[.int .u8 f] w fun r w' => r = .returned (.int .i64 m) ∧ Below w.heap.size w w'))
  (hc : c = 2 ∨ c = 5) (hT : yN w) : Calls Tryz.prog 69 #[.int .u8 f, .agg #[.int .u64 x, .int .u64 y]] w fun r w' => r = .returned (.agg (pt c t m 0)) ∧ Below w.heap.size w w' := by
 have hat := yD 6
 have hz := yZ
 have hff := yY
 have hs0 := q8
 have hcs : ∀ x, ((cw 6 x).size = 6) = True := fun x => eq_true (z7 6 x)
 have hp1 := ptf
 have hp2 := ptc
 have hp3 := ptz
 have hp4 := st_p0
 have hp6 := pt_set
 have hp7 := pt_setl
 have hp5 : ∀ (c s : Nat) (x : Int) (r : Nat), ((pt c s x r).size = 14) = True := fun _ _ _ _ => eq_true rfl
 have ha0 := pt_at0
 have ha1 := pt_at1
 have ha2 := pt_at2
 have ha3 := pt_at3
 have ha4 := pt_at4
 have ha5 := pt_at5
 have ha6 := pt_at6
 have ha7 := pt_at7
 have ha8 := pt_at8
 have ha9 := pt_at9
 have ha10 := pt_at10
 have ha11 := pt_at11
 have ha12 := pt_at12
 have ha13 := pt_at13
 have TT := zK hT
 clear hT
 rcases hc with hc | hc
 ·
  have f8 : ((c : Int) == 8) = false := by rw [hc]; rfl
  have f9 : ((c : Int) == 9) = false := by rw [hc]; rfl
  have f2 : ((c : Int) == 2) = true := by rw [hc]; rfl
  clear hc
  obtain ⟨Aw, Ax, B0⟩ := x5 w (Obj.cells #[.int .u64 x, .int .u64 y] 26) (Obj.cells (pt 0 0 0 0) 54)
  go_enter Tryz.func69, Tryz.ntmps69
  go_wp2_with fail
  refine (KC.out _ (z8 TT.out B0)).mono ?_
  rintro r w1 ⟨rfl, b1⟩
  have B1 : Below w.heap.size w w1 := zX B0 b1
  obtain ⟨Ab, Ac⟩ := z6 b1 Aw Ax
  clear b1 B0 Aw Ax
  obtain ⟨AB, AC⟩ := zO Ab
  obtain ⟨AD, AE, AF, AG, AH, AI, AJ, AK, AL, AM, AN, AO, AP, AQ⟩ := zG Ac
  have S2 := zK B1.size
  have Ah := yC Ab
  have Ai := yC Ac
  have Aj := heap_alloc_last w1 (Obj.cells (pt c 0 0 0) 54)
  have B2 := zX B1 (yB w1 (Obj.cells (pt c 0 0 0) 54))
  obtain ⟨Ak, Al⟩ := z6 (yB w1 (Obj.cells (pt c 0 0 0) 54)) Ab Ac
  clear B1 Ab AB AC Ac AD AE AF AG AH AI AJ AK AL AM AN AO AP AQ
  obtain ⟨AR, AS⟩ := zO Ak
  obtain ⟨AT, AU, AV, AW, AX, AY, AZ, A0, A1, A2, A3, A4, A5, A6⟩ := zG Al
  obtain ⟨A7, A8, A9, Ba, Bb, Bc, Bd, Be, Bf, Bg, Bh, Bi, Bj, Bk⟩ := zG Aj
  go_wp2_with fail
  refine (KF.out _ (z8 TT.out B2)).mono ?_
  rintro r w3 ⟨rfl, b3⟩
  have B3 : Below w.heap.size w w3 := zX B2 b3
  obtain ⟨Am, An, Ao⟩ := yI b3 Ak Al Aj
  clear b3 B2 Ak AR AS Al AT AU AV AW AX AY AZ A0 A1 A2 A3 A4 A5 A6 Aj A7 A8 A9 Ba Bb Bc Bd Be Bf Bg Bh Bi Bj Bk
  obtain ⟨Bl, Bm⟩ := zO Am
  obtain ⟨Bn, Bo, Bp, Bq, Br, Bs, Bt, Bu, Bv, Bw, Bx, By, Bz, BA⟩ := zG An
  obtain ⟨BB, BC, BD, BE, BF, BG, BH, BI, BJ, BK, BL, BM, BN, BO⟩ := zG Ao
  go_wp2_with fail
  refine (KO.out _).mono ?_
  rintro r w4 ⟨rfl, b4⟩
  have B4 : Below w.heap.size w w4 := zX B3 b4
  obtain ⟨Ad, Ae, Af⟩ := yI b4 Am An Ao
  clear b4 B3 Am Bl Bm An Bn Bo Bp Bq Br Bs Bt Bu Bv Bw Bx By Bz BA Ao BB BC BD BE BF BG BH BI BJ BK BL BM BN BO
  obtain ⟨BP, BQ⟩ := zO Ad
  obtain ⟨BR, BS, BT, BU, BV, BW, BX, BY, BZ, B7, B8, B9, Ca, Cb⟩ := zG Ae
  obtain ⟨Cc, Cd, Ce, Cf, Cg, Ch, Ci, Cj, Ck, Cl, Cm, Cn, Co, Cp⟩ := zG Af
  have S5 := zK B4.size
  have Ap := yC Ad
  have Aq := yC Ae
  have Ar := yC Af
  have Aa := heap_alloc_last w4 (Obj.cells (cw 6 t) 52)
  have B5 := zX B4 (yB w4 (Obj.cells (cw 6 t) 52))
  obtain ⟨As, At, Au⟩ := yI (yB w4 (Obj.cells (cw 6 t) 52)) Ad Ae Af
  clear B4 Ad BP BQ Ae BR BS BT BU BV BW BX BY BZ B7 B8 B9 Ca Cb Af Cc Cd Ce Cf Cg Ch Ci Cj Ck Cl Cm Cn Co Cp
  obtain ⟨Cq, Cr⟩ := zO As
  obtain ⟨Cs, Ct, Cu, Cv, Cw, Cx, Cy, Cz, CA, CB, CC, CD, CE, CF⟩ := zG At
  obtain ⟨CG, CH, CI, CJ, CK, CL, CM, CN, CO, CP, CQ, CR, CS, CT⟩ := zG Au
  have CU := zF Aa
  have sS : zR (∀ W W1 : World, (Below w.heap.size w W ∧ W.heap[w.heap.size]? = some (.cells #[.int .u64 x, .int .u64 y] 26) ∧ W.heap[w.heap.size + 1]? = some (.cells (pt 0 0 0 0) 54) ∧ W.heap[w4.heap.size]? = some (.cells (cw 6 t) 52) ∧ W.cell? ⟨w4.heap.size, 0, none⟩ = some (.int .u64 (wd t 0)) ∧ W.cell? ⟨w4.heap.size, 1, none⟩ = some (.int .u64 (wd t 1)) ∧ W.cell? ⟨w4.heap.size, 2, none⟩ = some (.int .u64 (wd t 2)) ∧ W.cell? ⟨w4.heap.size, 3, none⟩ = some (.int .u64 (wd t 3)) ∧ W.cell? ⟨w4.heap.size, 4, none⟩ = some (.int .u64 (wd t 4)) ∧ W.cell? ⟨w4.heap.size, 5, none⟩ = some (.int .u64 (wd t 5))) → Below W.heap.size W W1 → (Below w.heap.size w W1 ∧ W1.heap[w.heap.size]? = some (.cells #[.int .u64 x, .int .u64 y] 26) ∧ W1.heap[w.heap.size + 1]? = some (.cells (pt 0 0 0 0) 54) ∧ W1.heap[w4.heap.size]? = some (.cells (cw 6 t) 52) ∧ W1.cell? ⟨w4.heap.size, 0, none⟩ = some (.int .u64 (wd t 0)) ∧ W1.cell? ⟨w4.heap.size, 1, none⟩ = some (.int .u64 (wd t 1)) ∧ W1.cell? ⟨w4.heap.size, 2, none⟩ = some (.int .u64 (wd t 2)) ∧ W1.cell? ⟨w4.heap.size, 3, none⟩ = some (.int .u64 (wd t 3)) ∧ W1.cell? ⟨w4.heap.size, 4, none⟩ = some (.int .u64 (wd t 4)) ∧ W1.cell? ⟨w4.heap.size, 5, none⟩ = some (.int .u64 (wd t 5)))) := zK (fun W W1 h b => ⟨zX h.1 b, zA b _ _ _ h.2.1, zA b _ _ _ h.2.2.1, zA b _ _ _ h.2.2.2.1, zF (zA b _ _ _ h.2.2.2.1) 0 (by decide), zF (zA b _ _ _ h.2.2.2.1) 1 (by decide), zF (zA b _ _ _ h.2.2.2.1) 2 (by decide), zF (zA b _ _ _ h.2.2.2.1) 3 (by decide), zF (zA b _ _ _ h.2.2.2.1) 4 (by decide), zF (zA b _ _ _ h.2.2.2.1) 5 (by decide)⟩)
  have HH := zK (And.intro S2.out (And.intro Ah.out (And.intro Ai.out (And.intro S5.out (And.intro Ap.out (And.intro Aq.out Ar.out))))))
  have sT1 : zR (∀ (W : World) (xA : Array Value), (Below w.heap.size w W ∧ W.heap[w.heap.size]? = some (.cells #[.int .u64 x, .int .u64 y] 26) ∧ W.heap[w.heap.size + 1]? = some (.cells (pt 0 0 0 0) 54) ∧ W.heap[w4.heap.size]? = some (.cells (cw 6 t) 52) ∧ W.cell? ⟨w4.heap.size, 0, none⟩ = some (.int .u64 (wd t 0)) ∧ W.cell? ⟨w4.heap.size, 1, none⟩ = some (.int .u64 (wd t 1)) ∧ W.cell? ⟨w4.heap.size, 2, none⟩ = some (.int .u64 (wd t 2)) ∧ W.cell? ⟨w4.heap.size, 3, none⟩ = some (.int .u64 (wd t 3)) ∧ W.cell? ⟨w4.heap.size, 4, none⟩ = some (.int .u64 (wd t 4)) ∧ W.cell? ⟨w4.heap.size, 5, none⟩ = some (.int .u64 (wd t 5))) → (Below w.heap.size w (W.setRow (w1.heap.size) xA) ∧ (W.setRow (w1.heap.size) xA).heap[w.heap.size]? = some (.cells #[.int .u64 x, .int .u64 y] 26) ∧ (W.setRow (w1.heap.size) xA).heap[w.heap.size + 1]? = some (.cells (pt 0 0 0 0) 54) ∧ (W.setRow (w1.heap.size) xA).heap[w4.heap.size]? = some (.cells (cw 6 t) 52) ∧ (W.setRow (w1.heap.size) xA).cell? ⟨w4.heap.size, 0, none⟩ = some (.int .u64 (wd t 0)) ∧ (W.setRow (w1.heap.size) xA).cell? ⟨w4.heap.size, 1, none⟩ = some (.int .u64 (wd t 1)) ∧ (W.setRow (w1.heap.size) xA).cell? ⟨w4.heap.size, 2, none⟩ = some (.int .u64 (wd t 2)) ∧ (W.setRow (w1.heap.size) xA).cell? ⟨w4.heap.size, 3, none⟩ = some (.int .u64 (wd t 3)) ∧ (W.setRow (w1.heap.size) xA).cell? ⟨w4.heap.size, 4, none⟩ = some (.int .u64 (wd t 4)) ∧ (W.setRow (w1.heap.size) xA).cell? ⟨w4.heap.size, 5, none⟩ = some (.int .u64 (wd t 5)))) := zK (fun W xA h => ⟨z9 h.1 (show w.heap.size ≤ w1.heap.size by first | exact Nat.le_refl _ | omega | (have := HH.out; omega)), (zI (by first | omega | (have := HH.out; omega))).trans h.2.1, (zI (by first | omega | (have := HH.out; omega))).trans h.2.2.1, (zI (by first | omega | (have := HH.out; omega))).trans h.2.2.2.1, zF ((zI (by first | omega | (have := HH.out; omega))).trans h.2.2.2.1) 0 (by decide), zF ((zI (by first | omega | (have := HH.out; omega))).trans h.2.2.2.1) 1 (by decide), zF ((zI (by first | omega | (have := HH.out; omega))).trans h.2.2.2.1) 2 (by decide), zF ((zI (by first | omega | (have := HH.out; omega))).trans h.2.2.2.1) 3 (by decide), zF ((zI (by first | omega | (have := HH.out; omega))).trans h.2.2.2.1) 4 (by decide), zF ((zI (by first | omega | (have := HH.out; omega))).trans h.2.2.2.1) 5 (by decide)⟩)
  have HH := zK (And.intro S2.out (And.intro Ah.out (And.intro Ai.out (And.intro S5.out (And.intro Ap.out (And.intro Aq.out Ar.out))))))
  have sT2 : zR (∀ (W : World) (xB : Value), (Below w.heap.size w W ∧ W.heap[w.heap.size]? = some (.cells #[.int .u64 x, .int .u64 y] 26) ∧ W.heap[w.heap.size + 1]? = some (.cells (pt 0 0 0 0) 54) ∧ W.heap[w4.heap.size]? = some (.cells (cw 6 t) 52) ∧ W.cell? ⟨w4.heap.size, 0, none⟩ = some (.int .u64 (wd t 0)) ∧ W.cell? ⟨w4.heap.size, 1, none⟩ = some (.int .u64 (wd t 1)) ∧ W.cell? ⟨w4.heap.size, 2, none⟩ = some (.int .u64 (wd t 2)) ∧ W.cell? ⟨w4.heap.size, 3, none⟩ = some (.int .u64 (wd t 3)) ∧ W.cell? ⟨w4.heap.size, 4, none⟩ = some (.int .u64 (wd t 4)) ∧ W.cell? ⟨w4.heap.size, 5, none⟩ = some (.int .u64 (wd t 5))) → (Below w.heap.size w (W.setCell ⟨w1.heap.size, 7, none⟩ xB) ∧ (W.setCell ⟨w1.heap.size, 7, none⟩ xB).heap[w.heap.size]? = some (.cells #[.int .u64 x, .int .u64 y] 26) ∧ (W.setCell ⟨w1.heap.size, 7, none⟩ xB).heap[w.heap.size + 1]? = some (.cells (pt 0 0 0 0) 54) ∧ (W.setCell ⟨w1.heap.size, 7, none⟩ xB).heap[w4.heap.size]? = some (.cells (cw 6 t) 52) ∧ (W.setCell ⟨w1.heap.size, 7, none⟩ xB).cell? ⟨w4.heap.size, 0, none⟩ = some (.int .u64 (wd t 0)) ∧ (W.setCell ⟨w1.heap.size, 7, none⟩ xB).cell? ⟨w4.heap.size, 1, none⟩ = some (.int .u64 (wd t 1)) ∧ (W.setCell ⟨w1.heap.size, 7, none⟩ xB).cell? ⟨w4.heap.size, 2, none⟩ = some (.int .u64 (wd t 2)) ∧ (W.setCell ⟨w1.heap.size, 7, none⟩ xB).cell? ⟨w4.heap.size, 3, none⟩ = some (.int .u64 (wd t 3)) ∧ (W.setCell ⟨w1.heap.size, 7, none⟩ xB).cell? ⟨w4.heap.size, 4, none⟩ = some (.int .u64 (wd t 4)) ∧ (W.setCell ⟨w1.heap.size, 7, none⟩ xB).cell? ⟨w4.heap.size, 5, none⟩ = some (.int .u64 (wd t 5)))) := zK (fun W xB h => ⟨h.1.setCell (show w.heap.size ≤ w1.heap.size by first | exact Nat.le_refl _ | omega | (have := HH.out; omega)) _, (zH (by first | omega | (have := HH.out; omega))).trans h.2.1, (zH (by first | omega | (have := HH.out; omega))).trans h.2.2.1, (zH (by first | omega | (have := HH.out; omega))).trans h.2.2.2.1, zF ((zH (by first | omega | (have := HH.out; omega))).trans h.2.2.2.1) 0 (by decide), zF ((zH (by first | omega | (have := HH.out; omega))).trans h.2.2.2.1) 1 (by decide), zF ((zH (by first | omega | (have := HH.out; omega))).trans h.2.2.2.1) 2 (by decide), zF ((zH (by first | omega | (have := HH.out; omega))).trans h.2.2.2.1) 3 (by decide), zF ((zH (by first | omega | (have := HH.out; omega))).trans h.2.2.2.1) 4 (by decide), zF ((zH (by first | omega | (have := HH.out; omega))).trans h.2.2.2.1) 5 (by decide)⟩)
  have s0 : Below w.heap.size w ((w4.alloc (Obj.cells (cw 6 t) 52))).drew ∧ ((w4.alloc (Obj.cells (cw 6 t) 52))).drew.heap[w.heap.size]? = some (.cells #[.int .u64 x, .int .u64 y] 26) ∧ ((w4.alloc (Obj.cells (cw 6 t) 52))).drew.heap[w.heap.size + 1]? = some (.cells (pt 0 0 0 0) 54) ∧ ((w4.alloc (Obj.cells (cw 6 t) 52))).drew.heap[w4.heap.size]? = some (.cells (cw 6 t) 52) ∧ ((w4.alloc (Obj.cells (cw 6 t) 52))).drew.cell? ⟨w4.heap.size, 0, none⟩ = some (.int .u64 (wd t 0)) ∧ ((w4.alloc (Obj.cells (cw 6 t) 52))).drew.cell? ⟨w4.heap.size, 1, none⟩ = some (.int .u64 (wd t 1)) ∧ ((w4.alloc (Obj.cells (cw 6 t) 52))).drew.cell? ⟨w4.heap.size, 2, none⟩ = some (.int .u64 (wd t 2)) ∧ ((w4.alloc (Obj.cells (cw 6 t) 52))).drew.cell? ⟨w4.heap.size, 3, none⟩ = some (.int .u64 (wd t 3)) ∧ ((w4.alloc (Obj.cells (cw 6 t) 52))).drew.cell? ⟨w4.heap.size, 4, none⟩ = some (.int .u64 (wd t 4)) ∧ ((w4.alloc (Obj.cells (cw 6 t) 52))).drew.cell? ⟨w4.heap.size, 5, none⟩ = some (.int .u64 (wd t 5)) := ⟨B5.drew, As, At, Aa, zF (Aa) 0 (by decide), zF (Aa) 1 (by decide), zF (Aa) 2 (by decide), zF (Aa) 3 (by decide), zF (Aa) 4 (by decide), zF (Aa) 5 (by decide)⟩
  have rp : ((w4.alloc (Obj.cells (cw 6 t) 52))).drew.heap[w1.heap.size]? = some (.cells (pt c 0 0 0) 54) := Au
  go_wp2_with fail
  go_region_held3 (fun W => Below w.heap.size w W ∧ W.heap[w.heap.size]? = some (.cells #[.int .u64 x, .int .u64 y] 26) ∧ W.heap[w.heap.size + 1]? = some (.cells (pt 0 0 0 0) 54) ∧ W.heap[w4.heap.size]? = some (.cells (cw 6 t) 52) ∧ W.cell? ⟨w4.heap.size, 0, none⟩ = some (.int .u64 (wd t 0)) ∧ W.cell? ⟨w4.heap.size, 1, none⟩ = some (.int .u64 (wd t 1)) ∧ W.cell? ⟨w4.heap.size, 2, none⟩ = some (.int .u64 (wd t 2)) ∧ W.cell? ⟨w4.heap.size, 3, none⟩ = some (.int .u64 (wd t 3)) ∧ W.cell? ⟨w4.heap.size, 4, none⟩ = some (.int .u64 (wd t 4)) ∧ W.cell? ⟨w4.heap.size, 5, none⟩ = some (.int .u64 (wd t 5))) (first | exact s1 | exact s0 | exact sT1.out _ _ s1 | exact sT2.out _ _ (sT1.out _ _ s1) | exact sT2.out _ _ s1)
   (first | (go_at_call 125; (first | refine (KL.out _ (z8 TT.out (And.left s1))).mono ?_ | refine (KL.out _ (z8 TT.out (And.left s0))).mono ?_); rintro r wq ⟨rfl, bq⟩; have s1 := (by first | exact sS.out _ _ s1 bq | exact sS.out _ _ s0 bq); have rp := zA bq _ _ _ rp; have hst := st_p1 wq (w1.heap.size) c 0 0 0 t rp; have rp2 := zU (c' := (pt c t 0 0)) rp; have q7 := fz (k := 7) rp2; have d7 := zJ rp2 7 _ rfl; clear bq) | fail)
  have s2 : Below w.heap.size w ((wq.setRow (w1.heap.size) (pt c t 0 0)).setCell ⟨w1.heap.size, 7, none⟩ (.int .i64 m)) ∧ ((wq.setRow (w1.heap.size) (pt c t 0 0)).setCell ⟨w1.heap.size, 7, none⟩ (.int .i64 m)).heap[w.heap.size]? = some (.cells #[.int .u64 x, .int .u64 y] 26) ∧ ((wq.setRow (w1.heap.size) (pt c t 0 0)).setCell ⟨w1.heap.size, 7, none⟩ (.int .i64 m)).heap[w.heap.size + 1]? = some (.cells (pt 0 0 0 0) 54) ∧ ((wq.setRow (w1.heap.size) (pt c t 0 0)).setCell ⟨w1.heap.size, 7, none⟩ (.int .i64 m)).heap[w4.heap.size]? = some (.cells (cw 6 t) 52) ∧ ((wq.setRow (w1.heap.size) (pt c t 0 0)).setCell ⟨w1.heap.size, 7, none⟩ (.int .i64 m)).cell? ⟨w4.heap.size, 0, none⟩ = some (.int .u64 (wd t 0)) ∧ ((wq.setRow (w1.heap.size) (pt c t 0 0)).setCell ⟨w1.heap.size, 7, none⟩ (.int .i64 m)).cell? ⟨w4.heap.size, 1, none⟩ = some (.int .u64 (wd t 1)) ∧ ((wq.setRow (w1.heap.size) (pt c t 0 0)).setCell ⟨w1.heap.size, 7, none⟩ (.int .i64 m)).cell? ⟨w4.heap.size, 2, none⟩ = some (.int .u64 (wd t 2)) ∧ ((wq.setRow (w1.heap.size) (pt c t 0 0)).setCell ⟨w1.heap.size, 7, none⟩ (.int .i64 m)).cell? ⟨w4.heap.size, 3, none⟩ = some (.int .u64 (wd t 3)) ∧ ((wq.setRow (w1.heap.size) (pt c t 0 0)).setCell ⟨w1.heap.size, 7, none⟩ (.int .i64 m)).cell? ⟨w4.heap.size, 4, none⟩ = some (.int .u64 (wd t 4)) ∧ ((wq.setRow (w1.heap.size) (pt c t 0 0)).setCell ⟨w1.heap.size, 7, none⟩ (.int .i64 m)).cell? ⟨w4.heap.size, 5, none⟩ = some (.int .u64 (wd t 5)) := sT2.out _ _ (sT1.out _ _ s1)
  have Ay : ((wq.setRow (w1.heap.size) (pt c t 0 0)).setCell ⟨w1.heap.size, 7, none⟩ (.int .i64 m)).heap[w1.heap.size]? = some (.cells (pt c t m 0) 54) := by rw [zY rp2]; rfl
  have B6 := And.left s2
  have Az := s2.2.1
  have Ag := s2.2.2.1
  have AA := s2.2.2.2.1
  obtain ⟨w6, Av⟩ : ∃ V, ((wq.setRow (w1.heap.size) (pt c t 0 0)).setCell ⟨w1.heap.size, 7, none⟩ (.int .i64 m)) = V := ⟨_, rfl⟩
  rw [Av] at B6 Az Ag Ay AA
  try rw [Av]
  clear s0 s1 s2 sS sT1 sT2 rp q7 d7 Av hst rp2 B5 As Cq Cr At Cs Ct Cu Cv Cw Cx Cy Cz CA CB CC CD CE CF Au CG CH CI CJ CK CL CM CN CO CP CQ CR CS CT Aa CU
  obtain ⟨CV, CW⟩ := zO Az
  obtain ⟨CX, CY, CZ, C0, C1, C2, C3, C4, C5, C6, C7, C8, C9, Da⟩ := zG Ag
  obtain ⟨Db, Dc, Dd, De, Df, Dg, Dh, Di, Dj, Dk, Dl, Dm, Dn, Do⟩ := zG Ay
  have Dp := zF AA
  have hstz := st_p w6 (w.heap.size + 1) c t m 0 0 0 0 0 Ag
  have RZ := zU (c' := pt c t m 0) Ag
  obtain ⟨dz0, dz1, dz2, dz3, dz4, dz5, dz6, dz7, dz8, dz9, dz10, dz11, dz12, dz13⟩ := zG RZ
  have bz := z9 (c := pt c t m 0) B6 (show w.heap.size ≤ w.heap.size + 1 by first | exact Nat.le_refl _ | omega | (have := S2.out; have := Ah.out; have := Ai.out; have := S5.out; have := Ap.out; have := Aq.out; have := Ar.out; omega))
  go_wp2
  exact bodyPost_ret (v := .agg (pt c t m 0)) (by simp [results, Tryz.results69, go_sem, dz0, dz1, dz2, dz3, dz4, dz5, dz6, dz7, dz8, dz9, dz10, dz11, dz12, dz13, ptf] <;> rfl) rfl ⟨rfl, bz⟩
 ·
  have f8 : ((c : Int) == 8) = false := by rw [hc]; rfl
  have f9 : ((c : Int) == 9) = false := by rw [hc]; rfl
  have f2 : ((c : Int) == 2) = false := by rw [hc]; rfl
  have f5 : ((c : Int) == 5) = true := by rw [hc]; rfl
  clear hc
  obtain ⟨Aw, Ax, B0⟩ := x5 w (Obj.cells #[.int .u64 x, .int .u64 y] 26) (Obj.cells (pt 0 0 0 0) 54)
  go_enter Tryz.func69, Tryz.ntmps69
  go_wp2_with fail
  refine (KC.out _ (z8 TT.out B0)).mono ?_
  rintro r w1 ⟨rfl, b1⟩
  have B1 : Below w.heap.size w w1 := zX B0 b1
  obtain ⟨Ab, Ac⟩ := z6 b1 Aw Ax
  clear b1 B0 Aw Ax
  obtain ⟨AB, AC⟩ := zO Ab
  obtain ⟨AD, AE, AF, AG, AH, AI, AJ, AK, AL, AM, AN, AO, AP, AQ⟩ := zG Ac
  have S2 := zK B1.size
  have Ah := yC Ab
  have Ai := yC Ac
  have Aj := heap_alloc_last w1 (Obj.cells (pt c 0 0 0) 54)
  have B2 := zX B1 (yB w1 (Obj.cells (pt c 0 0 0) 54))
  obtain ⟨Ak, Al⟩ := z6 (yB w1 (Obj.cells (pt c 0 0 0) 54)) Ab Ac
  clear B1 Ab AB AC Ac AD AE AF AG AH AI AJ AK AL AM AN AO AP AQ
  obtain ⟨AR, AS⟩ := zO Ak
  obtain ⟨AT, AU, AV, AW, AX, AY, AZ, A0, A1, A2, A3, A4, A5, A6⟩ := zG Al
  obtain ⟨A7, A8, A9, Ba, Bb, Bc, Bd, Be, Bf, Bg, Bh, Bi, Bj, Bk⟩ := zG Aj
  go_wp2_with fail
  refine (KF.out _ (z8 TT.out B2)).mono ?_
  rintro r w3 ⟨rfl, b3⟩
  have B3 : Below w.heap.size w w3 := zX B2 b3
  obtain ⟨Am, An, Ao⟩ := yI b3 Ak Al Aj
  clear b3 B2 Ak AR AS Al AT AU AV AW AX AY AZ A0 A1 A2 A3 A4 A5 A6 Aj A7 A8 A9 Ba Bb Bc Bd Be Bf Bg Bh Bi Bj Bk
  obtain ⟨Bl, Bm⟩ := zO Am
  obtain ⟨Bn, Bo, Bp, Bq, Br, Bs, Bt, Bu, Bv, Bw, Bx, By, Bz, BA⟩ := zG An
  obtain ⟨BB, BC, BD, BE, BF, BG, BH, BI, BJ, BK, BL, BM, BN, BO⟩ := zG Ao
  go_wp2_with fail
  refine (KO.out _).mono ?_
  rintro r w4 ⟨rfl, b4⟩
  have B4 : Below w.heap.size w w4 := zX B3 b4
  obtain ⟨Ad, Ae, Af⟩ := yI b4 Am An Ao
  clear b4 B3 Am Bl Bm An Bn Bo Bp Bq Br Bs Bt Bu Bv Bw Bx By Bz BA Ao BB BC BD BE BF BG BH BI BJ BK BL BM BN BO
  obtain ⟨BP, BQ⟩ := zO Ad
  obtain ⟨BR, BS, BT, BU, BV, BW, BX, BY, BZ, B7, B8, B9, Ca, Cb⟩ := zG Ae
  obtain ⟨Cc, Cd, Ce, Cf, Cg, Ch, Ci, Cj, Ck, Cl, Cm, Cn, Co, Cp⟩ := zG Af
  have S5 := zK B4.size
  have Ap := yC Ad
  have Aq := yC Ae
  have Ar := yC Af
  have Aa := heap_alloc_last w4 (Obj.cells (cw 6 t) 52)
  have B5 := zX B4 (yB w4 (Obj.cells (cw 6 t) 52))
  obtain ⟨As, At, Au⟩ := yI (yB w4 (Obj.cells (cw 6 t) 52)) Ad Ae Af
  clear B4 Ad BP BQ Ae BR BS BT BU BV BW BX BY BZ B7 B8 B9 Ca Cb Af Cc Cd Ce Cf Cg Ch Ci Cj Ck Cl Cm Cn Co Cp
  obtain ⟨Cq, Cr⟩ := zO As
  obtain ⟨Cs, Ct, Cu, Cv, Cw, Cx, Cy, Cz, CA, CB, CC, CD, CE, CF⟩ := zG At
  obtain ⟨CG, CH, CI, CJ, CK, CL, CM, CN, CO, CP, CQ, CR, CS, CT⟩ := zG Au
  have CU := zF Aa
  have sS : zR (∀ W W1 : World, (Below w.heap.size w W ∧ W.heap[w.heap.size]? = some (.cells #[.int .u64 x, .int .u64 y] 26) ∧ W.heap[w.heap.size + 1]? = some (.cells (pt 0 0 0 0) 54) ∧ W.heap[w4.heap.size]? = some (.cells (cw 6 t) 52) ∧ W.cell? ⟨w4.heap.size, 0, none⟩ = some (.int .u64 (wd t 0)) ∧ W.cell? ⟨w4.heap.size, 1, none⟩ = some (.int .u64 (wd t 1)) ∧ W.cell? ⟨w4.heap.size, 2, none⟩ = some (.int .u64 (wd t 2)) ∧ W.cell? ⟨w4.heap.size, 3, none⟩ = some (.int .u64 (wd t 3)) ∧ W.cell? ⟨w4.heap.size, 4, none⟩ = some (.int .u64 (wd t 4)) ∧ W.cell? ⟨w4.heap.size, 5, none⟩ = some (.int .u64 (wd t 5))) → Below W.heap.size W W1 → (Below w.heap.size w W1 ∧ W1.heap[w.heap.size]? = some (.cells #[.int .u64 x, .int .u64 y] 26) ∧ W1.heap[w.heap.size + 1]? = some (.cells (pt 0 0 0 0) 54) ∧ W1.heap[w4.heap.size]? = some (.cells (cw 6 t) 52) ∧ W1.cell? ⟨w4.heap.size, 0, none⟩ = some (.int .u64 (wd t 0)) ∧ W1.cell? ⟨w4.heap.size, 1, none⟩ = some (.int .u64 (wd t 1)) ∧ W1.cell? ⟨w4.heap.size, 2, none⟩ = some (.int .u64 (wd t 2)) ∧ W1.cell? ⟨w4.heap.size, 3, none⟩ = some (.int .u64 (wd t 3)) ∧ W1.cell? ⟨w4.heap.size, 4, none⟩ = some (.int .u64 (wd t 4)) ∧ W1.cell? ⟨w4.heap.size, 5, none⟩ = some (.int .u64 (wd t 5)))) := zK (fun W W1 h b => ⟨zX h.1 b, zA b _ _ _ h.2.1, zA b _ _ _ h.2.2.1, zA b _ _ _ h.2.2.2.1, zF (zA b _ _ _ h.2.2.2.1) 0 (by decide), zF (zA b _ _ _ h.2.2.2.1) 1 (by decide), zF (zA b _ _ _ h.2.2.2.1) 2 (by decide), zF (zA b _ _ _ h.2.2.2.1) 3 (by decide), zF (zA b _ _ _ h.2.2.2.1) 4 (by decide), zF (zA b _ _ _ h.2.2.2.1) 5 (by decide)⟩)
  have HH := zK (And.intro S2.out (And.intro Ah.out (And.intro Ai.out (And.intro S5.out (And.intro Ap.out (And.intro Aq.out Ar.out))))))
  have sT1 : zR (∀ (W : World) (xA : Array Value), (Below w.heap.size w W ∧ W.heap[w.heap.size]? = some (.cells #[.int .u64 x, .int .u64 y] 26) ∧ W.heap[w.heap.size + 1]? = some (.cells (pt 0 0 0 0) 54) ∧ W.heap[w4.heap.size]? = some (.cells (cw 6 t) 52) ∧ W.cell? ⟨w4.heap.size, 0, none⟩ = some (.int .u64 (wd t 0)) ∧ W.cell? ⟨w4.heap.size, 1, none⟩ = some (.int .u64 (wd t 1)) ∧ W.cell? ⟨w4.heap.size, 2, none⟩ = some (.int .u64 (wd t 2)) ∧ W.cell? ⟨w4.heap.size, 3, none⟩ = some (.int .u64 (wd t 3)) ∧ W.cell? ⟨w4.heap.size, 4, none⟩ = some (.int .u64 (wd t 4)) ∧ W.cell? ⟨w4.heap.size, 5, none⟩ = some (.int .u64 (wd t 5))) → (Below w.heap.size w (W.setRow (w1.heap.size) xA) ∧ (W.setRow (w1.heap.size) xA).heap[w.heap.size]? = some (.cells #[.int .u64 x, .int .u64 y] 26) ∧ (W.setRow (w1.heap.size) xA).heap[w.heap.size + 1]? = some (.cells (pt 0 0 0 0) 54) ∧ (W.setRow (w1.heap.size) xA).heap[w4.heap.size]? = some (.cells (cw 6 t) 52) ∧ (W.setRow (w1.heap.size) xA).cell? ⟨w4.heap.size, 0, none⟩ = some (.int .u64 (wd t 0)) ∧ (W.setRow (w1.heap.size) xA).cell? ⟨w4.heap.size, 1, none⟩ = some (.int .u64 (wd t 1)) ∧ (W.setRow (w1.heap.size) xA).cell? ⟨w4.heap.size, 2, none⟩ = some (.int .u64 (wd t 2)) ∧ (W.setRow (w1.heap.size) xA).cell? ⟨w4.heap.size, 3, none⟩ = some (.int .u64 (wd t 3)) ∧ (W.setRow (w1.heap.size) xA).cell? ⟨w4.heap.size, 4, none⟩ = some (.int .u64 (wd t 4)) ∧ (W.setRow (w1.heap.size) xA).cell? ⟨w4.heap.size, 5, none⟩ = some (.int .u64 (wd t 5)))) := zK (fun W xA h => ⟨z9 h.1 (show w.heap.size ≤ w1.heap.size by first | exact Nat.le_refl _ | omega | (have := HH.out; omega)), (zI (by first | omega | (have := HH.out; omega))).trans h.2.1, (zI (by first | omega | (have := HH.out; omega))).trans h.2.2.1, (zI (by first | omega | (have := HH.out; omega))).trans h.2.2.2.1, zF ((zI (by first | omega | (have := HH.out; omega))).trans h.2.2.2.1) 0 (by decide), zF ((zI (by first | omega | (have := HH.out; omega))).trans h.2.2.2.1) 1 (by decide), zF ((zI (by first | omega | (have := HH.out; omega))).trans h.2.2.2.1) 2 (by decide), zF ((zI (by first | omega | (have := HH.out; omega))).trans h.2.2.2.1) 3 (by decide), zF ((zI (by first | omega | (have := HH.out; omega))).trans h.2.2.2.1) 4 (by decide), zF ((zI (by first | omega | (have := HH.out; omega))).trans h.2.2.2.1) 5 (by decide)⟩)
  have HH := zK (And.intro S2.out (And.intro Ah.out (And.intro Ai.out (And.intro S5.out (And.intro Ap.out (And.intro Aq.out Ar.out))))))
  have sT2 : zR (∀ (W : World) (xB : Value), (Below w.heap.size w W ∧ W.heap[w.heap.size]? = some (.cells #[.int .u64 x, .int .u64 y] 26) ∧ W.heap[w.heap.size + 1]? = some (.cells (pt 0 0 0 0) 54) ∧ W.heap[w4.heap.size]? = some (.cells (cw 6 t) 52) ∧ W.cell? ⟨w4.heap.size, 0, none⟩ = some (.int .u64 (wd t 0)) ∧ W.cell? ⟨w4.heap.size, 1, none⟩ = some (.int .u64 (wd t 1)) ∧ W.cell? ⟨w4.heap.size, 2, none⟩ = some (.int .u64 (wd t 2)) ∧ W.cell? ⟨w4.heap.size, 3, none⟩ = some (.int .u64 (wd t 3)) ∧ W.cell? ⟨w4.heap.size, 4, none⟩ = some (.int .u64 (wd t 4)) ∧ W.cell? ⟨w4.heap.size, 5, none⟩ = some (.int .u64 (wd t 5))) → (Below w.heap.size w (W.setCell ⟨w1.heap.size, 7, none⟩ xB) ∧ (W.setCell ⟨w1.heap.size, 7, none⟩ xB).heap[w.heap.size]? = some (.cells #[.int .u64 x, .int .u64 y] 26) ∧ (W.setCell ⟨w1.heap.size, 7, none⟩ xB).heap[w.heap.size + 1]? = some (.cells (pt 0 0 0 0) 54) ∧ (W.setCell ⟨w1.heap.size, 7, none⟩ xB).heap[w4.heap.size]? = some (.cells (cw 6 t) 52) ∧ (W.setCell ⟨w1.heap.size, 7, none⟩ xB).cell? ⟨w4.heap.size, 0, none⟩ = some (.int .u64 (wd t 0)) ∧ (W.setCell ⟨w1.heap.size, 7, none⟩ xB).cell? ⟨w4.heap.size, 1, none⟩ = some (.int .u64 (wd t 1)) ∧ (W.setCell ⟨w1.heap.size, 7, none⟩ xB).cell? ⟨w4.heap.size, 2, none⟩ = some (.int .u64 (wd t 2)) ∧ (W.setCell ⟨w1.heap.size, 7, none⟩ xB).cell? ⟨w4.heap.size, 3, none⟩ = some (.int .u64 (wd t 3)) ∧ (W.setCell ⟨w1.heap.size, 7, none⟩ xB).cell? ⟨w4.heap.size, 4, none⟩ = some (.int .u64 (wd t 4)) ∧ (W.setCell ⟨w1.heap.size, 7, none⟩ xB).cell? ⟨w4.heap.size, 5, none⟩ = some (.int .u64 (wd t 5)))) := zK (fun W xB h => ⟨h.1.setCell (show w.heap.size ≤ w1.heap.size by first | exact Nat.le_refl _ | omega | (have := HH.out; omega)) _, (zH (by first | omega | (have := HH.out; omega))).trans h.2.1, (zH (by first | omega | (have := HH.out; omega))).trans h.2.2.1, (zH (by first | omega | (have := HH.out; omega))).trans h.2.2.2.1, zF ((zH (by first | omega | (have := HH.out; omega))).trans h.2.2.2.1) 0 (by decide), zF ((zH (by first | omega | (have := HH.out; omega))).trans h.2.2.2.1) 1 (by decide), zF ((zH (by first | omega | (have := HH.out; omega))).trans h.2.2.2.1) 2 (by decide), zF ((zH (by first | omega | (have := HH.out; omega))).trans h.2.2.2.1) 3 (by decide), zF ((zH (by first | omega | (have := HH.out; omega))).trans h.2.2.2.1) 4 (by decide), zF ((zH (by first | omega | (have := HH.out; omega))).trans h.2.2.2.1) 5 (by decide)⟩)
  have s0 : Below w.heap.size w ((w4.alloc (Obj.cells (cw 6 t) 52))).drew ∧ ((w4.alloc (Obj.cells (cw 6 t) 52))).drew.heap[w.heap.size]? = some (.cells #[.int .u64 x, .int .u64 y] 26) ∧ ((w4.alloc (Obj.cells (cw 6 t) 52))).drew.heap[w.heap.size + 1]? = some (.cells (pt 0 0 0 0) 54) ∧ ((w4.alloc (Obj.cells (cw 6 t) 52))).drew.heap[w4.heap.size]? = some (.cells (cw 6 t) 52) ∧ ((w4.alloc (Obj.cells (cw 6 t) 52))).drew.cell? ⟨w4.heap.size, 0, none⟩ = some (.int .u64 (wd t 0)) ∧ ((w4.alloc (Obj.cells (cw 6 t) 52))).drew.cell? ⟨w4.heap.size, 1, none⟩ = some (.int .u64 (wd t 1)) ∧ ((w4.alloc (Obj.cells (cw 6 t) 52))).drew.cell? ⟨w4.heap.size, 2, none⟩ = some (.int .u64 (wd t 2)) ∧ ((w4.alloc (Obj.cells (cw 6 t) 52))).drew.cell? ⟨w4.heap.size, 3, none⟩ = some (.int .u64 (wd t 3)) ∧ ((w4.alloc (Obj.cells (cw 6 t) 52))).drew.cell? ⟨w4.heap.size, 4, none⟩ = some (.int .u64 (wd t 4)) ∧ ((w4.alloc (Obj.cells (cw 6 t) 52))).drew.cell? ⟨w4.heap.size, 5, none⟩ = some (.int .u64 (wd t 5)) := ⟨B5.drew, As, At, Aa, zF (Aa) 0 (by decide), zF (Aa) 1 (by decide), zF (Aa) 2 (by decide), zF (Aa) 3 (by decide), zF (Aa) 4 (by decide), zF (Aa) 5 (by decide)⟩
  have rp : ((w4.alloc (Obj.cells (cw 6 t) 52))).drew.heap[w1.heap.size]? = some (.cells (pt c 0 0 0) 54) := Au
  go_wp2_with fail
  go_region_held3 (fun W => Below w.heap.size w W ∧ W.heap[w.heap.size]? = some (.cells #[.int .u64 x, .int .u64 y] 26) ∧ W.heap[w.heap.size + 1]? = some (.cells (pt 0 0 0 0) 54) ∧ W.heap[w4.heap.size]? = some (.cells (cw 6 t) 52) ∧ W.cell? ⟨w4.heap.size, 0, none⟩ = some (.int .u64 (wd t 0)) ∧ W.cell? ⟨w4.heap.size, 1, none⟩ = some (.int .u64 (wd t 1)) ∧ W.cell? ⟨w4.heap.size, 2, none⟩ = some (.int .u64 (wd t 2)) ∧ W.cell? ⟨w4.heap.size, 3, none⟩ = some (.int .u64 (wd t 3)) ∧ W.cell? ⟨w4.heap.size, 4, none⟩ = some (.int .u64 (wd t 4)) ∧ W.cell? ⟨w4.heap.size, 5, none⟩ = some (.int .u64 (wd t 5))) (first | exact s1 | exact s0 | exact sT1.out _ _ s1 | exact sT2.out _ _ (sT1.out _ _ s1) | exact sT2.out _ _ s1)
   (first | (go_at_call 125; (first | refine (KL.out _ (z8 TT.out (And.left s1))).mono ?_ | refine (KL.out _ (z8 TT.out (And.left s0))).mono ?_); rintro r wq ⟨rfl, bq⟩; have s1 := (by first | exact sS.out _ _ s1 bq | exact sS.out _ _ s0 bq); have rp := zA bq _ _ _ rp; have hst := st_p1 wq (w1.heap.size) c 0 0 0 t rp; have rp2 := zU (c' := (pt c t 0 0)) rp; have q7 := fz (k := 7) rp2; have d7 := zJ rp2 7 _ rfl; clear bq) | fail)
  have s2 : Below w.heap.size w ((wq.setRow (w1.heap.size) (pt c t 0 0)).setCell ⟨w1.heap.size, 7, none⟩ (.int .i64 m)) ∧ ((wq.setRow (w1.heap.size) (pt c t 0 0)).setCell ⟨w1.heap.size, 7, none⟩ (.int .i64 m)).heap[w.heap.size]? = some (.cells #[.int .u64 x, .int .u64 y] 26) ∧ ((wq.setRow (w1.heap.size) (pt c t 0 0)).setCell ⟨w1.heap.size, 7, none⟩ (.int .i64 m)).heap[w.heap.size + 1]? = some (.cells (pt 0 0 0 0) 54) ∧ ((wq.setRow (w1.heap.size) (pt c t 0 0)).setCell ⟨w1.heap.size, 7, none⟩ (.int .i64 m)).heap[w4.heap.size]? = some (.cells (cw 6 t) 52) ∧ ((wq.setRow (w1.heap.size) (pt c t 0 0)).setCell ⟨w1.heap.size, 7, none⟩ (.int .i64 m)).cell? ⟨w4.heap.size, 0, none⟩ = some (.int .u64 (wd t 0)) ∧ ((wq.setRow (w1.heap.size) (pt c t 0 0)).setCell ⟨w1.heap.size, 7, none⟩ (.int .i64 m)).cell? ⟨w4.heap.size, 1, none⟩ = some (.int .u64 (wd t 1)) ∧ ((wq.setRow (w1.heap.size) (pt c t 0 0)).setCell ⟨w1.heap.size, 7, none⟩ (.int .i64 m)).cell? ⟨w4.heap.size, 2, none⟩ = some (.int .u64 (wd t 2)) ∧ ((wq.setRow (w1.heap.size) (pt c t 0 0)).setCell ⟨w1.heap.size, 7, none⟩ (.int .i64 m)).cell? ⟨w4.heap.size, 3, none⟩ = some (.int .u64 (wd t 3)) ∧ ((wq.setRow (w1.heap.size) (pt c t 0 0)).setCell ⟨w1.heap.size, 7, none⟩ (.int .i64 m)).cell? ⟨w4.heap.size, 4, none⟩ = some (.int .u64 (wd t 4)) ∧ ((wq.setRow (w1.heap.size) (pt c t 0 0)).setCell ⟨w1.heap.size, 7, none⟩ (.int .i64 m)).cell? ⟨w4.heap.size, 5, none⟩ = some (.int .u64 (wd t 5)) := sT2.out _ _ (sT1.out _ _ s1)
  have Ay : ((wq.setRow (w1.heap.size) (pt c t 0 0)).setCell ⟨w1.heap.size, 7, none⟩ (.int .i64 m)).heap[w1.heap.size]? = some (.cells (pt c t m 0) 54) := by rw [zY rp2]; rfl
  have B6 := And.left s2
  have Az := s2.2.1
  have Ag := s2.2.2.1
  have AA := s2.2.2.2.1
  obtain ⟨w6, Av⟩ : ∃ V, ((wq.setRow (w1.heap.size) (pt c t 0 0)).setCell ⟨w1.heap.size, 7, none⟩ (.int .i64 m)) = V := ⟨_, rfl⟩
  rw [Av] at B6 Az Ag Ay AA
  try rw [Av]
  clear s0 s1 s2 sS sT1 sT2 rp q7 d7 Av hst rp2 B5 As Cq Cr At Cs Ct Cu Cv Cw Cx Cy Cz CA CB CC CD CE CF Au CG CH CI CJ CK CL CM CN CO CP CQ CR CS CT Aa CU
  obtain ⟨CV, CW⟩ := zO Az
  obtain ⟨CX, CY, CZ, C0, C1, C2, C3, C4, C5, C6, C7, C8, C9, Da⟩ := zG Ag
  obtain ⟨Db, Dc, Dd, De, Df, Dg, Dh, Di, Dj, Dk, Dl, Dm, Dn, Do⟩ := zG Ay
  have Dp := zF AA
  have hstz := st_p w6 (w.heap.size + 1) c t m 0 0 0 0 0 Ag
  have RZ := zU (c' := pt c t m 0) Ag
  obtain ⟨dz0, dz1, dz2, dz3, dz4, dz5, dz6, dz7, dz8, dz9, dz10, dz11, dz12, dz13⟩ := zG RZ
  have bz := z9 (c := pt c t m 0) B6 (show w.heap.size ≤ w.heap.size + 1 by first | exact Nat.le_refl _ | omega | (have := S2.out; have := Ah.out; have := Ai.out; have := S5.out; have := Ap.out; have := Aq.out; have := Ar.out; omega))
  go_wp2
  exact bodyPost_ret (v := .agg (pt c t m 0)) (by simp [results, Tryz.results69, go_sem, dz0, dz1, dz2, dz3, dz4, dz5, dz6, dz7, dz8, dz9, dz10, dz11, dz12, dz13, ptf] <;> rfl) rfl ⟨rfl, bz⟩
theorem kparts_norm (f : Int) (x y c u v t : Nat) (m q X : Int) (k P S e : Nat) (w : World)
  (KC : zR (∀ w, yN w → Calls Tryz.prog 123 #[.int .u8 f, .agg #[.int .u64 x, .int .u64 y]] w fun r w' => r = .returned (.int .u8 c) ∧ Below w.heap.size w w'))
  (KF : zR (∀ w, yN w → Calls Tryz.prog 124 #[.int .u8 f, .agg #[.int .u64 x, .int .u64 y]] w fun r w' => r = .returned (.agg #[.int .u64 u, .int .u64 v]) ∧ Below w.heap.size w w'))
  (KO : zR (∀ w, Calls Tryz.prog 72 #[.agg #[.int .u64 u, .int .u64 v]] w fun r w' => r = .returned (.agg (cw 6 t)) ∧ Below w.heap.size w w'))
  (KL : zR (∀ w, yN w → Calls Tryz.prog 125 #[.int .u8 f] w fun r w' => r = .returned (.int .i64 m) ∧ Below w.heap.size w w'))
  (K1 : zR (∀ w, Calls Tryz.prog 127 #[.int .u64 1] w fun r w' => r = .returned (.agg (cw 6 1)) ∧ Below w.heap.size w w'))
  (KP : zR (∀ w, yN w → Calls Tryz.prog 121 #[.int .u8 f] w fun r w' => r = .returned (.int .i64 q) ∧ Below w.heap.size w w'))
  (KW : zR (∀ w, Calls Tryz.prog 126 #[.agg (cw 6 1), .int .i64 (k : Nat)] w fun r w' => r = .returned (.tuple #[.agg (cw 6 P), .bool false]) ∧ Below w.heap.size w w'))
  (KR : zR (∀ w, Calls Tryz.prog 75 #[.agg (cw 6 P), .agg (cw 6 t)] w fun r w' => r = .returned (.agg (cw 6 S)) ∧ Below w.heap.size w w'))
  (KE : zR (∀ w, yN w → Calls Tryz.prog 128 #[.int .u8 f, .agg #[.int .u64 x, .int .u64 y]] w fun r w' => r = .returned (.int .u64 e) ∧ Below w.heap.size w w'))
  (h1 : IntKind.i64.wrap (q - 1) = (k : Int)) (h2 : IntKind.i64.wrap (e : Int) = (e : Int)) (h3 : IntKind.i64.wrap (m + (e : Int)) = m + (e : Int)) (h4 : IntKind.i64.wrap (m + (e : Int) - 1) = X)
  (hc : c = 1 ∨ c = 6) (hT : yN w) : Calls Tryz.prog 69 #[.int .u8 f, .agg #[.int .u64 x, .int .u64 y]] w fun r w' => r = .returned (.agg (pt c S X 0)) ∧ Below w.heap.size w w' := by
 have hat := yD 6
 have hz := yZ
 have hff := yY
 have hs0 := q8
 have hcs : ∀ x, ((cw 6 x).size = 6) = True := fun x => eq_true (z7 6 x)
 have hp1 := ptf
 have hp2 := ptc
 have hp3 := ptz
 have hp4 := st_p0
 have hp6 := pt_set
 have hp7 := pt_setl
 have hp5 : ∀ (c s : Nat) (x : Int) (r : Nat), ((pt c s x r).size = 14) = True := fun _ _ _ _ => eq_true rfl
 have ha0 := pt_at0
 have ha1 := pt_at1
 have ha2 := pt_at2
 have ha3 := pt_at3
 have ha4 := pt_at4
 have ha5 := pt_at5
 have ha6 := pt_at6
 have ha7 := pt_at7
 have ha8 := pt_at8
 have ha9 := pt_at9
 have ha10 := pt_at10
 have ha11 := pt_at11
 have ha12 := pt_at12
 have ha13 := pt_at13
 have TT := zK hT
 clear hT
 rcases hc with hc | hc
 ·
  have f8 : ((c : Int) == 8) = false := by rw [hc]; rfl
  have f9 : ((c : Int) == 9) = false := by rw [hc]; rfl
  have f2 : ((c : Int) == 2) = false := by rw [hc]; rfl
  have f5 : ((c : Int) == 5) = false := by rw [hc]; rfl
  have f1 : ((c : Int) == 1) = true := by rw [hc]; rfl
  clear hc
  obtain ⟨AX, AY, B0⟩ := x5 w (Obj.cells #[.int .u64 x, .int .u64 y] 26) (Obj.cells (pt 0 0 0 0) 54)
  go_enter Tryz.func69, Tryz.ntmps69
  go_wp2_with fail
  refine (KC.out _ (z8 TT.out B0)).mono ?_
  rintro r w1 ⟨rfl, b1⟩
  have B1 : Below w.heap.size w w1 := zX B0 b1
  obtain ⟨Ak, Al⟩ := z6 b1 AX AY
  clear b1 B0 AX AY
  obtain ⟨A7, A8⟩ := zO Ak
  obtain ⟨A9, Ba, Bb, Bc, Bd, Be, Bf, Bg, Bh, Bi, Bj, Bk, Bl, Bm⟩ := zG Al
  have S2 := zK B1.size
  have Aa := yC Ak
  have Ab := yC Al
  have Ay := heap_alloc_last w1 (Obj.cells (pt c 0 0 0) 54)
  have B2 := zX B1 (yB w1 (Obj.cells (pt c 0 0 0) 54))
  obtain ⟨Az, AA⟩ := z6 (yB w1 (Obj.cells (pt c 0 0 0) 54)) Ak Al
  clear B1 Ak A7 A8 Al A9 Ba Bb Bc Bd Be Bf Bg Bh Bi Bj Bk Bl Bm
  obtain ⟨Bn, Bo⟩ := zO Az
  obtain ⟨Bp, Bq, Br, Bs, Bt, Bu, Bv, Bw, Bx, By, Bz, BA, BB, BC⟩ := zG AA
  obtain ⟨BD, BE, BF, BG, BH, BI, BJ, BK, BL, BM, BN, BO, BP, BQ⟩ := zG Ay
  go_wp2_with fail
  refine (KF.out _ (z8 TT.out B2)).mono ?_
  rintro r w3 ⟨rfl, b3⟩
  have B3 : Below w.heap.size w w3 := zX B2 b3
  obtain ⟨AB, AC, AD⟩ := yI b3 Az AA Ay
  clear b3 B2 Az Bn Bo AA Bp Bq Br Bs Bt Bu Bv Bw Bx By Bz BA BB BC Ay BD BE BF BG BH BI BJ BK BL BM BN BO BP BQ
  obtain ⟨BR, BS⟩ := zO AB
  obtain ⟨BT, BU, BV, BW, BX, BY, BZ, Ca, Cb, Cc, Cd, Ce, Cf, Cg⟩ := zG AC
  obtain ⟨Ch, Ci, Cj, Ck, Cl, Cm, Cn, Co, Cp, Cq, Cr, Cs, Ct, Cu⟩ := zG AD
  go_wp2_with fail
  refine (KO.out _).mono ?_
  rintro r w4 ⟨rfl, b4⟩
  have B4 : Below w.heap.size w w4 := zX B3 b4
  obtain ⟨Am, An, Ao⟩ := yI b4 AB AC AD
  clear b4 B3 AB BR BS AC BT BU BV BW BX BY BZ Ca Cb Cc Cd Ce Cf Cg AD Ch Ci Cj Ck Cl Cm Cn Co Cp Cq Cr Cs Ct Cu
  obtain ⟨Cv, Cw⟩ := zO Am
  obtain ⟨Cx, Cy, Cz, CA, CB, CC, CD, CE, CF, CG, CH, CI, CJ, CK⟩ := zG An
  obtain ⟨CL, CM, CN, CO, CP, CQ, CR, CS, CT, CU, CV, CW, CX, CY⟩ := zG Ao
  have S5 := zK B4.size
  have Ac := yC Am
  have Ad := yC An
  have Ae := yC Ao
  have AE := heap_alloc_last w4 (Obj.cells (cw 6 t) 52)
  have B5 := zX B4 (yB w4 (Obj.cells (cw 6 t) 52))
  obtain ⟨AF, AG, AH⟩ := yI (yB w4 (Obj.cells (cw 6 t) 52)) Am An Ao
  clear B4 Am Cv Cw An Cx Cy Cz CA CB CC CD CE CF CG CH CI CJ CK Ao CL CM CN CO CP CQ CR CS CT CU CV CW CX CY
  obtain ⟨CZ, C0⟩ := zO AF
  obtain ⟨C1, C2, C3, C4, C5, C6, C7, C8, C9, Da, Db, Dc, Dd, De⟩ := zG AG
  obtain ⟨Df, Dg, Dh, Di, Dj, Dk, Dl, Dm, Dn, Do, Dp, Dq, Dr, Ds⟩ := zG AH
  have Dt := zF AE
  go_wp2_with fail
  refine (K1.out _).mono ?_
  rintro r w6 ⟨rfl, b6⟩
  have B6 : Below w.heap.size w w6 := zX B5 b6
  obtain ⟨AI, AJ, AK, AL⟩ := rws4 b6 AF AG AH AE
  clear b6 B5 AF CZ C0 AG C1 C2 C3 C4 C5 C6 C7 C8 C9 Da Db Dc Dd De AH Df Dg Dh Di Dj Dk Dl Dm Dn Do Dp Dq Dr Ds AE Dt
  obtain ⟨Du, Dv⟩ := zO AI
  obtain ⟨Dw, Dx, Dy, Dz, DA, DB, DC, DD, DE, DF, DG, DH, DI, DJ⟩ := zG AJ
  obtain ⟨DK, DL, DM, DN, DO, DP, DQ, DR, DS, DT, DU, DV, DW, DX⟩ := zG AK
  have DY := zF AL
  go_wp2_with fail
  refine (KP.out _ (z8 TT.out B6)).mono ?_
  rintro r w7 ⟨rfl, b7⟩
  have B7 : Below w.heap.size w w7 := zX B6 b7
  obtain ⟨AM, AN, AO, AP⟩ := rws4 b7 AI AJ AK AL
  clear b7 B6 AI Du Dv AJ Dw Dx Dy Dz DA DB DC DD DE DF DG DH DI DJ AK DK DL DM DN DO DP DQ DR DS DT DU DV DW DX AL DY
  obtain ⟨DZ, D0⟩ := zO AM
  obtain ⟨D1, D2, D3, D4, D5, D6, D7, D8, D9, Ea, Eb, Ec, Ed, Ee⟩ := zG AN
  obtain ⟨Ef, Eg, Eh, Ei, Ej, Ek, El, Em, En, Eo, Ep, Eq, Er, Es⟩ := zG AO
  have Et := zF AP
  go_wp2_with fail
  refine (KW.out _).mono ?_
  rintro r w8 ⟨rfl, b8⟩
  have B8 : Below w.heap.size w w8 := zX B7 b8
  obtain ⟨Ap, Aq, Ar, As⟩ := rws4 b8 AM AN AO AP
  clear b8 B7 AM DZ D0 AN D1 D2 D3 D4 D5 D6 D7 D8 D9 Ea Eb Ec Ed Ee AO Ef Eg Eh Ei Ej Ek El Em En Eo Ep Eq Er Es AP Et
  obtain ⟨Eu, Ev⟩ := zO Ap
  obtain ⟨Ew, Ex, Ey, Ez, EA, EB, EC, ED, EE, EF, EG, EH, EI, EJ⟩ := zG Aq
  obtain ⟨EK, EL, EM, EN, EO, EP, EQ, ER, ES, ET, EU, EV, EW, EX⟩ := zG Ar
  have EY := zF As
  have S9 := zK B8.size
  have Af := yC Ap
  have Ag := yC Aq
  have Ah := yC Ar
  have Ai := yC As
  have AQ := heap_alloc_last w8 (Obj.cells (cw 6 P) 52)
  have B9 := zX B8 (yB w8 (Obj.cells (cw 6 P) 52))
  obtain ⟨AR, AS, AT, AU⟩ := rws4 (yB w8 (Obj.cells (cw 6 P) 52)) Ap Aq Ar As
  clear B8 Ap Eu Ev Aq Ew Ex Ey Ez EA EB EC ED EE EF EG EH EI EJ Ar EK EL EM EN EO EP EQ ER ES ET EU EV EW EX As EY
  obtain ⟨EZ, E0⟩ := zO AR
  obtain ⟨E1, E2, E3, E4, E5, E6, E7, E8, E9, Fa, Fb, Fc, Fd, Fe⟩ := zG AS
  obtain ⟨Ff, Fg, Fh, Fi, Fj, Fk, Fl, Fm, Fn, Fo, Fp, Fq, Fr, Fs⟩ := zG AT
  have Ft := zF AU
  have Fu := zF AQ
  go_wp2_with fail
  refine (KR.out _).mono ?_
  rintro r w10 ⟨rfl, b10⟩
  have B10 : Below w.heap.size w w10 := zX B9 b10
  obtain ⟨AZ, A0, AV, A1, A2⟩ := yO b10 AR AS AT AU AQ
  clear b10 B9 AR EZ E0 AS E1 E2 E3 E4 E5 E6 E7 E8 E9 Fa Fb Fc Fd Fe AT Ff Fg Fh Fi Fj Fk Fl Fm Fn Fo Fp Fq Fr Fs AU Ft AQ Fu
  obtain ⟨F3, F4⟩ := zO AZ
  obtain ⟨F5, F6, F7, F8, F9, Ga, Gb, Gc, Gd, Ge, Gf, Gg, Gh, Gi⟩ := zG A0
  obtain ⟨Gj, Gk, Gl, Gm, Gn, Gp, Gq, Gr, Gs, Gt, Gu, Gv, Gw, Gx⟩ := zG AV
  have Gy := zF A1
  have Gz := zF A2
  have Fv := st_p1 w10 (w1.heap.size) c 0 0 0 S AV
  have B11 := z9 (c := (pt c S 0 0)) B10 (show w.heap.size ≤ w1.heap.size by first | exact Nat.le_refl _ | omega | (have := S2.out; have := Aa.out; have := Ab.out; have := S5.out; have := Ac.out; have := Ad.out; have := Ae.out; have := S9.out; have := Af.out; have := Ag.out; have := Ah.out; have := Ai.out; omega))
  have At := zU (c' := (pt c S 0 0)) AV
  have Aj : (w10.setRow (w1.heap.size) (pt c S 0 0)).heap[w.heap.size]? = some (.cells #[.int .u64 x, .int .u64 y] 26) := by rw [zI (by first | omega | (have := S2.out; have := Aa.out; have := Ab.out; have := S5.out; have := Ac.out; have := Ad.out; have := Ae.out; have := S9.out; have := Af.out; have := Ag.out; have := Ah.out; have := Ai.out; omega))]; exact AZ
  have Au : (w10.setRow (w1.heap.size) (pt c S 0 0)).heap[w.heap.size + 1]? = some (.cells (pt 0 0 0 0) 54) := by rw [zI (by first | omega | (have := S2.out; have := Aa.out; have := Ab.out; have := S5.out; have := Ac.out; have := Ad.out; have := Ae.out; have := S9.out; have := Af.out; have := Ag.out; have := Ah.out; have := Ai.out; omega))]; exact A0
  have Av : (w10.setRow (w1.heap.size) (pt c S 0 0)).heap[w4.heap.size]? = some (.cells (cw 6 t) 52) := by rw [zI (by first | omega | (have := S2.out; have := Aa.out; have := Ab.out; have := S5.out; have := Ac.out; have := Ad.out; have := Ae.out; have := S9.out; have := Af.out; have := Ag.out; have := Ah.out; have := Ai.out; omega))]; exact A1
  have Aw : (w10.setRow (w1.heap.size) (pt c S 0 0)).heap[w8.heap.size]? = some (.cells (cw 6 P) 52) := by rw [zI (by first | omega | (have := S2.out; have := Aa.out; have := Ab.out; have := S5.out; have := Ac.out; have := Ad.out; have := Ae.out; have := S9.out; have := Af.out; have := Ag.out; have := Ah.out; have := Ai.out; omega))]; exact A2
  obtain ⟨w11, Fw⟩ : ∃ V, w10.setRow (w1.heap.size) (pt c S 0 0) = V := ⟨_, rfl⟩
  rw [Fw] at Fv B11 Aj Au At Av Aw
  obtain ⟨Fx, Fy⟩ := zO Aj
  obtain ⟨Fz, FA, FB, FC, FD, FE, FF, FG, FH, FI, FJ, FK, FL, FM⟩ := zG Au
  obtain ⟨FN, FO, FP, FQ, FR, FS, FT, FU, FV, FW, FX, FY, FZ, F0⟩ := zG At
  have F1 := zF Av
  have F2 := zF Aw
  have sS : zR (∀ W W1 : World, (Below w.heap.size w W ∧ W.heap[w.heap.size]? = some (.cells #[.int .u64 x, .int .u64 y] 26) ∧ W.heap[w.heap.size + 1]? = some (.cells (pt 0 0 0 0) 54) ∧ W.heap[w4.heap.size]? = some (.cells (cw 6 t) 52) ∧ W.heap[w8.heap.size]? = some (.cells (cw 6 P) 52) ∧ W.cell? ⟨w.heap.size, 0, none⟩ = some (.int .u64 x) ∧ W.cell? ⟨w.heap.size, 1, none⟩ = some (.int .u64 y)) → Below W.heap.size W W1 → (Below w.heap.size w W1 ∧ W1.heap[w.heap.size]? = some (.cells #[.int .u64 x, .int .u64 y] 26) ∧ W1.heap[w.heap.size + 1]? = some (.cells (pt 0 0 0 0) 54) ∧ W1.heap[w4.heap.size]? = some (.cells (cw 6 t) 52) ∧ W1.heap[w8.heap.size]? = some (.cells (cw 6 P) 52) ∧ W1.cell? ⟨w.heap.size, 0, none⟩ = some (.int .u64 x) ∧ W1.cell? ⟨w.heap.size, 1, none⟩ = some (.int .u64 y))) := zK (fun W W1 h b => ⟨zX h.1 b, zA b _ _ _ h.2.1, zA b _ _ _ h.2.2.1, zA b _ _ _ h.2.2.2.1, zA b _ _ _ h.2.2.2.2.1, zJ (zA b _ _ _ h.2.1) 0 _ rfl, zJ (zA b _ _ _ h.2.1) 1 _ rfl⟩)
  have HH := zK (And.intro S2.out (And.intro Aa.out (And.intro Ab.out (And.intro S5.out (And.intro Ac.out (And.intro Ad.out (And.intro Ae.out (And.intro S9.out (And.intro Af.out (And.intro Ag.out (And.intro Ah.out Ai.out)))))))))))
  have sT1 : zR (∀ (W : World) (xA : Array Value), (Below w.heap.size w W ∧ W.heap[w.heap.size]? = some (.cells #[.int .u64 x, .int .u64 y] 26) ∧ W.heap[w.heap.size + 1]? = some (.cells (pt 0 0 0 0) 54) ∧ W.heap[w4.heap.size]? = some (.cells (cw 6 t) 52) ∧ W.heap[w8.heap.size]? = some (.cells (cw 6 P) 52) ∧ W.cell? ⟨w.heap.size, 0, none⟩ = some (.int .u64 x) ∧ W.cell? ⟨w.heap.size, 1, none⟩ = some (.int .u64 y)) → (Below w.heap.size w (W.setRow (w1.heap.size) xA) ∧ (W.setRow (w1.heap.size) xA).heap[w.heap.size]? = some (.cells #[.int .u64 x, .int .u64 y] 26) ∧ (W.setRow (w1.heap.size) xA).heap[w.heap.size + 1]? = some (.cells (pt 0 0 0 0) 54) ∧ (W.setRow (w1.heap.size) xA).heap[w4.heap.size]? = some (.cells (cw 6 t) 52) ∧ (W.setRow (w1.heap.size) xA).heap[w8.heap.size]? = some (.cells (cw 6 P) 52) ∧ (W.setRow (w1.heap.size) xA).cell? ⟨w.heap.size, 0, none⟩ = some (.int .u64 x) ∧ (W.setRow (w1.heap.size) xA).cell? ⟨w.heap.size, 1, none⟩ = some (.int .u64 y))) := zK (fun W xA h => ⟨z9 h.1 (show w.heap.size ≤ w1.heap.size by first | exact Nat.le_refl _ | omega | (have := HH.out; omega)), (zI (by first | omega | (have := HH.out; omega))).trans h.2.1, (zI (by first | omega | (have := HH.out; omega))).trans h.2.2.1, (zI (by first | omega | (have := HH.out; omega))).trans h.2.2.2.1, (zI (by first | omega | (have := HH.out; omega))).trans h.2.2.2.2.1, zJ ((zI (by first | omega | (have := HH.out; omega))).trans h.2.1) 0 _ rfl, zJ ((zI (by first | omega | (have := HH.out; omega))).trans h.2.1) 1 _ rfl⟩)
  have HH := zK (And.intro S2.out (And.intro Aa.out (And.intro Ab.out (And.intro S5.out (And.intro Ac.out (And.intro Ad.out (And.intro Ae.out (And.intro S9.out (And.intro Af.out (And.intro Ag.out (And.intro Ah.out Ai.out)))))))))))
  have sT2 : zR (∀ (W : World) (xB : Value), (Below w.heap.size w W ∧ W.heap[w.heap.size]? = some (.cells #[.int .u64 x, .int .u64 y] 26) ∧ W.heap[w.heap.size + 1]? = some (.cells (pt 0 0 0 0) 54) ∧ W.heap[w4.heap.size]? = some (.cells (cw 6 t) 52) ∧ W.heap[w8.heap.size]? = some (.cells (cw 6 P) 52) ∧ W.cell? ⟨w.heap.size, 0, none⟩ = some (.int .u64 x) ∧ W.cell? ⟨w.heap.size, 1, none⟩ = some (.int .u64 y)) → (Below w.heap.size w (W.setCell ⟨w1.heap.size, 7, none⟩ xB) ∧ (W.setCell ⟨w1.heap.size, 7, none⟩ xB).heap[w.heap.size]? = some (.cells #[.int .u64 x, .int .u64 y] 26) ∧ (W.setCell ⟨w1.heap.size, 7, none⟩ xB).heap[w.heap.size + 1]? = some (.cells (pt 0 0 0 0) 54) ∧ (W.setCell ⟨w1.heap.size, 7, none⟩ xB).heap[w4.heap.size]? = some (.cells (cw 6 t) 52) ∧ (W.setCell ⟨w1.heap.size, 7, none⟩ xB).heap[w8.heap.size]? = some (.cells (cw 6 P) 52) ∧ (W.setCell ⟨w1.heap.size, 7, none⟩ xB).cell? ⟨w.heap.size, 0, none⟩ = some (.int .u64 x) ∧ (W.setCell ⟨w1.heap.size, 7, none⟩ xB).cell? ⟨w.heap.size, 1, none⟩ = some (.int .u64 y))) := zK (fun W xB h => ⟨h.1.setCell (show w.heap.size ≤ w1.heap.size by first | exact Nat.le_refl _ | omega | (have := HH.out; omega)) _, (zH (by first | omega | (have := HH.out; omega))).trans h.2.1, (zH (by first | omega | (have := HH.out; omega))).trans h.2.2.1, (zH (by first | omega | (have := HH.out; omega))).trans h.2.2.2.1, (zH (by first | omega | (have := HH.out; omega))).trans h.2.2.2.2.1, zJ ((zH (by first | omega | (have := HH.out; omega))).trans h.2.1) 0 _ rfl, zJ ((zH (by first | omega | (have := HH.out; omega))).trans h.2.1) 1 _ rfl⟩)
  have s0 : Below w.heap.size w (w11).drew ∧ (w11).drew.heap[w.heap.size]? = some (.cells #[.int .u64 x, .int .u64 y] 26) ∧ (w11).drew.heap[w.heap.size + 1]? = some (.cells (pt 0 0 0 0) 54) ∧ (w11).drew.heap[w4.heap.size]? = some (.cells (cw 6 t) 52) ∧ (w11).drew.heap[w8.heap.size]? = some (.cells (cw 6 P) 52) ∧ (w11).drew.cell? ⟨w.heap.size, 0, none⟩ = some (.int .u64 x) ∧ (w11).drew.cell? ⟨w.heap.size, 1, none⟩ = some (.int .u64 y) := ⟨B11.drew, Aj, Au, Av, Aw, zJ (Aj) 0 _ rfl, zJ (Aj) 1 _ rfl⟩
  have rp : (w11).drew.heap[w1.heap.size]? = some (.cells (pt c S 0 0) 54) := At
  go_wp2_with fail
  go_region_held3 (fun W => Below w.heap.size w W ∧ W.heap[w.heap.size]? = some (.cells #[.int .u64 x, .int .u64 y] 26) ∧ W.heap[w.heap.size + 1]? = some (.cells (pt 0 0 0 0) 54) ∧ W.heap[w4.heap.size]? = some (.cells (cw 6 t) 52) ∧ W.heap[w8.heap.size]? = some (.cells (cw 6 P) 52) ∧ W.cell? ⟨w.heap.size, 0, none⟩ = some (.int .u64 x) ∧ W.cell? ⟨w.heap.size, 1, none⟩ = some (.int .u64 y)) (first | exact s1 | exact s0 | exact sT1.out _ _ s1 | exact sT2.out _ _ (sT1.out _ _ s1) | exact sT2.out _ _ s1)
   (((first | (go_at_call 125; (first | refine (KL.out _ (z8 TT.out (And.left s1))).mono ?_ | refine (KL.out _ (z8 TT.out (And.left s0))).mono ?_)) | (go_at_call 128; (first | refine (KE.out _ (z8 TT.out (And.left s1))).mono ?_ | refine (KE.out _ (z8 TT.out (And.left s0))).mono ?_)) | fail); rintro r wq ⟨rfl, bq⟩; have s1 := (by first | exact sS.out _ _ s1 bq | exact sS.out _ _ s0 bq); have rp := zA bq _ _ _ rp; have q7 := fz (k := 7) rp; have d7 := zJ rp 7 _ rfl; clear bq))
  have s2 : Below w.heap.size w (wq.setCell ⟨w1.heap.size, 7, none⟩ (.int .i64 X)) ∧ (wq.setCell ⟨w1.heap.size, 7, none⟩ (.int .i64 X)).heap[w.heap.size]? = some (.cells #[.int .u64 x, .int .u64 y] 26) ∧ (wq.setCell ⟨w1.heap.size, 7, none⟩ (.int .i64 X)).heap[w.heap.size + 1]? = some (.cells (pt 0 0 0 0) 54) ∧ (wq.setCell ⟨w1.heap.size, 7, none⟩ (.int .i64 X)).heap[w4.heap.size]? = some (.cells (cw 6 t) 52) ∧ (wq.setCell ⟨w1.heap.size, 7, none⟩ (.int .i64 X)).heap[w8.heap.size]? = some (.cells (cw 6 P) 52) ∧ (wq.setCell ⟨w1.heap.size, 7, none⟩ (.int .i64 X)).cell? ⟨w.heap.size, 0, none⟩ = some (.int .u64 x) ∧ (wq.setCell ⟨w1.heap.size, 7, none⟩ (.int .i64 X)).cell? ⟨w.heap.size, 1, none⟩ = some (.int .u64 y) := sT2.out _ _ s1
  have A3 : (wq.setCell ⟨w1.heap.size, 7, none⟩ (.int .i64 X)).heap[w1.heap.size]? = some (.cells (pt c S X 0) 54) := by rw [zY rp]; rfl
  have B12 := And.left s2
  have A4 := s2.2.1
  have Ax := s2.2.2.1
  have A5 := s2.2.2.2.1
  have A6 := s2.2.2.2.2.1
  obtain ⟨w12, AW⟩ : ∃ V, (wq.setCell ⟨w1.heap.size, 7, none⟩ (.int .i64 X)) = V := ⟨_, rfl⟩
  rw [AW] at B12 A4 Ax A3 A5 A6
  try rw [AW]
  clear s0 s1 s2 sS sT1 sT2 rp q7 d7 AW B11 Aj Fx Fy Au Fz FA FB FC FD FE FF FG FH FI FJ FK FL FM At FN FO FP FQ FR FS FT FU FV FW FX FY FZ F0 Av F1 Aw F2
  obtain ⟨GA, GB⟩ := zO A4
  obtain ⟨GC, GD, GE, GF, GG, GH, GI, GJ, GK, GL, GM, GN, GO, GP⟩ := zG Ax
  obtain ⟨GQ, GR, GS, GT, GU, GV, GW, GX, GY, GZ, G0, G1, G2, G3⟩ := zG A3
  have G4 := zF A5
  have G5 := zF A6
  have hstz := st_p w12 (w.heap.size + 1) c S X 0 0 0 0 0 Ax
  have RZ := zU (c' := pt c S X 0) Ax
  obtain ⟨dz0, dz1, dz2, dz3, dz4, dz5, dz6, dz7, dz8, dz9, dz10, dz11, dz12, dz13⟩ := zG RZ
  have bz := z9 (c := pt c S X 0) B12 (show w.heap.size ≤ w.heap.size + 1 by first | exact Nat.le_refl _ | omega | (have := S2.out; have := Aa.out; have := Ab.out; have := S5.out; have := Ac.out; have := Ad.out; have := Ae.out; have := S9.out; have := Af.out; have := Ag.out; have := Ah.out; have := Ai.out; omega))
  go_wp2
  exact bodyPost_ret (v := .agg (pt c S X 0)) (by simp [results, Tryz.results69, go_sem, dz0, dz1, dz2, dz3, dz4, dz5, dz6, dz7, dz8, dz9, dz10, dz11, dz12, dz13, ptf] <;> rfl) rfl ⟨rfl, bz⟩
 ·
  have f8 : ((c : Int) == 8) = false := by rw [hc]; rfl
  have f9 : ((c : Int) == 9) = false := by rw [hc]; rfl
  have f2 : ((c : Int) == 2) = false := by rw [hc]; rfl
  have f5 : ((c : Int) == 5) = false := by rw [hc]; rfl
  have f1 : ((c : Int) == 1) = false := by rw [hc]; rfl
  have f6 : ((c : Int) == 6) = true := by rw [hc]; rfl
  clear hc
  obtain ⟨AX, AY, B0⟩ := x5 w (Obj.cells #[.int .u64 x, .int .u64 y] 26) (Obj.cells (pt 0 0 0 0) 54)
  go_enter Tryz.func69, Tryz.ntmps69
  go_wp2_with fail
  refine (KC.out _ (z8 TT.out B0)).mono ?_
  rintro r w1 ⟨rfl, b1⟩
  have B1 : Below w.heap.size w w1 := zX B0 b1
  obtain ⟨Ak, Al⟩ := z6 b1 AX AY
  clear b1 B0 AX AY
  obtain ⟨A7, A8⟩ := zO Ak
  obtain ⟨A9, Ba, Bb, Bc, Bd, Be, Bf, Bg, Bh, Bi, Bj, Bk, Bl, Bm⟩ := zG Al
  have S2 := zK B1.size
  have Aa := yC Ak
  have Ab := yC Al
  have Ay := heap_alloc_last w1 (Obj.cells (pt c 0 0 0) 54)
  have B2 := zX B1 (yB w1 (Obj.cells (pt c 0 0 0) 54))
  obtain ⟨Az, AA⟩ := z6 (yB w1 (Obj.cells (pt c 0 0 0) 54)) Ak Al
  clear B1 Ak A7 A8 Al A9 Ba Bb Bc Bd Be Bf Bg Bh Bi Bj Bk Bl Bm
  obtain ⟨Bn, Bo⟩ := zO Az
  obtain ⟨Bp, Bq, Br, Bs, Bt, Bu, Bv, Bw, Bx, By, Bz, BA, BB, BC⟩ := zG AA
  obtain ⟨BD, BE, BF, BG, BH, BI, BJ, BK, BL, BM, BN, BO, BP, BQ⟩ := zG Ay
  go_wp2_with fail
  refine (KF.out _ (z8 TT.out B2)).mono ?_
  rintro r w3 ⟨rfl, b3⟩
  have B3 : Below w.heap.size w w3 := zX B2 b3
  obtain ⟨AB, AC, AD⟩ := yI b3 Az AA Ay
  clear b3 B2 Az Bn Bo AA Bp Bq Br Bs Bt Bu Bv Bw Bx By Bz BA BB BC Ay BD BE BF BG BH BI BJ BK BL BM BN BO BP BQ
  obtain ⟨BR, BS⟩ := zO AB
  obtain ⟨BT, BU, BV, BW, BX, BY, BZ, Ca, Cb, Cc, Cd, Ce, Cf, Cg⟩ := zG AC
  obtain ⟨Ch, Ci, Cj, Ck, Cl, Cm, Cn, Co, Cp, Cq, Cr, Cs, Ct, Cu⟩ := zG AD
  go_wp2_with fail
  refine (KO.out _).mono ?_
  rintro r w4 ⟨rfl, b4⟩
  have B4 : Below w.heap.size w w4 := zX B3 b4
  obtain ⟨Am, An, Ao⟩ := yI b4 AB AC AD
  clear b4 B3 AB BR BS AC BT BU BV BW BX BY BZ Ca Cb Cc Cd Ce Cf Cg AD Ch Ci Cj Ck Cl Cm Cn Co Cp Cq Cr Cs Ct Cu
  obtain ⟨Cv, Cw⟩ := zO Am
  obtain ⟨Cx, Cy, Cz, CA, CB, CC, CD, CE, CF, CG, CH, CI, CJ, CK⟩ := zG An
  obtain ⟨CL, CM, CN, CO, CP, CQ, CR, CS, CT, CU, CV, CW, CX, CY⟩ := zG Ao
  have S5 := zK B4.size
  have Ac := yC Am
  have Ad := yC An
  have Ae := yC Ao
  have AE := heap_alloc_last w4 (Obj.cells (cw 6 t) 52)
  have B5 := zX B4 (yB w4 (Obj.cells (cw 6 t) 52))
  obtain ⟨AF, AG, AH⟩ := yI (yB w4 (Obj.cells (cw 6 t) 52)) Am An Ao
  clear B4 Am Cv Cw An Cx Cy Cz CA CB CC CD CE CF CG CH CI CJ CK Ao CL CM CN CO CP CQ CR CS CT CU CV CW CX CY
  obtain ⟨CZ, C0⟩ := zO AF
  obtain ⟨C1, C2, C3, C4, C5, C6, C7, C8, C9, Da, Db, Dc, Dd, De⟩ := zG AG
  obtain ⟨Df, Dg, Dh, Di, Dj, Dk, Dl, Dm, Dn, Do, Dp, Dq, Dr, Ds⟩ := zG AH
  have Dt := zF AE
  go_wp2_with fail
  refine (K1.out _).mono ?_
  rintro r w6 ⟨rfl, b6⟩
  have B6 : Below w.heap.size w w6 := zX B5 b6
  obtain ⟨AI, AJ, AK, AL⟩ := rws4 b6 AF AG AH AE
  clear b6 B5 AF CZ C0 AG C1 C2 C3 C4 C5 C6 C7 C8 C9 Da Db Dc Dd De AH Df Dg Dh Di Dj Dk Dl Dm Dn Do Dp Dq Dr Ds AE Dt
  obtain ⟨Du, Dv⟩ := zO AI
  obtain ⟨Dw, Dx, Dy, Dz, DA, DB, DC, DD, DE, DF, DG, DH, DI, DJ⟩ := zG AJ
  obtain ⟨DK, DL, DM, DN, DO, DP, DQ, DR, DS, DT, DU, DV, DW, DX⟩ := zG AK
  have DY := zF AL
  go_wp2_with fail
  refine (KP.out _ (z8 TT.out B6)).mono ?_
  rintro r w7 ⟨rfl, b7⟩
  have B7 : Below w.heap.size w w7 := zX B6 b7
  obtain ⟨AM, AN, AO, AP⟩ := rws4 b7 AI AJ AK AL
  clear b7 B6 AI Du Dv AJ Dw Dx Dy Dz DA DB DC DD DE DF DG DH DI DJ AK DK DL DM DN DO DP DQ DR DS DT DU DV DW DX AL DY
  obtain ⟨DZ, D0⟩ := zO AM
  obtain ⟨D1, D2, D3, D4, D5, D6, D7, D8, D9, Ea, Eb, Ec, Ed, Ee⟩ := zG AN
  obtain ⟨Ef, Eg, Eh, Ei, Ej, Ek, El, Em, En, Eo, Ep, Eq, Er, Es⟩ := zG AO
  have Et := zF AP
  go_wp2_with fail
  refine (KW.out _).mono ?_
  rintro r w8 ⟨rfl, b8⟩
  have B8 : Below w.heap.size w w8 := zX B7 b8
  obtain ⟨Ap, Aq, Ar, As⟩ := rws4 b8 AM AN AO AP
  clear b8 B7 AM DZ D0 AN D1 D2 D3 D4 D5 D6 D7 D8 D9 Ea Eb Ec Ed Ee AO Ef Eg Eh Ei Ej Ek El Em En Eo Ep Eq Er Es AP Et
  obtain ⟨Eu, Ev⟩ := zO Ap
  obtain ⟨Ew, Ex, Ey, Ez, EA, EB, EC, ED, EE, EF, EG, EH, EI, EJ⟩ := zG Aq
  obtain ⟨EK, EL, EM, EN, EO, EP, EQ, ER, ES, ET, EU, EV, EW, EX⟩ := zG Ar
  have EY := zF As
  have S9 := zK B8.size
  have Af := yC Ap
  have Ag := yC Aq
  have Ah := yC Ar
  have Ai := yC As
  have AQ := heap_alloc_last w8 (Obj.cells (cw 6 P) 52)
  have B9 := zX B8 (yB w8 (Obj.cells (cw 6 P) 52))
  obtain ⟨AR, AS, AT, AU⟩ := rws4 (yB w8 (Obj.cells (cw 6 P) 52)) Ap Aq Ar As
  clear B8 Ap Eu Ev Aq Ew Ex Ey Ez EA EB EC ED EE EF EG EH EI EJ Ar EK EL EM EN EO EP EQ ER ES ET EU EV EW EX As EY
  obtain ⟨EZ, E0⟩ := zO AR
  obtain ⟨E1, E2, E3, E4, E5, E6, E7, E8, E9, Fa, Fb, Fc, Fd, Fe⟩ := zG AS
  obtain ⟨Ff, Fg, Fh, Fi, Fj, Fk, Fl, Fm, Fn, Fo, Fp, Fq, Fr, Fs⟩ := zG AT
  have Ft := zF AU
  have Fu := zF AQ
  go_wp2_with fail
  refine (KR.out _).mono ?_
  rintro r w10 ⟨rfl, b10⟩
  have B10 : Below w.heap.size w w10 := zX B9 b10
  obtain ⟨AZ, A0, AV, A1, A2⟩ := yO b10 AR AS AT AU AQ
  clear b10 B9 AR EZ E0 AS E1 E2 E3 E4 E5 E6 E7 E8 E9 Fa Fb Fc Fd Fe AT Ff Fg Fh Fi Fj Fk Fl Fm Fn Fo Fp Fq Fr Fs AU Ft AQ Fu
  obtain ⟨F3, F4⟩ := zO AZ
  obtain ⟨F5, F6, F7, F8, F9, Ga, Gb, Gc, Gd, Ge, Gf, Gg, Gh, Gi⟩ := zG A0
  obtain ⟨Gj, Gk, Gl, Gm, Gn, Gp, Gq, Gr, Gs, Gt, Gu, Gv, Gw, Gx⟩ := zG AV
  have Gy := zF A1
  have Gz := zF A2
  have Fv := st_p1 w10 (w1.heap.size) c 0 0 0 S AV
  have B11 := z9 (c := (pt c S 0 0)) B10 (show w.heap.size ≤ w1.heap.size by first | exact Nat.le_refl _ | omega | (have := S2.out; have := Aa.out; have := Ab.out; have := S5.out; have := Ac.out; have := Ad.out; have := Ae.out; have := S9.out; have := Af.out; have := Ag.out; have := Ah.out; have := Ai.out; omega))
  have At := zU (c' := (pt c S 0 0)) AV
  have Aj : (w10.setRow (w1.heap.size) (pt c S 0 0)).heap[w.heap.size]? = some (.cells #[.int .u64 x, .int .u64 y] 26) := by rw [zI (by first | omega | (have := S2.out; have := Aa.out; have := Ab.out; have := S5.out; have := Ac.out; have := Ad.out; have := Ae.out; have := S9.out; have := Af.out; have := Ag.out; have := Ah.out; have := Ai.out; omega))]; exact AZ
  have Au : (w10.setRow (w1.heap.size) (pt c S 0 0)).heap[w.heap.size + 1]? = some (.cells (pt 0 0 0 0) 54) := by rw [zI (by first | omega | (have := S2.out; have := Aa.out; have := Ab.out; have := S5.out; have := Ac.out; have := Ad.out; have := Ae.out; have := S9.out; have := Af.out; have := Ag.out; have := Ah.out; have := Ai.out; omega))]; exact A0
  have Av : (w10.setRow (w1.heap.size) (pt c S 0 0)).heap[w4.heap.size]? = some (.cells (cw 6 t) 52) := by rw [zI (by first | omega | (have := S2.out; have := Aa.out; have := Ab.out; have := S5.out; have := Ac.out; have := Ad.out; have := Ae.out; have := S9.out; have := Af.out; have := Ag.out; have := Ah.out; have := Ai.out; omega))]; exact A1
  have Aw : (w10.setRow (w1.heap.size) (pt c S 0 0)).heap[w8.heap.size]? = some (.cells (cw 6 P) 52) := by rw [zI (by first | omega | (have := S2.out; have := Aa.out; have := Ab.out; have := S5.out; have := Ac.out; have := Ad.out; have := Ae.out; have := S9.out; have := Af.out; have := Ag.out; have := Ah.out; have := Ai.out; omega))]; exact A2
  obtain ⟨w11, Fw⟩ : ∃ V, w10.setRow (w1.heap.size) (pt c S 0 0) = V := ⟨_, rfl⟩
  rw [Fw] at Fv B11 Aj Au At Av Aw
  obtain ⟨Fx, Fy⟩ := zO Aj
  obtain ⟨Fz, FA, FB, FC, FD, FE, FF, FG, FH, FI, FJ, FK, FL, FM⟩ := zG Au
  obtain ⟨FN, FO, FP, FQ, FR, FS, FT, FU, FV, FW, FX, FY, FZ, F0⟩ := zG At
  have F1 := zF Av
  have F2 := zF Aw
  have sS : zR (∀ W W1 : World, (Below w.heap.size w W ∧ W.heap[w.heap.size]? = some (.cells #[.int .u64 x, .int .u64 y] 26) ∧ W.heap[w.heap.size + 1]? = some (.cells (pt 0 0 0 0) 54) ∧ W.heap[w4.heap.size]? = some (.cells (cw 6 t) 52) ∧ W.heap[w8.heap.size]? = some (.cells (cw 6 P) 52) ∧ W.cell? ⟨w.heap.size, 0, none⟩ = some (.int .u64 x) ∧ W.cell? ⟨w.heap.size, 1, none⟩ = some (.int .u64 y)) → Below W.heap.size W W1 → (Below w.heap.size w W1 ∧ W1.heap[w.heap.size]? = some (.cells #[.int .u64 x, .int .u64 y] 26) ∧ W1.heap[w.heap.size + 1]? = some (.cells (pt 0 0 0 0) 54) ∧ W1.heap[w4.heap.size]? = some (.cells (cw 6 t) 52) ∧ W1.heap[w8.heap.size]? = some (.cells (cw 6 P) 52) ∧ W1.cell? ⟨w.heap.size, 0, none⟩ = some (.int .u64 x) ∧ W1.cell? ⟨w.heap.size, 1, none⟩ = some (.int .u64 y))) := zK (fun W W1 h b => ⟨zX h.1 b, zA b _ _ _ h.2.1, zA b _ _ _ h.2.2.1, zA b _ _ _ h.2.2.2.1, zA b _ _ _ h.2.2.2.2.1, zJ (zA b _ _ _ h.2.1) 0 _ rfl, zJ (zA b _ _ _ h.2.1) 1 _ rfl⟩)
  have HH := zK (And.intro S2.out (And.intro Aa.out (And.intro Ab.out (And.intro S5.out (And.intro Ac.out (And.intro Ad.out (And.intro Ae.out (And.intro S9.out (And.intro Af.out (And.intro Ag.out (And.intro Ah.out Ai.out)))))))))))
  have sT1 : zR (∀ (W : World) (xA : Array Value), (Below w.heap.size w W ∧ W.heap[w.heap.size]? = some (.cells #[.int .u64 x, .int .u64 y] 26) ∧ W.heap[w.heap.size + 1]? = some (.cells (pt 0 0 0 0) 54) ∧ W.heap[w4.heap.size]? = some (.cells (cw 6 t) 52) ∧ W.heap[w8.heap.size]? = some (.cells (cw 6 P) 52) ∧ W.cell? ⟨w.heap.size, 0, none⟩ = some (.int .u64 x) ∧ W.cell? ⟨w.heap.size, 1, none⟩ = some (.int .u64 y)) → (Below w.heap.size w (W.setRow (w1.heap.size) xA) ∧ (W.setRow (w1.heap.size) xA).heap[w.heap.size]? = some (.cells #[.int .u64 x, .int .u64 y] 26) ∧ (W.setRow (w1.heap.size) xA).heap[w.heap.size + 1]? = some (.cells (pt 0 0 0 0) 54) ∧ (W.setRow (w1.heap.size) xA).heap[w4.heap.size]? = some (.cells (cw 6 t) 52) ∧ (W.setRow (w1.heap.size) xA).heap[w8.heap.size]? = some (.cells (cw 6 P) 52) ∧ (W.setRow (w1.heap.size) xA).cell? ⟨w.heap.size, 0, none⟩ = some (.int .u64 x) ∧ (W.setRow (w1.heap.size) xA).cell? ⟨w.heap.size, 1, none⟩ = some (.int .u64 y))) := zK (fun W xA h => ⟨z9 h.1 (show w.heap.size ≤ w1.heap.size by first | exact Nat.le_refl _ | omega | (have := HH.out; omega)), (zI (by first | omega | (have := HH.out; omega))).trans h.2.1, (zI (by first | omega | (have := HH.out; omega))).trans h.2.2.1, (zI (by first | omega | (have := HH.out; omega))).trans h.2.2.2.1, (zI (by first | omega | (have := HH.out; omega))).trans h.2.2.2.2.1, zJ ((zI (by first | omega | (have := HH.out; omega))).trans h.2.1) 0 _ rfl, zJ ((zI (by first | omega | (have := HH.out; omega))).trans h.2.1) 1 _ rfl⟩)
  have HH := zK (And.intro S2.out (And.intro Aa.out (And.intro Ab.out (And.intro S5.out (And.intro Ac.out (And.intro Ad.out (And.intro Ae.out (And.intro S9.out (And.intro Af.out (And.intro Ag.out (And.intro Ah.out Ai.out)))))))))))
  have sT2 : zR (∀ (W : World) (xB : Value), (Below w.heap.size w W ∧ W.heap[w.heap.size]? = some (.cells #[.int .u64 x, .int .u64 y] 26) ∧ W.heap[w.heap.size + 1]? = some (.cells (pt 0 0 0 0) 54) ∧ W.heap[w4.heap.size]? = some (.cells (cw 6 t) 52) ∧ W.heap[w8.heap.size]? = some (.cells (cw 6 P) 52) ∧ W.cell? ⟨w.heap.size, 0, none⟩ = some (.int .u64 x) ∧ W.cell? ⟨w.heap.size, 1, none⟩ = some (.int .u64 y)) → (Below w.heap.size w (W.setCell ⟨w1.heap.size, 7, none⟩ xB) ∧ (W.setCell ⟨w1.heap.size, 7, none⟩ xB).heap[w.heap.size]? = some (.cells #[.int .u64 x, .int .u64 y] 26) ∧ (W.setCell ⟨w1.heap.size, 7, none⟩ xB).heap[w.heap.size + 1]? = some (.cells (pt 0 0 0 0) 54) ∧ (W.setCell ⟨w1.heap.size, 7, none⟩ xB).heap[w4.heap.size]? = some (.cells (cw 6 t) 52) ∧ (W.setCell ⟨w1.heap.size, 7, none⟩ xB).heap[w8.heap.size]? = some (.cells (cw 6 P) 52) ∧ (W.setCell ⟨w1.heap.size, 7, none⟩ xB).cell? ⟨w.heap.size, 0, none⟩ = some (.int .u64 x) ∧ (W.setCell ⟨w1.heap.size, 7, none⟩ xB).cell? ⟨w.heap.size, 1, none⟩ = some (.int .u64 y))) := zK (fun W xB h => ⟨h.1.setCell (show w.heap.size ≤ w1.heap.size by first | exact Nat.le_refl _ | omega | (have := HH.out; omega)) _, (zH (by first | omega | (have := HH.out; omega))).trans h.2.1, (zH (by first | omega | (have := HH.out; omega))).trans h.2.2.1, (zH (by first | omega | (have := HH.out; omega))).trans h.2.2.2.1, (zH (by first | omega | (have := HH.out; omega))).trans h.2.2.2.2.1, zJ ((zH (by first | omega | (have := HH.out; omega))).trans h.2.1) 0 _ rfl, zJ ((zH (by first | omega | (have := HH.out; omega))).trans h.2.1) 1 _ rfl⟩)
  have s0 : Below w.heap.size w (w11).drew ∧ (w11).drew.heap[w.heap.size]? = some (.cells #[.int .u64 x, .int .u64 y] 26) ∧ (w11).drew.heap[w.heap.size + 1]? = some (.cells (pt 0 0 0 0) 54) ∧ (w11).drew.heap[w4.heap.size]? = some (.cells (cw 6 t) 52) ∧ (w11).drew.heap[w8.heap.size]? = some (.cells (cw 6 P) 52) ∧ (w11).drew.cell? ⟨w.heap.size, 0, none⟩ = some (.int .u64 x) ∧ (w11).drew.cell? ⟨w.heap.size, 1, none⟩ = some (.int .u64 y) := ⟨B11.drew, Aj, Au, Av, Aw, zJ (Aj) 0 _ rfl, zJ (Aj) 1 _ rfl⟩
  have rp : (w11).drew.heap[w1.heap.size]? = some (.cells (pt c S 0 0) 54) := At
  go_wp2_with fail
  go_region_held3 (fun W => Below w.heap.size w W ∧ W.heap[w.heap.size]? = some (.cells #[.int .u64 x, .int .u64 y] 26) ∧ W.heap[w.heap.size + 1]? = some (.cells (pt 0 0 0 0) 54) ∧ W.heap[w4.heap.size]? = some (.cells (cw 6 t) 52) ∧ W.heap[w8.heap.size]? = some (.cells (cw 6 P) 52) ∧ W.cell? ⟨w.heap.size, 0, none⟩ = some (.int .u64 x) ∧ W.cell? ⟨w.heap.size, 1, none⟩ = some (.int .u64 y)) (first | exact s1 | exact s0 | exact sT1.out _ _ s1 | exact sT2.out _ _ (sT1.out _ _ s1) | exact sT2.out _ _ s1)
   (((first | (go_at_call 125; (first | refine (KL.out _ (z8 TT.out (And.left s1))).mono ?_ | refine (KL.out _ (z8 TT.out (And.left s0))).mono ?_)) | (go_at_call 128; (first | refine (KE.out _ (z8 TT.out (And.left s1))).mono ?_ | refine (KE.out _ (z8 TT.out (And.left s0))).mono ?_)) | fail); rintro r wq ⟨rfl, bq⟩; have s1 := (by first | exact sS.out _ _ s1 bq | exact sS.out _ _ s0 bq); have rp := zA bq _ _ _ rp; have q7 := fz (k := 7) rp; have d7 := zJ rp 7 _ rfl; clear bq))
  have s2 : Below w.heap.size w (wq.setCell ⟨w1.heap.size, 7, none⟩ (.int .i64 X)) ∧ (wq.setCell ⟨w1.heap.size, 7, none⟩ (.int .i64 X)).heap[w.heap.size]? = some (.cells #[.int .u64 x, .int .u64 y] 26) ∧ (wq.setCell ⟨w1.heap.size, 7, none⟩ (.int .i64 X)).heap[w.heap.size + 1]? = some (.cells (pt 0 0 0 0) 54) ∧ (wq.setCell ⟨w1.heap.size, 7, none⟩ (.int .i64 X)).heap[w4.heap.size]? = some (.cells (cw 6 t) 52) ∧ (wq.setCell ⟨w1.heap.size, 7, none⟩ (.int .i64 X)).heap[w8.heap.size]? = some (.cells (cw 6 P) 52) ∧ (wq.setCell ⟨w1.heap.size, 7, none⟩ (.int .i64 X)).cell? ⟨w.heap.size, 0, none⟩ = some (.int .u64 x) ∧ (wq.setCell ⟨w1.heap.size, 7, none⟩ (.int .i64 X)).cell? ⟨w.heap.size, 1, none⟩ = some (.int .u64 y) := sT2.out _ _ s1
  have A3 : (wq.setCell ⟨w1.heap.size, 7, none⟩ (.int .i64 X)).heap[w1.heap.size]? = some (.cells (pt c S X 0) 54) := by rw [zY rp]; rfl
  have B12 := And.left s2
  have A4 := s2.2.1
  have Ax := s2.2.2.1
  have A5 := s2.2.2.2.1
  have A6 := s2.2.2.2.2.1
  obtain ⟨w12, AW⟩ : ∃ V, (wq.setCell ⟨w1.heap.size, 7, none⟩ (.int .i64 X)) = V := ⟨_, rfl⟩
  rw [AW] at B12 A4 Ax A3 A5 A6
  try rw [AW]
  clear s0 s1 s2 sS sT1 sT2 rp q7 d7 AW B11 Aj Fx Fy Au Fz FA FB FC FD FE FF FG FH FI FJ FK FL FM At FN FO FP FQ FR FS FT FU FV FW FX FY FZ F0 Av F1 Aw F2
  obtain ⟨GA, GB⟩ := zO A4
  obtain ⟨GC, GD, GE, GF, GG, GH, GI, GJ, GK, GL, GM, GN, GO, GP⟩ := zG Ax
  obtain ⟨GQ, GR, GS, GT, GU, GV, GW, GX, GY, GZ, G0, G1, G2, G3⟩ := zG A3
  have G4 := zF A5
  have G5 := zF A6
  have hstz := st_p w12 (w.heap.size + 1) c S X 0 0 0 0 0 Ax
  have RZ := zU (c' := pt c S X 0) Ax
  obtain ⟨dz0, dz1, dz2, dz3, dz4, dz5, dz6, dz7, dz8, dz9, dz10, dz11, dz12, dz13⟩ := zG RZ
  have bz := z9 (c := pt c S X 0) B12 (show w.heap.size ≤ w.heap.size + 1 by first | exact Nat.le_refl _ | omega | (have := S2.out; have := Aa.out; have := Ab.out; have := S5.out; have := Ac.out; have := Ad.out; have := Ae.out; have := S9.out; have := Af.out; have := Ag.out; have := Ah.out; have := Ai.out; omega))
  go_wp2
  exact bodyPost_ret (v := .agg (pt c S X 0)) (by simp [results, Tryz.results69, go_sem, dz0, dz1, dz2, dz3, dz4, dz5, dz6, dz7, dz8, dz9, dz10, dz11, dz12, dz13, ptf] <;> rfl) rfl ⟨rfl, bz⟩
end Go.Proofs.YtapikkbifdldfaaGreatDoor
