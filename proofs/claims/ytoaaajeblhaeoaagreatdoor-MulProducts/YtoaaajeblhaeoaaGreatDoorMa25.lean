/-
  What the functions that the statement reaches return: part 25 (M1).
-/
import Derived.Test.YtoaaajeblhaeoaaGreatDoorMa24
namespace Go.Proofs.YtoaaajeblhaeoaaGreatDoor
set_option maxRecDepth 100000
set_option maxHeartbeats 40000000
set_option maxRecDepth 100000
open Go.RowKit WMath
set_option linter.unusedSimpArgs false
set_option linter.unusedVariables false

theorem mu_etn (c d : Nat) (o1 o2 o : Bool) (KE : Box (∀ w, Calls Tryz.prog 158 #[.int .u8 c] w fun r w' => r = .returned (.bool o1) ∧ Below w.heap.size w w')) (KN : Box (∀ w, Calls Tryz.prog 260 #[.int .u8 d] w fun r w' => r = .returned (.bool o2) ∧ Below w.heap.size w w')) (ho : (o1 && o2) = o) (w : World) : Calls Tryz.prog 171 #[.int .u8 c, .int .u8 d] w fun r w' => r = .returned (.bool o) ∧ Below w.heap.size w w' := by
  cases o1
  · rw [Bool.false_and] at ho
    subst ho
    have B0 : Below w.heap.size w w := (Below.refl _ _)
    go_enter Tryz.func171, Tryz.ntmps171
    go_wp2_with fail
    refine (KE.out _).mono ?_
    rintro r w1 ⟨rfl, b1⟩
    have B1 : Below w.heap.size w w1 := btr B0 b1
    clear b1 B0 
    go_wp2
    go_ret
    exact ⟨rfl, B1⟩
  · rw [Bool.true_and] at ho
    subst ho
    have B0 : Below w.heap.size w w := (Below.refl _ _)
    go_enter Tryz.func171, Tryz.ntmps171
    go_wp2_with fail
    refine (KE.out _).mono ?_
    rintro r w1 ⟨rfl, b1⟩
    have B1 : Below w.heap.size w w1 := btr B0 b1
    clear b1 B0 
    go_wp2_with fail
    refine (KN.out _).mono ?_
    rintro r w2 ⟨rfl, b2⟩
    have B2 : Below w.heap.size w w2 := btr B1 b2
    clear b2 B1 
    go_wp2
    go_ret
    exact ⟨rfl, B2⟩
theorem mu_exactly (neg : Bool) (c1 m1 : Nat) (X1 : Int) (r1 c2 m2 : Nat) (X2 : Int) (r2 S : Nat) (E : Int) (ov : Bool) (w : World)
    (KM : Box (∀ w, Calls Tryz.prog 261 #[.agg (cw 6 m1), .agg (cw 6 m2)] w fun r w' => r = .returned (.tuple #[.agg (cw 6 S), .bool ov]) ∧ Below w.heap.size w w')) (hE : IntKind.i64.wrap (X1 + X2) = E) :
    Calls Tryz.prog 173 #[.bool neg, .agg (pt c1 m1 X1 r1), .agg (pt c2 m2 X2 r2)] w fun r w' => r = .returned (.agg (rg neg S E false)) ∧ Below w.heap.size w w' := by
  have hat := cw_at 6
  have hz := cw6z
  have hff := cw6f
  have hs0 := st0
  have hcs : ∀ x, ((cw 6 x).size = 6) = True := fun x => eq_true (cw_size 6 x)
  have hp1 := rgf
  have hp3 := rgz
  have hp4 := st_r0
  have hzi := cw_zip
  have hls := rg_sets
  have hp5 : ∀ (c : Bool) (s : Nat) (x : Int) (r : Bool), ((rg c s x r).size = 9) = True := fun _ _ _ _ => eq_true rfl
  have Bz := ptf
  have BA : ∀ (c s : Nat) (x : Int) (r : Nat), ((pt c s x r).size = 14) = True := fun _ _ _ _ => eq_true rfl
  obtain ⟨Ad, Ae, Af, B0⟩ := opn3 w (Obj.cells (pt c1 m1 X1 r1) 73) (Obj.cells (pt c2 m2 X2 r2) 73) (Obj.cells (rg false 0 0 false) 114)
  go_enter Tryz.func173, Tryz.ntmps173
  obtain ⟨Ah, Ai, Aj, Ak, Al, Am, An, Ao, Ap, Aq, Ar, As, At, Au⟩ := pt_cells Ad
  obtain ⟨Av, Aw, Ax, Ay, Az, AA, AB, AC, AD, AE, AF, AG, AH, AI⟩ := pt_cells Ae
  obtain ⟨AJ, AK, AL, AM, AN, AO, AP, AQ, AR⟩ := rg_cells Af
  go_wp2_with fail
  refine (KM.out _).mono ?_
  rintro r w1 ⟨rfl, b1⟩
  have B1 : Below w.heap.size w w1 := btr B0 b1
  have Aa := heap_of b1 _ _ _ Ad
  have Ab := heap_of b1 _ _ _ Ae
  have Ac := heap_of b1 _ _ _ Af
  clear b1 B0 Ad Ah Ai Aj Ak Al Am An Ao Ap Aq Ar As At Au Ae Av Aw Ax Ay Az AA AB AC AD AE AF AG AH AI Af AJ AK AL AM AN AO AP AQ AR
  obtain ⟨AS, AT, AU, AV, AW, AX, AY, AZ, A0, A1, A2, A3, A4, A5⟩ := pt_cells Aa
  obtain ⟨A6, A7, A8, A9, Ba, Bb, Bc, Bd, Be, Bf, Bg, Bh, Bi, Bj⟩ := pt_cells Ab
  obtain ⟨Bk, Bl, Bm, Bn, Bo, Bp, Bq, Br, Bs⟩ := rg_cells Ac
  have S2 := box B1.size
  have Bt := ltR Aa
  have Bu := ltR Ab
  have Bv := ltR Ac
  have Bw := heap_alloc_last w1 (Obj.cells (cw 6 S) 71)
  have B2 := btr B1 (bal w1 (Obj.cells (cw 6 S) 71))
  have Bx := heap_of (bal w1 (Obj.cells (cw 6 S) 71)) _ _ _ Aa
  have By := heap_of (bal w1 (Obj.cells (cw 6 S) 71)) _ _ _ Ab
  have Ag := heap_of (bal w1 (Obj.cells (cw 6 S) 71)) _ _ _ Ac
  clear B1 Aa AS AT AU AV AW AX AY AZ A0 A1 A2 A3 A4 A5 Ab A6 A7 A8 A9 Ba Bb Bc Bd Be Bf Bg Bh Bi Bj Ac Bk Bl Bm Bn Bo Bp Bq Br Bs
  obtain ⟨BB, BC, BD, BE, BF, BG, BH, BI, BJ, BK, BL, BM, BN, BO⟩ := pt_cells Bx
  obtain ⟨BP, BQ, BR, BS, BT, BU, BV, BW, BX, BY, BZ, B3, B4, B5⟩ := pt_cells By
  obtain ⟨B6, B7, B8, B9, Ca, Cb, Cc, Cd, Ce⟩ := rg_cells Ag
  have Cf := row_cell Bw
  have hstz := st_r (w1.alloc (Obj.cells (cw 6 S) 71)) (w.heap.size + 1 + 1) neg S E false false 0 0 false Ag
  have RZ := setRow_row (c' := rg neg S E false) Ag
  obtain ⟨dz0, dz1, dz2, dz3, dz4, dz5, dz6, dz7, dz8⟩ := rg_cells RZ
  have bz := bel_set (c := rg neg S E false) B2 (show w.heap.size ≤ w.heap.size + 1 + 1 by first | exact Nat.le_refl _ | omega | (have := S2.out; have := Bt.out; have := Bu.out; have := Bv.out; omega))
  go_wp2
  exact bodyPost_ret (v := .agg (rg neg S E false)) (by simp [results, Tryz.results173, go_sem, dz0, dz1, dz2, dz3, dz4, dz5, dz6, dz7, dz8, rgf] <;> rfl) rfl ⟨rfl, bz⟩
theorem mu_sx (f m : Int) (x1 y1 x2 y2 u v : Nat) (c1 m1 : Nat) (X1 : Int) (r1 c2 m2 : Nat) (X2 : Int) (r2 : Nat) (s1 s2 neg : Bool) (w : World) (hng : (!(s1 == s2)) = neg) (h18 : ((c1 : Int) == 8) = true)
    (KU1 : Box (∀ w, FAt w → Calls Tryz.prog 45 #[.int .u8 f, .agg #[.int .u64 x1, .int .u64 y1]] w fun r w' => r = .returned (.tuple #[.agg (pt c1 m1 X1 r1), .int .i64 0]) ∧ Below w.heap.size w w'))
    (KU2 : Box (∀ w, FAt w → Calls Tryz.prog 45 #[.int .u8 f, .agg #[.int .u64 x2, .int .u64 y2]] w fun r w' => r = .returned (.tuple #[.agg (pt c2 m2 X2 r2), .int .i64 0]) ∧ Below w.heap.size w w'))
    (KS1 : Box (∀ w, FAt w → Calls Tryz.prog 25 #[.int .u8 f, .agg #[.int .u64 x1, .int .u64 y1]] w fun r w' => r = .returned (.bool s1) ∧ Below w.heap.size w w'))
    (KS2 : Box (∀ w, FAt w → Calls Tryz.prog 25 #[.int .u8 f, .agg #[.int .u64 x2, .int .u64 y2]] w fun r w' => r = .returned (.bool s2) ∧ Below w.heap.size w w'))
    (KN : Box (∀ w, FAt w → Calls Tryz.prog 157 #[.int .u8 f] w fun r w' => r = .returned (.agg #[.int .u64 u, .int .u64 v]) ∧ Below w.heap.size w w'))
    (hT : FAt w) : Calls Tryz.prog 89 #[.int .u8 f, .int .u8 m, .agg #[.int .u64 x1, .int .u64 y1], .agg #[.int .u64 x2, .int .u64 y2]] w fun r w' => r = .returned (.tuple #[.agg #[.int .u64 u, .int .u64 v], .int .u8 16, .int .i64 0]) ∧ Below w.heap.size w w' := by
  have FF := box hT
  clear hT
  have hat := cw_at 6
  have hz := cw6z
  have hff := cw6f
  have hs0 := st0
  have hcs : ∀ x, ((cw 6 x).size = 6) = True := fun x => eq_true (cw_size 6 x)
  have hp1 := rgf
  have hp5 : ∀ (c : Bool) (s : Nat) (x : Int) (r : Bool), ((rg c s x r).size = 9) = True := fun _ _ _ _ => eq_true rfl
  have Be := ptf
  have Bf := ptz
  have Bg := st_p0
  have Bh : ∀ (c s : Nat) (x : Int) (r : Nat), ((pt c s x r).size = 14) = True := fun _ _ _ _ => eq_true rfl
  obtain ⟨Ai, Aj, Av, B0⟩ := opn3 w (Obj.cells #[.int .u64 x1, .int .u64 y1] 25) (Obj.cells #[.int .u64 x2, .int .u64 y2] 25) (Obj.cells #[.int .u64 0, .int .u64 0] 25)
  go_enter Tryz.func89, Tryz.ntmps89
  obtain ⟨Az, AA⟩ := cells2s Ai
  obtain ⟨AB, AC⟩ := cells2s Aj
  go_wp2_with fail
  refine (KU1.out _ (fatB FF.out B0)).mono ?_
  rintro r w1 ⟨rfl, b1⟩
  have B1 : Below w.heap.size w w1 := btr B0 b1
  have Ac := heap_of b1 _ _ _ Ai
  have Ad := heap_of b1 _ _ _ Aj
  have Ak := heap_of b1 _ _ _ Av
  clear b1 B0 Ai Az AA Aj AB AC Av
  obtain ⟨AD, AE⟩ := cells2s Ac
  obtain ⟨AF, AG⟩ := cells2s Ad
  have S2 := box B1.size
  have AH := ltR Ac
  have AI := ltR Ad
  have AJ := ltR Ak
  have Al := heap_alloc_last w1 (Obj.cells (pt c1 m1 X1 r1) 73)
  have B2 := btr B1 (bal w1 (Obj.cells (pt c1 m1 X1 r1) 73))
  have Am := heap_of (bal w1 (Obj.cells (pt c1 m1 X1 r1) 73)) _ _ _ Ac
  have An := heap_of (bal w1 (Obj.cells (pt c1 m1 X1 r1) 73)) _ _ _ Ad
  have Aw := heap_of (bal w1 (Obj.cells (pt c1 m1 X1 r1) 73)) _ _ _ Ak
  clear B1 Ac AD AE Ad AF AG Ak
  obtain ⟨AK, AL⟩ := cells2s Am
  obtain ⟨AM, AN⟩ := cells2s An
  have AO := (pt_cells Al).1
  go_wp2_with fail
  refine (KU2.out _ (fatB FF.out B2)).mono ?_
  rintro r w3 ⟨rfl, b3⟩
  have B3 : Below w.heap.size w w3 := btr B2 b3
  have Ae := heap_of b3 _ _ _ Am
  have Af := heap_of b3 _ _ _ An
  have Ao := heap_of b3 _ _ _ Aw
  have Ag := heap_of b3 _ _ _ Al
  clear b3 B2 Am AK AL An AM AN Aw Al AO
  obtain ⟨AP, AQ⟩ := cells2s Ae
  obtain ⟨AR, AS⟩ := cells2s Af
  have AT := (pt_cells Ag).1
  have S4 := box B3.size
  have AU := ltR Ae
  have AV := ltR Af
  have AW := ltR Ao
  have AX := ltR Ag
  have Ap := heap_alloc_last w3 (Obj.cells (pt c2 m2 X2 r2) 73)
  have B4 := btr B3 (bal w3 (Obj.cells (pt c2 m2 X2 r2) 73))
  have Aa := heap_of (bal w3 (Obj.cells (pt c2 m2 X2 r2) 73)) _ _ _ Ae
  have Ab := heap_of (bal w3 (Obj.cells (pt c2 m2 X2 r2) 73)) _ _ _ Af
  have Ax := heap_of (bal w3 (Obj.cells (pt c2 m2 X2 r2) 73)) _ _ _ Ao
  have Aq := heap_of (bal w3 (Obj.cells (pt c2 m2 X2 r2) 73)) _ _ _ Ag
  clear B3 Ae AP AQ Af AR AS Ao Ag AT
  obtain ⟨AY, AZ⟩ := cells2s Aa
  obtain ⟨A0, A1⟩ := cells2s Ab
  have A2 := (pt_cells Aq).1
  have A3 := (pt_cells Ap).1
  have sS : Box (∀ W W1 : World, (Below w.heap.size w W ∧ W.heap[w.heap.size]? = some (.cells #[.int .u64 x1, .int .u64 y1] 25) ∧ W.heap[w.heap.size + 1]? = some (.cells #[.int .u64 x2, .int .u64 y2] 25) ∧ W.heap[w.heap.size + 1 + 1]? = some (.cells #[.int .u64 0, .int .u64 0] 25) ∧ W.heap[w1.heap.size]? = some (.cells (pt c1 m1 X1 r1) 73) ∧ W.heap[w3.heap.size]? = some (.cells (pt c2 m2 X2 r2) 73) ∧ W.cell? ⟨w.heap.size, 0, none⟩ = some (.int .u64 x1) ∧ W.cell? ⟨w.heap.size, 1, none⟩ = some (.int .u64 y1) ∧ W.cell? ⟨w.heap.size + 1, 0, none⟩ = some (.int .u64 x2) ∧ W.cell? ⟨w.heap.size + 1, 1, none⟩ = some (.int .u64 y2)) → Below W.heap.size W W1 → (Below w.heap.size w W1 ∧ W1.heap[w.heap.size]? = some (.cells #[.int .u64 x1, .int .u64 y1] 25) ∧ W1.heap[w.heap.size + 1]? = some (.cells #[.int .u64 x2, .int .u64 y2] 25) ∧ W1.heap[w.heap.size + 1 + 1]? = some (.cells #[.int .u64 0, .int .u64 0] 25) ∧ W1.heap[w1.heap.size]? = some (.cells (pt c1 m1 X1 r1) 73) ∧ W1.heap[w3.heap.size]? = some (.cells (pt c2 m2 X2 r2) 73) ∧ W1.cell? ⟨w.heap.size, 0, none⟩ = some (.int .u64 x1) ∧ W1.cell? ⟨w.heap.size, 1, none⟩ = some (.int .u64 y1) ∧ W1.cell? ⟨w.heap.size + 1, 0, none⟩ = some (.int .u64 x2) ∧ W1.cell? ⟨w.heap.size + 1, 1, none⟩ = some (.int .u64 y2))) := box (fun W W1 h b => ⟨btr h.1 b, heap_of b _ _ _ h.2.1, heap_of b _ _ _ h.2.2.1, heap_of b _ _ _ h.2.2.2.1, heap_of b _ _ _ h.2.2.2.2.1, heap_of b _ _ _ h.2.2.2.2.2.1, cell7 (heap_of b _ _ _ h.2.1) 0 _ rfl, cell7 (heap_of b _ _ _ h.2.1) 1 _ rfl, cell7 (heap_of b _ _ _ h.2.2.1) 0 _ rfl, cell7 (heap_of b _ _ _ h.2.2.1) 1 _ rfl⟩)
  have s0 : Below w.heap.size w ((w3.alloc (Obj.cells (pt c2 m2 X2 r2) 73))).drew ∧ ((w3.alloc (Obj.cells (pt c2 m2 X2 r2) 73))).drew.heap[w.heap.size]? = some (.cells #[.int .u64 x1, .int .u64 y1] 25) ∧ ((w3.alloc (Obj.cells (pt c2 m2 X2 r2) 73))).drew.heap[w.heap.size + 1]? = some (.cells #[.int .u64 x2, .int .u64 y2] 25) ∧ ((w3.alloc (Obj.cells (pt c2 m2 X2 r2) 73))).drew.heap[w.heap.size + 1 + 1]? = some (.cells #[.int .u64 0, .int .u64 0] 25) ∧ ((w3.alloc (Obj.cells (pt c2 m2 X2 r2) 73))).drew.heap[w1.heap.size]? = some (.cells (pt c1 m1 X1 r1) 73) ∧ ((w3.alloc (Obj.cells (pt c2 m2 X2 r2) 73))).drew.heap[w3.heap.size]? = some (.cells (pt c2 m2 X2 r2) 73) ∧ ((w3.alloc (Obj.cells (pt c2 m2 X2 r2) 73))).drew.cell? ⟨w.heap.size, 0, none⟩ = some (.int .u64 x1) ∧ ((w3.alloc (Obj.cells (pt c2 m2 X2 r2) 73))).drew.cell? ⟨w.heap.size, 1, none⟩ = some (.int .u64 y1) ∧ ((w3.alloc (Obj.cells (pt c2 m2 X2 r2) 73))).drew.cell? ⟨w.heap.size + 1, 0, none⟩ = some (.int .u64 x2) ∧ ((w3.alloc (Obj.cells (pt c2 m2 X2 r2) 73))).drew.cell? ⟨w.heap.size + 1, 1, none⟩ = some (.int .u64 y2) := ⟨B4.drew, Aa, Ab, Ax, Aq, Ap, cell7 (Aa) 0 _ rfl, cell7 (Aa) 1 _ rfl, cell7 (Ab) 0 _ rfl, cell7 (Ab) 1 _ rfl⟩
  go_wp2_with fail
  go_region_held3 (fun W => Below w.heap.size w W ∧ W.heap[w.heap.size]? = some (.cells #[.int .u64 x1, .int .u64 y1] 25) ∧ W.heap[w.heap.size + 1]? = some (.cells #[.int .u64 x2, .int .u64 y2] 25) ∧ W.heap[w.heap.size + 1 + 1]? = some (.cells #[.int .u64 0, .int .u64 0] 25) ∧ W.heap[w1.heap.size]? = some (.cells (pt c1 m1 X1 r1) 73) ∧ W.heap[w3.heap.size]? = some (.cells (pt c2 m2 X2 r2) 73) ∧ W.cell? ⟨w.heap.size, 0, none⟩ = some (.int .u64 x1) ∧ W.cell? ⟨w.heap.size, 1, none⟩ = some (.int .u64 y1) ∧ W.cell? ⟨w.heap.size + 1, 0, none⟩ = some (.int .u64 x2) ∧ W.cell? ⟨w.heap.size + 1, 1, none⟩ = some (.int .u64 y2)) (first | exact s1 | exact s0)
    (first | (go_at_call_of 25 (Value.agg #[.int .u64 x1, .int .u64 y1]); (first | refine (KS1.out _ (fatB FF.out (And.left s1))).mono ?_ | refine (KS1.out _ (fatB FF.out (And.left s0))).mono ?_); rintro r wq ⟨rfl, bq⟩; (first | have s1 := sS.out _ _ s1 bq | have s1 := sS.out _ _ s0 bq); clear bq) | (go_at_call_of 25 (Value.agg #[.int .u64 x2, .int .u64 y2]); (first | refine (KS2.out _ (fatB FF.out (And.left s1))).mono ?_ | refine (KS2.out _ (fatB FF.out (And.left s0))).mono ?_); rintro r wq ⟨rfl, bq⟩; (first | have s1 := sS.out _ _ s1 bq | have s1 := sS.out _ _ s0 bq); clear bq) | fail)
  have B5 := (And.left s1)
  have Ar := s1.2.1
  have As := s1.2.2.1
  have Ay := s1.2.2.2.1
  have At := s1.2.2.2.2.1
  have Au := s1.2.2.2.2.2.1
  clear s0 s1 sS B4 Aa AY AZ Ab A0 A1 Ax Aq A2 Ap A3
  obtain ⟨A4, A5⟩ := cells2s Ar
  obtain ⟨A6, A7⟩ := cells2s As
  have A8 := (pt_cells At).1
  have A9 := (pt_cells Au).1
  go_wp2_with fail
  refine (KN.out _ (fatB FF.out B5)).mono ?_
  rintro r w6 ⟨rfl, b6⟩
  have B6 : Below w.heap.size w w6 := btr B5 b6
  have Ba := heap_of b6 _ _ _ Ar
  have Bb := heap_of b6 _ _ _ As
  have Ah := heap_of b6 _ _ _ Ay
  have Bc := heap_of b6 _ _ _ At
  have Bd := heap_of b6 _ _ _ Au
  clear b6 B5 Ar A4 A5 As A6 A7 Ay At A8 Au A9
  obtain ⟨Bi, Bj⟩ := cells2s Ba
  obtain ⟨Bk, Bl⟩ := cells2s Bb
  have Bm := (pt_cells Bc).1
  have Bn := (pt_cells Bd).1
  obtain ⟨Bo, Bp⟩ := cells2s Ah
  have q0 := fz (k := 0) Ah
  have q1 := fz (k := 1) Ah
  obtain ⟨E0, E1⟩ := set2_cells Ah (.int .u64 u) (.int .u64 v)
  go_wp2
  exact bodyPost_ret (v := .tuple #[.agg #[.int .u64 u, .int .u64 v], .int .u8 16, .int .i64 0]) (by simp [results, Tryz.results89, go_sem, E0, E1]) rfl ⟨rfl, set2_below B6 (by first | exact Nat.le_refl _ | omega | (have := S2.out; have := AH.out; have := AI.out; have := AJ.out; have := S4.out; have := AU.out; have := AV.out; have := AW.out; have := AX.out; omega)) _ _⟩
theorem mu_sy (f m : Int) (x1 y1 x2 y2 u v : Nat) (c1 m1 : Nat) (X1 : Int) (r1 c2 m2 : Nat) (X2 : Int) (r2 : Nat) (s1 s2 neg : Bool) (w : World) (hng : (!(s1 == s2)) = neg) (h18 : ((c1 : Int) == 8) = false) (h28 : ((c2 : Int) == 8) = true)
    (KU1 : Box (∀ w, FAt w → Calls Tryz.prog 45 #[.int .u8 f, .agg #[.int .u64 x1, .int .u64 y1]] w fun r w' => r = .returned (.tuple #[.agg (pt c1 m1 X1 r1), .int .i64 0]) ∧ Below w.heap.size w w'))
    (KU2 : Box (∀ w, FAt w → Calls Tryz.prog 45 #[.int .u8 f, .agg #[.int .u64 x2, .int .u64 y2]] w fun r w' => r = .returned (.tuple #[.agg (pt c2 m2 X2 r2), .int .i64 0]) ∧ Below w.heap.size w w'))
    (KS1 : Box (∀ w, FAt w → Calls Tryz.prog 25 #[.int .u8 f, .agg #[.int .u64 x1, .int .u64 y1]] w fun r w' => r = .returned (.bool s1) ∧ Below w.heap.size w w'))
    (KS2 : Box (∀ w, FAt w → Calls Tryz.prog 25 #[.int .u8 f, .agg #[.int .u64 x2, .int .u64 y2]] w fun r w' => r = .returned (.bool s2) ∧ Below w.heap.size w w'))
    (KN : Box (∀ w, FAt w → Calls Tryz.prog 157 #[.int .u8 f] w fun r w' => r = .returned (.agg #[.int .u64 u, .int .u64 v]) ∧ Below w.heap.size w w'))
    (hT : FAt w) : Calls Tryz.prog 89 #[.int .u8 f, .int .u8 m, .agg #[.int .u64 x1, .int .u64 y1], .agg #[.int .u64 x2, .int .u64 y2]] w fun r w' => r = .returned (.tuple #[.agg #[.int .u64 u, .int .u64 v], .int .u8 16, .int .i64 0]) ∧ Below w.heap.size w w' := by
  have FF := box hT
  clear hT
  have hat := cw_at 6
  have hz := cw6z
  have hff := cw6f
  have hs0 := st0
  have hcs : ∀ x, ((cw 6 x).size = 6) = True := fun x => eq_true (cw_size 6 x)
  have hp1 := rgf
  have hp5 : ∀ (c : Bool) (s : Nat) (x : Int) (r : Bool), ((rg c s x r).size = 9) = True := fun _ _ _ _ => eq_true rfl
  have Be := ptf
  have Bf := ptz
  have Bg := st_p0
  have Bh : ∀ (c s : Nat) (x : Int) (r : Nat), ((pt c s x r).size = 14) = True := fun _ _ _ _ => eq_true rfl
  obtain ⟨Ai, Aj, Av, B0⟩ := opn3 w (Obj.cells #[.int .u64 x1, .int .u64 y1] 25) (Obj.cells #[.int .u64 x2, .int .u64 y2] 25) (Obj.cells #[.int .u64 0, .int .u64 0] 25)
  go_enter Tryz.func89, Tryz.ntmps89
  obtain ⟨Az, AA⟩ := cells2s Ai
  obtain ⟨AB, AC⟩ := cells2s Aj
  go_wp2_with fail
  refine (KU1.out _ (fatB FF.out B0)).mono ?_
  rintro r w1 ⟨rfl, b1⟩
  have B1 : Below w.heap.size w w1 := btr B0 b1
  have Ac := heap_of b1 _ _ _ Ai
  have Ad := heap_of b1 _ _ _ Aj
  have Ak := heap_of b1 _ _ _ Av
  clear b1 B0 Ai Az AA Aj AB AC Av
  obtain ⟨AD, AE⟩ := cells2s Ac
  obtain ⟨AF, AG⟩ := cells2s Ad
  have S2 := box B1.size
  have AH := ltR Ac
  have AI := ltR Ad
  have AJ := ltR Ak
  have Al := heap_alloc_last w1 (Obj.cells (pt c1 m1 X1 r1) 73)
  have B2 := btr B1 (bal w1 (Obj.cells (pt c1 m1 X1 r1) 73))
  have Am := heap_of (bal w1 (Obj.cells (pt c1 m1 X1 r1) 73)) _ _ _ Ac
  have An := heap_of (bal w1 (Obj.cells (pt c1 m1 X1 r1) 73)) _ _ _ Ad
  have Aw := heap_of (bal w1 (Obj.cells (pt c1 m1 X1 r1) 73)) _ _ _ Ak
  clear B1 Ac AD AE Ad AF AG Ak
  obtain ⟨AK, AL⟩ := cells2s Am
  obtain ⟨AM, AN⟩ := cells2s An
  have AO := (pt_cells Al).1
  go_wp2_with fail
  refine (KU2.out _ (fatB FF.out B2)).mono ?_
  rintro r w3 ⟨rfl, b3⟩
  have B3 : Below w.heap.size w w3 := btr B2 b3
  have Ae := heap_of b3 _ _ _ Am
  have Af := heap_of b3 _ _ _ An
  have Ao := heap_of b3 _ _ _ Aw
  have Ag := heap_of b3 _ _ _ Al
  clear b3 B2 Am AK AL An AM AN Aw Al AO
  obtain ⟨AP, AQ⟩ := cells2s Ae
  obtain ⟨AR, AS⟩ := cells2s Af
  have AT := (pt_cells Ag).1
  have S4 := box B3.size
  have AU := ltR Ae
  have AV := ltR Af
  have AW := ltR Ao
  have AX := ltR Ag
  have Ap := heap_alloc_last w3 (Obj.cells (pt c2 m2 X2 r2) 73)
  have B4 := btr B3 (bal w3 (Obj.cells (pt c2 m2 X2 r2) 73))
  have Aa := heap_of (bal w3 (Obj.cells (pt c2 m2 X2 r2) 73)) _ _ _ Ae
  have Ab := heap_of (bal w3 (Obj.cells (pt c2 m2 X2 r2) 73)) _ _ _ Af
  have Ax := heap_of (bal w3 (Obj.cells (pt c2 m2 X2 r2) 73)) _ _ _ Ao
  have Aq := heap_of (bal w3 (Obj.cells (pt c2 m2 X2 r2) 73)) _ _ _ Ag
  clear B3 Ae AP AQ Af AR AS Ao Ag AT
  obtain ⟨AY, AZ⟩ := cells2s Aa
  obtain ⟨A0, A1⟩ := cells2s Ab
  have A2 := (pt_cells Aq).1
  have A3 := (pt_cells Ap).1
  have sS : Box (∀ W W1 : World, (Below w.heap.size w W ∧ W.heap[w.heap.size]? = some (.cells #[.int .u64 x1, .int .u64 y1] 25) ∧ W.heap[w.heap.size + 1]? = some (.cells #[.int .u64 x2, .int .u64 y2] 25) ∧ W.heap[w.heap.size + 1 + 1]? = some (.cells #[.int .u64 0, .int .u64 0] 25) ∧ W.heap[w1.heap.size]? = some (.cells (pt c1 m1 X1 r1) 73) ∧ W.heap[w3.heap.size]? = some (.cells (pt c2 m2 X2 r2) 73) ∧ W.cell? ⟨w.heap.size, 0, none⟩ = some (.int .u64 x1) ∧ W.cell? ⟨w.heap.size, 1, none⟩ = some (.int .u64 y1) ∧ W.cell? ⟨w.heap.size + 1, 0, none⟩ = some (.int .u64 x2) ∧ W.cell? ⟨w.heap.size + 1, 1, none⟩ = some (.int .u64 y2)) → Below W.heap.size W W1 → (Below w.heap.size w W1 ∧ W1.heap[w.heap.size]? = some (.cells #[.int .u64 x1, .int .u64 y1] 25) ∧ W1.heap[w.heap.size + 1]? = some (.cells #[.int .u64 x2, .int .u64 y2] 25) ∧ W1.heap[w.heap.size + 1 + 1]? = some (.cells #[.int .u64 0, .int .u64 0] 25) ∧ W1.heap[w1.heap.size]? = some (.cells (pt c1 m1 X1 r1) 73) ∧ W1.heap[w3.heap.size]? = some (.cells (pt c2 m2 X2 r2) 73) ∧ W1.cell? ⟨w.heap.size, 0, none⟩ = some (.int .u64 x1) ∧ W1.cell? ⟨w.heap.size, 1, none⟩ = some (.int .u64 y1) ∧ W1.cell? ⟨w.heap.size + 1, 0, none⟩ = some (.int .u64 x2) ∧ W1.cell? ⟨w.heap.size + 1, 1, none⟩ = some (.int .u64 y2))) := box (fun W W1 h b => ⟨btr h.1 b, heap_of b _ _ _ h.2.1, heap_of b _ _ _ h.2.2.1, heap_of b _ _ _ h.2.2.2.1, heap_of b _ _ _ h.2.2.2.2.1, heap_of b _ _ _ h.2.2.2.2.2.1, cell7 (heap_of b _ _ _ h.2.1) 0 _ rfl, cell7 (heap_of b _ _ _ h.2.1) 1 _ rfl, cell7 (heap_of b _ _ _ h.2.2.1) 0 _ rfl, cell7 (heap_of b _ _ _ h.2.2.1) 1 _ rfl⟩)
  have s0 : Below w.heap.size w ((w3.alloc (Obj.cells (pt c2 m2 X2 r2) 73))).drew ∧ ((w3.alloc (Obj.cells (pt c2 m2 X2 r2) 73))).drew.heap[w.heap.size]? = some (.cells #[.int .u64 x1, .int .u64 y1] 25) ∧ ((w3.alloc (Obj.cells (pt c2 m2 X2 r2) 73))).drew.heap[w.heap.size + 1]? = some (.cells #[.int .u64 x2, .int .u64 y2] 25) ∧ ((w3.alloc (Obj.cells (pt c2 m2 X2 r2) 73))).drew.heap[w.heap.size + 1 + 1]? = some (.cells #[.int .u64 0, .int .u64 0] 25) ∧ ((w3.alloc (Obj.cells (pt c2 m2 X2 r2) 73))).drew.heap[w1.heap.size]? = some (.cells (pt c1 m1 X1 r1) 73) ∧ ((w3.alloc (Obj.cells (pt c2 m2 X2 r2) 73))).drew.heap[w3.heap.size]? = some (.cells (pt c2 m2 X2 r2) 73) ∧ ((w3.alloc (Obj.cells (pt c2 m2 X2 r2) 73))).drew.cell? ⟨w.heap.size, 0, none⟩ = some (.int .u64 x1) ∧ ((w3.alloc (Obj.cells (pt c2 m2 X2 r2) 73))).drew.cell? ⟨w.heap.size, 1, none⟩ = some (.int .u64 y1) ∧ ((w3.alloc (Obj.cells (pt c2 m2 X2 r2) 73))).drew.cell? ⟨w.heap.size + 1, 0, none⟩ = some (.int .u64 x2) ∧ ((w3.alloc (Obj.cells (pt c2 m2 X2 r2) 73))).drew.cell? ⟨w.heap.size + 1, 1, none⟩ = some (.int .u64 y2) := ⟨B4.drew, Aa, Ab, Ax, Aq, Ap, cell7 (Aa) 0 _ rfl, cell7 (Aa) 1 _ rfl, cell7 (Ab) 0 _ rfl, cell7 (Ab) 1 _ rfl⟩
  go_wp2_with fail
  go_region_held3 (fun W => Below w.heap.size w W ∧ W.heap[w.heap.size]? = some (.cells #[.int .u64 x1, .int .u64 y1] 25) ∧ W.heap[w.heap.size + 1]? = some (.cells #[.int .u64 x2, .int .u64 y2] 25) ∧ W.heap[w.heap.size + 1 + 1]? = some (.cells #[.int .u64 0, .int .u64 0] 25) ∧ W.heap[w1.heap.size]? = some (.cells (pt c1 m1 X1 r1) 73) ∧ W.heap[w3.heap.size]? = some (.cells (pt c2 m2 X2 r2) 73) ∧ W.cell? ⟨w.heap.size, 0, none⟩ = some (.int .u64 x1) ∧ W.cell? ⟨w.heap.size, 1, none⟩ = some (.int .u64 y1) ∧ W.cell? ⟨w.heap.size + 1, 0, none⟩ = some (.int .u64 x2) ∧ W.cell? ⟨w.heap.size + 1, 1, none⟩ = some (.int .u64 y2)) (first | exact s1 | exact s0)
    (first | (go_at_call_of 25 (Value.agg #[.int .u64 x1, .int .u64 y1]); (first | refine (KS1.out _ (fatB FF.out (And.left s1))).mono ?_ | refine (KS1.out _ (fatB FF.out (And.left s0))).mono ?_); rintro r wq ⟨rfl, bq⟩; (first | have s1 := sS.out _ _ s1 bq | have s1 := sS.out _ _ s0 bq); clear bq) | (go_at_call_of 25 (Value.agg #[.int .u64 x2, .int .u64 y2]); (first | refine (KS2.out _ (fatB FF.out (And.left s1))).mono ?_ | refine (KS2.out _ (fatB FF.out (And.left s0))).mono ?_); rintro r wq ⟨rfl, bq⟩; (first | have s1 := sS.out _ _ s1 bq | have s1 := sS.out _ _ s0 bq); clear bq) | fail)
  have B5 := (And.left s1)
  have Ar := s1.2.1
  have As := s1.2.2.1
  have Ay := s1.2.2.2.1
  have At := s1.2.2.2.2.1
  have Au := s1.2.2.2.2.2.1
  clear s0 s1 sS B4 Aa AY AZ Ab A0 A1 Ax Aq A2 Ap A3
  obtain ⟨A4, A5⟩ := cells2s Ar
  obtain ⟨A6, A7⟩ := cells2s As
  have A8 := (pt_cells At).1
  have A9 := (pt_cells Au).1
  go_wp2_with fail
  refine (KN.out _ (fatB FF.out B5)).mono ?_
  rintro r w6 ⟨rfl, b6⟩
  have B6 : Below w.heap.size w w6 := btr B5 b6
  have Ba := heap_of b6 _ _ _ Ar
  have Bb := heap_of b6 _ _ _ As
  have Ah := heap_of b6 _ _ _ Ay
  have Bc := heap_of b6 _ _ _ At
  have Bd := heap_of b6 _ _ _ Au
  clear b6 B5 Ar A4 A5 As A6 A7 Ay At A8 Au A9
  obtain ⟨Bi, Bj⟩ := cells2s Ba
  obtain ⟨Bk, Bl⟩ := cells2s Bb
  have Bm := (pt_cells Bc).1
  have Bn := (pt_cells Bd).1
  obtain ⟨Bo, Bp⟩ := cells2s Ah
  have q0 := fz (k := 0) Ah
  have q1 := fz (k := 1) Ah
  obtain ⟨E0, E1⟩ := set2_cells Ah (.int .u64 u) (.int .u64 v)
  go_wp2
  exact bodyPost_ret (v := .tuple #[.agg #[.int .u64 u, .int .u64 v], .int .u8 16, .int .i64 0]) (by simp [results, Tryz.results89, go_sem, E0, E1]) rfl ⟨rfl, set2_below B6 (by first | exact Nat.le_refl _ | omega | (have := S2.out; have := AH.out; have := AI.out; have := AJ.out; have := S4.out; have := AU.out; have := AV.out; have := AW.out; have := AX.out; omega)) _ _⟩
theorem mu_qx (f m : Int) (x1 y1 x2 y2 u v : Nat) (c1 m1 : Nat) (X1 : Int) (r1 c2 m2 : Nat) (X2 : Int) (r2 : Nat) (s1 s2 neg : Bool) (w : World) (hng : (!(s1 == s2)) = neg) (h18 : ((c1 : Int) == 8) = false) (h28 : ((c2 : Int) == 8) = false) (h19 : ((c1 : Int) == 9) = true)
    (KU1 : Box (∀ w, FAt w → Calls Tryz.prog 45 #[.int .u8 f, .agg #[.int .u64 x1, .int .u64 y1]] w fun r w' => r = .returned (.tuple #[.agg (pt c1 m1 X1 r1), .int .i64 0]) ∧ Below w.heap.size w w'))
    (KU2 : Box (∀ w, FAt w → Calls Tryz.prog 45 #[.int .u8 f, .agg #[.int .u64 x2, .int .u64 y2]] w fun r w' => r = .returned (.tuple #[.agg (pt c2 m2 X2 r2), .int .i64 0]) ∧ Below w.heap.size w w'))
    (KS1 : Box (∀ w, FAt w → Calls Tryz.prog 25 #[.int .u8 f, .agg #[.int .u64 x1, .int .u64 y1]] w fun r w' => r = .returned (.bool s1) ∧ Below w.heap.size w w'))
    (KS2 : Box (∀ w, FAt w → Calls Tryz.prog 25 #[.int .u8 f, .agg #[.int .u64 x2, .int .u64 y2]] w fun r w' => r = .returned (.bool s2) ∧ Below w.heap.size w w'))
    (KN : Box (∀ w, FAt w → Calls Tryz.prog 157 #[.int .u8 f] w fun r w' => r = .returned (.agg #[.int .u64 u, .int .u64 v]) ∧ Below w.heap.size w w'))
    (hT : FAt w) : Calls Tryz.prog 89 #[.int .u8 f, .int .u8 m, .agg #[.int .u64 x1, .int .u64 y1], .agg #[.int .u64 x2, .int .u64 y2]] w fun r w' => r = .returned (.tuple #[.agg #[.int .u64 u, .int .u64 v], .int .u8 0, .int .i64 0]) ∧ Below w.heap.size w w' := by
  have FF := box hT
  clear hT
  have hat := cw_at 6
  have hz := cw6z
  have hff := cw6f
  have hs0 := st0
  have hcs : ∀ x, ((cw 6 x).size = 6) = True := fun x => eq_true (cw_size 6 x)
  have hp1 := rgf
  have hp5 : ∀ (c : Bool) (s : Nat) (x : Int) (r : Bool), ((rg c s x r).size = 9) = True := fun _ _ _ _ => eq_true rfl
  have Be := ptf
  have Bf := ptz
  have Bg := st_p0
  have Bh : ∀ (c s : Nat) (x : Int) (r : Nat), ((pt c s x r).size = 14) = True := fun _ _ _ _ => eq_true rfl
  obtain ⟨Ai, Aj, Av, B0⟩ := opn3 w (Obj.cells #[.int .u64 x1, .int .u64 y1] 25) (Obj.cells #[.int .u64 x2, .int .u64 y2] 25) (Obj.cells #[.int .u64 0, .int .u64 0] 25)
  go_enter Tryz.func89, Tryz.ntmps89
  obtain ⟨Az, AA⟩ := cells2s Ai
  obtain ⟨AB, AC⟩ := cells2s Aj
  go_wp2_with fail
  refine (KU1.out _ (fatB FF.out B0)).mono ?_
  rintro r w1 ⟨rfl, b1⟩
  have B1 : Below w.heap.size w w1 := btr B0 b1
  have Ac := heap_of b1 _ _ _ Ai
  have Ad := heap_of b1 _ _ _ Aj
  have Ak := heap_of b1 _ _ _ Av
  clear b1 B0 Ai Az AA Aj AB AC Av
  obtain ⟨AD, AE⟩ := cells2s Ac
  obtain ⟨AF, AG⟩ := cells2s Ad
  have S2 := box B1.size
  have AH := ltR Ac
  have AI := ltR Ad
  have AJ := ltR Ak
  have Al := heap_alloc_last w1 (Obj.cells (pt c1 m1 X1 r1) 73)
  have B2 := btr B1 (bal w1 (Obj.cells (pt c1 m1 X1 r1) 73))
  have Am := heap_of (bal w1 (Obj.cells (pt c1 m1 X1 r1) 73)) _ _ _ Ac
  have An := heap_of (bal w1 (Obj.cells (pt c1 m1 X1 r1) 73)) _ _ _ Ad
  have Aw := heap_of (bal w1 (Obj.cells (pt c1 m1 X1 r1) 73)) _ _ _ Ak
  clear B1 Ac AD AE Ad AF AG Ak
  obtain ⟨AK, AL⟩ := cells2s Am
  obtain ⟨AM, AN⟩ := cells2s An
  have AO := (pt_cells Al).1
  go_wp2_with fail
  refine (KU2.out _ (fatB FF.out B2)).mono ?_
  rintro r w3 ⟨rfl, b3⟩
  have B3 : Below w.heap.size w w3 := btr B2 b3
  have Ae := heap_of b3 _ _ _ Am
  have Af := heap_of b3 _ _ _ An
  have Ao := heap_of b3 _ _ _ Aw
  have Ag := heap_of b3 _ _ _ Al
  clear b3 B2 Am AK AL An AM AN Aw Al AO
  obtain ⟨AP, AQ⟩ := cells2s Ae
  obtain ⟨AR, AS⟩ := cells2s Af
  have AT := (pt_cells Ag).1
  have S4 := box B3.size
  have AU := ltR Ae
  have AV := ltR Af
  have AW := ltR Ao
  have AX := ltR Ag
  have Ap := heap_alloc_last w3 (Obj.cells (pt c2 m2 X2 r2) 73)
  have B4 := btr B3 (bal w3 (Obj.cells (pt c2 m2 X2 r2) 73))
  have Aa := heap_of (bal w3 (Obj.cells (pt c2 m2 X2 r2) 73)) _ _ _ Ae
  have Ab := heap_of (bal w3 (Obj.cells (pt c2 m2 X2 r2) 73)) _ _ _ Af
  have Ax := heap_of (bal w3 (Obj.cells (pt c2 m2 X2 r2) 73)) _ _ _ Ao
  have Aq := heap_of (bal w3 (Obj.cells (pt c2 m2 X2 r2) 73)) _ _ _ Ag
  clear B3 Ae AP AQ Af AR AS Ao Ag AT
  obtain ⟨AY, AZ⟩ := cells2s Aa
  obtain ⟨A0, A1⟩ := cells2s Ab
  have A2 := (pt_cells Aq).1
  have A3 := (pt_cells Ap).1
  have sS : Box (∀ W W1 : World, (Below w.heap.size w W ∧ W.heap[w.heap.size]? = some (.cells #[.int .u64 x1, .int .u64 y1] 25) ∧ W.heap[w.heap.size + 1]? = some (.cells #[.int .u64 x2, .int .u64 y2] 25) ∧ W.heap[w.heap.size + 1 + 1]? = some (.cells #[.int .u64 0, .int .u64 0] 25) ∧ W.heap[w1.heap.size]? = some (.cells (pt c1 m1 X1 r1) 73) ∧ W.heap[w3.heap.size]? = some (.cells (pt c2 m2 X2 r2) 73) ∧ W.cell? ⟨w.heap.size, 0, none⟩ = some (.int .u64 x1) ∧ W.cell? ⟨w.heap.size, 1, none⟩ = some (.int .u64 y1) ∧ W.cell? ⟨w.heap.size + 1, 0, none⟩ = some (.int .u64 x2) ∧ W.cell? ⟨w.heap.size + 1, 1, none⟩ = some (.int .u64 y2)) → Below W.heap.size W W1 → (Below w.heap.size w W1 ∧ W1.heap[w.heap.size]? = some (.cells #[.int .u64 x1, .int .u64 y1] 25) ∧ W1.heap[w.heap.size + 1]? = some (.cells #[.int .u64 x2, .int .u64 y2] 25) ∧ W1.heap[w.heap.size + 1 + 1]? = some (.cells #[.int .u64 0, .int .u64 0] 25) ∧ W1.heap[w1.heap.size]? = some (.cells (pt c1 m1 X1 r1) 73) ∧ W1.heap[w3.heap.size]? = some (.cells (pt c2 m2 X2 r2) 73) ∧ W1.cell? ⟨w.heap.size, 0, none⟩ = some (.int .u64 x1) ∧ W1.cell? ⟨w.heap.size, 1, none⟩ = some (.int .u64 y1) ∧ W1.cell? ⟨w.heap.size + 1, 0, none⟩ = some (.int .u64 x2) ∧ W1.cell? ⟨w.heap.size + 1, 1, none⟩ = some (.int .u64 y2))) := box (fun W W1 h b => ⟨btr h.1 b, heap_of b _ _ _ h.2.1, heap_of b _ _ _ h.2.2.1, heap_of b _ _ _ h.2.2.2.1, heap_of b _ _ _ h.2.2.2.2.1, heap_of b _ _ _ h.2.2.2.2.2.1, cell7 (heap_of b _ _ _ h.2.1) 0 _ rfl, cell7 (heap_of b _ _ _ h.2.1) 1 _ rfl, cell7 (heap_of b _ _ _ h.2.2.1) 0 _ rfl, cell7 (heap_of b _ _ _ h.2.2.1) 1 _ rfl⟩)
  have s0 : Below w.heap.size w ((w3.alloc (Obj.cells (pt c2 m2 X2 r2) 73))).drew ∧ ((w3.alloc (Obj.cells (pt c2 m2 X2 r2) 73))).drew.heap[w.heap.size]? = some (.cells #[.int .u64 x1, .int .u64 y1] 25) ∧ ((w3.alloc (Obj.cells (pt c2 m2 X2 r2) 73))).drew.heap[w.heap.size + 1]? = some (.cells #[.int .u64 x2, .int .u64 y2] 25) ∧ ((w3.alloc (Obj.cells (pt c2 m2 X2 r2) 73))).drew.heap[w.heap.size + 1 + 1]? = some (.cells #[.int .u64 0, .int .u64 0] 25) ∧ ((w3.alloc (Obj.cells (pt c2 m2 X2 r2) 73))).drew.heap[w1.heap.size]? = some (.cells (pt c1 m1 X1 r1) 73) ∧ ((w3.alloc (Obj.cells (pt c2 m2 X2 r2) 73))).drew.heap[w3.heap.size]? = some (.cells (pt c2 m2 X2 r2) 73) ∧ ((w3.alloc (Obj.cells (pt c2 m2 X2 r2) 73))).drew.cell? ⟨w.heap.size, 0, none⟩ = some (.int .u64 x1) ∧ ((w3.alloc (Obj.cells (pt c2 m2 X2 r2) 73))).drew.cell? ⟨w.heap.size, 1, none⟩ = some (.int .u64 y1) ∧ ((w3.alloc (Obj.cells (pt c2 m2 X2 r2) 73))).drew.cell? ⟨w.heap.size + 1, 0, none⟩ = some (.int .u64 x2) ∧ ((w3.alloc (Obj.cells (pt c2 m2 X2 r2) 73))).drew.cell? ⟨w.heap.size + 1, 1, none⟩ = some (.int .u64 y2) := ⟨B4.drew, Aa, Ab, Ax, Aq, Ap, cell7 (Aa) 0 _ rfl, cell7 (Aa) 1 _ rfl, cell7 (Ab) 0 _ rfl, cell7 (Ab) 1 _ rfl⟩
  go_wp2_with fail
  go_region_held3 (fun W => Below w.heap.size w W ∧ W.heap[w.heap.size]? = some (.cells #[.int .u64 x1, .int .u64 y1] 25) ∧ W.heap[w.heap.size + 1]? = some (.cells #[.int .u64 x2, .int .u64 y2] 25) ∧ W.heap[w.heap.size + 1 + 1]? = some (.cells #[.int .u64 0, .int .u64 0] 25) ∧ W.heap[w1.heap.size]? = some (.cells (pt c1 m1 X1 r1) 73) ∧ W.heap[w3.heap.size]? = some (.cells (pt c2 m2 X2 r2) 73) ∧ W.cell? ⟨w.heap.size, 0, none⟩ = some (.int .u64 x1) ∧ W.cell? ⟨w.heap.size, 1, none⟩ = some (.int .u64 y1) ∧ W.cell? ⟨w.heap.size + 1, 0, none⟩ = some (.int .u64 x2) ∧ W.cell? ⟨w.heap.size + 1, 1, none⟩ = some (.int .u64 y2)) (first | exact s1 | exact s0)
    (first | (go_at_call_of 25 (Value.agg #[.int .u64 x1, .int .u64 y1]); (first | refine (KS1.out _ (fatB FF.out (And.left s1))).mono ?_ | refine (KS1.out _ (fatB FF.out (And.left s0))).mono ?_); rintro r wq ⟨rfl, bq⟩; (first | have s1 := sS.out _ _ s1 bq | have s1 := sS.out _ _ s0 bq); clear bq) | (go_at_call_of 25 (Value.agg #[.int .u64 x2, .int .u64 y2]); (first | refine (KS2.out _ (fatB FF.out (And.left s1))).mono ?_ | refine (KS2.out _ (fatB FF.out (And.left s0))).mono ?_); rintro r wq ⟨rfl, bq⟩; (first | have s1 := sS.out _ _ s1 bq | have s1 := sS.out _ _ s0 bq); clear bq) | fail)
  have B5 := (And.left s1)
  have Ar := s1.2.1
  have As := s1.2.2.1
  have Ay := s1.2.2.2.1
  have At := s1.2.2.2.2.1
  have Au := s1.2.2.2.2.2.1
  clear s0 s1 sS B4 Aa AY AZ Ab A0 A1 Ax Aq A2 Ap A3
  obtain ⟨A4, A5⟩ := cells2s Ar
  obtain ⟨A6, A7⟩ := cells2s As
  have A8 := (pt_cells At).1
  have A9 := (pt_cells Au).1
  go_wp2_with fail
  refine (KN.out _ (fatB FF.out B5)).mono ?_
  rintro r w6 ⟨rfl, b6⟩
  have B6 : Below w.heap.size w w6 := btr B5 b6
  have Ba := heap_of b6 _ _ _ Ar
  have Bb := heap_of b6 _ _ _ As
  have Ah := heap_of b6 _ _ _ Ay
  have Bc := heap_of b6 _ _ _ At
  have Bd := heap_of b6 _ _ _ Au
  clear b6 B5 Ar A4 A5 As A6 A7 Ay At A8 Au A9
  obtain ⟨Bi, Bj⟩ := cells2s Ba
  obtain ⟨Bk, Bl⟩ := cells2s Bb
  have Bm := (pt_cells Bc).1
  have Bn := (pt_cells Bd).1
  obtain ⟨Bo, Bp⟩ := cells2s Ah
  have q0 := fz (k := 0) Ah
  have q1 := fz (k := 1) Ah
  obtain ⟨E0, E1⟩ := set2_cells Ah (.int .u64 u) (.int .u64 v)
  go_wp2
  exact bodyPost_ret (v := .tuple #[.agg #[.int .u64 u, .int .u64 v], .int .u8 0, .int .i64 0]) (by simp [results, Tryz.results89, go_sem, E0, E1]) rfl ⟨rfl, set2_below B6 (by first | exact Nat.le_refl _ | omega | (have := S2.out; have := AH.out; have := AI.out; have := AJ.out; have := S4.out; have := AU.out; have := AV.out; have := AW.out; have := AX.out; omega)) _ _⟩
theorem mu_qy (f m : Int) (x1 y1 x2 y2 u v : Nat) (c1 m1 : Nat) (X1 : Int) (r1 c2 m2 : Nat) (X2 : Int) (r2 : Nat) (s1 s2 neg : Bool) (w : World) (hng : (!(s1 == s2)) = neg) (h18 : ((c1 : Int) == 8) = false) (h28 : ((c2 : Int) == 8) = false) (h19 : ((c1 : Int) == 9) = false) (h29 : ((c2 : Int) == 9) = true)
    (KU1 : Box (∀ w, FAt w → Calls Tryz.prog 45 #[.int .u8 f, .agg #[.int .u64 x1, .int .u64 y1]] w fun r w' => r = .returned (.tuple #[.agg (pt c1 m1 X1 r1), .int .i64 0]) ∧ Below w.heap.size w w'))
    (KU2 : Box (∀ w, FAt w → Calls Tryz.prog 45 #[.int .u8 f, .agg #[.int .u64 x2, .int .u64 y2]] w fun r w' => r = .returned (.tuple #[.agg (pt c2 m2 X2 r2), .int .i64 0]) ∧ Below w.heap.size w w'))
    (KS1 : Box (∀ w, FAt w → Calls Tryz.prog 25 #[.int .u8 f, .agg #[.int .u64 x1, .int .u64 y1]] w fun r w' => r = .returned (.bool s1) ∧ Below w.heap.size w w'))
    (KS2 : Box (∀ w, FAt w → Calls Tryz.prog 25 #[.int .u8 f, .agg #[.int .u64 x2, .int .u64 y2]] w fun r w' => r = .returned (.bool s2) ∧ Below w.heap.size w w'))
    (KN : Box (∀ w, FAt w → Calls Tryz.prog 157 #[.int .u8 f] w fun r w' => r = .returned (.agg #[.int .u64 u, .int .u64 v]) ∧ Below w.heap.size w w'))
    (hT : FAt w) : Calls Tryz.prog 89 #[.int .u8 f, .int .u8 m, .agg #[.int .u64 x1, .int .u64 y1], .agg #[.int .u64 x2, .int .u64 y2]] w fun r w' => r = .returned (.tuple #[.agg #[.int .u64 u, .int .u64 v], .int .u8 0, .int .i64 0]) ∧ Below w.heap.size w w' := by
  have FF := box hT
  clear hT
  have hat := cw_at 6
  have hz := cw6z
  have hff := cw6f
  have hs0 := st0
  have hcs : ∀ x, ((cw 6 x).size = 6) = True := fun x => eq_true (cw_size 6 x)
  have hp1 := rgf
  have hp5 : ∀ (c : Bool) (s : Nat) (x : Int) (r : Bool), ((rg c s x r).size = 9) = True := fun _ _ _ _ => eq_true rfl
  have Be := ptf
  have Bf := ptz
  have Bg := st_p0
  have Bh : ∀ (c s : Nat) (x : Int) (r : Nat), ((pt c s x r).size = 14) = True := fun _ _ _ _ => eq_true rfl
  obtain ⟨Ai, Aj, Av, B0⟩ := opn3 w (Obj.cells #[.int .u64 x1, .int .u64 y1] 25) (Obj.cells #[.int .u64 x2, .int .u64 y2] 25) (Obj.cells #[.int .u64 0, .int .u64 0] 25)
  go_enter Tryz.func89, Tryz.ntmps89
  obtain ⟨Az, AA⟩ := cells2s Ai
  obtain ⟨AB, AC⟩ := cells2s Aj
  go_wp2_with fail
  refine (KU1.out _ (fatB FF.out B0)).mono ?_
  rintro r w1 ⟨rfl, b1⟩
  have B1 : Below w.heap.size w w1 := btr B0 b1
  have Ac := heap_of b1 _ _ _ Ai
  have Ad := heap_of b1 _ _ _ Aj
  have Ak := heap_of b1 _ _ _ Av
  clear b1 B0 Ai Az AA Aj AB AC Av
  obtain ⟨AD, AE⟩ := cells2s Ac
  obtain ⟨AF, AG⟩ := cells2s Ad
  have S2 := box B1.size
  have AH := ltR Ac
  have AI := ltR Ad
  have AJ := ltR Ak
  have Al := heap_alloc_last w1 (Obj.cells (pt c1 m1 X1 r1) 73)
  have B2 := btr B1 (bal w1 (Obj.cells (pt c1 m1 X1 r1) 73))
  have Am := heap_of (bal w1 (Obj.cells (pt c1 m1 X1 r1) 73)) _ _ _ Ac
  have An := heap_of (bal w1 (Obj.cells (pt c1 m1 X1 r1) 73)) _ _ _ Ad
  have Aw := heap_of (bal w1 (Obj.cells (pt c1 m1 X1 r1) 73)) _ _ _ Ak
  clear B1 Ac AD AE Ad AF AG Ak
  obtain ⟨AK, AL⟩ := cells2s Am
  obtain ⟨AM, AN⟩ := cells2s An
  have AO := (pt_cells Al).1
  go_wp2_with fail
  refine (KU2.out _ (fatB FF.out B2)).mono ?_
  rintro r w3 ⟨rfl, b3⟩
  have B3 : Below w.heap.size w w3 := btr B2 b3
  have Ae := heap_of b3 _ _ _ Am
  have Af := heap_of b3 _ _ _ An
  have Ao := heap_of b3 _ _ _ Aw
  have Ag := heap_of b3 _ _ _ Al
  clear b3 B2 Am AK AL An AM AN Aw Al AO
  obtain ⟨AP, AQ⟩ := cells2s Ae
  obtain ⟨AR, AS⟩ := cells2s Af
  have AT := (pt_cells Ag).1
  have S4 := box B3.size
  have AU := ltR Ae
  have AV := ltR Af
  have AW := ltR Ao
  have AX := ltR Ag
  have Ap := heap_alloc_last w3 (Obj.cells (pt c2 m2 X2 r2) 73)
  have B4 := btr B3 (bal w3 (Obj.cells (pt c2 m2 X2 r2) 73))
  have Aa := heap_of (bal w3 (Obj.cells (pt c2 m2 X2 r2) 73)) _ _ _ Ae
  have Ab := heap_of (bal w3 (Obj.cells (pt c2 m2 X2 r2) 73)) _ _ _ Af
  have Ax := heap_of (bal w3 (Obj.cells (pt c2 m2 X2 r2) 73)) _ _ _ Ao
  have Aq := heap_of (bal w3 (Obj.cells (pt c2 m2 X2 r2) 73)) _ _ _ Ag
  clear B3 Ae AP AQ Af AR AS Ao Ag AT
  obtain ⟨AY, AZ⟩ := cells2s Aa
  obtain ⟨A0, A1⟩ := cells2s Ab
  have A2 := (pt_cells Aq).1
  have A3 := (pt_cells Ap).1
  have sS : Box (∀ W W1 : World, (Below w.heap.size w W ∧ W.heap[w.heap.size]? = some (.cells #[.int .u64 x1, .int .u64 y1] 25) ∧ W.heap[w.heap.size + 1]? = some (.cells #[.int .u64 x2, .int .u64 y2] 25) ∧ W.heap[w.heap.size + 1 + 1]? = some (.cells #[.int .u64 0, .int .u64 0] 25) ∧ W.heap[w1.heap.size]? = some (.cells (pt c1 m1 X1 r1) 73) ∧ W.heap[w3.heap.size]? = some (.cells (pt c2 m2 X2 r2) 73) ∧ W.cell? ⟨w.heap.size, 0, none⟩ = some (.int .u64 x1) ∧ W.cell? ⟨w.heap.size, 1, none⟩ = some (.int .u64 y1) ∧ W.cell? ⟨w.heap.size + 1, 0, none⟩ = some (.int .u64 x2) ∧ W.cell? ⟨w.heap.size + 1, 1, none⟩ = some (.int .u64 y2)) → Below W.heap.size W W1 → (Below w.heap.size w W1 ∧ W1.heap[w.heap.size]? = some (.cells #[.int .u64 x1, .int .u64 y1] 25) ∧ W1.heap[w.heap.size + 1]? = some (.cells #[.int .u64 x2, .int .u64 y2] 25) ∧ W1.heap[w.heap.size + 1 + 1]? = some (.cells #[.int .u64 0, .int .u64 0] 25) ∧ W1.heap[w1.heap.size]? = some (.cells (pt c1 m1 X1 r1) 73) ∧ W1.heap[w3.heap.size]? = some (.cells (pt c2 m2 X2 r2) 73) ∧ W1.cell? ⟨w.heap.size, 0, none⟩ = some (.int .u64 x1) ∧ W1.cell? ⟨w.heap.size, 1, none⟩ = some (.int .u64 y1) ∧ W1.cell? ⟨w.heap.size + 1, 0, none⟩ = some (.int .u64 x2) ∧ W1.cell? ⟨w.heap.size + 1, 1, none⟩ = some (.int .u64 y2))) := box (fun W W1 h b => ⟨btr h.1 b, heap_of b _ _ _ h.2.1, heap_of b _ _ _ h.2.2.1, heap_of b _ _ _ h.2.2.2.1, heap_of b _ _ _ h.2.2.2.2.1, heap_of b _ _ _ h.2.2.2.2.2.1, cell7 (heap_of b _ _ _ h.2.1) 0 _ rfl, cell7 (heap_of b _ _ _ h.2.1) 1 _ rfl, cell7 (heap_of b _ _ _ h.2.2.1) 0 _ rfl, cell7 (heap_of b _ _ _ h.2.2.1) 1 _ rfl⟩)
  have s0 : Below w.heap.size w ((w3.alloc (Obj.cells (pt c2 m2 X2 r2) 73))).drew ∧ ((w3.alloc (Obj.cells (pt c2 m2 X2 r2) 73))).drew.heap[w.heap.size]? = some (.cells #[.int .u64 x1, .int .u64 y1] 25) ∧ ((w3.alloc (Obj.cells (pt c2 m2 X2 r2) 73))).drew.heap[w.heap.size + 1]? = some (.cells #[.int .u64 x2, .int .u64 y2] 25) ∧ ((w3.alloc (Obj.cells (pt c2 m2 X2 r2) 73))).drew.heap[w.heap.size + 1 + 1]? = some (.cells #[.int .u64 0, .int .u64 0] 25) ∧ ((w3.alloc (Obj.cells (pt c2 m2 X2 r2) 73))).drew.heap[w1.heap.size]? = some (.cells (pt c1 m1 X1 r1) 73) ∧ ((w3.alloc (Obj.cells (pt c2 m2 X2 r2) 73))).drew.heap[w3.heap.size]? = some (.cells (pt c2 m2 X2 r2) 73) ∧ ((w3.alloc (Obj.cells (pt c2 m2 X2 r2) 73))).drew.cell? ⟨w.heap.size, 0, none⟩ = some (.int .u64 x1) ∧ ((w3.alloc (Obj.cells (pt c2 m2 X2 r2) 73))).drew.cell? ⟨w.heap.size, 1, none⟩ = some (.int .u64 y1) ∧ ((w3.alloc (Obj.cells (pt c2 m2 X2 r2) 73))).drew.cell? ⟨w.heap.size + 1, 0, none⟩ = some (.int .u64 x2) ∧ ((w3.alloc (Obj.cells (pt c2 m2 X2 r2) 73))).drew.cell? ⟨w.heap.size + 1, 1, none⟩ = some (.int .u64 y2) := ⟨B4.drew, Aa, Ab, Ax, Aq, Ap, cell7 (Aa) 0 _ rfl, cell7 (Aa) 1 _ rfl, cell7 (Ab) 0 _ rfl, cell7 (Ab) 1 _ rfl⟩
  go_wp2_with fail
  go_region_held3 (fun W => Below w.heap.size w W ∧ W.heap[w.heap.size]? = some (.cells #[.int .u64 x1, .int .u64 y1] 25) ∧ W.heap[w.heap.size + 1]? = some (.cells #[.int .u64 x2, .int .u64 y2] 25) ∧ W.heap[w.heap.size + 1 + 1]? = some (.cells #[.int .u64 0, .int .u64 0] 25) ∧ W.heap[w1.heap.size]? = some (.cells (pt c1 m1 X1 r1) 73) ∧ W.heap[w3.heap.size]? = some (.cells (pt c2 m2 X2 r2) 73) ∧ W.cell? ⟨w.heap.size, 0, none⟩ = some (.int .u64 x1) ∧ W.cell? ⟨w.heap.size, 1, none⟩ = some (.int .u64 y1) ∧ W.cell? ⟨w.heap.size + 1, 0, none⟩ = some (.int .u64 x2) ∧ W.cell? ⟨w.heap.size + 1, 1, none⟩ = some (.int .u64 y2)) (first | exact s1 | exact s0)
    (first | (go_at_call_of 25 (Value.agg #[.int .u64 x1, .int .u64 y1]); (first | refine (KS1.out _ (fatB FF.out (And.left s1))).mono ?_ | refine (KS1.out _ (fatB FF.out (And.left s0))).mono ?_); rintro r wq ⟨rfl, bq⟩; (first | have s1 := sS.out _ _ s1 bq | have s1 := sS.out _ _ s0 bq); clear bq) | (go_at_call_of 25 (Value.agg #[.int .u64 x2, .int .u64 y2]); (first | refine (KS2.out _ (fatB FF.out (And.left s1))).mono ?_ | refine (KS2.out _ (fatB FF.out (And.left s0))).mono ?_); rintro r wq ⟨rfl, bq⟩; (first | have s1 := sS.out _ _ s1 bq | have s1 := sS.out _ _ s0 bq); clear bq) | fail)
  have B5 := (And.left s1)
  have Ar := s1.2.1
  have As := s1.2.2.1
  have Ay := s1.2.2.2.1
  have At := s1.2.2.2.2.1
  have Au := s1.2.2.2.2.2.1
  clear s0 s1 sS B4 Aa AY AZ Ab A0 A1 Ax Aq A2 Ap A3
  obtain ⟨A4, A5⟩ := cells2s Ar
  obtain ⟨A6, A7⟩ := cells2s As
  have A8 := (pt_cells At).1
  have A9 := (pt_cells Au).1
  go_wp2_with fail
  refine (KN.out _ (fatB FF.out B5)).mono ?_
  rintro r w6 ⟨rfl, b6⟩
  have B6 : Below w.heap.size w w6 := btr B5 b6
  have Ba := heap_of b6 _ _ _ Ar
  have Bb := heap_of b6 _ _ _ As
  have Ah := heap_of b6 _ _ _ Ay
  have Bc := heap_of b6 _ _ _ At
  have Bd := heap_of b6 _ _ _ Au
  clear b6 B5 Ar A4 A5 As A6 A7 Ay At A8 Au A9
  obtain ⟨Bi, Bj⟩ := cells2s Ba
  obtain ⟨Bk, Bl⟩ := cells2s Bb
  have Bm := (pt_cells Bc).1
  have Bn := (pt_cells Bd).1
  obtain ⟨Bo, Bp⟩ := cells2s Ah
  have q0 := fz (k := 0) Ah
  have q1 := fz (k := 1) Ah
  obtain ⟨E0, E1⟩ := set2_cells Ah (.int .u64 u) (.int .u64 v)
  go_wp2
  exact bodyPost_ret (v := .tuple #[.agg #[.int .u64 u, .int .u64 v], .int .u8 0, .int .i64 0]) (by simp [results, Tryz.results89, go_sem, E0, E1]) rfl ⟨rfl, set2_below B6 (by first | exact Nat.le_refl _ | omega | (have := S2.out; have := AH.out; have := AI.out; have := AJ.out; have := S4.out; have := AU.out; have := AV.out; have := AW.out; have := AX.out; omega)) _ _⟩
theorem mu_ex (f m : Int) (x1 y1 x2 y2 u v : Nat) (c1 m1 : Nat) (X1 : Int) (r1 c2 m2 : Nat) (X2 : Int) (r2 : Nat) (s1 s2 neg : Bool) (w : World) (hng : (!(s1 == s2)) = neg) (h18 : ((c1 : Int) == 8) = false) (h28 : ((c2 : Int) == 8) = false) (h19 : ((c1 : Int) == 9) = false) (h29 : ((c2 : Int) == 9) = false)
    (KU1 : Box (∀ w, FAt w → Calls Tryz.prog 45 #[.int .u8 f, .agg #[.int .u64 x1, .int .u64 y1]] w fun r w' => r = .returned (.tuple #[.agg (pt c1 m1 X1 r1), .int .i64 0]) ∧ Below w.heap.size w w'))
    (KU2 : Box (∀ w, FAt w → Calls Tryz.prog 45 #[.int .u8 f, .agg #[.int .u64 x2, .int .u64 y2]] w fun r w' => r = .returned (.tuple #[.agg (pt c2 m2 X2 r2), .int .i64 0]) ∧ Below w.heap.size w w'))
    (KS1 : Box (∀ w, FAt w → Calls Tryz.prog 25 #[.int .u8 f, .agg #[.int .u64 x1, .int .u64 y1]] w fun r w' => r = .returned (.bool s1) ∧ Below w.heap.size w w'))
    (KS2 : Box (∀ w, FAt w → Calls Tryz.prog 25 #[.int .u8 f, .agg #[.int .u64 x2, .int .u64 y2]] w fun r w' => r = .returned (.bool s2) ∧ Below w.heap.size w w'))
    (KT1 : Box (∀ w, Calls Tryz.prog 171 #[.int .u8 c1, .int .u8 c2] w fun r w' => r = .returned (.bool true) ∧ Below w.heap.size w w'))
    (KN : Box (∀ w, FAt w → Calls Tryz.prog 157 #[.int .u8 f] w fun r w' => r = .returned (.agg #[.int .u64 u, .int .u64 v]) ∧ Below w.heap.size w w'))
    (hT : FAt w) : Calls Tryz.prog 89 #[.int .u8 f, .int .u8 m, .agg #[.int .u64 x1, .int .u64 y1], .agg #[.int .u64 x2, .int .u64 y2]] w fun r w' => r = .returned (.tuple #[.agg #[.int .u64 u, .int .u64 v], .int .u8 16, .int .i64 0]) ∧ Below w.heap.size w w' := by
  have FF := box hT
  clear hT
  have hat := cw_at 6
  have hz := cw6z
  have hff := cw6f
  have hs0 := st0
  have hcs : ∀ x, ((cw 6 x).size = 6) = True := fun x => eq_true (cw_size 6 x)
  have hp1 := rgf
  have hp5 : ∀ (c : Bool) (s : Nat) (x : Int) (r : Bool), ((rg c s x r).size = 9) = True := fun _ _ _ _ => eq_true rfl
  have Bp := ptf
  have Bq := ptz
  have Br := st_p0
  have Bs : ∀ (c s : Nat) (x : Int) (r : Nat), ((pt c s x r).size = 14) = True := fun _ _ _ _ => eq_true rfl
  obtain ⟨Ai, Aj, Az, B0⟩ := opn3 w (Obj.cells #[.int .u64 x1, .int .u64 y1] 25) (Obj.cells #[.int .u64 x2, .int .u64 y2] 25) (Obj.cells #[.int .u64 0, .int .u64 0] 25)
  go_enter Tryz.func89, Tryz.ntmps89
  obtain ⟨AE, AF⟩ := cells2s Ai
  obtain ⟨AG, AH⟩ := cells2s Aj
  go_wp2_with fail
  refine (KU1.out _ (fatB FF.out B0)).mono ?_
  rintro r w1 ⟨rfl, b1⟩
  have B1 : Below w.heap.size w w1 := btr B0 b1
  have Ac := heap_of b1 _ _ _ Ai
  have Ad := heap_of b1 _ _ _ Aj
  have Ak := heap_of b1 _ _ _ Az
  clear b1 B0 Ai AE AF Aj AG AH Az
  obtain ⟨AI, AJ⟩ := cells2s Ac
  obtain ⟨AK, AL⟩ := cells2s Ad
  have S2 := box B1.size
  have AM := ltR Ac
  have AN := ltR Ad
  have AO := ltR Ak
  have Al := heap_alloc_last w1 (Obj.cells (pt c1 m1 X1 r1) 73)
  have B2 := btr B1 (bal w1 (Obj.cells (pt c1 m1 X1 r1) 73))
  have Am := heap_of (bal w1 (Obj.cells (pt c1 m1 X1 r1) 73)) _ _ _ Ac
  have An := heap_of (bal w1 (Obj.cells (pt c1 m1 X1 r1) 73)) _ _ _ Ad
  have AA := heap_of (bal w1 (Obj.cells (pt c1 m1 X1 r1) 73)) _ _ _ Ak
  clear B1 Ac AI AJ Ad AK AL Ak
  obtain ⟨AP, AQ⟩ := cells2s Am
  obtain ⟨AR, AS⟩ := cells2s An
  have AT := (pt_cells Al).1
  go_wp2_with fail
  refine (KU2.out _ (fatB FF.out B2)).mono ?_
  rintro r w3 ⟨rfl, b3⟩
  have B3 : Below w.heap.size w w3 := btr B2 b3
  have Ae := heap_of b3 _ _ _ Am
  have Af := heap_of b3 _ _ _ An
  have Ao := heap_of b3 _ _ _ AA
  have Ag := heap_of b3 _ _ _ Al
  clear b3 B2 Am AP AQ An AR AS AA Al AT
  obtain ⟨AU, AV⟩ := cells2s Ae
  obtain ⟨AW, AX⟩ := cells2s Af
  have AY := (pt_cells Ag).1
  have S4 := box B3.size
  have AZ := ltR Ae
  have A0 := ltR Af
  have A1 := ltR Ao
  have A2 := ltR Ag
  have Ap := heap_alloc_last w3 (Obj.cells (pt c2 m2 X2 r2) 73)
  have B4 := btr B3 (bal w3 (Obj.cells (pt c2 m2 X2 r2) 73))
  have Aa := heap_of (bal w3 (Obj.cells (pt c2 m2 X2 r2) 73)) _ _ _ Ae
  have Ab := heap_of (bal w3 (Obj.cells (pt c2 m2 X2 r2) 73)) _ _ _ Af
  have AB := heap_of (bal w3 (Obj.cells (pt c2 m2 X2 r2) 73)) _ _ _ Ao
  have Aq := heap_of (bal w3 (Obj.cells (pt c2 m2 X2 r2) 73)) _ _ _ Ag
  clear B3 Ae AU AV Af AW AX Ao Ag AY
  obtain ⟨A3, A4⟩ := cells2s Aa
  obtain ⟨A5, A6⟩ := cells2s Ab
  have A7 := (pt_cells Aq).1
  have A8 := (pt_cells Ap).1
  have sS : Box (∀ W W1 : World, (Below w.heap.size w W ∧ W.heap[w.heap.size]? = some (.cells #[.int .u64 x1, .int .u64 y1] 25) ∧ W.heap[w.heap.size + 1]? = some (.cells #[.int .u64 x2, .int .u64 y2] 25) ∧ W.heap[w.heap.size + 1 + 1]? = some (.cells #[.int .u64 0, .int .u64 0] 25) ∧ W.heap[w1.heap.size]? = some (.cells (pt c1 m1 X1 r1) 73) ∧ W.heap[w3.heap.size]? = some (.cells (pt c2 m2 X2 r2) 73) ∧ W.cell? ⟨w.heap.size, 0, none⟩ = some (.int .u64 x1) ∧ W.cell? ⟨w.heap.size, 1, none⟩ = some (.int .u64 y1) ∧ W.cell? ⟨w.heap.size + 1, 0, none⟩ = some (.int .u64 x2) ∧ W.cell? ⟨w.heap.size + 1, 1, none⟩ = some (.int .u64 y2)) → Below W.heap.size W W1 → (Below w.heap.size w W1 ∧ W1.heap[w.heap.size]? = some (.cells #[.int .u64 x1, .int .u64 y1] 25) ∧ W1.heap[w.heap.size + 1]? = some (.cells #[.int .u64 x2, .int .u64 y2] 25) ∧ W1.heap[w.heap.size + 1 + 1]? = some (.cells #[.int .u64 0, .int .u64 0] 25) ∧ W1.heap[w1.heap.size]? = some (.cells (pt c1 m1 X1 r1) 73) ∧ W1.heap[w3.heap.size]? = some (.cells (pt c2 m2 X2 r2) 73) ∧ W1.cell? ⟨w.heap.size, 0, none⟩ = some (.int .u64 x1) ∧ W1.cell? ⟨w.heap.size, 1, none⟩ = some (.int .u64 y1) ∧ W1.cell? ⟨w.heap.size + 1, 0, none⟩ = some (.int .u64 x2) ∧ W1.cell? ⟨w.heap.size + 1, 1, none⟩ = some (.int .u64 y2))) := box (fun W W1 h b => ⟨btr h.1 b, heap_of b _ _ _ h.2.1, heap_of b _ _ _ h.2.2.1, heap_of b _ _ _ h.2.2.2.1, heap_of b _ _ _ h.2.2.2.2.1, heap_of b _ _ _ h.2.2.2.2.2.1, cell7 (heap_of b _ _ _ h.2.1) 0 _ rfl, cell7 (heap_of b _ _ _ h.2.1) 1 _ rfl, cell7 (heap_of b _ _ _ h.2.2.1) 0 _ rfl, cell7 (heap_of b _ _ _ h.2.2.1) 1 _ rfl⟩)
  have s0 : Below w.heap.size w ((w3.alloc (Obj.cells (pt c2 m2 X2 r2) 73))).drew ∧ ((w3.alloc (Obj.cells (pt c2 m2 X2 r2) 73))).drew.heap[w.heap.size]? = some (.cells #[.int .u64 x1, .int .u64 y1] 25) ∧ ((w3.alloc (Obj.cells (pt c2 m2 X2 r2) 73))).drew.heap[w.heap.size + 1]? = some (.cells #[.int .u64 x2, .int .u64 y2] 25) ∧ ((w3.alloc (Obj.cells (pt c2 m2 X2 r2) 73))).drew.heap[w.heap.size + 1 + 1]? = some (.cells #[.int .u64 0, .int .u64 0] 25) ∧ ((w3.alloc (Obj.cells (pt c2 m2 X2 r2) 73))).drew.heap[w1.heap.size]? = some (.cells (pt c1 m1 X1 r1) 73) ∧ ((w3.alloc (Obj.cells (pt c2 m2 X2 r2) 73))).drew.heap[w3.heap.size]? = some (.cells (pt c2 m2 X2 r2) 73) ∧ ((w3.alloc (Obj.cells (pt c2 m2 X2 r2) 73))).drew.cell? ⟨w.heap.size, 0, none⟩ = some (.int .u64 x1) ∧ ((w3.alloc (Obj.cells (pt c2 m2 X2 r2) 73))).drew.cell? ⟨w.heap.size, 1, none⟩ = some (.int .u64 y1) ∧ ((w3.alloc (Obj.cells (pt c2 m2 X2 r2) 73))).drew.cell? ⟨w.heap.size + 1, 0, none⟩ = some (.int .u64 x2) ∧ ((w3.alloc (Obj.cells (pt c2 m2 X2 r2) 73))).drew.cell? ⟨w.heap.size + 1, 1, none⟩ = some (.int .u64 y2) := ⟨B4.drew, Aa, Ab, AB, Aq, Ap, cell7 (Aa) 0 _ rfl, cell7 (Aa) 1 _ rfl, cell7 (Ab) 0 _ rfl, cell7 (Ab) 1 _ rfl⟩
  go_wp2_with fail
  go_region_held3 (fun W => Below w.heap.size w W ∧ W.heap[w.heap.size]? = some (.cells #[.int .u64 x1, .int .u64 y1] 25) ∧ W.heap[w.heap.size + 1]? = some (.cells #[.int .u64 x2, .int .u64 y2] 25) ∧ W.heap[w.heap.size + 1 + 1]? = some (.cells #[.int .u64 0, .int .u64 0] 25) ∧ W.heap[w1.heap.size]? = some (.cells (pt c1 m1 X1 r1) 73) ∧ W.heap[w3.heap.size]? = some (.cells (pt c2 m2 X2 r2) 73) ∧ W.cell? ⟨w.heap.size, 0, none⟩ = some (.int .u64 x1) ∧ W.cell? ⟨w.heap.size, 1, none⟩ = some (.int .u64 y1) ∧ W.cell? ⟨w.heap.size + 1, 0, none⟩ = some (.int .u64 x2) ∧ W.cell? ⟨w.heap.size + 1, 1, none⟩ = some (.int .u64 y2)) (first | exact s1 | exact s0)
    (first | (go_at_call_of 25 (Value.agg #[.int .u64 x1, .int .u64 y1]); (first | refine (KS1.out _ (fatB FF.out (And.left s1))).mono ?_ | refine (KS1.out _ (fatB FF.out (And.left s0))).mono ?_); rintro r wq ⟨rfl, bq⟩; (first | have s1 := sS.out _ _ s1 bq | have s1 := sS.out _ _ s0 bq); clear bq) | (go_at_call_of 25 (Value.agg #[.int .u64 x2, .int .u64 y2]); (first | refine (KS2.out _ (fatB FF.out (And.left s1))).mono ?_ | refine (KS2.out _ (fatB FF.out (And.left s0))).mono ?_); rintro r wq ⟨rfl, bq⟩; (first | have s1 := sS.out _ _ s1 bq | have s1 := sS.out _ _ s0 bq); clear bq) | fail)
  have B5 := (And.left s1)
  have Ar := s1.2.1
  have As := s1.2.2.1
  have AC := s1.2.2.2.1
  have At := s1.2.2.2.2.1
  have Au := s1.2.2.2.2.2.1
  clear s0 s1 sS B4 Aa A3 A4 Ab A5 A6 AB Aq A7 Ap A8
  obtain ⟨A9, Ba⟩ := cells2s Ar
  obtain ⟨Bb, Bc⟩ := cells2s As
  have Bd := (pt_cells At).1
  have Be := (pt_cells Au).1
  go_wp2_with fail
  refine (KT1.out _).mono ?_
  rintro r w6 ⟨rfl, b6⟩
  have B6 : Below w.heap.size w w6 := btr B5 b6
  have Av := heap_of b6 _ _ _ Ar
  have Aw := heap_of b6 _ _ _ As
  have AD := heap_of b6 _ _ _ AC
  have Ax := heap_of b6 _ _ _ At
  have Ay := heap_of b6 _ _ _ Au
  clear b6 B5 Ar A9 Ba As Bb Bc AC At Bd Au Be
  obtain ⟨Bf, Bg⟩ := cells2s Av
  obtain ⟨Bh, Bi⟩ := cells2s Aw
  have Bj := (pt_cells Ax).1
  have Bk := (pt_cells Ay).1
  go_wp2_with fail
  refine (KN.out _ (fatB FF.out B6)).mono ?_
  rintro r w7 ⟨rfl, b7⟩
  have B7 : Below w.heap.size w w7 := btr B6 b7
  have Bl := heap_of b7 _ _ _ Av
  have Bm := heap_of b7 _ _ _ Aw
  have Ah := heap_of b7 _ _ _ AD
  have Bn := heap_of b7 _ _ _ Ax
  have Bo := heap_of b7 _ _ _ Ay
  clear b7 B6 Av Bf Bg Aw Bh Bi AD Ax Bj Ay Bk
  obtain ⟨Bt, Bu⟩ := cells2s Bl
  obtain ⟨Bv, Bw⟩ := cells2s Bm
  have Bx := (pt_cells Bn).1
  have By := (pt_cells Bo).1
  obtain ⟨Bz, BA⟩ := cells2s Ah
  have q0 := fz (k := 0) Ah
  have q1 := fz (k := 1) Ah
  obtain ⟨E0, E1⟩ := set2_cells Ah (.int .u64 u) (.int .u64 v)
  go_wp2
  exact bodyPost_ret (v := .tuple #[.agg #[.int .u64 u, .int .u64 v], .int .u8 16, .int .i64 0]) (by simp [results, Tryz.results89, go_sem, E0, E1]) rfl ⟨rfl, set2_below B7 (by first | exact Nat.le_refl _ | omega | (have := S2.out; have := AM.out; have := AN.out; have := AO.out; have := S4.out; have := AZ.out; have := A0.out; have := A1.out; have := A2.out; omega)) _ _⟩
theorem mu_ey (f m : Int) (x1 y1 x2 y2 u v : Nat) (c1 m1 : Nat) (X1 : Int) (r1 c2 m2 : Nat) (X2 : Int) (r2 : Nat) (s1 s2 neg : Bool) (w : World) (hng : (!(s1 == s2)) = neg) (h18 : ((c1 : Int) == 8) = false) (h28 : ((c2 : Int) == 8) = false) (h19 : ((c1 : Int) == 9) = false) (h29 : ((c2 : Int) == 9) = false)
    (KU1 : Box (∀ w, FAt w → Calls Tryz.prog 45 #[.int .u8 f, .agg #[.int .u64 x1, .int .u64 y1]] w fun r w' => r = .returned (.tuple #[.agg (pt c1 m1 X1 r1), .int .i64 0]) ∧ Below w.heap.size w w'))
    (KU2 : Box (∀ w, FAt w → Calls Tryz.prog 45 #[.int .u8 f, .agg #[.int .u64 x2, .int .u64 y2]] w fun r w' => r = .returned (.tuple #[.agg (pt c2 m2 X2 r2), .int .i64 0]) ∧ Below w.heap.size w w'))
    (KS1 : Box (∀ w, FAt w → Calls Tryz.prog 25 #[.int .u8 f, .agg #[.int .u64 x1, .int .u64 y1]] w fun r w' => r = .returned (.bool s1) ∧ Below w.heap.size w w'))
    (KS2 : Box (∀ w, FAt w → Calls Tryz.prog 25 #[.int .u8 f, .agg #[.int .u64 x2, .int .u64 y2]] w fun r w' => r = .returned (.bool s2) ∧ Below w.heap.size w w'))
    (KT1 : Box (∀ w, Calls Tryz.prog 171 #[.int .u8 c1, .int .u8 c2] w fun r w' => r = .returned (.bool false) ∧ Below w.heap.size w w'))
    (KT2 : Box (∀ w, Calls Tryz.prog 171 #[.int .u8 c2, .int .u8 c1] w fun r w' => r = .returned (.bool true) ∧ Below w.heap.size w w'))
    (KN : Box (∀ w, FAt w → Calls Tryz.prog 157 #[.int .u8 f] w fun r w' => r = .returned (.agg #[.int .u64 u, .int .u64 v]) ∧ Below w.heap.size w w'))
    (hT : FAt w) : Calls Tryz.prog 89 #[.int .u8 f, .int .u8 m, .agg #[.int .u64 x1, .int .u64 y1], .agg #[.int .u64 x2, .int .u64 y2]] w fun r w' => r = .returned (.tuple #[.agg #[.int .u64 u, .int .u64 v], .int .u8 16, .int .i64 0]) ∧ Below w.heap.size w w' := by
  have FF := box hT
  clear hT
  have hat := cw_at 6
  have hz := cw6z
  have hff := cw6f
  have hs0 := st0
  have hcs : ∀ x, ((cw 6 x).size = 6) = True := fun x => eq_true (cw_size 6 x)
  have hp1 := rgf
  have hp5 : ∀ (c : Bool) (s : Nat) (x : Int) (r : Bool), ((rg c s x r).size = 9) = True := fun _ _ _ _ => eq_true rfl
  have BA := ptf
  have BB := ptz
  have BC := st_p0
  have BD : ∀ (c s : Nat) (x : Int) (r : Nat), ((pt c s x r).size = 14) = True := fun _ _ _ _ => eq_true rfl
  obtain ⟨Ai, Aj, AD, B0⟩ := opn3 w (Obj.cells #[.int .u64 x1, .int .u64 y1] 25) (Obj.cells #[.int .u64 x2, .int .u64 y2] 25) (Obj.cells #[.int .u64 0, .int .u64 0] 25)
  go_enter Tryz.func89, Tryz.ntmps89
  obtain ⟨AJ, AK⟩ := cells2s Ai
  obtain ⟨AL, AM⟩ := cells2s Aj
  go_wp2_with fail
  refine (KU1.out _ (fatB FF.out B0)).mono ?_
  rintro r w1 ⟨rfl, b1⟩
  have B1 : Below w.heap.size w w1 := btr B0 b1
  have Ac := heap_of b1 _ _ _ Ai
  have Ad := heap_of b1 _ _ _ Aj
  have Ak := heap_of b1 _ _ _ AD
  clear b1 B0 Ai AJ AK Aj AL AM AD
  obtain ⟨AN, AO⟩ := cells2s Ac
  obtain ⟨AP, AQ⟩ := cells2s Ad
  have S2 := box B1.size
  have AR := ltR Ac
  have AS := ltR Ad
  have AT := ltR Ak
  have Al := heap_alloc_last w1 (Obj.cells (pt c1 m1 X1 r1) 73)
  have B2 := btr B1 (bal w1 (Obj.cells (pt c1 m1 X1 r1) 73))
  have Am := heap_of (bal w1 (Obj.cells (pt c1 m1 X1 r1) 73)) _ _ _ Ac
  have An := heap_of (bal w1 (Obj.cells (pt c1 m1 X1 r1) 73)) _ _ _ Ad
  have AE := heap_of (bal w1 (Obj.cells (pt c1 m1 X1 r1) 73)) _ _ _ Ak
  clear B1 Ac AN AO Ad AP AQ Ak
  obtain ⟨AU, AV⟩ := cells2s Am
  obtain ⟨AW, AX⟩ := cells2s An
  have AY := (pt_cells Al).1
  go_wp2_with fail
  refine (KU2.out _ (fatB FF.out B2)).mono ?_
  rintro r w3 ⟨rfl, b3⟩
  have B3 : Below w.heap.size w w3 := btr B2 b3
  have Ae := heap_of b3 _ _ _ Am
  have Af := heap_of b3 _ _ _ An
  have Ao := heap_of b3 _ _ _ AE
  have Ag := heap_of b3 _ _ _ Al
  clear b3 B2 Am AU AV An AW AX AE Al AY
  obtain ⟨AZ, A0⟩ := cells2s Ae
  obtain ⟨A1, A2⟩ := cells2s Af
  have A3 := (pt_cells Ag).1
  have S4 := box B3.size
  have A4 := ltR Ae
  have A5 := ltR Af
  have A6 := ltR Ao
  have A7 := ltR Ag
  have Ap := heap_alloc_last w3 (Obj.cells (pt c2 m2 X2 r2) 73)
  have B4 := btr B3 (bal w3 (Obj.cells (pt c2 m2 X2 r2) 73))
  have Aa := heap_of (bal w3 (Obj.cells (pt c2 m2 X2 r2) 73)) _ _ _ Ae
  have Ab := heap_of (bal w3 (Obj.cells (pt c2 m2 X2 r2) 73)) _ _ _ Af
  have AF := heap_of (bal w3 (Obj.cells (pt c2 m2 X2 r2) 73)) _ _ _ Ao
  have Aq := heap_of (bal w3 (Obj.cells (pt c2 m2 X2 r2) 73)) _ _ _ Ag
  clear B3 Ae AZ A0 Af A1 A2 Ao Ag A3
  obtain ⟨A8, A9⟩ := cells2s Aa
  obtain ⟨Ba, Bb⟩ := cells2s Ab
  have Bc := (pt_cells Aq).1
  have Bd := (pt_cells Ap).1
  have sS : Box (∀ W W1 : World, (Below w.heap.size w W ∧ W.heap[w.heap.size]? = some (.cells #[.int .u64 x1, .int .u64 y1] 25) ∧ W.heap[w.heap.size + 1]? = some (.cells #[.int .u64 x2, .int .u64 y2] 25) ∧ W.heap[w.heap.size + 1 + 1]? = some (.cells #[.int .u64 0, .int .u64 0] 25) ∧ W.heap[w1.heap.size]? = some (.cells (pt c1 m1 X1 r1) 73) ∧ W.heap[w3.heap.size]? = some (.cells (pt c2 m2 X2 r2) 73) ∧ W.cell? ⟨w.heap.size, 0, none⟩ = some (.int .u64 x1) ∧ W.cell? ⟨w.heap.size, 1, none⟩ = some (.int .u64 y1) ∧ W.cell? ⟨w.heap.size + 1, 0, none⟩ = some (.int .u64 x2) ∧ W.cell? ⟨w.heap.size + 1, 1, none⟩ = some (.int .u64 y2)) → Below W.heap.size W W1 → (Below w.heap.size w W1 ∧ W1.heap[w.heap.size]? = some (.cells #[.int .u64 x1, .int .u64 y1] 25) ∧ W1.heap[w.heap.size + 1]? = some (.cells #[.int .u64 x2, .int .u64 y2] 25) ∧ W1.heap[w.heap.size + 1 + 1]? = some (.cells #[.int .u64 0, .int .u64 0] 25) ∧ W1.heap[w1.heap.size]? = some (.cells (pt c1 m1 X1 r1) 73) ∧ W1.heap[w3.heap.size]? = some (.cells (pt c2 m2 X2 r2) 73) ∧ W1.cell? ⟨w.heap.size, 0, none⟩ = some (.int .u64 x1) ∧ W1.cell? ⟨w.heap.size, 1, none⟩ = some (.int .u64 y1) ∧ W1.cell? ⟨w.heap.size + 1, 0, none⟩ = some (.int .u64 x2) ∧ W1.cell? ⟨w.heap.size + 1, 1, none⟩ = some (.int .u64 y2))) := box (fun W W1 h b => ⟨btr h.1 b, heap_of b _ _ _ h.2.1, heap_of b _ _ _ h.2.2.1, heap_of b _ _ _ h.2.2.2.1, heap_of b _ _ _ h.2.2.2.2.1, heap_of b _ _ _ h.2.2.2.2.2.1, cell7 (heap_of b _ _ _ h.2.1) 0 _ rfl, cell7 (heap_of b _ _ _ h.2.1) 1 _ rfl, cell7 (heap_of b _ _ _ h.2.2.1) 0 _ rfl, cell7 (heap_of b _ _ _ h.2.2.1) 1 _ rfl⟩)
  have s0 : Below w.heap.size w ((w3.alloc (Obj.cells (pt c2 m2 X2 r2) 73))).drew ∧ ((w3.alloc (Obj.cells (pt c2 m2 X2 r2) 73))).drew.heap[w.heap.size]? = some (.cells #[.int .u64 x1, .int .u64 y1] 25) ∧ ((w3.alloc (Obj.cells (pt c2 m2 X2 r2) 73))).drew.heap[w.heap.size + 1]? = some (.cells #[.int .u64 x2, .int .u64 y2] 25) ∧ ((w3.alloc (Obj.cells (pt c2 m2 X2 r2) 73))).drew.heap[w.heap.size + 1 + 1]? = some (.cells #[.int .u64 0, .int .u64 0] 25) ∧ ((w3.alloc (Obj.cells (pt c2 m2 X2 r2) 73))).drew.heap[w1.heap.size]? = some (.cells (pt c1 m1 X1 r1) 73) ∧ ((w3.alloc (Obj.cells (pt c2 m2 X2 r2) 73))).drew.heap[w3.heap.size]? = some (.cells (pt c2 m2 X2 r2) 73) ∧ ((w3.alloc (Obj.cells (pt c2 m2 X2 r2) 73))).drew.cell? ⟨w.heap.size, 0, none⟩ = some (.int .u64 x1) ∧ ((w3.alloc (Obj.cells (pt c2 m2 X2 r2) 73))).drew.cell? ⟨w.heap.size, 1, none⟩ = some (.int .u64 y1) ∧ ((w3.alloc (Obj.cells (pt c2 m2 X2 r2) 73))).drew.cell? ⟨w.heap.size + 1, 0, none⟩ = some (.int .u64 x2) ∧ ((w3.alloc (Obj.cells (pt c2 m2 X2 r2) 73))).drew.cell? ⟨w.heap.size + 1, 1, none⟩ = some (.int .u64 y2) := ⟨B4.drew, Aa, Ab, AF, Aq, Ap, cell7 (Aa) 0 _ rfl, cell7 (Aa) 1 _ rfl, cell7 (Ab) 0 _ rfl, cell7 (Ab) 1 _ rfl⟩
  go_wp2_with fail
  go_region_held3 (fun W => Below w.heap.size w W ∧ W.heap[w.heap.size]? = some (.cells #[.int .u64 x1, .int .u64 y1] 25) ∧ W.heap[w.heap.size + 1]? = some (.cells #[.int .u64 x2, .int .u64 y2] 25) ∧ W.heap[w.heap.size + 1 + 1]? = some (.cells #[.int .u64 0, .int .u64 0] 25) ∧ W.heap[w1.heap.size]? = some (.cells (pt c1 m1 X1 r1) 73) ∧ W.heap[w3.heap.size]? = some (.cells (pt c2 m2 X2 r2) 73) ∧ W.cell? ⟨w.heap.size, 0, none⟩ = some (.int .u64 x1) ∧ W.cell? ⟨w.heap.size, 1, none⟩ = some (.int .u64 y1) ∧ W.cell? ⟨w.heap.size + 1, 0, none⟩ = some (.int .u64 x2) ∧ W.cell? ⟨w.heap.size + 1, 1, none⟩ = some (.int .u64 y2)) (first | exact s1 | exact s0)
    (first | (go_at_call_of 25 (Value.agg #[.int .u64 x1, .int .u64 y1]); (first | refine (KS1.out _ (fatB FF.out (And.left s1))).mono ?_ | refine (KS1.out _ (fatB FF.out (And.left s0))).mono ?_); rintro r wq ⟨rfl, bq⟩; (first | have s1 := sS.out _ _ s1 bq | have s1 := sS.out _ _ s0 bq); clear bq) | (go_at_call_of 25 (Value.agg #[.int .u64 x2, .int .u64 y2]); (first | refine (KS2.out _ (fatB FF.out (And.left s1))).mono ?_ | refine (KS2.out _ (fatB FF.out (And.left s0))).mono ?_); rintro r wq ⟨rfl, bq⟩; (first | have s1 := sS.out _ _ s1 bq | have s1 := sS.out _ _ s0 bq); clear bq) | fail)
  have B5 := (And.left s1)
  have Ar := s1.2.1
  have As := s1.2.2.1
  have AG := s1.2.2.2.1
  have At := s1.2.2.2.2.1
  have Au := s1.2.2.2.2.2.1
  clear s0 s1 sS B4 Aa A8 A9 Ab Ba Bb AF Aq Bc Ap Bd
  obtain ⟨Be, Bf⟩ := cells2s Ar
  obtain ⟨Bg, Bh⟩ := cells2s As
  have Bi := (pt_cells At).1
  have Bj := (pt_cells Au).1
  go_wp2_with fail
  refine (KT1.out _).mono ?_
  rintro r w6 ⟨rfl, b6⟩
  have B6 : Below w.heap.size w w6 := btr B5 b6
  have Av := heap_of b6 _ _ _ Ar
  have Aw := heap_of b6 _ _ _ As
  have AH := heap_of b6 _ _ _ AG
  have Ax := heap_of b6 _ _ _ At
  have Ay := heap_of b6 _ _ _ Au
  clear b6 B5 Ar Be Bf As Bg Bh AG At Bi Au Bj
  obtain ⟨Bk, Bl⟩ := cells2s Av
  obtain ⟨Bm, Bn⟩ := cells2s Aw
  have Bo := (pt_cells Ax).1
  have Bp := (pt_cells Ay).1
  go_wp2_with fail
  refine (KT2.out _).mono ?_
  rintro r w7 ⟨rfl, b7⟩
  have B7 : Below w.heap.size w w7 := btr B6 b7
  have Az := heap_of b7 _ _ _ Av
  have AA := heap_of b7 _ _ _ Aw
  have AI := heap_of b7 _ _ _ AH
  have AB := heap_of b7 _ _ _ Ax
  have AC := heap_of b7 _ _ _ Ay
  clear b7 B6 Av Bk Bl Aw Bm Bn AH Ax Bo Ay Bp
  obtain ⟨Bq, Br⟩ := cells2s Az
  obtain ⟨Bs, Bt⟩ := cells2s AA
  have Bu := (pt_cells AB).1
  have Bv := (pt_cells AC).1
  go_wp2_with fail
  refine (KN.out _ (fatB FF.out B7)).mono ?_
  rintro r w8 ⟨rfl, b8⟩
  have B8 : Below w.heap.size w w8 := btr B7 b8
  have Bw := heap_of b8 _ _ _ Az
  have Bx := heap_of b8 _ _ _ AA
  have Ah := heap_of b8 _ _ _ AI
  have By := heap_of b8 _ _ _ AB
  have Bz := heap_of b8 _ _ _ AC
  clear b8 B7 Az Bq Br AA Bs Bt AI AB Bu AC Bv
  obtain ⟨BE, BF⟩ := cells2s Bw
  obtain ⟨BG, BH⟩ := cells2s Bx
  have BI := (pt_cells By).1
  have BJ := (pt_cells Bz).1
  obtain ⟨BK, BL⟩ := cells2s Ah
  have q0 := fz (k := 0) Ah
  have q1 := fz (k := 1) Ah
  obtain ⟨E0, E1⟩ := set2_cells Ah (.int .u64 u) (.int .u64 v)
  go_wp2
  exact bodyPost_ret (v := .tuple #[.agg #[.int .u64 u, .int .u64 v], .int .u8 16, .int .i64 0]) (by simp [results, Tryz.results89, go_sem, E0, E1]) rfl ⟨rfl, set2_below B8 (by first | exact Nat.le_refl _ | omega | (have := S2.out; have := AR.out; have := AS.out; have := AT.out; have := S4.out; have := A4.out; have := A5.out; have := A6.out; have := A7.out; omega)) _ _⟩
theorem mu_ix (f m : Int) (x1 y1 x2 y2 u v : Nat) (c1 m1 : Nat) (X1 : Int) (r1 c2 m2 : Nat) (X2 : Int) (r2 : Nat) (s1 s2 neg : Bool) (w : World) (hng : (!(s1 == s2)) = neg) (h18 : ((c1 : Int) == 8) = false) (h28 : ((c2 : Int) == 8) = false) (h19 : ((c1 : Int) == 9) = false) (h29 : ((c2 : Int) == 9) = false)
    (KU1 : Box (∀ w, FAt w → Calls Tryz.prog 45 #[.int .u8 f, .agg #[.int .u64 x1, .int .u64 y1]] w fun r w' => r = .returned (.tuple #[.agg (pt c1 m1 X1 r1), .int .i64 0]) ∧ Below w.heap.size w w'))
    (KU2 : Box (∀ w, FAt w → Calls Tryz.prog 45 #[.int .u8 f, .agg #[.int .u64 x2, .int .u64 y2]] w fun r w' => r = .returned (.tuple #[.agg (pt c2 m2 X2 r2), .int .i64 0]) ∧ Below w.heap.size w w'))
    (KS1 : Box (∀ w, FAt w → Calls Tryz.prog 25 #[.int .u8 f, .agg #[.int .u64 x1, .int .u64 y1]] w fun r w' => r = .returned (.bool s1) ∧ Below w.heap.size w w'))
    (KS2 : Box (∀ w, FAt w → Calls Tryz.prog 25 #[.int .u8 f, .agg #[.int .u64 x2, .int .u64 y2]] w fun r w' => r = .returned (.bool s2) ∧ Below w.heap.size w w'))
    (KT1 : Box (∀ w, Calls Tryz.prog 171 #[.int .u8 c1, .int .u8 c2] w fun r w' => r = .returned (.bool false) ∧ Below w.heap.size w w'))
    (KT2 : Box (∀ w, Calls Tryz.prog 171 #[.int .u8 c2, .int .u8 c1] w fun r w' => r = .returned (.bool false) ∧ Below w.heap.size w w'))
    (KE1 : Box (∀ w, Calls Tryz.prog 158 #[.int .u8 c1] w fun r w' => r = .returned (.bool true) ∧ Below w.heap.size w w'))
    (KI : Box (∀ w, FAt w → Calls Tryz.prog 172 #[.int .u8 f, .bool neg] w fun r w' => r = .returned (.agg #[.int .u64 u, .int .u64 v]) ∧ Below w.heap.size w w'))
    (hT : FAt w) : Calls Tryz.prog 89 #[.int .u8 f, .int .u8 m, .agg #[.int .u64 x1, .int .u64 y1], .agg #[.int .u64 x2, .int .u64 y2]] w fun r w' => r = .returned (.tuple #[.agg #[.int .u64 u, .int .u64 v], .int .u8 0, .int .i64 0]) ∧ Below w.heap.size w w' := by
  have FF := box hT
  clear hT
  have hat := cw_at 6
  have hz := cw6z
  have hff := cw6f
  have hs0 := st0
  have hcs : ∀ x, ((cw 6 x).size = 6) = True := fun x => eq_true (cw_size 6 x)
  have hp1 := rgf
  have hp5 : ∀ (c : Bool) (s : Nat) (x : Int) (r : Bool), ((rg c s x r).size = 9) = True := fun _ _ _ _ => eq_true rfl
  have BL := ptf
  have BM := ptz
  have BN := st_p0
  have BO : ∀ (c s : Nat) (x : Int) (r : Nat), ((pt c s x r).size = 14) = True := fun _ _ _ _ => eq_true rfl
  obtain ⟨Ai, Aj, AH, B0⟩ := opn3 w (Obj.cells #[.int .u64 x1, .int .u64 y1] 25) (Obj.cells #[.int .u64 x2, .int .u64 y2] 25) (Obj.cells #[.int .u64 0, .int .u64 0] 25)
  go_enter Tryz.func89, Tryz.ntmps89
  obtain ⟨AO, AP⟩ := cells2s Ai
  obtain ⟨AQ, AR⟩ := cells2s Aj
  go_wp2_with fail
  refine (KU1.out _ (fatB FF.out B0)).mono ?_
  rintro r w1 ⟨rfl, b1⟩
  have B1 : Below w.heap.size w w1 := btr B0 b1
  have Ac := heap_of b1 _ _ _ Ai
  have Ad := heap_of b1 _ _ _ Aj
  have Ak := heap_of b1 _ _ _ AH
  clear b1 B0 Ai AO AP Aj AQ AR AH
  obtain ⟨AS, AT⟩ := cells2s Ac
  obtain ⟨AU, AV⟩ := cells2s Ad
  have S2 := box B1.size
  have AW := ltR Ac
  have AX := ltR Ad
  have AY := ltR Ak
  have Al := heap_alloc_last w1 (Obj.cells (pt c1 m1 X1 r1) 73)
  have B2 := btr B1 (bal w1 (Obj.cells (pt c1 m1 X1 r1) 73))
  have Am := heap_of (bal w1 (Obj.cells (pt c1 m1 X1 r1) 73)) _ _ _ Ac
  have An := heap_of (bal w1 (Obj.cells (pt c1 m1 X1 r1) 73)) _ _ _ Ad
  have AI := heap_of (bal w1 (Obj.cells (pt c1 m1 X1 r1) 73)) _ _ _ Ak
  clear B1 Ac AS AT Ad AU AV Ak
  obtain ⟨AZ, A0⟩ := cells2s Am
  obtain ⟨A1, A2⟩ := cells2s An
  have A3 := (pt_cells Al).1
  go_wp2_with fail
  refine (KU2.out _ (fatB FF.out B2)).mono ?_
  rintro r w3 ⟨rfl, b3⟩
  have B3 : Below w.heap.size w w3 := btr B2 b3
  have Ae := heap_of b3 _ _ _ Am
  have Af := heap_of b3 _ _ _ An
  have Ao := heap_of b3 _ _ _ AI
  have Ag := heap_of b3 _ _ _ Al
  clear b3 B2 Am AZ A0 An A1 A2 AI Al A3
  obtain ⟨A4, A5⟩ := cells2s Ae
  obtain ⟨A6, A7⟩ := cells2s Af
  have A8 := (pt_cells Ag).1
  have S4 := box B3.size
  have A9 := ltR Ae
  have Ba := ltR Af
  have Bb := ltR Ao
  have Bc := ltR Ag
  have Ap := heap_alloc_last w3 (Obj.cells (pt c2 m2 X2 r2) 73)
  have B4 := btr B3 (bal w3 (Obj.cells (pt c2 m2 X2 r2) 73))
  have Aa := heap_of (bal w3 (Obj.cells (pt c2 m2 X2 r2) 73)) _ _ _ Ae
  have Ab := heap_of (bal w3 (Obj.cells (pt c2 m2 X2 r2) 73)) _ _ _ Af
  have AJ := heap_of (bal w3 (Obj.cells (pt c2 m2 X2 r2) 73)) _ _ _ Ao
  have Aq := heap_of (bal w3 (Obj.cells (pt c2 m2 X2 r2) 73)) _ _ _ Ag
  clear B3 Ae A4 A5 Af A6 A7 Ao Ag A8
  obtain ⟨Bd, Be⟩ := cells2s Aa
  obtain ⟨Bf, Bg⟩ := cells2s Ab
  have Bh := (pt_cells Aq).1
  have Bi := (pt_cells Ap).1
  have sS : Box (∀ W W1 : World, (Below w.heap.size w W ∧ W.heap[w.heap.size]? = some (.cells #[.int .u64 x1, .int .u64 y1] 25) ∧ W.heap[w.heap.size + 1]? = some (.cells #[.int .u64 x2, .int .u64 y2] 25) ∧ W.heap[w.heap.size + 1 + 1]? = some (.cells #[.int .u64 0, .int .u64 0] 25) ∧ W.heap[w1.heap.size]? = some (.cells (pt c1 m1 X1 r1) 73) ∧ W.heap[w3.heap.size]? = some (.cells (pt c2 m2 X2 r2) 73) ∧ W.cell? ⟨w.heap.size, 0, none⟩ = some (.int .u64 x1) ∧ W.cell? ⟨w.heap.size, 1, none⟩ = some (.int .u64 y1) ∧ W.cell? ⟨w.heap.size + 1, 0, none⟩ = some (.int .u64 x2) ∧ W.cell? ⟨w.heap.size + 1, 1, none⟩ = some (.int .u64 y2)) → Below W.heap.size W W1 → (Below w.heap.size w W1 ∧ W1.heap[w.heap.size]? = some (.cells #[.int .u64 x1, .int .u64 y1] 25) ∧ W1.heap[w.heap.size + 1]? = some (.cells #[.int .u64 x2, .int .u64 y2] 25) ∧ W1.heap[w.heap.size + 1 + 1]? = some (.cells #[.int .u64 0, .int .u64 0] 25) ∧ W1.heap[w1.heap.size]? = some (.cells (pt c1 m1 X1 r1) 73) ∧ W1.heap[w3.heap.size]? = some (.cells (pt c2 m2 X2 r2) 73) ∧ W1.cell? ⟨w.heap.size, 0, none⟩ = some (.int .u64 x1) ∧ W1.cell? ⟨w.heap.size, 1, none⟩ = some (.int .u64 y1) ∧ W1.cell? ⟨w.heap.size + 1, 0, none⟩ = some (.int .u64 x2) ∧ W1.cell? ⟨w.heap.size + 1, 1, none⟩ = some (.int .u64 y2))) := box (fun W W1 h b => ⟨btr h.1 b, heap_of b _ _ _ h.2.1, heap_of b _ _ _ h.2.2.1, heap_of b _ _ _ h.2.2.2.1, heap_of b _ _ _ h.2.2.2.2.1, heap_of b _ _ _ h.2.2.2.2.2.1, cell7 (heap_of b _ _ _ h.2.1) 0 _ rfl, cell7 (heap_of b _ _ _ h.2.1) 1 _ rfl, cell7 (heap_of b _ _ _ h.2.2.1) 0 _ rfl, cell7 (heap_of b _ _ _ h.2.2.1) 1 _ rfl⟩)
  have s0 : Below w.heap.size w ((w3.alloc (Obj.cells (pt c2 m2 X2 r2) 73))).drew ∧ ((w3.alloc (Obj.cells (pt c2 m2 X2 r2) 73))).drew.heap[w.heap.size]? = some (.cells #[.int .u64 x1, .int .u64 y1] 25) ∧ ((w3.alloc (Obj.cells (pt c2 m2 X2 r2) 73))).drew.heap[w.heap.size + 1]? = some (.cells #[.int .u64 x2, .int .u64 y2] 25) ∧ ((w3.alloc (Obj.cells (pt c2 m2 X2 r2) 73))).drew.heap[w.heap.size + 1 + 1]? = some (.cells #[.int .u64 0, .int .u64 0] 25) ∧ ((w3.alloc (Obj.cells (pt c2 m2 X2 r2) 73))).drew.heap[w1.heap.size]? = some (.cells (pt c1 m1 X1 r1) 73) ∧ ((w3.alloc (Obj.cells (pt c2 m2 X2 r2) 73))).drew.heap[w3.heap.size]? = some (.cells (pt c2 m2 X2 r2) 73) ∧ ((w3.alloc (Obj.cells (pt c2 m2 X2 r2) 73))).drew.cell? ⟨w.heap.size, 0, none⟩ = some (.int .u64 x1) ∧ ((w3.alloc (Obj.cells (pt c2 m2 X2 r2) 73))).drew.cell? ⟨w.heap.size, 1, none⟩ = some (.int .u64 y1) ∧ ((w3.alloc (Obj.cells (pt c2 m2 X2 r2) 73))).drew.cell? ⟨w.heap.size + 1, 0, none⟩ = some (.int .u64 x2) ∧ ((w3.alloc (Obj.cells (pt c2 m2 X2 r2) 73))).drew.cell? ⟨w.heap.size + 1, 1, none⟩ = some (.int .u64 y2) := ⟨B4.drew, Aa, Ab, AJ, Aq, Ap, cell7 (Aa) 0 _ rfl, cell7 (Aa) 1 _ rfl, cell7 (Ab) 0 _ rfl, cell7 (Ab) 1 _ rfl⟩
  go_wp2_with fail
  go_region_held3 (fun W => Below w.heap.size w W ∧ W.heap[w.heap.size]? = some (.cells #[.int .u64 x1, .int .u64 y1] 25) ∧ W.heap[w.heap.size + 1]? = some (.cells #[.int .u64 x2, .int .u64 y2] 25) ∧ W.heap[w.heap.size + 1 + 1]? = some (.cells #[.int .u64 0, .int .u64 0] 25) ∧ W.heap[w1.heap.size]? = some (.cells (pt c1 m1 X1 r1) 73) ∧ W.heap[w3.heap.size]? = some (.cells (pt c2 m2 X2 r2) 73) ∧ W.cell? ⟨w.heap.size, 0, none⟩ = some (.int .u64 x1) ∧ W.cell? ⟨w.heap.size, 1, none⟩ = some (.int .u64 y1) ∧ W.cell? ⟨w.heap.size + 1, 0, none⟩ = some (.int .u64 x2) ∧ W.cell? ⟨w.heap.size + 1, 1, none⟩ = some (.int .u64 y2)) (first | exact s1 | exact s0)
    (first | (go_at_call_of 25 (Value.agg #[.int .u64 x1, .int .u64 y1]); (first | refine (KS1.out _ (fatB FF.out (And.left s1))).mono ?_ | refine (KS1.out _ (fatB FF.out (And.left s0))).mono ?_); rintro r wq ⟨rfl, bq⟩; (first | have s1 := sS.out _ _ s1 bq | have s1 := sS.out _ _ s0 bq); clear bq) | (go_at_call_of 25 (Value.agg #[.int .u64 x2, .int .u64 y2]); (first | refine (KS2.out _ (fatB FF.out (And.left s1))).mono ?_ | refine (KS2.out _ (fatB FF.out (And.left s0))).mono ?_); rintro r wq ⟨rfl, bq⟩; (first | have s1 := sS.out _ _ s1 bq | have s1 := sS.out _ _ s0 bq); clear bq) | fail)
  have B5 := (And.left s1)
  have Ar := s1.2.1
  have As := s1.2.2.1
  have AK := s1.2.2.2.1
  have At := s1.2.2.2.2.1
  have Au := s1.2.2.2.2.2.1
  clear s0 s1 sS B4 Aa Bd Be Ab Bf Bg AJ Aq Bh Ap Bi
  obtain ⟨Bj, Bk⟩ := cells2s Ar
  obtain ⟨Bl, Bm⟩ := cells2s As
  have Bn := (pt_cells At).1
  have Bo := (pt_cells Au).1
  go_wp2_with fail
  refine (KT1.out _).mono ?_
  rintro r w6 ⟨rfl, b6⟩
  have B6 : Below w.heap.size w w6 := btr B5 b6
  have Av := heap_of b6 _ _ _ Ar
  have Aw := heap_of b6 _ _ _ As
  have AL := heap_of b6 _ _ _ AK
  have Ax := heap_of b6 _ _ _ At
  have Ay := heap_of b6 _ _ _ Au
  clear b6 B5 Ar Bj Bk As Bl Bm AK At Bn Au Bo
  obtain ⟨Bp, Bq⟩ := cells2s Av
  obtain ⟨Br, Bs⟩ := cells2s Aw
  have Bt := (pt_cells Ax).1
  have Bu := (pt_cells Ay).1
  go_wp2_with fail
  refine (KT2.out _).mono ?_
  rintro r w7 ⟨rfl, b7⟩
  have B7 : Below w.heap.size w w7 := btr B6 b7
  have Az := heap_of b7 _ _ _ Av
  have AA := heap_of b7 _ _ _ Aw
  have AM := heap_of b7 _ _ _ AL
  have AB := heap_of b7 _ _ _ Ax
  have AC := heap_of b7 _ _ _ Ay
  clear b7 B6 Av Bp Bq Aw Br Bs AL Ax Bt Ay Bu
  obtain ⟨Bv, Bw⟩ := cells2s Az
  obtain ⟨Bx, By⟩ := cells2s AA
  have Bz := (pt_cells AB).1
  have BA := (pt_cells AC).1
  go_wp2_with fail
  refine (KE1.out _).mono ?_
  rintro r w8 ⟨rfl, b8⟩
  have B8 : Below w.heap.size w w8 := btr B7 b8
  have AD := heap_of b8 _ _ _ Az
  have AE := heap_of b8 _ _ _ AA
  have AN := heap_of b8 _ _ _ AM
  have AF := heap_of b8 _ _ _ AB
  have AG := heap_of b8 _ _ _ AC
  clear b8 B7 Az Bv Bw AA Bx By AM AB Bz AC BA
  obtain ⟨BB, BC⟩ := cells2s AD
  obtain ⟨BD, BE⟩ := cells2s AE
  have BF := (pt_cells AF).1
  have BG := (pt_cells AG).1
  go_wp2_with fail
  refine (KI.out _ (fatB FF.out B8)).mono ?_
  rintro r w9 ⟨rfl, b9⟩
  have B9 : Below w.heap.size w w9 := btr B8 b9
  have BH := heap_of b9 _ _ _ AD
  have BI := heap_of b9 _ _ _ AE
  have Ah := heap_of b9 _ _ _ AN
  have BJ := heap_of b9 _ _ _ AF
  have BK := heap_of b9 _ _ _ AG
  clear b9 B8 AD BB BC AE BD BE AN AF BF AG BG
  obtain ⟨BP, BQ⟩ := cells2s BH
  obtain ⟨BR, BS⟩ := cells2s BI
  have BT := (pt_cells BJ).1
  have BU := (pt_cells BK).1
  obtain ⟨BV, BW⟩ := cells2s Ah
  have q0 := fz (k := 0) Ah
  have q1 := fz (k := 1) Ah
  obtain ⟨E0, E1⟩ := set2_cells Ah (.int .u64 u) (.int .u64 v)
  go_wp2
  exact bodyPost_ret (v := .tuple #[.agg #[.int .u64 u, .int .u64 v], .int .u8 0, .int .i64 0]) (by simp [results, Tryz.results89, go_sem, E0, E1]) rfl ⟨rfl, set2_below B9 (by first | exact Nat.le_refl _ | omega | (have := S2.out; have := AW.out; have := AX.out; have := AY.out; have := S4.out; have := A9.out; have := Ba.out; have := Bb.out; have := Bc.out; omega)) _ _⟩
theorem mu_iy (f m : Int) (x1 y1 x2 y2 u v : Nat) (c1 m1 : Nat) (X1 : Int) (r1 c2 m2 : Nat) (X2 : Int) (r2 : Nat) (s1 s2 neg : Bool) (w : World) (hng : (!(s1 == s2)) = neg) (h18 : ((c1 : Int) == 8) = false) (h28 : ((c2 : Int) == 8) = false) (h19 : ((c1 : Int) == 9) = false) (h29 : ((c2 : Int) == 9) = false)
    (KU1 : Box (∀ w, FAt w → Calls Tryz.prog 45 #[.int .u8 f, .agg #[.int .u64 x1, .int .u64 y1]] w fun r w' => r = .returned (.tuple #[.agg (pt c1 m1 X1 r1), .int .i64 0]) ∧ Below w.heap.size w w'))
    (KU2 : Box (∀ w, FAt w → Calls Tryz.prog 45 #[.int .u8 f, .agg #[.int .u64 x2, .int .u64 y2]] w fun r w' => r = .returned (.tuple #[.agg (pt c2 m2 X2 r2), .int .i64 0]) ∧ Below w.heap.size w w'))
    (KS1 : Box (∀ w, FAt w → Calls Tryz.prog 25 #[.int .u8 f, .agg #[.int .u64 x1, .int .u64 y1]] w fun r w' => r = .returned (.bool s1) ∧ Below w.heap.size w w'))
    (KS2 : Box (∀ w, FAt w → Calls Tryz.prog 25 #[.int .u8 f, .agg #[.int .u64 x2, .int .u64 y2]] w fun r w' => r = .returned (.bool s2) ∧ Below w.heap.size w w'))
    (KT1 : Box (∀ w, Calls Tryz.prog 171 #[.int .u8 c1, .int .u8 c2] w fun r w' => r = .returned (.bool false) ∧ Below w.heap.size w w'))
    (KT2 : Box (∀ w, Calls Tryz.prog 171 #[.int .u8 c2, .int .u8 c1] w fun r w' => r = .returned (.bool false) ∧ Below w.heap.size w w'))
    (KE1 : Box (∀ w, Calls Tryz.prog 158 #[.int .u8 c1] w fun r w' => r = .returned (.bool false) ∧ Below w.heap.size w w'))
    (KE2 : Box (∀ w, Calls Tryz.prog 158 #[.int .u8 c2] w fun r w' => r = .returned (.bool true) ∧ Below w.heap.size w w'))
    (KI : Box (∀ w, FAt w → Calls Tryz.prog 172 #[.int .u8 f, .bool neg] w fun r w' => r = .returned (.agg #[.int .u64 u, .int .u64 v]) ∧ Below w.heap.size w w'))
    (hT : FAt w) : Calls Tryz.prog 89 #[.int .u8 f, .int .u8 m, .agg #[.int .u64 x1, .int .u64 y1], .agg #[.int .u64 x2, .int .u64 y2]] w fun r w' => r = .returned (.tuple #[.agg #[.int .u64 u, .int .u64 v], .int .u8 0, .int .i64 0]) ∧ Below w.heap.size w w' := by
  have FF := box hT
  clear hT
  have hat := cw_at 6
  have hz := cw6z
  have hff := cw6f
  have hs0 := st0
  have hcs : ∀ x, ((cw 6 x).size = 6) = True := fun x => eq_true (cw_size 6 x)
  have hp1 := rgf
  have hp5 : ∀ (c : Bool) (s : Nat) (x : Int) (r : Bool), ((rg c s x r).size = 9) = True := fun _ _ _ _ => eq_true rfl
  have BW := ptf
  have BX := ptz
  have BY := st_p0
  have BZ : ∀ (c s : Nat) (x : Int) (r : Nat), ((pt c s x r).size = 14) = True := fun _ _ _ _ => eq_true rfl
  obtain ⟨Ai, Aj, AL, B0⟩ := opn3 w (Obj.cells #[.int .u64 x1, .int .u64 y1] 25) (Obj.cells #[.int .u64 x2, .int .u64 y2] 25) (Obj.cells #[.int .u64 0, .int .u64 0] 25)
  go_enter Tryz.func89, Tryz.ntmps89
  obtain ⟨AT, AU⟩ := cells2s Ai
  obtain ⟨AV, AW⟩ := cells2s Aj
  go_wp2_with fail
  refine (KU1.out _ (fatB FF.out B0)).mono ?_
  rintro r w1 ⟨rfl, b1⟩
  have B1 : Below w.heap.size w w1 := btr B0 b1
  have Ac := heap_of b1 _ _ _ Ai
  have Ad := heap_of b1 _ _ _ Aj
  have Ak := heap_of b1 _ _ _ AL
  clear b1 B0 Ai AT AU Aj AV AW AL
  obtain ⟨AX, AY⟩ := cells2s Ac
  obtain ⟨AZ, A0⟩ := cells2s Ad
  have S2 := box B1.size
  have A1 := ltR Ac
  have A2 := ltR Ad
  have A3 := ltR Ak
  have Al := heap_alloc_last w1 (Obj.cells (pt c1 m1 X1 r1) 73)
  have B2 := btr B1 (bal w1 (Obj.cells (pt c1 m1 X1 r1) 73))
  have Am := heap_of (bal w1 (Obj.cells (pt c1 m1 X1 r1) 73)) _ _ _ Ac
  have An := heap_of (bal w1 (Obj.cells (pt c1 m1 X1 r1) 73)) _ _ _ Ad
  have AM := heap_of (bal w1 (Obj.cells (pt c1 m1 X1 r1) 73)) _ _ _ Ak
  clear B1 Ac AX AY Ad AZ A0 Ak
  obtain ⟨A4, A5⟩ := cells2s Am
  obtain ⟨A6, A7⟩ := cells2s An
  have A8 := (pt_cells Al).1
  go_wp2_with fail
  refine (KU2.out _ (fatB FF.out B2)).mono ?_
  rintro r w3 ⟨rfl, b3⟩
  have B3 : Below w.heap.size w w3 := btr B2 b3
  have Ae := heap_of b3 _ _ _ Am
  have Af := heap_of b3 _ _ _ An
  have Ao := heap_of b3 _ _ _ AM
  have Ag := heap_of b3 _ _ _ Al
  clear b3 B2 Am A4 A5 An A6 A7 AM Al A8
  obtain ⟨A9, Ba⟩ := cells2s Ae
  obtain ⟨Bb, Bc⟩ := cells2s Af
  have Bd := (pt_cells Ag).1
  have S4 := box B3.size
  have Be := ltR Ae
  have Bf := ltR Af
  have Bg := ltR Ao
  have Bh := ltR Ag
  have Ap := heap_alloc_last w3 (Obj.cells (pt c2 m2 X2 r2) 73)
  have B4 := btr B3 (bal w3 (Obj.cells (pt c2 m2 X2 r2) 73))
  have Aa := heap_of (bal w3 (Obj.cells (pt c2 m2 X2 r2) 73)) _ _ _ Ae
  have Ab := heap_of (bal w3 (Obj.cells (pt c2 m2 X2 r2) 73)) _ _ _ Af
  have AN := heap_of (bal w3 (Obj.cells (pt c2 m2 X2 r2) 73)) _ _ _ Ao
  have Aq := heap_of (bal w3 (Obj.cells (pt c2 m2 X2 r2) 73)) _ _ _ Ag
  clear B3 Ae A9 Ba Af Bb Bc Ao Ag Bd
  obtain ⟨Bi, Bj⟩ := cells2s Aa
  obtain ⟨Bk, Bl⟩ := cells2s Ab
  have Bm := (pt_cells Aq).1
  have Bn := (pt_cells Ap).1
  have sS : Box (∀ W W1 : World, (Below w.heap.size w W ∧ W.heap[w.heap.size]? = some (.cells #[.int .u64 x1, .int .u64 y1] 25) ∧ W.heap[w.heap.size + 1]? = some (.cells #[.int .u64 x2, .int .u64 y2] 25) ∧ W.heap[w.heap.size + 1 + 1]? = some (.cells #[.int .u64 0, .int .u64 0] 25) ∧ W.heap[w1.heap.size]? = some (.cells (pt c1 m1 X1 r1) 73) ∧ W.heap[w3.heap.size]? = some (.cells (pt c2 m2 X2 r2) 73) ∧ W.cell? ⟨w.heap.size, 0, none⟩ = some (.int .u64 x1) ∧ W.cell? ⟨w.heap.size, 1, none⟩ = some (.int .u64 y1) ∧ W.cell? ⟨w.heap.size + 1, 0, none⟩ = some (.int .u64 x2) ∧ W.cell? ⟨w.heap.size + 1, 1, none⟩ = some (.int .u64 y2)) → Below W.heap.size W W1 → (Below w.heap.size w W1 ∧ W1.heap[w.heap.size]? = some (.cells #[.int .u64 x1, .int .u64 y1] 25) ∧ W1.heap[w.heap.size + 1]? = some (.cells #[.int .u64 x2, .int .u64 y2] 25) ∧ W1.heap[w.heap.size + 1 + 1]? = some (.cells #[.int .u64 0, .int .u64 0] 25) ∧ W1.heap[w1.heap.size]? = some (.cells (pt c1 m1 X1 r1) 73) ∧ W1.heap[w3.heap.size]? = some (.cells (pt c2 m2 X2 r2) 73) ∧ W1.cell? ⟨w.heap.size, 0, none⟩ = some (.int .u64 x1) ∧ W1.cell? ⟨w.heap.size, 1, none⟩ = some (.int .u64 y1) ∧ W1.cell? ⟨w.heap.size + 1, 0, none⟩ = some (.int .u64 x2) ∧ W1.cell? ⟨w.heap.size + 1, 1, none⟩ = some (.int .u64 y2))) := box (fun W W1 h b => ⟨btr h.1 b, heap_of b _ _ _ h.2.1, heap_of b _ _ _ h.2.2.1, heap_of b _ _ _ h.2.2.2.1, heap_of b _ _ _ h.2.2.2.2.1, heap_of b _ _ _ h.2.2.2.2.2.1, cell7 (heap_of b _ _ _ h.2.1) 0 _ rfl, cell7 (heap_of b _ _ _ h.2.1) 1 _ rfl, cell7 (heap_of b _ _ _ h.2.2.1) 0 _ rfl, cell7 (heap_of b _ _ _ h.2.2.1) 1 _ rfl⟩)
  have s0 : Below w.heap.size w ((w3.alloc (Obj.cells (pt c2 m2 X2 r2) 73))).drew ∧ ((w3.alloc (Obj.cells (pt c2 m2 X2 r2) 73))).drew.heap[w.heap.size]? = some (.cells #[.int .u64 x1, .int .u64 y1] 25) ∧ ((w3.alloc (Obj.cells (pt c2 m2 X2 r2) 73))).drew.heap[w.heap.size + 1]? = some (.cells #[.int .u64 x2, .int .u64 y2] 25) ∧ ((w3.alloc (Obj.cells (pt c2 m2 X2 r2) 73))).drew.heap[w.heap.size + 1 + 1]? = some (.cells #[.int .u64 0, .int .u64 0] 25) ∧ ((w3.alloc (Obj.cells (pt c2 m2 X2 r2) 73))).drew.heap[w1.heap.size]? = some (.cells (pt c1 m1 X1 r1) 73) ∧ ((w3.alloc (Obj.cells (pt c2 m2 X2 r2) 73))).drew.heap[w3.heap.size]? = some (.cells (pt c2 m2 X2 r2) 73) ∧ ((w3.alloc (Obj.cells (pt c2 m2 X2 r2) 73))).drew.cell? ⟨w.heap.size, 0, none⟩ = some (.int .u64 x1) ∧ ((w3.alloc (Obj.cells (pt c2 m2 X2 r2) 73))).drew.cell? ⟨w.heap.size, 1, none⟩ = some (.int .u64 y1) ∧ ((w3.alloc (Obj.cells (pt c2 m2 X2 r2) 73))).drew.cell? ⟨w.heap.size + 1, 0, none⟩ = some (.int .u64 x2) ∧ ((w3.alloc (Obj.cells (pt c2 m2 X2 r2) 73))).drew.cell? ⟨w.heap.size + 1, 1, none⟩ = some (.int .u64 y2) := ⟨B4.drew, Aa, Ab, AN, Aq, Ap, cell7 (Aa) 0 _ rfl, cell7 (Aa) 1 _ rfl, cell7 (Ab) 0 _ rfl, cell7 (Ab) 1 _ rfl⟩
  go_wp2_with fail
  go_region_held3 (fun W => Below w.heap.size w W ∧ W.heap[w.heap.size]? = some (.cells #[.int .u64 x1, .int .u64 y1] 25) ∧ W.heap[w.heap.size + 1]? = some (.cells #[.int .u64 x2, .int .u64 y2] 25) ∧ W.heap[w.heap.size + 1 + 1]? = some (.cells #[.int .u64 0, .int .u64 0] 25) ∧ W.heap[w1.heap.size]? = some (.cells (pt c1 m1 X1 r1) 73) ∧ W.heap[w3.heap.size]? = some (.cells (pt c2 m2 X2 r2) 73) ∧ W.cell? ⟨w.heap.size, 0, none⟩ = some (.int .u64 x1) ∧ W.cell? ⟨w.heap.size, 1, none⟩ = some (.int .u64 y1) ∧ W.cell? ⟨w.heap.size + 1, 0, none⟩ = some (.int .u64 x2) ∧ W.cell? ⟨w.heap.size + 1, 1, none⟩ = some (.int .u64 y2)) (first | exact s1 | exact s0)
    (first | (go_at_call_of 25 (Value.agg #[.int .u64 x1, .int .u64 y1]); (first | refine (KS1.out _ (fatB FF.out (And.left s1))).mono ?_ | refine (KS1.out _ (fatB FF.out (And.left s0))).mono ?_); rintro r wq ⟨rfl, bq⟩; (first | have s1 := sS.out _ _ s1 bq | have s1 := sS.out _ _ s0 bq); clear bq) | (go_at_call_of 25 (Value.agg #[.int .u64 x2, .int .u64 y2]); (first | refine (KS2.out _ (fatB FF.out (And.left s1))).mono ?_ | refine (KS2.out _ (fatB FF.out (And.left s0))).mono ?_); rintro r wq ⟨rfl, bq⟩; (first | have s1 := sS.out _ _ s1 bq | have s1 := sS.out _ _ s0 bq); clear bq) | fail)
  have B5 := (And.left s1)
  have Ar := s1.2.1
  have As := s1.2.2.1
  have AO := s1.2.2.2.1
  have At := s1.2.2.2.2.1
  have Au := s1.2.2.2.2.2.1
  clear s0 s1 sS B4 Aa Bi Bj Ab Bk Bl AN Aq Bm Ap Bn
  obtain ⟨Bo, Bp⟩ := cells2s Ar
  obtain ⟨Bq, Br⟩ := cells2s As
  have Bs := (pt_cells At).1
  have Bt := (pt_cells Au).1
  go_wp2_with fail
  refine (KT1.out _).mono ?_
  rintro r w6 ⟨rfl, b6⟩
  have B6 : Below w.heap.size w w6 := btr B5 b6
  have Av := heap_of b6 _ _ _ Ar
  have Aw := heap_of b6 _ _ _ As
  have AP := heap_of b6 _ _ _ AO
  have Ax := heap_of b6 _ _ _ At
  have Ay := heap_of b6 _ _ _ Au
  clear b6 B5 Ar Bo Bp As Bq Br AO At Bs Au Bt
  obtain ⟨Bu, Bv⟩ := cells2s Av
  obtain ⟨Bw, Bx⟩ := cells2s Aw
  have By := (pt_cells Ax).1
  have Bz := (pt_cells Ay).1
  go_wp2_with fail
  refine (KT2.out _).mono ?_
  rintro r w7 ⟨rfl, b7⟩
  have B7 : Below w.heap.size w w7 := btr B6 b7
  have Az := heap_of b7 _ _ _ Av
  have AA := heap_of b7 _ _ _ Aw
  have AQ := heap_of b7 _ _ _ AP
  have AB := heap_of b7 _ _ _ Ax
  have AC := heap_of b7 _ _ _ Ay
  clear b7 B6 Av Bu Bv Aw Bw Bx AP Ax By Ay Bz
  obtain ⟨BA, BB⟩ := cells2s Az
  obtain ⟨BC, BD⟩ := cells2s AA
  have BE := (pt_cells AB).1
  have BF := (pt_cells AC).1
  go_wp2_with fail
  refine (KE1.out _).mono ?_
  rintro r w8 ⟨rfl, b8⟩
  have B8 : Below w.heap.size w w8 := btr B7 b8
  have AD := heap_of b8 _ _ _ Az
  have AE := heap_of b8 _ _ _ AA
  have AR := heap_of b8 _ _ _ AQ
  have AF := heap_of b8 _ _ _ AB
  have AG := heap_of b8 _ _ _ AC
  clear b8 B7 Az BA BB AA BC BD AQ AB BE AC BF
  obtain ⟨BG, BH⟩ := cells2s AD
  obtain ⟨BI, BJ⟩ := cells2s AE
  have BK := (pt_cells AF).1
  have BL := (pt_cells AG).1
  go_wp2_with fail
  refine (KE2.out _).mono ?_
  rintro r w9 ⟨rfl, b9⟩
  have B9 : Below w.heap.size w w9 := btr B8 b9
  have AH := heap_of b9 _ _ _ AD
  have AI := heap_of b9 _ _ _ AE
  have AS := heap_of b9 _ _ _ AR
  have AJ := heap_of b9 _ _ _ AF
  have AK := heap_of b9 _ _ _ AG
  clear b9 B8 AD BG BH AE BI BJ AR AF BK AG BL
  obtain ⟨BM, BN⟩ := cells2s AH
  obtain ⟨BO, BP⟩ := cells2s AI
  have BQ := (pt_cells AJ).1
  have BR := (pt_cells AK).1
  go_wp2_with fail
  refine (KI.out _ (fatB FF.out B9)).mono ?_
  rintro r w10 ⟨rfl, b10⟩
  have B10 : Below w.heap.size w w10 := btr B9 b10
  have BS := heap_of b10 _ _ _ AH
  have BT := heap_of b10 _ _ _ AI
  have Ah := heap_of b10 _ _ _ AS
  have BU := heap_of b10 _ _ _ AJ
  have BV := heap_of b10 _ _ _ AK
  clear b10 B9 AH BM BN AI BO BP AS AJ BQ AK BR
  obtain ⟨Ca, Cb⟩ := cells2s BS
  obtain ⟨Cc, Cd⟩ := cells2s BT
  have Ce := (pt_cells BU).1
  have Cf := (pt_cells BV).1
  obtain ⟨Cg, Ch⟩ := cells2s Ah
  have q0 := fz (k := 0) Ah
  have q1 := fz (k := 1) Ah
  obtain ⟨E0, E1⟩ := set2_cells Ah (.int .u64 u) (.int .u64 v)
  go_wp2
  exact bodyPost_ret (v := .tuple #[.agg #[.int .u64 u, .int .u64 v], .int .u8 0, .int .i64 0]) (by simp [results, Tryz.results89, go_sem, E0, E1]) rfl ⟨rfl, set2_below B10 (by first | exact Nat.le_refl _ | omega | (have := S2.out; have := A1.out; have := A2.out; have := A3.out; have := S4.out; have := Be.out; have := Bf.out; have := Bg.out; have := Bh.out; omega)) _ _⟩
theorem mu_fin (f m : Int) (x1 y1 x2 y2 u v : Nat) (c1 m1 : Nat) (X1 : Int) (r1 c2 m2 : Nat) (X2 : Int) (r2 : Nat) (s1 s2 neg : Bool) (w : World) (hng : (!(s1 == s2)) = neg) (h18 : ((c1 : Int) == 8) = false) (h28 : ((c2 : Int) == 8) = false) (h19 : ((c1 : Int) == 9) = false) (h29 : ((c2 : Int) == 9) = false)
    (KU1 : Box (∀ w, FAt w → Calls Tryz.prog 45 #[.int .u8 f, .agg #[.int .u64 x1, .int .u64 y1]] w fun r w' => r = .returned (.tuple #[.agg (pt c1 m1 X1 r1), .int .i64 0]) ∧ Below w.heap.size w w'))
    (KU2 : Box (∀ w, FAt w → Calls Tryz.prog 45 #[.int .u8 f, .agg #[.int .u64 x2, .int .u64 y2]] w fun r w' => r = .returned (.tuple #[.agg (pt c2 m2 X2 r2), .int .i64 0]) ∧ Below w.heap.size w w'))
    (KS1 : Box (∀ w, FAt w → Calls Tryz.prog 25 #[.int .u8 f, .agg #[.int .u64 x1, .int .u64 y1]] w fun r w' => r = .returned (.bool s1) ∧ Below w.heap.size w w'))
    (KS2 : Box (∀ w, FAt w → Calls Tryz.prog 25 #[.int .u8 f, .agg #[.int .u64 x2, .int .u64 y2]] w fun r w' => r = .returned (.bool s2) ∧ Below w.heap.size w w'))
    (KT1 : Box (∀ w, Calls Tryz.prog 171 #[.int .u8 c1, .int .u8 c2] w fun r w' => r = .returned (.bool false) ∧ Below w.heap.size w w'))
    (KT2 : Box (∀ w, Calls Tryz.prog 171 #[.int .u8 c2, .int .u8 c1] w fun r w' => r = .returned (.bool false) ∧ Below w.heap.size w w'))
    (KE1 : Box (∀ w, Calls Tryz.prog 158 #[.int .u8 c1] w fun r w' => r = .returned (.bool false) ∧ Below w.heap.size w w'))
    (KE2 : Box (∀ w, Calls Tryz.prog 158 #[.int .u8 c2] w fun r w' => r = .returned (.bool false) ∧ Below w.heap.size w w'))
    (S : Nat) (X fl : Int) (KX : Box (∀ w, Calls Tryz.prog 173 #[.bool neg, .agg (pt c1 m1 X1 r1), .agg (pt c2 m2 X2 r2)] w fun r w' => r = .returned (.agg (rg neg S X false)) ∧ Below w.heap.size w w'))
    (KP : Box (∀ w, FAt w → Calls Tryz.prog 93 #[.int .u8 f, .int .u8 m, .agg (rg neg S X false)] w fun r w' => r = .returned (.tuple #[.agg #[.int .u64 u, .int .u64 v], .int .u8 fl, .int .i64 0]) ∧ Below w.heap.size w w'))
    (hT : FAt w) : Calls Tryz.prog 89 #[.int .u8 f, .int .u8 m, .agg #[.int .u64 x1, .int .u64 y1], .agg #[.int .u64 x2, .int .u64 y2]] w fun r w' => r = .returned (.tuple #[.agg #[.int .u64 u, .int .u64 v], .int .u8 fl, .int .i64 0]) ∧ Below w.heap.size w w' := by
  have FF := box hT
  clear hT
  have hat := cw_at 6
  have hz := cw6z
  have hff := cw6f
  have hs0 := st0
  have hcs : ∀ x, ((cw 6 x).size = 6) = True := fun x => eq_true (cw_size 6 x)
  have hp1 := rgf
  have hp5 : ∀ (c : Bool) (s : Nat) (x : Int) (r : Bool), ((rg c s x r).size = 9) = True := fun _ _ _ _ => eq_true rfl
  have CZ := ptf
  have C0 := ptz
  have C1 := st_p0
  have C2 : ∀ (c s : Nat) (x : Int) (r : Nat), ((pt c s x r).size = 14) = True := fun _ _ _ _ => eq_true rfl
  obtain ⟨Ak, Al, AN, B0⟩ := opn3 w (Obj.cells #[.int .u64 x1, .int .u64 y1] 25) (Obj.cells #[.int .u64 x2, .int .u64 y2] 25) (Obj.cells #[.int .u64 0, .int .u64 0] 25)
  go_enter Tryz.func89, Tryz.ntmps89
  obtain ⟨A0, A1⟩ := cells2s Ak
  obtain ⟨A2, A3⟩ := cells2s Al
  go_wp2_with fail
  refine (KU1.out _ (fatB FF.out B0)).mono ?_
  rintro r w1 ⟨rfl, b1⟩
  have B1 : Below w.heap.size w w1 := btr B0 b1
  have Ac := heap_of b1 _ _ _ Ak
  have Ad := heap_of b1 _ _ _ Al
  have Am := heap_of b1 _ _ _ AN
  clear b1 B0 Ak A0 A1 Al A2 A3 AN
  obtain ⟨A4, A5⟩ := cells2s Ac
  obtain ⟨A6, A7⟩ := cells2s Ad
  have S2 := box B1.size
  have A8 := ltR Ac
  have A9 := ltR Ad
  have Ba := ltR Am
  have An := heap_alloc_last w1 (Obj.cells (pt c1 m1 X1 r1) 73)
  have B2 := btr B1 (bal w1 (Obj.cells (pt c1 m1 X1 r1) 73))
  have Ao := heap_of (bal w1 (Obj.cells (pt c1 m1 X1 r1) 73)) _ _ _ Ac
  have Ap := heap_of (bal w1 (Obj.cells (pt c1 m1 X1 r1) 73)) _ _ _ Ad
  have AO := heap_of (bal w1 (Obj.cells (pt c1 m1 X1 r1) 73)) _ _ _ Am
  clear B1 Ac A4 A5 Ad A6 A7 Am
  obtain ⟨Bb, Bc⟩ := cells2s Ao
  obtain ⟨Bd, Be⟩ := cells2s Ap
  have Bf := (pt_cells An).1
  go_wp2_with fail
  refine (KU2.out _ (fatB FF.out B2)).mono ?_
  rintro r w3 ⟨rfl, b3⟩
  have B3 : Below w.heap.size w w3 := btr B2 b3
  have Ae := heap_of b3 _ _ _ Ao
  have Af := heap_of b3 _ _ _ Ap
  have Aq := heap_of b3 _ _ _ AO
  have Ag := heap_of b3 _ _ _ An
  clear b3 B2 Ao Bb Bc Ap Bd Be AO An Bf
  obtain ⟨Bg, Bh⟩ := cells2s Ae
  obtain ⟨Bi, Bj⟩ := cells2s Af
  have Bk := (pt_cells Ag).1
  have S4 := box B3.size
  have Bl := ltR Ae
  have Bm := ltR Af
  have Bn := ltR Aq
  have Bo := ltR Ag
  have Ar := heap_alloc_last w3 (Obj.cells (pt c2 m2 X2 r2) 73)
  have B4 := btr B3 (bal w3 (Obj.cells (pt c2 m2 X2 r2) 73))
  have Aa := heap_of (bal w3 (Obj.cells (pt c2 m2 X2 r2) 73)) _ _ _ Ae
  have Ab := heap_of (bal w3 (Obj.cells (pt c2 m2 X2 r2) 73)) _ _ _ Af
  have AP := heap_of (bal w3 (Obj.cells (pt c2 m2 X2 r2) 73)) _ _ _ Aq
  have As := heap_of (bal w3 (Obj.cells (pt c2 m2 X2 r2) 73)) _ _ _ Ag
  clear B3 Ae Bg Bh Af Bi Bj Aq Ag Bk
  obtain ⟨Bp, Bq⟩ := cells2s Aa
  obtain ⟨Br, Bs⟩ := cells2s Ab
  have Bt := (pt_cells As).1
  have Bu := (pt_cells Ar).1
  have sS : Box (∀ W W1 : World, (Below w.heap.size w W ∧ W.heap[w.heap.size]? = some (.cells #[.int .u64 x1, .int .u64 y1] 25) ∧ W.heap[w.heap.size + 1]? = some (.cells #[.int .u64 x2, .int .u64 y2] 25) ∧ W.heap[w.heap.size + 1 + 1]? = some (.cells #[.int .u64 0, .int .u64 0] 25) ∧ W.heap[w1.heap.size]? = some (.cells (pt c1 m1 X1 r1) 73) ∧ W.heap[w3.heap.size]? = some (.cells (pt c2 m2 X2 r2) 73) ∧ W.cell? ⟨w.heap.size, 0, none⟩ = some (.int .u64 x1) ∧ W.cell? ⟨w.heap.size, 1, none⟩ = some (.int .u64 y1) ∧ W.cell? ⟨w.heap.size + 1, 0, none⟩ = some (.int .u64 x2) ∧ W.cell? ⟨w.heap.size + 1, 1, none⟩ = some (.int .u64 y2)) → Below W.heap.size W W1 → (Below w.heap.size w W1 ∧ W1.heap[w.heap.size]? = some (.cells #[.int .u64 x1, .int .u64 y1] 25) ∧ W1.heap[w.heap.size + 1]? = some (.cells #[.int .u64 x2, .int .u64 y2] 25) ∧ W1.heap[w.heap.size + 1 + 1]? = some (.cells #[.int .u64 0, .int .u64 0] 25) ∧ W1.heap[w1.heap.size]? = some (.cells (pt c1 m1 X1 r1) 73) ∧ W1.heap[w3.heap.size]? = some (.cells (pt c2 m2 X2 r2) 73) ∧ W1.cell? ⟨w.heap.size, 0, none⟩ = some (.int .u64 x1) ∧ W1.cell? ⟨w.heap.size, 1, none⟩ = some (.int .u64 y1) ∧ W1.cell? ⟨w.heap.size + 1, 0, none⟩ = some (.int .u64 x2) ∧ W1.cell? ⟨w.heap.size + 1, 1, none⟩ = some (.int .u64 y2))) := box (fun W W1 h b => ⟨btr h.1 b, heap_of b _ _ _ h.2.1, heap_of b _ _ _ h.2.2.1, heap_of b _ _ _ h.2.2.2.1, heap_of b _ _ _ h.2.2.2.2.1, heap_of b _ _ _ h.2.2.2.2.2.1, cell7 (heap_of b _ _ _ h.2.1) 0 _ rfl, cell7 (heap_of b _ _ _ h.2.1) 1 _ rfl, cell7 (heap_of b _ _ _ h.2.2.1) 0 _ rfl, cell7 (heap_of b _ _ _ h.2.2.1) 1 _ rfl⟩)
  have s0 : Below w.heap.size w ((w3.alloc (Obj.cells (pt c2 m2 X2 r2) 73))).drew ∧ ((w3.alloc (Obj.cells (pt c2 m2 X2 r2) 73))).drew.heap[w.heap.size]? = some (.cells #[.int .u64 x1, .int .u64 y1] 25) ∧ ((w3.alloc (Obj.cells (pt c2 m2 X2 r2) 73))).drew.heap[w.heap.size + 1]? = some (.cells #[.int .u64 x2, .int .u64 y2] 25) ∧ ((w3.alloc (Obj.cells (pt c2 m2 X2 r2) 73))).drew.heap[w.heap.size + 1 + 1]? = some (.cells #[.int .u64 0, .int .u64 0] 25) ∧ ((w3.alloc (Obj.cells (pt c2 m2 X2 r2) 73))).drew.heap[w1.heap.size]? = some (.cells (pt c1 m1 X1 r1) 73) ∧ ((w3.alloc (Obj.cells (pt c2 m2 X2 r2) 73))).drew.heap[w3.heap.size]? = some (.cells (pt c2 m2 X2 r2) 73) ∧ ((w3.alloc (Obj.cells (pt c2 m2 X2 r2) 73))).drew.cell? ⟨w.heap.size, 0, none⟩ = some (.int .u64 x1) ∧ ((w3.alloc (Obj.cells (pt c2 m2 X2 r2) 73))).drew.cell? ⟨w.heap.size, 1, none⟩ = some (.int .u64 y1) ∧ ((w3.alloc (Obj.cells (pt c2 m2 X2 r2) 73))).drew.cell? ⟨w.heap.size + 1, 0, none⟩ = some (.int .u64 x2) ∧ ((w3.alloc (Obj.cells (pt c2 m2 X2 r2) 73))).drew.cell? ⟨w.heap.size + 1, 1, none⟩ = some (.int .u64 y2) := ⟨B4.drew, Aa, Ab, AP, As, Ar, cell7 (Aa) 0 _ rfl, cell7 (Aa) 1 _ rfl, cell7 (Ab) 0 _ rfl, cell7 (Ab) 1 _ rfl⟩
  go_wp2_with fail
  go_region_held3 (fun W => Below w.heap.size w W ∧ W.heap[w.heap.size]? = some (.cells #[.int .u64 x1, .int .u64 y1] 25) ∧ W.heap[w.heap.size + 1]? = some (.cells #[.int .u64 x2, .int .u64 y2] 25) ∧ W.heap[w.heap.size + 1 + 1]? = some (.cells #[.int .u64 0, .int .u64 0] 25) ∧ W.heap[w1.heap.size]? = some (.cells (pt c1 m1 X1 r1) 73) ∧ W.heap[w3.heap.size]? = some (.cells (pt c2 m2 X2 r2) 73) ∧ W.cell? ⟨w.heap.size, 0, none⟩ = some (.int .u64 x1) ∧ W.cell? ⟨w.heap.size, 1, none⟩ = some (.int .u64 y1) ∧ W.cell? ⟨w.heap.size + 1, 0, none⟩ = some (.int .u64 x2) ∧ W.cell? ⟨w.heap.size + 1, 1, none⟩ = some (.int .u64 y2)) (first | exact s1 | exact s0)
    (first | (go_at_call_of 25 (Value.agg #[.int .u64 x1, .int .u64 y1]); (first | refine (KS1.out _ (fatB FF.out (And.left s1))).mono ?_ | refine (KS1.out _ (fatB FF.out (And.left s0))).mono ?_); rintro r wq ⟨rfl, bq⟩; (first | have s1 := sS.out _ _ s1 bq | have s1 := sS.out _ _ s0 bq); clear bq) | (go_at_call_of 25 (Value.agg #[.int .u64 x2, .int .u64 y2]); (first | refine (KS2.out _ (fatB FF.out (And.left s1))).mono ?_ | refine (KS2.out _ (fatB FF.out (And.left s0))).mono ?_); rintro r wq ⟨rfl, bq⟩; (first | have s1 := sS.out _ _ s1 bq | have s1 := sS.out _ _ s0 bq); clear bq) | fail)
  have B5 := (And.left s1)
  have At := s1.2.1
  have Au := s1.2.2.1
  have AQ := s1.2.2.2.1
  have Av := s1.2.2.2.2.1
  have Aw := s1.2.2.2.2.2.1
  clear s0 s1 sS B4 Aa Bp Bq Ab Br Bs AP As Bt Ar Bu
  obtain ⟨Bv, Bw⟩ := cells2s At
  obtain ⟨Bx, By⟩ := cells2s Au
  have Bz := (pt_cells Av).1
  have BA := (pt_cells Aw).1
  go_wp2_with fail
  refine (KT1.out _).mono ?_
  rintro r w6 ⟨rfl, b6⟩
  have B6 : Below w.heap.size w w6 := btr B5 b6
  have Ax := heap_of b6 _ _ _ At
  have Ay := heap_of b6 _ _ _ Au
  have AR := heap_of b6 _ _ _ AQ
  have Az := heap_of b6 _ _ _ Av
  have AA := heap_of b6 _ _ _ Aw
  clear b6 B5 At Bv Bw Au Bx By AQ Av Bz Aw BA
  obtain ⟨BB, BC⟩ := cells2s Ax
  obtain ⟨BD, BE⟩ := cells2s Ay
  have BF := (pt_cells Az).1
  have BG := (pt_cells AA).1
  go_wp2_with fail
  refine (KT2.out _).mono ?_
  rintro r w7 ⟨rfl, b7⟩
  have B7 : Below w.heap.size w w7 := btr B6 b7
  have AB := heap_of b7 _ _ _ Ax
  have AC := heap_of b7 _ _ _ Ay
  have AS := heap_of b7 _ _ _ AR
  have AD := heap_of b7 _ _ _ Az
  have AE := heap_of b7 _ _ _ AA
  clear b7 B6 Ax BB BC Ay BD BE AR Az BF AA BG
  obtain ⟨BH, BI⟩ := cells2s AB
  obtain ⟨BJ, BK⟩ := cells2s AC
  have BL := (pt_cells AD).1
  have BM := (pt_cells AE).1
  go_wp2_with fail
  refine (KE1.out _).mono ?_
  rintro r w8 ⟨rfl, b8⟩
  have B8 : Below w.heap.size w w8 := btr B7 b8
  have AF := heap_of b8 _ _ _ AB
  have AG := heap_of b8 _ _ _ AC
  have AT := heap_of b8 _ _ _ AS
  have AH := heap_of b8 _ _ _ AD
  have AI := heap_of b8 _ _ _ AE
  clear b8 B7 AB BH BI AC BJ BK AS AD BL AE BM
  obtain ⟨BN, BO⟩ := cells2s AF
  obtain ⟨BP, BQ⟩ := cells2s AG
  have BR := (pt_cells AH).1
  have BS := (pt_cells AI).1
  go_wp2_with fail
  refine (KE2.out _).mono ?_
  rintro r w9 ⟨rfl, b9⟩
  have B9 : Below w.heap.size w w9 := btr B8 b9
  have AJ := heap_of b9 _ _ _ AF
  have AK := heap_of b9 _ _ _ AG
  have AU := heap_of b9 _ _ _ AT
  have Ah := heap_of b9 _ _ _ AH
  have Ai := heap_of b9 _ _ _ AI
  clear b9 B8 AF BN BO AG BP BQ AT AH BR AI BS
  obtain ⟨BT, BU⟩ := cells2s AJ
  obtain ⟨BV, BW⟩ := cells2s AK
  have AV := (pt_cells Ah).1
  have AW := (pt_cells Ai).1
  clear BT BU
  clear BV BW
  obtain ⟨AV, BX, BY, BZ, Ca, Cb, Cc, Cd, Ce, Cf, Cg, Ch, Ci, Cj⟩ := pt_cells Ah
  obtain ⟨AW, Ck, Cl, Cm, Cn, Co, Cp, Cq, Cr, Cs, Ct, Cu, Cv, Cw⟩ := pt_cells Ai
  go_wp2_with fail
  refine (KX.out _).mono ?_
  rintro r w10 ⟨rfl, b10⟩
  have B10 : Below w.heap.size w w10 := btr B9 b10
  have AX := heap_of b10 _ _ _ AJ
  have AY := heap_of b10 _ _ _ AK
  have AZ := heap_of b10 _ _ _ AU
  have AL := heap_of b10 _ _ _ Ah
  have AM := heap_of b10 _ _ _ Ai
  clear b10 B9 AJ AK AU Ah AV BX BY BZ Ca Cb Cc Cd Ce Cf Cg Ch Ci Cj Ai AW Ck Cl Cm Cn Co Cp Cq Cr Cs Ct Cu Cv Cw
  obtain ⟨Cx, Cy, Cz, CA, CB, CC, CD, CE, CF, CG, CH, CI, CJ, CK⟩ := pt_cells AL
  obtain ⟨CL, CM, CN, CO, CP, CQ, CR, CS, CT, CU, CV, CW, CX, CY⟩ := pt_cells AM
  clear Cx Cy Cz CA CB CC CD CE CF CG CH CI CJ CK
  clear CL CM CN CO CP CQ CR CS CT CU CV CW CX CY
  go_wp2_with fail
  refine (KP.out _ (fatB FF.out B10)).mono ?_
  rintro r w11 ⟨rfl, b11⟩
  have B11 : Below w.heap.size w w11 := btr B10 b11
  have C3 := heap_of b11 _ _ _ AX
  have C4 := heap_of b11 _ _ _ AY
  have Aj := heap_of b11 _ _ _ AZ
  have C5 := heap_of b11 _ _ _ AL
  have C6 := heap_of b11 _ _ _ AM
  clear b11 B10 AX AY AZ AL AM
  obtain ⟨C7, C8⟩ := cells2s Aj
  have q0 := fz (k := 0) Aj
  have q1 := fz (k := 1) Aj
  obtain ⟨E0, E1⟩ := set2_cells Aj (.int .u64 u) (.int .u64 v)
  go_wp2
  exact bodyPost_ret (v := .tuple #[.agg #[.int .u64 u, .int .u64 v], .int .u8 fl, .int .i64 0]) (by simp [results, Tryz.results89, go_sem, E0, E1]) rfl ⟨rfl, set2_below B11 (by first | exact Nat.le_refl _ | omega | (have := S2.out; have := A8.out; have := A9.out; have := Ba.out; have := S4.out; have := Bl.out; have := Bm.out; have := Bn.out; have := Bo.out; omega)) _ _⟩
end Go.Proofs.YtoaaajeblhaeoaaGreatDoor
