/-
  What the functions that the statement reaches return: part 23 (M0, M1, M2, M3, M4, A0, A11).
-/
import Derived.Test.YtoaaajeblhaeoaaGreatDoorMl22
namespace Go.Proofs.YtoaaajeblhaeoaaGreatDoor
set_option maxRecDepth 100000
set_option maxHeartbeats 40000000
set_option maxRecDepth 100000
open Go.RowKit WMath XMath
set_option linter.unusedSimpArgs false
set_option linter.unusedVariables false
theorem blen_prod (A B : Nat) (hA : A < 2 ^ 128) (hB : B < 2 ^ 128) : A * B < 2 ^ 256 ∧ blen (A * B) ≤ 256 := by
 have h : A * B < 2 ^ 256 := by
  have := mul_pow_lt A B 128 128 hA hB
  rw [show (256 : Nat) = 128 + 128 from rfl]
  exact this
 exact ⟨h, (blen_iff _ _).2 h⟩
theorem od_prod (A B : Nat) (A0 : A ≠ 0) (B0 : B ≠ 0) : A * B = od A * od B * 2 ^ (tz A + tz B) ∧ od A * od B ≠ 0 := by
 obtain ⟨a1, a2⟩ := od_is A A0
 obtain ⟨b1, b2⟩ := od_is B B0
 refine ⟨?_, mul_ne (by omega) (by omega)⟩
 obtain ⟨P, hP⟩ : ∃ P, od A = P := ⟨_, rfl⟩
 obtain ⟨R, hR⟩ : ∃ R, od B = R := ⟨_, rfl⟩
 obtain ⟨i, hi⟩ : ∃ i, tz A = i := ⟨_, rfl⟩
 obtain ⟨j, hj⟩ : ∃ j, tz B = j := ⟨_, rfl⟩
 rw [hP, hi] at a1
 rw [hR, hj] at b1
 rw [hP, hR, hi, hj, a1, b1, Nat.pow_add]
 simp only [Nat.mul_assoc, Nat.mul_comm, Nat.mul_left_comm]
theorem mul_num {f : Int} (hf : Is4 f) (m : Int) (a b : Bool) (A B : Nat) (x y : Int) (A0 : A ≠ 0) (B0 : B ≠ 0) (hA : A < 2 ^ 128) (hB : B < 2 ^ 128) (x1 : -20000 ≤ x) (x2 : x ≤ 20000) (y1 : -20000 ≤ y) (y2 : y ≤ 20000) :
  ∃ (n : Nat) (e : Int), mulX ⟨a, od A, 1, x + (tz A : Int)⟩ ⟨b, od B, 1, y + (tz B : Int)⟩ = (⟨a != b, n, 1, e⟩, 0) ∧ (XN.mk (a != b) n 1 e).can ∧ nl n ≤ 8192 ∧ n ≠ 0 ∧
   rnd f m ⟨a != b, n, 1, e⟩ = dlv f m (a != b) (x + y + (blen (A * B) : Int) - 1) (qW (pV f + 1) (A * B)) (qM (pV f + 1) (A * B) false) := by
 obtain ⟨p1, p2⟩ := blen_prod A B hA hB
 obtain ⟨o1, o2⟩ := od_prod A B A0 B0
 have tA := tz_blen A
 have tB := tz_blen B
 have bA := (blen_iff A 128).2 hA
 have bB := (blen_iff B 128).2 hB
 obtain ⟨N, hN⟩ : ∃ N, od A * od B = N := ⟨_, rfl⟩
 obtain ⟨k, hk⟩ : ∃ k, tz A + tz B = k := ⟨_, rfl⟩
 rw [hN, hk] at o1
 rw [hN] at o2
 have bs := blen_shift N k o2
 have ql := q_longer (pV f + 1) N k o2
 rw [← o1] at bs ql
 obtain ⟨w1, w2, w3, w4, w5, w6, w7⟩ := x_whole hf (a != b) N (x + (tz A : Int) + (y + (tz B : Int))) o2 (by omega) (by omega) (by omega)
 have a0 := (od_is A A0).2
 have b0 := (od_is B B0).2
 refine ⟨od N, x + (tz A : Int) + (y + (tz B : Int)) + (tz N : Int), ?_, w2, w4, w3, ?_⟩
 ·
  unfold mulX
  have lN : nl N ≤ 16384 := by unfold nl; omega
  rw [if_neg (by show ¬ (od A = 0 ∨ od B = 0); omega)]
  show (if nl (od A * od B) ≤ 16384 ∧ nl (1 * 1) ≤ 16384 then mk (a != b) (od A * od B) (1 * 1) (x + (tz A : Int) + (y + (tz B : Int))) else (XZ, 4)) = _
  rw [hN, Nat.mul_one, if_pos ⟨lN, nl_1⟩, w1]
 ·
  unfold rnd
  rw [if_neg w3, w5, w6, w7, ql.1, ql.2]
  congr 1
  omega
theorem vX_whole {f : Int} (hf : Is4 f) (n : Nat) (h : 0 < kC f n ∧ kC f n < 7) (h2 : ¬ (kC f n = 3 ∨ kC f n = 4)) : kS f n ≠ 0 ∧ kS f n < 2 ^ 128 ∧ vX f n = ⟨kN f n, od (kS f n), 1, kX f n + (tz (kS f n) : Int)⟩ ∧ (vX f n).can := by
 obtain ⟨l1, l2, l3⟩ := kS_lim hf n
 obtain ⟨a, b, d, e⟩ := k_parts (f := f) n (by omega)
 have l4 : kS f n < 2 ^ 128 := l1
 obtain ⟨w1, w2, w3, w4, w5, w6, w7⟩ := x_whole hf (kN f n) (kS f n) (kX f n) e (by have := (blen_iff (kS f n) 128).2 l4; omega) (by omega) (by omega)
 have := vX_mk hf n h
 rw [w1] at this
 injection this with h3 h4
 exact ⟨e, l4, h3.symm, by rw [← h3]; exact w2⟩
end Go.Proofs.YtoaaajeblhaeoaaGreatDoor
namespace Go.Proofs.YtoaaajeblhaeoaaGreatDoor
set_option maxRecDepth 100000
set_option maxHeartbeats 40000000
set_option maxRecDepth 100000
open Go.RowKit WMath
set_option linter.unusedSimpArgs false
set_option linter.unusedVariables false
theorem mu_etn (c d : Nat) (o1 o2 o : Bool) (KE : Box (∀ w, Calls Tryz.prog 158 #[.int .u8 c] w fun r w' => r = .returned (.bool o1) ∧ Below w.heap.size w w')) (KN : Box (∀ w, Calls Tryz.prog 260 #[.int .u8 d] w fun r w' => r = .returned (.bool o2) ∧ Below w.heap.size w w')) (ho : (o1 && o2) = o) (w : World) : Calls Tryz.prog 171 #[.int .u8 c, .int .u8 d] w fun r w' => r = .returned (.bool o) ∧ Below w.heap.size w w' := by
 cases o1
 ·
  rw [Bool.false_and] at ho
  subst ho
  have B0 : Below w.heap.size w w := (Below.refl _ _)
  go_enter Tryz.func171, Tryz.ntmps171
  go_wp2_with fail
  refine (KE.out _).mono ?_
  rintro r w1 ⟨rfl, b1⟩
  have B1 := btr B0 b1
  clear b1 B0 
  go_wp2
  go_ret
  exact ⟨rfl, B1⟩
 ·
  rw [Bool.true_and] at ho
  subst ho
  have B0 : Below w.heap.size w w := (Below.refl _ _)
  go_enter Tryz.func171, Tryz.ntmps171
  go_wp2_with fail
  refine (KE.out _).mono ?_
  rintro r w1 ⟨rfl, b1⟩
  have B1 := btr B0 b1
  clear b1 B0 
  go_wp2_with fail
  refine (KN.out _).mono ?_
  rintro r w2 ⟨rfl, b2⟩
  have B2 := btr B1 b2
  clear b2 B1 
  go_wp2
  go_ret
  exact ⟨rfl, B2⟩
theorem mu_exactly (neg : Bool) (c1 m1 : Nat) (X1 : Int) (r1 c2 m2 : Nat) (X2 : Int) (r2 S : Nat) (E : Int) (ov : Bool) (w : World)
  (KM : Box (∀ w, Calls Tryz.prog 261 #[.agg (cw 6 m1), .agg (cw 6 m2)] w fun r w' => r = .returned (.tuple #[.agg (cw 6 S), .bool ov]) ∧ Below w.heap.size w w')) (hE : IntKind.i64.wrap (X1 + X2) = E) :
  Calls Tryz.prog 173 #[.bool neg, .agg (pt c1 m1 X1 r1), .agg (pt c2 m2 X2 r2)] w fun r w' => r = .returned (.agg (rg neg S E false)) ∧ Below w.heap.size w w' := by
 have hat := cw_at 6
 have hz := cw6z
 have hff := cw6f
 have hs0 := st0
 have hcs : ∀ x, ((cw 6 x).size = 6) = True := fun x => eq_true (cw_size 6 x)
 have hp1 := rgf
 have hp3 := rgz
 have hp4 := st_r0
 have hzi := cw_zip
 have hls := rg_sets
 have hp5 : ∀ (c : Bool) (s : Nat) (x : Int) (r : Bool), ((rg c s x r).size = 9) = True := fun _ _ _ _ => eq_true rfl
 have Bz := ptf
 have BA : ∀ (c s : Nat) (x : Int) (r : Nat), ((pt c s x r).size = 14) = True := fun _ _ _ _ => eq_true rfl
 obtain ⟨Ad, Ae, Af, B0⟩ := opn3 w (Obj.cells (pt c1 m1 X1 r1) 73) (Obj.cells (pt c2 m2 X2 r2) 73) (Obj.cells (rg false 0 0 false) 114)
 go_enter Tryz.func173, Tryz.ntmps173
 obtain ⟨Ah, Ai, Aj, Ak, Al, Am, An, Ao, Ap, Aq, Ar, As, At, Au⟩ := pt_cells Ad
 obtain ⟨Av, Aw, Ax, Ay, Az, AA, AB, AC, AD, AE, AF, AG, AH, AI⟩ := pt_cells Ae
 obtain ⟨AJ, AK, AL, AM, AN, AO, AP, AQ, AR⟩ := rg_cells Af
 go_wp2_with fail
 refine (KM.out _).mono ?_
 rintro r w1 ⟨rfl, b1⟩
 have B1 := btr B0 b1
 obtain ⟨Aa, Ab, Ac⟩ := rws3 b1 Ad Ae Af
 clear b1 B0 Ad Ah Ai Aj Ak Al Am An Ao Ap Aq Ar As At Au Ae Av Aw Ax Ay Az AA AB AC AD AE AF AG AH AI Af AJ AK AL AM AN AO AP AQ AR
 obtain ⟨AS, AT, AU, AV, AW, AX, AY, AZ, A0, A1, A2, A3, A4, A5⟩ := pt_cells Aa
 obtain ⟨A6, A7, A8, A9, Ba, Bb, Bc, Bd, Be, Bf, Bg, Bh, Bi, Bj⟩ := pt_cells Ab
 obtain ⟨Bk, Bl, Bm, Bn, Bo, Bp, Bq, Br, Bs⟩ := rg_cells Ac
 have S2 := box B1.size
 have Bt := ltR Aa
 have Bu := ltR Ab
 have Bv := ltR Ac
 have Bw := heap_alloc_last w1 (Obj.cells (cw 6 S) 71)
 have B2 := btr B1 (bal w1 (Obj.cells (cw 6 S) 71))
 obtain ⟨Bx, By, Ag⟩ := rws3 (bal w1 (Obj.cells (cw 6 S) 71)) Aa Ab Ac
 clear B1 Aa AS AT AU AV AW AX AY AZ A0 A1 A2 A3 A4 A5 Ab A6 A7 A8 A9 Ba Bb Bc Bd Be Bf Bg Bh Bi Bj Ac Bk Bl Bm Bn Bo Bp Bq Br Bs
 obtain ⟨BB, BC, BD, BE, BF, BG, BH, BI, BJ, BK, BL, BM, BN, BO⟩ := pt_cells Bx
 obtain ⟨BP, BQ, BR, BS, BT, BU, BV, BW, BX, BY, BZ, B3, B4, B5⟩ := pt_cells By
 obtain ⟨B6, B7, B8, B9, Ca, Cb, Cc, Cd, Ce⟩ := rg_cells Ag
 have Cf := row_cell Bw
 have hstz := st_r (w1.alloc (Obj.cells (cw 6 S) 71)) (w.heap.size + 1 + 1) neg S E false false 0 0 false Ag
 have RZ := setRow_row (c' := rg neg S E false) Ag
 obtain ⟨dz0, dz1, dz2, dz3, dz4, dz5, dz6, dz7, dz8⟩ := rg_cells RZ
 have bz := bel_set (c := rg neg S E false) B2 (show w.heap.size ≤ w.heap.size + 1 + 1 by first | exact Nat.le_refl _ | omega | (have := S2.out; have := Bt.out; have := Bu.out; have := Bv.out; omega))
 go_wp2
 exact bodyPost_ret (v := .agg (rg neg S E false)) (by simp [results, Tryz.results173, go_sem, dz0, dz1, dz2, dz3, dz4, dz5, dz6, dz7, dz8, rgf] <;> rfl) rfl ⟨rfl, bz⟩
theorem mu_all (f m : Int) (x1 y1 x2 y2 u v : Nat) (c1 m1 : Nat) (X1 : Int) (r1 c2 m2 : Nat) (X2 : Int) (r2 : Nat) (s1 s2 neg : Bool) (S : Nat) (X fl : Int) (w : World) (hng : (!(s1 == s2)) = neg)
  (KU1 : Box (∀ w, FAt w → Calls Tryz.prog 45 #[.int .u8 f, .agg #[.int .u64 x1, .int .u64 y1]] w fun r w' => r = .returned (.tuple #[.agg (pt c1 m1 X1 r1), .int .i64 0]) ∧ Below w.heap.size w w'))
  (KU2 : Box (∀ w, FAt w → Calls Tryz.prog 45 #[.int .u8 f, .agg #[.int .u64 x2, .int .u64 y2]] w fun r w' => r = .returned (.tuple #[.agg (pt c2 m2 X2 r2), .int .i64 0]) ∧ Below w.heap.size w w'))
  (KS1 : Box (∀ w, FAt w → Calls Tryz.prog 25 #[.int .u8 f, .agg #[.int .u64 x1, .int .u64 y1]] w fun r w' => r = .returned (.bool s1) ∧ Below w.heap.size w w'))
  (KS2 : Box (∀ w, FAt w → Calls Tryz.prog 25 #[.int .u8 f, .agg #[.int .u64 x2, .int .u64 y2]] w fun r w' => r = .returned (.bool s2) ∧ Below w.heap.size w w'))
  (H : Box ((((c1 : Int) == 8) = true ∧ Box (∀ w, FAt w → Calls Tryz.prog 157 #[.int .u8 f] w fun r w' => r = .returned (.agg #[.int .u64 u, .int .u64 v]) ∧ Below w.heap.size w w') ∧ fl = 16) ∨
   (((c1 : Int) == 8) = false ∧ ((c2 : Int) == 8) = true ∧ Box (∀ w, FAt w → Calls Tryz.prog 157 #[.int .u8 f] w fun r w' => r = .returned (.agg #[.int .u64 u, .int .u64 v]) ∧ Below w.heap.size w w') ∧ fl = 16) ∨
   (((c1 : Int) == 8) = false ∧ ((c2 : Int) == 8) = false ∧ ((c1 : Int) == 9) = true ∧ Box (∀ w, FAt w → Calls Tryz.prog 157 #[.int .u8 f] w fun r w' => r = .returned (.agg #[.int .u64 u, .int .u64 v]) ∧ Below w.heap.size w w') ∧ fl = 0) ∨
   (((c1 : Int) == 8) = false ∧ ((c2 : Int) == 8) = false ∧ ((c1 : Int) == 9) = false ∧ ((c2 : Int) == 9) = true ∧ Box (∀ w, FAt w → Calls Tryz.prog 157 #[.int .u8 f] w fun r w' => r = .returned (.agg #[.int .u64 u, .int .u64 v]) ∧ Below w.heap.size w w') ∧ fl = 0) ∨
   (((c1 : Int) == 8) = false ∧ ((c2 : Int) == 8) = false ∧ ((c1 : Int) == 9) = false ∧ ((c2 : Int) == 9) = false ∧ Box (∀ w, Calls Tryz.prog 171 #[.int .u8 c1, .int .u8 c2] w fun r w' => r = .returned (.bool true) ∧ Below w.heap.size w w') ∧ Box (∀ w, FAt w → Calls Tryz.prog 157 #[.int .u8 f] w fun r w' => r = .returned (.agg #[.int .u64 u, .int .u64 v]) ∧ Below w.heap.size w w') ∧ fl = 16) ∨
   (((c1 : Int) == 8) = false ∧ ((c2 : Int) == 8) = false ∧ ((c1 : Int) == 9) = false ∧ ((c2 : Int) == 9) = false ∧ Box (∀ w, Calls Tryz.prog 171 #[.int .u8 c1, .int .u8 c2] w fun r w' => r = .returned (.bool false) ∧ Below w.heap.size w w') ∧ Box (∀ w, Calls Tryz.prog 171 #[.int .u8 c2, .int .u8 c1] w fun r w' => r = .returned (.bool true) ∧ Below w.heap.size w w') ∧ Box (∀ w, FAt w → Calls Tryz.prog 157 #[.int .u8 f] w fun r w' => r = .returned (.agg #[.int .u64 u, .int .u64 v]) ∧ Below w.heap.size w w') ∧ fl = 16) ∨
   (((c1 : Int) == 8) = false ∧ ((c2 : Int) == 8) = false ∧ ((c1 : Int) == 9) = false ∧ ((c2 : Int) == 9) = false ∧ Box (∀ w, Calls Tryz.prog 171 #[.int .u8 c1, .int .u8 c2] w fun r w' => r = .returned (.bool false) ∧ Below w.heap.size w w') ∧ Box (∀ w, Calls Tryz.prog 171 #[.int .u8 c2, .int .u8 c1] w fun r w' => r = .returned (.bool false) ∧ Below w.heap.size w w') ∧ Box (∀ w, Calls Tryz.prog 158 #[.int .u8 c1] w fun r w' => r = .returned (.bool true) ∧ Below w.heap.size w w') ∧ Box (∀ w, FAt w → Calls Tryz.prog 172 #[.int .u8 f, .bool neg] w fun r w' => r = .returned (.agg #[.int .u64 u, .int .u64 v]) ∧ Below w.heap.size w w') ∧ fl = 0) ∨
   (((c1 : Int) == 8) = false ∧ ((c2 : Int) == 8) = false ∧ ((c1 : Int) == 9) = false ∧ ((c2 : Int) == 9) = false ∧ Box (∀ w, Calls Tryz.prog 171 #[.int .u8 c1, .int .u8 c2] w fun r w' => r = .returned (.bool false) ∧ Below w.heap.size w w') ∧ Box (∀ w, Calls Tryz.prog 171 #[.int .u8 c2, .int .u8 c1] w fun r w' => r = .returned (.bool false) ∧ Below w.heap.size w w') ∧ Box (∀ w, Calls Tryz.prog 158 #[.int .u8 c1] w fun r w' => r = .returned (.bool false) ∧ Below w.heap.size w w') ∧ Box (∀ w, Calls Tryz.prog 158 #[.int .u8 c2] w fun r w' => r = .returned (.bool true) ∧ Below w.heap.size w w') ∧ Box (∀ w, FAt w → Calls Tryz.prog 172 #[.int .u8 f, .bool neg] w fun r w' => r = .returned (.agg #[.int .u64 u, .int .u64 v]) ∧ Below w.heap.size w w') ∧ fl = 0) ∨
   (((c1 : Int) == 8) = false ∧ ((c2 : Int) == 8) = false ∧ ((c1 : Int) == 9) = false ∧ ((c2 : Int) == 9) = false ∧ Box (∀ w, Calls Tryz.prog 171 #[.int .u8 c1, .int .u8 c2] w fun r w' => r = .returned (.bool false) ∧ Below w.heap.size w w') ∧ Box (∀ w, Calls Tryz.prog 171 #[.int .u8 c2, .int .u8 c1] w fun r w' => r = .returned (.bool false) ∧ Below w.heap.size w w') ∧ Box (∀ w, Calls Tryz.prog 158 #[.int .u8 c1] w fun r w' => r = .returned (.bool false) ∧ Below w.heap.size w w') ∧ Box (∀ w, Calls Tryz.prog 158 #[.int .u8 c2] w fun r w' => r = .returned (.bool false) ∧ Below w.heap.size w w') ∧ Box (∀ w, Calls Tryz.prog 173 #[.bool neg, .agg (pt c1 m1 X1 r1), .agg (pt c2 m2 X2 r2)] w fun r w' => r = .returned (.agg (rg neg S X false)) ∧ Below w.heap.size w w') ∧ Box (∀ w, FAt w → Calls Tryz.prog 93 #[.int .u8 f, .int .u8 m, .agg (rg neg S X false)] w fun r w' => r = .returned (.tuple #[.agg #[.int .u64 u, .int .u64 v], .int .u8 fl, .int .i64 0]) ∧ Below w.heap.size w w'))))
  (hT : FAt w) : Calls Tryz.prog 89 #[.int .u8 f, .int .u8 m, .agg #[.int .u64 x1, .int .u64 y1], .agg #[.int .u64 x2, .int .u64 y2]] w fun r w' => r = .returned (.tuple #[.agg #[.int .u64 u, .int .u64 v], .int .u8 fl, .int .i64 0]) ∧ Below w.heap.size w w' := by
 have FF := box hT
 clear hT
 have hat := cw_at 6
 have hz := cw6z
 have hff := cw6f
 have hs0 := st0
 have hcs : ∀ x, ((cw 6 x).size = 6) = True := fun x => eq_true (cw_size 6 x)
 have hp1 := rgf
 have hp5 : ∀ (c : Bool) (s : Nat) (x : Int) (r : Bool), ((rg c s x r).size = 9) = True := fun _ _ _ _ => eq_true rfl
 have C1 := ptf
 have C2 := ptz
 have C3 := st_p0
 have C4 : ∀ (c s : Nat) (x : Int) (r : Nat), ((pt c s x r).size = 14) = True := fun _ _ _ _ => eq_true rfl
 obtain ⟨Bn, Bo, By, B0⟩ := opn3 w (Obj.cells #[.int .u64 x1, .int .u64 y1] 25) (Obj.cells #[.int .u64 x2, .int .u64 y2] 25) (Obj.cells #[.int .u64 0, .int .u64 0] 25)
 go_enter Tryz.func89, Tryz.ntmps89
 obtain ⟨BD, BE⟩ := cells2s Bn
 obtain ⟨BF, BG⟩ := cells2s Bo
 go_wp2_with fail
 refine (KU1.out _ (fatB FF.out B0)).mono ?_
 rintro r w1 ⟨rfl, b1⟩
 have B1 := btr B0 b1
 obtain ⟨Bb, Bc, Bp⟩ := rws3 b1 Bn Bo By
 clear b1 B0 Bn BD BE Bo BF BG By
 obtain ⟨BH, BI⟩ := cells2s Bb
 obtain ⟨BJ, BK⟩ := cells2s Bc
 have S2 := box B1.size
 have AD := ltR Bb
 have AE := ltR Bc
 have AF := ltR Bp
 have Bq := heap_alloc_last w1 (Obj.cells (pt c1 m1 X1 r1) 73)
 have B2 := btr B1 (bal w1 (Obj.cells (pt c1 m1 X1 r1) 73))
 obtain ⟨Br, Bs, Bz⟩ := rws3 (bal w1 (Obj.cells (pt c1 m1 X1 r1) 73)) Bb Bc Bp
 clear B1 Bb BH BI Bc BJ BK Bp
 obtain ⟨BL, BM⟩ := cells2s Br
 obtain ⟨BN, BO⟩ := cells2s Bs
 have BP := (pt_cells Bq).1
 go_wp2_with fail
 refine (KU2.out _ (fatB FF.out B2)).mono ?_
 rintro r w3 ⟨rfl, b3⟩
 have B3 := btr B2 b3
 obtain ⟨Bd, Be, Bt, Bf⟩ := rws4 b3 Br Bs Bz Bq
 clear b3 B2 Br BL BM Bs BN BO Bz Bq BP
 obtain ⟨BQ, BR⟩ := cells2s Bd
 obtain ⟨BS, BT⟩ := cells2s Be
 have BU := (pt_cells Bf).1
 have S4 := box B3.size
 have AG := ltR Bd
 have AH := ltR Be
 have AI := ltR Bt
 have AJ := ltR Bf
 have Bu := heap_alloc_last w3 (Obj.cells (pt c2 m2 X2 r2) 73)
 have B4 := btr B3 (bal w3 (Obj.cells (pt c2 m2 X2 r2) 73))
 obtain ⟨A5, A6, BA, Bv⟩ := rws4 (bal w3 (Obj.cells (pt c2 m2 X2 r2) 73)) Bd Be Bt Bf
 clear B3 Bd BQ BR Be BS BT Bt Bf BU
 obtain ⟨BV, BW⟩ := cells2s A5
 obtain ⟨BX, BY⟩ := cells2s A6
 have BZ := (pt_cells Bv).1
 have Ca := (pt_cells Bu).1
 have sS : Box (∀ W W1 : World, (Below w.heap.size w W ∧ W.heap[w.heap.size]? = some (.cells #[.int .u64 x1, .int .u64 y1] 25) ∧ W.heap[w.heap.size + 1]? = some (.cells #[.int .u64 x2, .int .u64 y2] 25) ∧ W.heap[w.heap.size + 1 + 1]? = some (.cells #[.int .u64 0, .int .u64 0] 25) ∧ W.heap[w1.heap.size]? = some (.cells (pt c1 m1 X1 r1) 73) ∧ W.heap[w3.heap.size]? = some (.cells (pt c2 m2 X2 r2) 73) ∧ W.cell? ⟨w.heap.size, 0, none⟩ = some (.int .u64 x1) ∧ W.cell? ⟨w.heap.size, 1, none⟩ = some (.int .u64 y1) ∧ W.cell? ⟨w.heap.size + 1, 0, none⟩ = some (.int .u64 x2) ∧ W.cell? ⟨w.heap.size + 1, 1, none⟩ = some (.int .u64 y2)) → Below W.heap.size W W1 → (Below w.heap.size w W1 ∧ W1.heap[w.heap.size]? = some (.cells #[.int .u64 x1, .int .u64 y1] 25) ∧ W1.heap[w.heap.size + 1]? = some (.cells #[.int .u64 x2, .int .u64 y2] 25) ∧ W1.heap[w.heap.size + 1 + 1]? = some (.cells #[.int .u64 0, .int .u64 0] 25) ∧ W1.heap[w1.heap.size]? = some (.cells (pt c1 m1 X1 r1) 73) ∧ W1.heap[w3.heap.size]? = some (.cells (pt c2 m2 X2 r2) 73) ∧ W1.cell? ⟨w.heap.size, 0, none⟩ = some (.int .u64 x1) ∧ W1.cell? ⟨w.heap.size, 1, none⟩ = some (.int .u64 y1) ∧ W1.cell? ⟨w.heap.size + 1, 0, none⟩ = some (.int .u64 x2) ∧ W1.cell? ⟨w.heap.size + 1, 1, none⟩ = some (.int .u64 y2))) := box (fun W W1 h b => ⟨btr h.1 b, heap_of b _ _ _ h.2.1, heap_of b _ _ _ h.2.2.1, heap_of b _ _ _ h.2.2.2.1, heap_of b _ _ _ h.2.2.2.2.1, heap_of b _ _ _ h.2.2.2.2.2.1, cell7 (heap_of b _ _ _ h.2.1) 0 _ rfl, cell7 (heap_of b _ _ _ h.2.1) 1 _ rfl, cell7 (heap_of b _ _ _ h.2.2.1) 0 _ rfl, cell7 (heap_of b _ _ _ h.2.2.1) 1 _ rfl⟩)
 have s0 : Below w.heap.size w ((w3.alloc (Obj.cells (pt c2 m2 X2 r2) 73))).drew ∧ ((w3.alloc (Obj.cells (pt c2 m2 X2 r2) 73))).drew.heap[w.heap.size]? = some (.cells #[.int .u64 x1, .int .u64 y1] 25) ∧ ((w3.alloc (Obj.cells (pt c2 m2 X2 r2) 73))).drew.heap[w.heap.size + 1]? = some (.cells #[.int .u64 x2, .int .u64 y2] 25) ∧ ((w3.alloc (Obj.cells (pt c2 m2 X2 r2) 73))).drew.heap[w.heap.size + 1 + 1]? = some (.cells #[.int .u64 0, .int .u64 0] 25) ∧ ((w3.alloc (Obj.cells (pt c2 m2 X2 r2) 73))).drew.heap[w1.heap.size]? = some (.cells (pt c1 m1 X1 r1) 73) ∧ ((w3.alloc (Obj.cells (pt c2 m2 X2 r2) 73))).drew.heap[w3.heap.size]? = some (.cells (pt c2 m2 X2 r2) 73) ∧ ((w3.alloc (Obj.cells (pt c2 m2 X2 r2) 73))).drew.cell? ⟨w.heap.size, 0, none⟩ = some (.int .u64 x1) ∧ ((w3.alloc (Obj.cells (pt c2 m2 X2 r2) 73))).drew.cell? ⟨w.heap.size, 1, none⟩ = some (.int .u64 y1) ∧ ((w3.alloc (Obj.cells (pt c2 m2 X2 r2) 73))).drew.cell? ⟨w.heap.size + 1, 0, none⟩ = some (.int .u64 x2) ∧ ((w3.alloc (Obj.cells (pt c2 m2 X2 r2) 73))).drew.cell? ⟨w.heap.size + 1, 1, none⟩ = some (.int .u64 y2) := ⟨B4.drew, A5, A6, BA, Bv, Bu, cell7 (A5) 0 _ rfl, cell7 (A5) 1 _ rfl, cell7 (A6) 0 _ rfl, cell7 (A6) 1 _ rfl⟩
 go_wp2_with fail
 go_region_held3 (fun W => Below w.heap.size w W ∧ W.heap[w.heap.size]? = some (.cells #[.int .u64 x1, .int .u64 y1] 25) ∧ W.heap[w.heap.size + 1]? = some (.cells #[.int .u64 x2, .int .u64 y2] 25) ∧ W.heap[w.heap.size + 1 + 1]? = some (.cells #[.int .u64 0, .int .u64 0] 25) ∧ W.heap[w1.heap.size]? = some (.cells (pt c1 m1 X1 r1) 73) ∧ W.heap[w3.heap.size]? = some (.cells (pt c2 m2 X2 r2) 73) ∧ W.cell? ⟨w.heap.size, 0, none⟩ = some (.int .u64 x1) ∧ W.cell? ⟨w.heap.size, 1, none⟩ = some (.int .u64 y1) ∧ W.cell? ⟨w.heap.size + 1, 0, none⟩ = some (.int .u64 x2) ∧ W.cell? ⟨w.heap.size + 1, 1, none⟩ = some (.int .u64 y2)) (first | exact s1 | exact s0)
  (first | (go_at_call_of 25 (Value.agg #[.int .u64 x1, .int .u64 y1]); (first | refine (KS1.out _ (fatB FF.out (And.left s1))).mono ?_ | refine (KS1.out _ (fatB FF.out (And.left s0))).mono ?_); rintro r wq ⟨rfl, bq⟩; (first | have s1 := sS.out _ _ s1 bq | have s1 := sS.out _ _ s0 bq); clear bq) | (go_at_call_of 25 (Value.agg #[.int .u64 x2, .int .u64 y2]); (first | refine (KS2.out _ (fatB FF.out (And.left s1))).mono ?_ | refine (KS2.out _ (fatB FF.out (And.left s0))).mono ?_); rintro r wq ⟨rfl, bq⟩; (first | have s1 := sS.out _ _ s1 bq | have s1 := sS.out _ _ s0 bq); clear bq) | fail)
 have B5 := (And.left s1)
 have Af := s1.2.1
 have Ag := s1.2.2.1
 have Aj := s1.2.2.2.1
 have Ah := s1.2.2.2.2.1
 have Ai := s1.2.2.2.2.2.1
 clear s0 s1 sS B4 A5 BV BW A6 BX BY BA Bv BZ Bu Ca
 obtain ⟨AK, AL⟩ := cells2s Af
 obtain ⟨AM, AN⟩ := cells2s Ag
 have AO := (pt_cells Ah).1
 have AP := (pt_cells Ai).1
 rcases H.out with ⟨h18, KN, rfl⟩ | ⟨h18, h28, KN, rfl⟩ | ⟨h18, h28, h19, KN, rfl⟩ | ⟨h18, h28, h19, h29, KN, rfl⟩ | ⟨h18, h28, h19, h29, KT1, KN, rfl⟩ | ⟨h18, h28, h19, h29, KT1, KT2, KN, rfl⟩ | ⟨h18, h28, h19, h29, KT1, KT2, KE1, KI, rfl⟩ | ⟨h18, h28, h19, h29, KT1, KT2, KE1, KE2, KI, rfl⟩ | ⟨h18, h28, h19, h29, KT1, KT2, KE1, KE2, KX, KP⟩
 ·
  clear H
  go_wp2_with fail
  refine (KN.out _ (fatB FF.out B5)).mono ?_
  rintro r w6 ⟨rfl, b6⟩
  have B6 := btr B5 b6
  obtain ⟨Ab, Ac, Aa, Ad, Ae⟩ := rws5 b6 Af Ag Aj Ah Ai
  clear b6 B5 Af AK AL Ag AM AN Aj Ah AO Ai AP
  obtain ⟨Ap, Aq⟩ := cells2s Ab
  obtain ⟨Ar, As⟩ := cells2s Ac
  have At := (pt_cells Ad).1
  have Au := (pt_cells Ae).1
  obtain ⟨Bw, Bx⟩ := cells2s Aa
  have q0 := fz (k := 0) Aa
  have q1 := fz (k := 1) Aa
  obtain ⟨E0, E1⟩ := set2_cells Aa (.int .u64 u) (.int .u64 v)
  go_wp2
  exact bodyPost_ret (v := .tuple #[.agg #[.int .u64 u, .int .u64 v], .int .u8 16, .int .i64 0]) (by simp [results, Tryz.results89, go_sem, E0, E1]) rfl ⟨rfl, set2_below B6 (by first | exact Nat.le_refl _ | omega | (have := S2.out; have := AD.out; have := AE.out; have := AF.out; have := S4.out; have := AG.out; have := AH.out; have := AI.out; have := AJ.out; omega)) _ _⟩
 ·
  clear H
  go_wp2_with fail
  refine (KN.out _ (fatB FF.out B5)).mono ?_
  rintro r w6 ⟨rfl, b6⟩
  have B6 := btr B5 b6
  obtain ⟨Ab, Ac, Aa, Ad, Ae⟩ := rws5 b6 Af Ag Aj Ah Ai
  clear b6 B5 Af AK AL Ag AM AN Aj Ah AO Ai AP
  obtain ⟨Ap, Aq⟩ := cells2s Ab
  obtain ⟨Ar, As⟩ := cells2s Ac
  have At := (pt_cells Ad).1
  have Au := (pt_cells Ae).1
  obtain ⟨Bw, Bx⟩ := cells2s Aa
  have q0 := fz (k := 0) Aa
  have q1 := fz (k := 1) Aa
  obtain ⟨E0, E1⟩ := set2_cells Aa (.int .u64 u) (.int .u64 v)
  go_wp2
  exact bodyPost_ret (v := .tuple #[.agg #[.int .u64 u, .int .u64 v], .int .u8 16, .int .i64 0]) (by simp [results, Tryz.results89, go_sem, E0, E1]) rfl ⟨rfl, set2_below B6 (by first | exact Nat.le_refl _ | omega | (have := S2.out; have := AD.out; have := AE.out; have := AF.out; have := S4.out; have := AG.out; have := AH.out; have := AI.out; have := AJ.out; omega)) _ _⟩
 ·
  clear H
  go_wp2_with fail
  refine (KN.out _ (fatB FF.out B5)).mono ?_
  rintro r w6 ⟨rfl, b6⟩
  have B6 := btr B5 b6
  obtain ⟨Ab, Ac, Aa, Ad, Ae⟩ := rws5 b6 Af Ag Aj Ah Ai
  clear b6 B5 Af AK AL Ag AM AN Aj Ah AO Ai AP
  obtain ⟨Ap, Aq⟩ := cells2s Ab
  obtain ⟨Ar, As⟩ := cells2s Ac
  have At := (pt_cells Ad).1
  have Au := (pt_cells Ae).1
  obtain ⟨Bw, Bx⟩ := cells2s Aa
  have q0 := fz (k := 0) Aa
  have q1 := fz (k := 1) Aa
  obtain ⟨E0, E1⟩ := set2_cells Aa (.int .u64 u) (.int .u64 v)
  go_wp2
  exact bodyPost_ret (v := .tuple #[.agg #[.int .u64 u, .int .u64 v], .int .u8 0, .int .i64 0]) (by simp [results, Tryz.results89, go_sem, E0, E1]) rfl ⟨rfl, set2_below B6 (by first | exact Nat.le_refl _ | omega | (have := S2.out; have := AD.out; have := AE.out; have := AF.out; have := S4.out; have := AG.out; have := AH.out; have := AI.out; have := AJ.out; omega)) _ _⟩
 ·
  clear H
  go_wp2_with fail
  refine (KN.out _ (fatB FF.out B5)).mono ?_
  rintro r w6 ⟨rfl, b6⟩
  have B6 := btr B5 b6
  obtain ⟨Ab, Ac, Aa, Ad, Ae⟩ := rws5 b6 Af Ag Aj Ah Ai
  clear b6 B5 Af AK AL Ag AM AN Aj Ah AO Ai AP
  obtain ⟨Ap, Aq⟩ := cells2s Ab
  obtain ⟨Ar, As⟩ := cells2s Ac
  have At := (pt_cells Ad).1
  have Au := (pt_cells Ae).1
  obtain ⟨Bw, Bx⟩ := cells2s Aa
  have q0 := fz (k := 0) Aa
  have q1 := fz (k := 1) Aa
  obtain ⟨E0, E1⟩ := set2_cells Aa (.int .u64 u) (.int .u64 v)
  go_wp2
  exact bodyPost_ret (v := .tuple #[.agg #[.int .u64 u, .int .u64 v], .int .u8 0, .int .i64 0]) (by simp [results, Tryz.results89, go_sem, E0, E1]) rfl ⟨rfl, set2_below B6 (by first | exact Nat.le_refl _ | omega | (have := S2.out; have := AD.out; have := AE.out; have := AF.out; have := S4.out; have := AG.out; have := AH.out; have := AI.out; have := AJ.out; omega)) _ _⟩
 ·
  clear H
  go_wp2_with fail
  refine (KT1.out _).mono ?_
  rintro r w6 ⟨rfl, b6⟩
  have B6 := btr B5 b6
  obtain ⟨Ab, Ac, Aa, Ad, Ae⟩ := rws5 b6 Af Ag Aj Ah Ai
  clear b6 B5 Af AK AL Ag AM AN Aj Ah AO Ai AP
  obtain ⟨Ap, Aq⟩ := cells2s Ab
  obtain ⟨Ar, As⟩ := cells2s Ac
  have At := (pt_cells Ad).1
  have Au := (pt_cells Ae).1
  go_wp2_with fail
  refine (KN.out _ (fatB FF.out B6)).mono ?_
  rintro r w7 ⟨rfl, b7⟩
  have B7 := btr B6 b7
  obtain ⟨Ak, Al, Ao, Am, An⟩ := rws5 b7 Ab Ac Aa Ad Ae
  clear b7 B6 Ab Ap Aq Ac Ar As Aa Ad At Ae Au
  obtain ⟨AS, AT⟩ := cells2s Ak
  obtain ⟨AU, AV⟩ := cells2s Al
  have AW := (pt_cells Am).1
  have AX := (pt_cells An).1
  obtain ⟨C5, C6⟩ := cells2s Ao
  have q0 := fz (k := 0) Ao
  have q1 := fz (k := 1) Ao
  obtain ⟨E0, E1⟩ := set2_cells Ao (.int .u64 u) (.int .u64 v)
  go_wp2
  exact bodyPost_ret (v := .tuple #[.agg #[.int .u64 u, .int .u64 v], .int .u8 16, .int .i64 0]) (by simp [results, Tryz.results89, go_sem, E0, E1]) rfl ⟨rfl, set2_below B7 (by first | exact Nat.le_refl _ | omega | (have := S2.out; have := AD.out; have := AE.out; have := AF.out; have := S4.out; have := AG.out; have := AH.out; have := AI.out; have := AJ.out; omega)) _ _⟩
 ·
  clear H
  go_wp2_with fail
  refine (KT1.out _).mono ?_
  rintro r w6 ⟨rfl, b6⟩
  have B6 := btr B5 b6
  obtain ⟨Ab, Ac, Aa, Ad, Ae⟩ := rws5 b6 Af Ag Aj Ah Ai
  clear b6 B5 Af AK AL Ag AM AN Aj Ah AO Ai AP
  obtain ⟨Ap, Aq⟩ := cells2s Ab
  obtain ⟨Ar, As⟩ := cells2s Ac
  have At := (pt_cells Ad).1
  have Au := (pt_cells Ae).1
  go_wp2_with fail
  refine (KT2.out _).mono ?_
  rintro r w7 ⟨rfl, b7⟩
  have B7 := btr B6 b7
  obtain ⟨Ak, Al, Ao, Am, An⟩ := rws5 b7 Ab Ac Aa Ad Ae
  clear b7 B6 Ab Ap Aq Ac Ar As Aa Ad At Ae Au
  obtain ⟨AS, AT⟩ := cells2s Ak
  obtain ⟨AU, AV⟩ := cells2s Al
  have AW := (pt_cells Am).1
  have AX := (pt_cells An).1
  go_wp2_with fail
  refine (KN.out _ (fatB FF.out B7)).mono ?_
  rintro r w8 ⟨rfl, b8⟩
  have B8 := btr B7 b8
  obtain ⟨Av, Aw, Ax, Ay, Az⟩ := rws5 b8 Ak Al Ao Am An
  clear b8 B7 Ak AS AT Al AU AV Ao Am AW An AX
  obtain ⟨AZ, A0⟩ := cells2s Av
  obtain ⟨A1, A2⟩ := cells2s Aw
  have A3 := (pt_cells Ay).1
  have A4 := (pt_cells Az).1
  obtain ⟨C7, C8⟩ := cells2s Ax
  have q0 := fz (k := 0) Ax
  have q1 := fz (k := 1) Ax
  obtain ⟨E0, E1⟩ := set2_cells Ax (.int .u64 u) (.int .u64 v)
  go_wp2
  exact bodyPost_ret (v := .tuple #[.agg #[.int .u64 u, .int .u64 v], .int .u8 16, .int .i64 0]) (by simp [results, Tryz.results89, go_sem, E0, E1]) rfl ⟨rfl, set2_below B8 (by first | exact Nat.le_refl _ | omega | (have := S2.out; have := AD.out; have := AE.out; have := AF.out; have := S4.out; have := AG.out; have := AH.out; have := AI.out; have := AJ.out; omega)) _ _⟩
 ·
  clear H
  go_wp2_with fail
  refine (KT1.out _).mono ?_
  rintro r w6 ⟨rfl, b6⟩
  have B6 := btr B5 b6
  obtain ⟨Ab, Ac, Aa, Ad, Ae⟩ := rws5 b6 Af Ag Aj Ah Ai
  clear b6 B5 Af AK AL Ag AM AN Aj Ah AO Ai AP
  obtain ⟨Ap, Aq⟩ := cells2s Ab
  obtain ⟨Ar, As⟩ := cells2s Ac
  have At := (pt_cells Ad).1
  have Au := (pt_cells Ae).1
  go_wp2_with fail
  refine (KT2.out _).mono ?_
  rintro r w7 ⟨rfl, b7⟩
  have B7 := btr B6 b7
  obtain ⟨Ak, Al, Ao, Am, An⟩ := rws5 b7 Ab Ac Aa Ad Ae
  clear b7 B6 Ab Ap Aq Ac Ar As Aa Ad At Ae Au
  obtain ⟨AS, AT⟩ := cells2s Ak
  obtain ⟨AU, AV⟩ := cells2s Al
  have AW := (pt_cells Am).1
  have AX := (pt_cells An).1
  go_wp2_with fail
  refine (KE1.out _).mono ?_
  rintro r w8 ⟨rfl, b8⟩
  have B8 := btr B7 b8
  obtain ⟨Av, Aw, Ax, Ay, Az⟩ := rws5 b8 Ak Al Ao Am An
  clear b8 B7 Ak AS AT Al AU AV Ao Am AW An AX
  obtain ⟨AZ, A0⟩ := cells2s Av
  obtain ⟨A1, A2⟩ := cells2s Aw
  have A3 := (pt_cells Ay).1
  have A4 := (pt_cells Az).1
  go_wp2_with fail
  refine (KI.out _ (fatB FF.out B8)).mono ?_
  rintro r w9 ⟨rfl, b9⟩
  have B9 := btr B8 b9
  obtain ⟨AQ, AR, AA, AB, AC⟩ := rws5 b9 Av Aw Ax Ay Az
  clear b9 B8 Av AZ A0 Aw A1 A2 Ax Ay A3 Az A4
  obtain ⟨Bg, Bh⟩ := cells2s AQ
  obtain ⟨Bi, Bj⟩ := cells2s AR
  have A7 := (pt_cells AB).1
  have A8 := (pt_cells AC).1
  obtain ⟨C9, Da⟩ := cells2s AA
  have q0 := fz (k := 0) AA
  have q1 := fz (k := 1) AA
  obtain ⟨E0, E1⟩ := set2_cells AA (.int .u64 u) (.int .u64 v)
  go_wp2
  exact bodyPost_ret (v := .tuple #[.agg #[.int .u64 u, .int .u64 v], .int .u8 0, .int .i64 0]) (by simp [results, Tryz.results89, go_sem, E0, E1]) rfl ⟨rfl, set2_below B9 (by first | exact Nat.le_refl _ | omega | (have := S2.out; have := AD.out; have := AE.out; have := AF.out; have := S4.out; have := AG.out; have := AH.out; have := AI.out; have := AJ.out; omega)) _ _⟩
 ·
  clear H
  go_wp2_with fail
  refine (KT1.out _).mono ?_
  rintro r w6 ⟨rfl, b6⟩
  have B6 := btr B5 b6
  obtain ⟨Ab, Ac, Aa, Ad, Ae⟩ := rws5 b6 Af Ag Aj Ah Ai
  clear b6 B5 Af AK AL Ag AM AN Aj Ah AO Ai AP
  obtain ⟨Ap, Aq⟩ := cells2s Ab
  obtain ⟨Ar, As⟩ := cells2s Ac
  have At := (pt_cells Ad).1
  have Au := (pt_cells Ae).1
  go_wp2_with fail
  refine (KT2.out _).mono ?_
  rintro r w7 ⟨rfl, b7⟩
  have B7 := btr B6 b7
  obtain ⟨Ak, Al, Ao, Am, An⟩ := rws5 b7 Ab Ac Aa Ad Ae
  clear b7 B6 Ab Ap Aq Ac Ar As Aa Ad At Ae Au
  obtain ⟨AS, AT⟩ := cells2s Ak
  obtain ⟨AU, AV⟩ := cells2s Al
  have AW := (pt_cells Am).1
  have AX := (pt_cells An).1
  go_wp2_with fail
  refine (KE1.out _).mono ?_
  rintro r w8 ⟨rfl, b8⟩
  have B8 := btr B7 b8
  obtain ⟨Av, Aw, Ax, Ay, Az⟩ := rws5 b8 Ak Al Ao Am An
  clear b8 B7 Ak AS AT Al AU AV Ao Am AW An AX
  obtain ⟨AZ, A0⟩ := cells2s Av
  obtain ⟨A1, A2⟩ := cells2s Aw
  have A3 := (pt_cells Ay).1
  have A4 := (pt_cells Az).1
  go_wp2_with fail
  refine (KE2.out _).mono ?_
  rintro r w9 ⟨rfl, b9⟩
  have B9 := btr B8 b9
  obtain ⟨AQ, AR, AA, AB, AC⟩ := rws5 b9 Av Aw Ax Ay Az
  clear b9 B8 Av AZ A0 Aw A1 A2 Ax Ay A3 Az A4
  obtain ⟨Bg, Bh⟩ := cells2s AQ
  obtain ⟨Bi, Bj⟩ := cells2s AR
  have A7 := (pt_cells AB).1
  have A8 := (pt_cells AC).1
  go_wp2_with fail
  refine (KI.out _ (fatB FF.out B9)).mono ?_
  rintro r w10 ⟨rfl, b10⟩
  have B10 := btr B9 b10
  obtain ⟨Bk, Bl, AY, A9, Ba⟩ := rws5 b10 AQ AR AA AB AC
  clear b10 B9 AQ Bg Bh AR Bi Bj AA AB A7 AC A8
  obtain ⟨Db, Dc⟩ := cells2s Bk
  obtain ⟨Dd, De⟩ := cells2s Bl
  have BB := (pt_cells A9).1
  have BC := (pt_cells Ba).1
  obtain ⟨Df, Dg⟩ := cells2s AY
  have q0 := fz (k := 0) AY
  have q1 := fz (k := 1) AY
  obtain ⟨E0, E1⟩ := set2_cells AY (.int .u64 u) (.int .u64 v)
  go_wp2
  exact bodyPost_ret (v := .tuple #[.agg #[.int .u64 u, .int .u64 v], .int .u8 0, .int .i64 0]) (by simp [results, Tryz.results89, go_sem, E0, E1]) rfl ⟨rfl, set2_below B10 (by first | exact Nat.le_refl _ | omega | (have := S2.out; have := AD.out; have := AE.out; have := AF.out; have := S4.out; have := AG.out; have := AH.out; have := AI.out; have := AJ.out; omega)) _ _⟩
 ·
  clear H
  go_wp2_with fail
  refine (KT1.out _).mono ?_
  rintro r w6 ⟨rfl, b6⟩
  have B6 := btr B5 b6
  obtain ⟨Ab, Ac, Aa, Ad, Ae⟩ := rws5 b6 Af Ag Aj Ah Ai
  clear b6 B5 Af AK AL Ag AM AN Aj Ah AO Ai AP
  obtain ⟨Ap, Aq⟩ := cells2s Ab
  obtain ⟨Ar, As⟩ := cells2s Ac
  have At := (pt_cells Ad).1
  have Au := (pt_cells Ae).1
  go_wp2_with fail
  refine (KT2.out _).mono ?_
  rintro r w7 ⟨rfl, b7⟩
  have B7 := btr B6 b7
  obtain ⟨Ak, Al, Ao, Am, An⟩ := rws5 b7 Ab Ac Aa Ad Ae
  clear b7 B6 Ab Ap Aq Ac Ar As Aa Ad At Ae Au
  obtain ⟨AS, AT⟩ := cells2s Ak
  obtain ⟨AU, AV⟩ := cells2s Al
  have AW := (pt_cells Am).1
  have AX := (pt_cells An).1
  go_wp2_with fail
  refine (KE1.out _).mono ?_
  rintro r w8 ⟨rfl, b8⟩
  have B8 := btr B7 b8
  obtain ⟨Av, Aw, Ax, Ay, Az⟩ := rws5 b8 Ak Al Ao Am An
  clear b8 B7 Ak AS AT Al AU AV Ao Am AW An AX
  obtain ⟨AZ, A0⟩ := cells2s Av
  obtain ⟨A1, A2⟩ := cells2s Aw
  have A3 := (pt_cells Ay).1
  have A4 := (pt_cells Az).1
  go_wp2_with fail
  refine (KE2.out _).mono ?_
  rintro r w9 ⟨rfl, b9⟩
  have B9 := btr B8 b9
  obtain ⟨AQ, AR, AA, AB, AC⟩ := rws5 b9 Av Aw Ax Ay Az
  clear b9 B8 Av AZ A0 Aw A1 A2 Ax Ay A3 Az A4
  obtain ⟨Bg, Bh⟩ := cells2s AQ
  obtain ⟨Bi, Bj⟩ := cells2s AR
  have A7 := (pt_cells AB).1
  have A8 := (pt_cells AC).1
  clear Bg Bh
  clear Bi Bj
  obtain ⟨A7, Cb, Cc, Cd, Ce, Cf, Cg, Ch, Ci, Cj, Ck, Cl, Cm, Cn⟩ := pt_cells AB
  obtain ⟨A8, Co, Cp, Cq, Cr, Cs, Ct, Cu, Cv, Cw, Cx, Cy, Cz, CA⟩ := pt_cells AC
  go_wp2_with fail
  refine (KX.out _).mono ?_
  rintro r w10 ⟨rfl, b10⟩
  have B10 := btr B9 b10
  obtain ⟨Bk, Bl, AY, A9, Ba⟩ := rws5 b10 AQ AR AA AB AC
  clear b10 B9 AQ AR AA AB A7 Cb Cc Cd Ce Cf Cg Ch Ci Cj Ck Cl Cm Cn AC A8 Co Cp Cq Cr Cs Ct Cu Cv Cw Cx Cy Cz CA
  obtain ⟨BB, CB, CC, CD, CE, CF, CG, CH, CI, CJ, CK, CL, CM, CN⟩ := pt_cells A9
  obtain ⟨BC, CO, CP, CQ, CR, CS, CT, CU, CV, CW, CX, CY, CZ, C0⟩ := pt_cells Ba
  clear BB CB CC CD CE CF CG CH CI CJ CK CL CM CN
  clear BC CO CP CQ CR CS CT CU CV CW CX CY CZ C0
  go_wp2_with fail
  refine (KP.out _ (fatB FF.out B10)).mono ?_
  rintro r w11 ⟨rfl, b11⟩
  have B11 := btr B10 b11
  obtain ⟨Dh, Di, Bm, Dj, Dk⟩ := rws5 b11 Bk Bl AY A9 Ba
  clear b11 B10 Bk Bl AY A9 Ba
  obtain ⟨Dl, Dm⟩ := cells2s Bm
  have q0 := fz (k := 0) Bm
  have q1 := fz (k := 1) Bm
  obtain ⟨E0, E1⟩ := set2_cells Bm (.int .u64 u) (.int .u64 v)
  go_wp2
  exact bodyPost_ret (v := .tuple #[.agg #[.int .u64 u, .int .u64 v], .int .u8 fl, .int .i64 0]) (by simp [results, Tryz.results89, go_sem, E0, E1]) rfl ⟨rfl, set2_below B11 (by first | exact Nat.le_refl _ | omega | (have := S2.out; have := AD.out; have := AE.out; have := AF.out; have := S4.out; have := AG.out; have := AH.out; have := AI.out; have := AJ.out; omega)) _ _⟩
end Go.Proofs.YtoaaajeblhaeoaaGreatDoor
namespace Go.Proofs.YtoaaajeblhaeoaaGreatDoor
set_option maxRecDepth 100000
set_option maxHeartbeats 40000000
set_option maxRecDepth 100000
open Go.RowKit WMath XMath
set_option linter.unusedSimpArgs false
set_option linter.unusedVariables false
theorem ov_inf (f : Int) (neg : Bool) : ovB f 0 neg = eInf f neg := by
 unfold ovB
 rw [if_pos (by unfold gO; rw [if_pos rfl]; rfl)]
theorem nan_or {f : Int} (hf : Is4 f) : eInf f false ||| eInf f false / 2 = eNaN f ∧ eInf f false < 340282366920938463463374607431768211456 ∧ eNaN f < 340282366920938463463374607431768211456 := by
 rcases hf with rfl | rfl | rfl | rfl <;> decide +kernel
theorem kInf_is (f : Int) (hf : Is4 f) (neg : Bool) (u v : Nat) (hv : bv7 (eInf f neg) = (u, v)) (w : World) (hT : FAt w) : Calls Tryz.prog 172 #[.int .u8 f, .bool neg] w fun r w' => r = .returned (.agg #[.int .u64 u, .int .u64 v]) ∧ Below w.heap.size w w' :=
 op_inf f neg u v w (box (fun w hT => kover f 0 hf (by decide) neg u v (by rw [ov_inf]; exact hv) w hT)) hT
theorem kNaN_is (f : Int) (hf : Is4 f) (u v : Nat) (hv : bv7 (eNaN f) = (u, v)) (w : World) (hT : FAt w) : Calls Tryz.prog 157 #[.int .u8 f] w fun r w' => r = .returned (.agg #[.int .u64 u, .int .u64 v]) ∧ Below w.heap.size w w' := by
 obtain ⟨n1, n2, n3⟩ := nan_or hf
 obtain ⟨iu, iv, hi⟩ : ∃ iu iv, bv7 (eInf f false) = (iu, iv) := ⟨_, _, rfl⟩
 obtain ⟨i1, i2, i3⟩ := bv_lt n2 hi
 obtain ⟨w0, w1⟩ := wd01 n3
 have hQ := lt_Q7 n2
 have hQ2 := lt_Q7 n3
 have hQ3 : eInf f false / 2 < Q := Nat.lt_of_le_of_lt (Nat.div_le_self _ _) hQ
 unfold bv7 at hv
 injection hv with v1 v2
 have KT : Box (∀ w, Calls Tryz.prog 204 #[.agg (cw 6 (eNaN f))] w fun r w' => r = .returned (.tuple #[.agg #[.int .u64 u, .int .u64 v], .bool true]) ∧ Below w.heap.size w w') := box (fun w => by
  have := wtobits_yes (eNaN f) hQ2 (by rw [w0, w1]; exact Nat.mod_add_div _ _) w
  rw [w0, w1, v1, v2] at this
  exact this)
 exact op_nan f iu iv _ _ _ u v _ true w (box (fun w hT => kInf_is f hf false iu iv hi w hT)) (box (fun w => wofbits_is iu iv _ i1 i2 i3 w))
  (box (fun w => wright_is (eInf f false) (eInf f false / 2) 1 _ hQ rfl rfl w)) (box (fun w => wor_is _ _ _ hQ hQ3 n1 w)) KT hT
def mulR (f m : Int) (a b : Nat) : Nat × Int :=
  if kC f a = 8 ∨ kC f b = 8 then (eNaN f, 16)
  else if kC f a = 9 ∨ kC f b = 9 then (eNaN f, 0)
  else if ((kC f a = 0 ∨ kC f a = 7) ∧ (kC f b = 3 ∨ kC f b = 4)) ∨ ((kC f b = 0 ∨ kC f b = 7) ∧ (kC f a = 3 ∨ kC f a = 4)) then (eNaN f, 16)
  else if (kC f a = 0 ∨ kC f a = 7) ∨ (kC f b = 0 ∨ kC f b = 7) then (eInf f (kN f a != kN f b), 0)
  else if (kC f a = 3 ∨ kC f a = 4) ∨ (kC f b = 3 ∨ kC f b = 4) then (eZero f (kN f a != kN f b), 0)
  else dlv f m (kN f a != kN f b) (kX f a + kX f b + (blen (kS f a * kS f b) : Int) - 1) (qW (pV f + 1) (kS f a * kS f b)) (qM (pV f + 1) (kS f a * kS f b) false)
theorem ieq {c : Nat} {k : Int} (h : (c : Int) = k) : ((c : Int) == k) = true := by rw [h]; exact beq_self_eq_true k
theorem ine {c : Nat} {k : Int} (h : (c : Int) ≠ k) : ((c : Int) == k) = false := beq_eq_false_iff_ne.2 h
theorem q256 {s : Nat} (h : s < 2 ^ 256) : s < Q := Nat.lt_of_lt_of_le h (by decide +kernel)
theorem ktimes_is (f m : Int) (hf : Is4 f) (hm : 0 ≤ m ∧ m ≤ 4) (x1 y1 a x2 y2 b : Nat) (hx1 : x1 < 18446744073709551616) (hy1 : y1 < 18446744073709551616) (ha : y1 + 18446744073709551616 * x1 = a) (hx2 : x2 < 18446744073709551616) (hy2 : y2 < 18446744073709551616) (hb : y2 + 18446744073709551616 * x2 = b)
  (oa : okB f a = true) (ob : okB f b = true) (M : Nat) (fl : Int) (hr : mulR f m a b = (M, fl)) (u v : Nat) (hv : bv7 M = (u, v)) (w : World) (hT : FAt w) :
  Calls Tryz.prog 89 #[.int .u8 f, .int .u8 m, .agg #[.int .u64 x1, .int .u64 y1], .agg #[.int .u64 x2, .int .u64 y2]] w fun r w' => r = .returned (.tuple #[.agg #[.int .u64 u, .int .u64 v], .int .u8 fl, .int .i64 0]) ∧ Below w.heap.size w w' := by
 obtain ⟨sa1, sa2, sa3⟩ := kS_lim hf a
 obtain ⟨sb1, sb2, sb3⟩ := kS_lim hf b
 obtain ⟨c1, Aa⟩ : ∃ c, kC f a = c := ⟨_, rfl⟩
 obtain ⟨c2, Ab⟩ : ∃ c, kC f b = c := ⟨_, rfl⟩
 obtain ⟨m1, hm1⟩ : ∃ c, kS f a = c := ⟨_, rfl⟩
 obtain ⟨m2, hm2⟩ : ∃ c, kS f b = c := ⟨_, rfl⟩
 obtain ⟨X1, hX1⟩ : ∃ c, kX f a = c := ⟨_, rfl⟩
 obtain ⟨X2, hX2⟩ : ∃ c, kX f b = c := ⟨_, rfl⟩
 obtain ⟨s1, hs1⟩ : ∃ c, kN f a = c := ⟨_, rfl⟩
 obtain ⟨s2, hs2⟩ : ∃ c, kN f b = c := ⟨_, rfl⟩
 obtain ⟨neg, hng⟩ : ∃ c, (s1 != s2) = c := ⟨_, rfl⟩
 have KU1 : Box (∀ w, FAt w → Calls Tryz.prog 45 #[.int .u8 f, .agg #[.int .u64 x1, .int .u64 y1]] w fun r w' => r = .returned (.tuple #[.agg (pt c1 m1 X1 (kF f a)), .int .i64 0]) ∧ Below w.heap.size w w') := box (fun w hT => kUnpack_yes f hf x1 y1 a c1 m1 (kF f a) X1 hx1 hy1 ha oa (by unfold kp; rw [Aa, hm1, hX1]) w hT)
 have KU2 : Box (∀ w, FAt w → Calls Tryz.prog 45 #[.int .u8 f, .agg #[.int .u64 x2, .int .u64 y2]] w fun r w' => r = .returned (.tuple #[.agg (pt c2 m2 X2 (kF f b)), .int .i64 0]) ∧ Below w.heap.size w w') := box (fun w hT => kUnpack_yes f hf x2 y2 b c2 m2 (kF f b) X2 hx2 hy2 hb ob (by unfold kp; rw [Ab, hm2, hX2]) w hT)
 have KS1 : Box (∀ w, FAt w → Calls Tryz.prog 25 #[.int .u8 f, .agg #[.int .u64 x1, .int .u64 y1]] w fun r w' => r = .returned (.bool s1) ∧ Below w.heap.size w w') := box (fun w hT => kSign_yes f hf x1 y1 a s1 hx1 hy1 ha oa hs1 w hT)
 have KS2 : Box (∀ w, FAt w → Calls Tryz.prog 25 #[.int .u8 f, .agg #[.int .u64 x2, .int .u64 y2]] w fun r w' => r = .returned (.bool s2) ∧ Below w.heap.size w w') := box (fun w hT => kSign_yes f hf x2 y2 b s2 hx2 hy2 hb ob hs2 w hT)
 have z1 := fun h => k_null (f := f) a h
 have z2 := fun h => k_null (f := f) b h
 have p1 := fun h => k_parts (f := f) a h
 have p2 := fun h => k_parts (f := f) b h
 unfold mulR at hr
 rw [Aa, Ab, hs1, hs2, hng, hX1, hX2, hm1, hm2] at hr
 rw [Aa, hm1, hX1] at z1
 rw [Ab, hm2, hX2] at z2
 rw [Aa, hm1] at p1
 rw [Ab, hm2] at p2
 rw [hm1] at sa1
 rw [hX1] at sa2 sa3
 rw [hm2] at sb1
 rw [hX2] at sb2 sb3
 have lc1 : c1 ≤ 9 := by rw [← Aa]; have := kC_lt f a; omega
 have lc2 : c2 ≤ 9 := by rw [← Ab]; have := kC_lt f b; omega
 have KN : ∀ g, bv7 (eNaN f) = (u, v) → Box (∀ w, FAt w → Calls Tryz.prog 157 #[.int .u8 f] w fun r w' => r = .returned (.agg #[.int .u64 u, .int .u64 v]) ∧ Below w.heap.size w w') := fun (g : Unit) h => box (fun w hT => kNaN_is f hf u v h w hT)
 by_cases a1 : c1 = 8 ∨ c2 = 8
 ·
  rw [if_pos a1] at hr
  injection hr with r1 r2
  subst r1 r2
  by_cases a2 : c1 = 8
  ·
   exact mu_all f m x1 y1 x2 y2 u v c1 m1 X1 _ c2 m2 X2 _ s1 s2 neg 0 0 _ w hng KU1 KU2 KS1 KS2 (box (Or.inl ⟨ieq (by omega), KN () hv, rfl⟩)) hT
  ·
   exact mu_all f m x1 y1 x2 y2 u v c1 m1 X1 _ c2 m2 X2 _ s1 s2 neg 0 0 _ w hng KU1 KU2 KS1 KS2 (box (Or.inr (Or.inl ⟨ine (by omega), ieq (by omega), KN () hv, rfl⟩))) hT
 rw [if_neg a1] at hr
 have h18 : ((c1 : Int) == 8) = false := ine (by omega)
 have h28 : ((c2 : Int) == 8) = false := ine (by omega)
 by_cases b1 : c1 = 9 ∨ c2 = 9
 ·
  rw [if_pos b1] at hr
  injection hr with r1 r2
  subst r1 r2
  by_cases a2 : c1 = 9
  ·
   exact mu_all f m x1 y1 x2 y2 u v c1 m1 X1 _ c2 m2 X2 _ s1 s2 neg 0 0 _ w hng KU1 KU2 KS1 KS2 (box (Or.inr (Or.inr (Or.inl ⟨h18, h28, ieq (by omega), KN () hv, rfl⟩)))) hT
  ·
   exact mu_all f m x1 y1 x2 y2 u v c1 m1 X1 _ c2 m2 X2 _ s1 s2 neg 0 0 _ w hng KU1 KU2 KS1 KS2 (box (Or.inr (Or.inr (Or.inr (Or.inl ⟨h18, h28, ine (by omega), ieq (by omega), KN () hv, rfl⟩))))) hT
 rw [if_neg b1] at hr
 have h19 : ((c1 : Int) == 9) = false := ine (by omega)
 have h29 : ((c2 : Int) == 9) = false := ine (by omega)
 have KE1 : ∀ o, (decide (c1 = 0) || decide (c1 = 7)) = o → Box (∀ w, Calls Tryz.prog 158 #[.int .u8 c1] w fun r w' => r = .returned (.bool o) ∧ Below w.heap.size w w') := fun o h => box (fun w => op_endless c1 o h w)
 have KE2 : ∀ o, (decide (c2 = 0) || decide (c2 = 7)) = o → Box (∀ w, Calls Tryz.prog 158 #[.int .u8 c2] w fun r w' => r = .returned (.bool o) ∧ Below w.heap.size w w') := fun o h => box (fun w => op_endless c2 o h w)
 have KT1 : ∀ o, decide ((c1 = 0 ∨ c1 = 7) ∧ (c2 = 3 ∨ c2 = 4)) = o → Box (∀ w, Calls Tryz.prog 171 #[.int .u8 c1, .int .u8 c2] w fun r w' => r = .returned (.bool o) ∧ Below w.heap.size w w') := fun o h => box (fun w => mu_etn c1 c2 _ _ o (KE1 _ rfl) (box (fun w => op_naught c2 _ rfl w)) (by rw [← h, Bool.decide_and, Bool.decide_or, Bool.decide_or]) w)
 have KT2 : ∀ o, decide ((c2 = 0 ∨ c2 = 7) ∧ (c1 = 3 ∨ c1 = 4)) = o → Box (∀ w, Calls Tryz.prog 171 #[.int .u8 c2, .int .u8 c1] w fun r w' => r = .returned (.bool o) ∧ Below w.heap.size w w') := fun o h => box (fun w => mu_etn c2 c1 _ _ o (KE2 _ rfl) (box (fun w => op_naught c1 _ rfl w)) (by rw [← h, Bool.decide_and, Bool.decide_or, Bool.decide_or]) w)
 by_cases d1 : ((c1 = 0 ∨ c1 = 7) ∧ (c2 = 3 ∨ c2 = 4)) ∨ ((c2 = 0 ∨ c2 = 7) ∧ (c1 = 3 ∨ c1 = 4))
 ·
  rw [if_pos d1] at hr
  injection hr with r1 r2
  subst r1 r2
  by_cases a2 : (c1 = 0 ∨ c1 = 7) ∧ (c2 = 3 ∨ c2 = 4)
  ·
   exact mu_all f m x1 y1 x2 y2 u v c1 m1 X1 _ c2 m2 X2 _ s1 s2 neg 0 0 _ w hng KU1 KU2 KS1 KS2 (box (Or.inr (Or.inr (Or.inr (Or.inr (Or.inl ⟨h18, h28, h19, h29, KT1 true (decide_eq_true a2), KN () hv, rfl⟩)))))) hT
  ·
   exact mu_all f m x1 y1 x2 y2 u v c1 m1 X1 _ c2 m2 X2 _ s1 s2 neg 0 0 _ w hng KU1 KU2 KS1 KS2 (box (Or.inr (Or.inr (Or.inr (Or.inr (Or.inr (Or.inl ⟨h18, h28, h19, h29, KT1 false (decide_eq_false a2), KT2 true (decide_eq_true (d1.resolve_left a2)), KN () hv, rfl⟩))))))) hT
 rw [if_neg d1] at hr
 have KT1 := KT1 false (decide_eq_false (fun h => d1 (Or.inl h)))
 have KT2 := KT2 false (decide_eq_false (fun h => d1 (Or.inr h)))
 by_cases e1 : (c1 = 0 ∨ c1 = 7) ∨ (c2 = 0 ∨ c2 = 7)
 ·
  rw [if_pos e1] at hr
  injection hr with r1 r2
  subst r1 r2
  have KI : Box (∀ w, FAt w → Calls Tryz.prog 172 #[.int .u8 f, .bool neg] w fun r w' => r = .returned (.agg #[.int .u64 u, .int .u64 v]) ∧ Below w.heap.size w w') := box (fun w hT => kInf_is f hf neg u v hv w hT)
  by_cases a2 : c1 = 0 ∨ c1 = 7
  ·
   exact mu_all f m x1 y1 x2 y2 u v c1 m1 X1 _ c2 m2 X2 _ s1 s2 neg 0 0 _ w hng KU1 KU2 KS1 KS2 (box (Or.inr (Or.inr (Or.inr (Or.inr (Or.inr (Or.inr (Or.inl ⟨h18, h28, h19, h29, KT1, KT2, KE1 true (by rw [← Bool.decide_or]; exact decide_eq_true a2), KI, rfl⟩)))))))) hT
  ·
   exact mu_all f m x1 y1 x2 y2 u v c1 m1 X1 _ c2 m2 X2 _ s1 s2 neg 0 0 _ w hng KU1 KU2 KS1 KS2 (box (Or.inr (Or.inr (Or.inr (Or.inr (Or.inr (Or.inr (Or.inr (Or.inl ⟨h18, h28, h19, h29, KT1, KT2, KE1 false (by rw [← Bool.decide_or]; exact decide_eq_false a2), KE2 true (by rw [← Bool.decide_or]; exact decide_eq_true (e1.resolve_left a2)), KI, rfl⟩))))))))) hT
 rw [if_neg e1] at hr
 have KE1 := KE1 false (by rw [← Bool.decide_or]; exact decide_eq_false (fun h => e1 (Or.inl h)))
 have KE2 := KE2 false (by rw [← Bool.decide_or]; exact decide_eq_false (fun h => e1 (Or.inr h)))
 obtain ⟨S, hS⟩ : ∃ S, m1 * m2 = S := ⟨_, rfl⟩
 obtain ⟨q1, q2⟩ := blen_prod m1 m2 sa1 sb1
 rw [hS] at q1 q2 hr
 have SQ := q256 q1
 have KM : Box (∀ w, Calls Tryz.prog 261 #[.agg (cw 6 m1), .agg (cw 6 m2)] w fun r w' => r = .returned (.tuple #[.agg (cw 6 S), .bool false]) ∧ Below w.heap.size w w') := box (fun w => wmul_is m1 m2 S false (lt_Q7 sa1) (lt_Q7 sb1) (by rw [hS]; exact Nat.mod_eq_of_lt SQ) (decide_eq_false (by rw [hS]; omega)) w)
 have KX : Box (∀ w, Calls Tryz.prog 173 #[.bool neg, .agg (pt c1 m1 X1 (kF f a)), .agg (pt c2 m2 X2 (kF f b))] w fun r w' => r = .returned (.agg (rg neg S (X1 + X2) false)) ∧ Below w.heap.size w w') := box (fun w => mu_exactly neg c1 m1 X1 _ c2 m2 X2 _ S (X1 + X2) false w KM (wrap_i64_is _ (by omega) (by omega)))
 refine mu_all f m x1 y1 x2 y2 u v c1 m1 X1 _ c2 m2 X2 _ s1 s2 neg S (X1 + X2) fl w hng KU1 KU2 KS1 KS2 (box (Or.inr (Or.inr (Or.inr (Or.inr (Or.inr (Or.inr (Or.inr (Or.inr (⟨h18, h28, h19, h29, KT1, KT2, KE1, KE2, KX, ?_⟩)))))))))) hT
 by_cases n1 : (c1 = 3 ∨ c1 = 4) ∨ (c2 = 3 ∨ c2 = 4)
 ·
  rw [if_pos n1] at hr
  injection hr with r1 r2
  subst r1 r2
  have S0 : S = 0 := by
   rcases n1 with h | h
   ·
    rw [← hS, (z1 h).1, Nat.zero_mul]
   ·
    rw [← hS, (z2 h).1, Nat.mul_zero]
  rw [S0]
  exact box (fun w hT => kPack_zero f m hf hm neg (X1 + X2) (by omega) (by omega) u v hv w hT)
 ·
  rw [if_neg n1] at hr
  have S0 : S ≠ 0 := by
   rw [← hS]
   exact mul_ne (p1 (by omega)).2.2.2 (p2 (by omega)).2.2.2
  exact box (fun w hT => kPack_is f m hf hm neg S SQ S0 (X1 + X2) false (by omega) (by omega) (fun h => Bool.noConfusion h) M fl hr u v hv w hT)
theorem rMul_is (f m : Int) (hf : Is4 f) (hm : 0 ≤ m ∧ m ≤ 4) (x1 y1 a x2 y2 b : Nat) (hx1 : x1 < 18446744073709551616) (hy1 : y1 < 18446744073709551616) (ha : y1 + 18446744073709551616 * x1 = a) (hx2 : x2 < 18446744073709551616) (hy2 : y2 < 18446744073709551616) (hb : y2 + 18446744073709551616 * x2 = b)
  (oa : okB f a = true) (ob : okB f b = true) (M : Nat) (fl : Int) (hr : mulR f m a b = (M, fl)) (u v : Nat) (hv : bv7 M = (u, v)) (w : World) :
  Calls Tryz.prog 41 #[.int .u8 f, .int .u8 m, .agg #[.int .u64 x1, .int .u64 y1], .agg #[.int .u64 x2, .int .u64 y2]] w fun r w' => r = .returned (.tuple #[.agg #[.int .u64 u, .int .u64 v], .int .u8 fl, .int .i64 0]) ∧ Below w.heap.size w w' := by
 have h0 := (is4_ok hf).1
 have fa := (okB_yes h0 oa).2
 have fb := (okB_yes h0 ob).2
 have KF := rfit2 f m h0 x1 y1 a x2 y2 b hx1 hy1 ha hx2 hy2 hb true (by rw [oa, ob, decide_eq_true (show f ≤ 3 ∧ m ≤ 4 from ⟨is4_le hf, hm.2⟩)]; rfl)
 obtain ⟨c1, Aa⟩ : ∃ c, kC f a = c := ⟨_, rfl⟩
 obtain ⟨c2, Ab⟩ : ∃ c, kC f b = c := ⟨_, rfl⟩
 have lc1 : c1 ≤ 9 := by rw [← Aa]; have := kC_lt f a; omega
 have lc2 : c2 ≤ 9 := by rw [← Ab]; have := kC_lt f b; omega
 have KN1 : ∀ o, decide (8 ≤ c1) = o → Box (∀ w, Calls Tryz.prog 78 #[.int .u8 f, .agg #[.int .u64 x1, .int .u64 y1]] w fun r w' => r = .returned (.bool o) ∧ Below w.heap.size w w') := fun o h => box (fun w => rNaN_is f hf x1 y1 a c1 o hx1 hy1 ha fa Aa h w)
 have KN2 : ∀ o, decide (8 ≤ c2) = o → Box (∀ w, Calls Tryz.prog 78 #[.int .u8 f, .agg #[.int .u64 x2, .int .u64 y2]] w fun r w' => r = .returned (.bool o) ∧ Below w.heap.size w w') := fun o h => box (fun w => rNaN_is f hf x2 y2 b c2 o hx2 hy2 hb fb Ab h w)
 have hr0 := hr
 unfold mulR at hr
 rw [Aa, Ab] at hr
 by_cases n0 : 8 ≤ c1 ∨ 8 ≤ c2
 ·
  have hM : M = eNaN f ∧ fl = if c1 = 8 ∨ c2 = 8 then 16 else 0 := by
   by_cases s0 : c1 = 8 ∨ c2 = 8
   ·
    rw [if_pos s0] at hr ⊢
    injection hr with r1 r2
    exact ⟨r1.symm, r2.symm⟩
   ·
    rw [if_neg s0, if_pos (by omega)] at hr
    rw [if_neg s0]
    injection hr with r1 r2
    exact ⟨r1.symm, r2.symm⟩
  have KC := rcan2 f hf x1 y1 a x2 y2 b hx1 hy1 ha hx2 hy2 hb fa fb fl (by rw [Aa, Ab]; exact hM.2.symm) u v (by rw [← hM.1]; exact hv)
  by_cases n1 : 8 ≤ c1
  ·
   exact rmu_nx f m x1 y1 x2 y2 u v w fl KF (KN1 true (decide_eq_true n1)) KC
  ·
   exact rmu_ny f m x1 y1 x2 y2 u v w fl KF (KN1 false (decide_eq_false n1)) (KN2 true (decide_eq_true (n0.resolve_left n1))) KC
 have KN1 := KN1 false (decide_eq_false (by omega))
 have KN2 := KN2 false (decide_eq_false (by omega))
 rw [if_neg (by omega), if_neg (by omega)] at hr
 obtain ⟨s1, hs1⟩ : ∃ c, kN f a = c := ⟨_, rfl⟩
 obtain ⟨s2, hs2⟩ : ∃ c, kN f b = c := ⟨_, rfl⟩
 obtain ⟨neg, hng⟩ : ∃ c, (s1 != s2) = c := ⟨_, rfl⟩
 rw [hs1, hs2, hng] at hr
 have KS1 : Box (∀ w, Calls Tryz.prog 50 #[.int .u8 f, .agg #[.int .u64 x1, .int .u64 y1]] w fun r w' => r = .returned (.bool s1) ∧ Below w.heap.size w w') := box (fun w => rSign_yes f hf x1 y1 a s1 hx1 hy1 ha oa hs1 w)
 have KS2 : Box (∀ w, Calls Tryz.prog 50 #[.int .u8 f, .agg #[.int .u64 x2, .int .u64 y2]] w fun r w' => r = .returned (.bool s2) ∧ Below w.heap.size w w') := box (fun w => rSign_yes f hf x2 y2 b s2 hx2 hy2 hb ob hs2 w)
 have KI1 : ∀ o, decide (c1 = 0 ∨ c1 = 7) = o → Box (∀ w, Calls Tryz.prog 80 #[.int .u8 f, .agg #[.int .u64 x1, .int .u64 y1]] w fun r w' => r = .returned (.bool o) ∧ Below w.heap.size w w') := fun o h => box (fun w => rInf_is f hf x1 y1 a c1 o hx1 hy1 ha fa Aa (by rw [← Bool.decide_or]; exact h) w)
 have KI2 : ∀ o, decide (c2 = 0 ∨ c2 = 7) = o → Box (∀ w, Calls Tryz.prog 80 #[.int .u8 f, .agg #[.int .u64 x2, .int .u64 y2]] w fun r w' => r = .returned (.bool o) ∧ Below w.heap.size w w') := fun o h => box (fun w => rInf_is f hf x2 y2 b c2 o hx2 hy2 hb fb Ab (by rw [← Bool.decide_or]; exact h) w)
 have KZ1 : ∀ o, decide (c1 = 3 ∨ c1 = 4) = o → Box (∀ w, Calls Tryz.prog 38 #[.int .u8 f, .agg #[.int .u64 x1, .int .u64 y1]] w fun r w' => r = .returned (.bool o) ∧ Below w.heap.size w w') := fun o h => box (fun w => rZero_is f hf x1 y1 a c1 o hx1 hy1 ha fa Aa (by rw [← Bool.decide_or]; exact h) w)
 have KZ2 : ∀ o, decide (c2 = 3 ∨ c2 = 4) = o → Box (∀ w, Calls Tryz.prog 38 #[.int .u8 f, .agg #[.int .u64 x2, .int .u64 y2]] w fun r w' => r = .returned (.bool o) ∧ Below w.heap.size w w') := fun o h => box (fun w => rZero_is f hf x2 y2 b c2 o hx2 hy2 hb fb Ab (by rw [← Bool.decide_or]; exact h) w)
 have KRN : bv7 (eNaN f) = (u, v) → Box (∀ w, Calls Tryz.prog 81 #[.int .u8 f] w fun r w' => r = .returned (.agg #[.int .u64 u, .int .u64 v]) ∧ Below w.heap.size w w') := fun h => box (fun w => by
  have := r_nan f hf _ rfl w
  rw [h] at this
  exact this)
 have KRI : bv7 (eInf f neg) = (u, v) → Box (∀ w, Calls Tryz.prog 90 #[.int .u8 f, .bool neg] w fun r w' => r = .returned (.agg #[.int .u64 u, .int .u64 v]) ∧ Below w.heap.size w w') := fun h => box (fun w => by
  have := r_inf f neg hf _ rfl w
  rw [h] at this
  exact this)
 have KRZ : bv7 (eZero f neg) = (u, v) → Box (∀ w, Calls Tryz.prog 91 #[.int .u8 f, .bool neg] w fun r w' => r = .returned (.agg #[.int .u64 u, .int .u64 v]) ∧ Below w.heap.size w w') := fun h => box (fun w => by
  have := r_zero f neg hf _ rfl w
  rw [h] at this
  exact this)
 by_cases d1 : ((c1 = 0 ∨ c1 = 7) ∧ (c2 = 3 ∨ c2 = 4)) ∨ ((c2 = 0 ∨ c2 = 7) ∧ (c1 = 3 ∨ c1 = 4))
 ·
  rw [if_pos d1] at hr
  injection hr with r1 r2
  subst r1 r2
  rcases d1 with ⟨i, z⟩ | ⟨i, z⟩
  ·
   exact rmu_tu f m x1 y1 x2 y2 u v w s1 s2 neg hng KF KN1 KN2 KS1 KS2 (KI1 true (decide_eq_true i)) (KZ1 false (decide_eq_false (by omega))) (KZ2 true (decide_eq_true z)) (KRN hv)
  ·
   exact rmu_ut f m x1 y1 x2 y2 u v w s1 s2 neg hng KF KN1 KN2 KS1 KS2 (KI1 false (decide_eq_false (by omega))) (KI2 true (decide_eq_true i)) (KZ1 true (decide_eq_true z)) (KRN hv)
 rw [if_neg d1] at hr
 by_cases e1 : (c1 = 0 ∨ c1 = 7) ∨ (c2 = 0 ∨ c2 = 7)
 ·
  rw [if_pos e1] at hr
  injection hr with r1 r2
  subst r1 r2
  by_cases i : c1 = 0 ∨ c1 = 7
  ·
   exact rmu_tf f m x1 y1 x2 y2 u v w s1 s2 neg hng KF KN1 KN2 KS1 KS2 (KI1 true (decide_eq_true i)) (KZ1 false (decide_eq_false (by omega))) (KZ2 false (decide_eq_false (by omega))) (KRI hv)
  ·
   exact rmu_uf f m x1 y1 x2 y2 u v w s1 s2 neg hng KF KN1 KN2 KS1 KS2 (KI1 false (decide_eq_false i)) (KI2 true (decide_eq_true (e1.resolve_left i))) (KZ1 false (decide_eq_false (by omega))) (KZ2 false (decide_eq_false (by omega))) (KRI hv)
 rw [if_neg e1] at hr
 have KI1 := KI1 false (decide_eq_false (by omega))
 have KI2 := KI2 false (decide_eq_false (by omega))
 by_cases n1 : (c1 = 3 ∨ c1 = 4) ∨ (c2 = 3 ∨ c2 = 4)
 ·
  rw [if_pos n1] at hr
  injection hr with r1 r2
  subst r1 r2
  by_cases z : c1 = 3 ∨ c1 = 4
  ·
   exact rmu_ft f m x1 y1 x2 y2 u v w s1 s2 neg hng KF KN1 KN2 KS1 KS2 KI1 KI2 (KZ1 true (decide_eq_true z)) (KRZ hv)
  ·
   exact rmu_fu f m x1 y1 x2 y2 u v w s1 s2 neg hng KF KN1 KN2 KS1 KS2 KI1 KI2 (KZ1 false (decide_eq_false z)) (KZ2 true (decide_eq_true (n1.resolve_left z))) (KRZ hv)
 rw [if_neg n1] at hr
 have KZ1 := KZ1 false (decide_eq_false (by omega))
 have KZ2 := KZ2 false (decide_eq_false (by omega))
 obtain ⟨a1, a2, a3, a4⟩ := vX_whole hf a (by omega) (by omega)
 obtain ⟨b1, b2, b3, b4⟩ := vX_whole hf b (by omega) (by omega)
 obtain ⟨sa1, sa2, sa3⟩ := kS_lim hf a
 obtain ⟨sb1, sb2, sb3⟩ := kS_lim hf b
 obtain ⟨n, e, q1, q2, q3, q4, q5⟩ := mul_num hf m s1 s2 (kS f a) (kS f b) (kX f a) (kX f b) a1 b1 a2 b2 sa2 sa3 sb2 sb3
 rw [hs1] at a3
 rw [hs2] at b3
 rw [hng] at q1 q2 q5
 rw [a3] at a4
 rw [b3] at b4
 refine rmu_ff f m x1 y1 x2 y2 u v w s1 s2 neg hng s1 _ _ _ s2 _ _ _ neg _ _ e 0 fl KF KN1 KN2 KS1 KS2 KI1 KI2 KZ1 KZ2
  (box (fun w => rValue_yes f hf x1 y1 a hx1 hy1 ha oa fa (by omega) _ _ _ _ _ _ a3 rfl rfl w)) (box (fun w => rValue_yes f hf x2 y2 b hx2 hy2 hb ob fb (by omega) _ _ _ _ _ _ b3 rfl rfl w))
  (box (fun w => rMul_ok _ _ _ _ _ _ _ _ _ _ _ _ neg n 1 e 0 _ _ rfl rfl rfl rfl a4 b4 q1 rfl rfl w))
  (box (fun w => rRound_is0 f m hf hm neg n 1 _ _ e rfl rfl q2 q3 (Nat.le_trans (nl_le_of 1 1 (by decide)) (by decide)) M fl (by rw [q5]; exact hr) u v hv w))
theorem al12 : mulR 2 0 16384 16896 = (17920, 0) ∧ okB 2 16384 = true ∧ okB 2 16896 = true := by decide +kernel
theorem kMul_yes (f m : Int) (hf : Is4 f) (hm : 0 ≤ m ∧ m ≤ 4) (x1 y1 a x2 y2 b : Nat) (hx1 : x1 < 18446744073709551616) (hy1 : y1 < 18446744073709551616) (ha : y1 + 18446744073709551616 * x1 = a) (hx2 : x2 < 18446744073709551616) (hy2 : y2 < 18446744073709551616) (hb : y2 + 18446744073709551616 * x2 = b)
  (oa : okB f a = true) (ob : okB f b = true) (M : Nat) (fl : Int) (hr : mulR f m a b = (M, fl)) (u v : Nat) (hv : bv7 M = (u, v)) (w : World) (hT : FAt w) :
  Calls Tryz.prog 40 #[.int .u8 f, .int .u8 m, .agg #[.int .u64 x1, .int .u64 y1], .agg #[.int .u64 x2, .int .u64 y2]] w fun r w' => r = .returned (.tuple #[.agg #[.int .u64 u, .int .u64 v], .int .u8 fl, .int .i64 0]) ∧ Below w.heap.size w w' :=
 mul_mul_yes f m x1 y1 x2 y2 u v 0 0 fl 0 w (kmay2 f m (is4_ok hf).1 (is4_ok hf).2.1 hm.1 x1 y1 a x2 y2 b hx1 hy1 ha hx2 hy2 hb true (by rw [oa, ob, decide_eq_true (show f ≤ 3 ∧ m ≤ 4 from ⟨is4_le hf, hm.2⟩)]; rfl)) (box (fun w hT => ktimes_is f m hf hm x1 y1 a x2 y2 b hx1 hy1 ha hx2 hy2 hb oa ob M fl hr u v hv w hT)) hT
theorem r12alive (w : World) (hT : FAt w) : Calls Tryz.prog 42 #[] w fun r w' => r = .returned (.bool true) ∧ Below w.heap.size w w' := by
 have FF := box hT
 have K1 : Box (∀ w, FAt w → Calls Tryz.prog 40 #[.int .u8 2, .int .u8 0, .agg #[.int .u64 0, .int .u64 16384], .agg #[.int .u64 0, .int .u64 16896]] w fun r w' => r = .returned (.tuple #[.agg #[.int .u64 0, .int .u64 17920], .int .u8 0, .int .i64 0]) ∧ Below w.heap.size w w') := box (fun w hT => kMul_yes 2 0 (by unfold Is4; omega) (by decide) 0 16384 16384 0 16896 16896 (by decide) (by decide) rfl (by decide) (by decide) rfl al12.2.1 al12.2.2 _ _ al12.1 0 17920 rfl w hT)
 clear hT
 have B0 : Below w.heap.size w w := (Below.refl _ _)
 go_enter Tryz.func42, Tryz.ntmps42
 go_wp2_with fail
 refine (K1.out _ (fatB FF.out B0)).mono ?_
 rintro r w1 ⟨rfl, b1⟩
 have B1 := btr B0 b1
 clear b1 B0 
 have S2 := box B1.size
 have Aa := heap_alloc_last w1 (Obj.cells #[.int .u64 0, .int .u64 17920] 25)
 have B2 := btr B1 (bal w1 (Obj.cells #[.int .u64 0, .int .u64 17920] 25))
 clear B1 
 obtain ⟨Ab, Ac⟩ := cells2s Aa
 go_wp2
 go_ret
 exact ⟨rfl, B2⟩
def sumN (sa sb : Bool) (X Y n : Nat) : Nat := if sa = sb then X * 2 ^ n + Y else X * 2 ^ n - Y
theorem sum_rat (sa sb : Bool) (X Y n : Nat) (ey : Int) (hg : Y ≤ X * 2 ^ n) : sgn sa * ((X : Rat) / ((1 : Nat) : Rat)) * (2 : Rat) ^ (ey + (n : Int)) + sgn sb * ((Y : Rat) / ((1 : Nat) : Rat)) * (2 : Rat) ^ ey = sgn sa * (((sumN sa sb X Y n : Nat) : Rat) / ((1 : Nat) : Rat)) * (2 : Rat) ^ ey := by
 have one : ∀ z : Rat, z / ((1 : Nat) : Rat) = z := fun z => by
  rw [show ((1 : Nat) : Rat) = 1 from rfl, Rat.div_def, show (1 : Rat)⁻¹ = 1 by decide +kernel, Rat.mul_one]
 rw [one, one, one, p2add, p2nat]
 generalize (2 : Rat) ^ ey = E
 unfold sumN
 by_cases c : sa = sb
 ·
  subst c
  rw [if_pos rfl, Rat.natCast_add, Rat.natCast_mul]
  generalize ((2 ^ n : Nat) : Rat) = H
  grind
 ·
  rw [if_neg c]
  have hs : sgn sb = - sgn sa := by
   unfold sgn
   cases sa <;> cases sb <;> first | exact absurd rfl c | decide +kernel
  have hN : ((X * 2 ^ n - Y : Nat) : Rat) + (Y : Rat) = (X : Rat) * ((2 ^ n : Nat) : Rat) := by
   rw [← Rat.natCast_add, ← Rat.natCast_mul, Nat.sub_add_cancel hg]
  rw [hs]
  generalize ((2 ^ n : Nat) : Rat) = H at *
  generalize ((X * 2 ^ n - Y : Nat) : Rat) = K at *
  grind
theorem bd_whole (b : Bool) (A : Nat) (x : Int) (A0 : A ≠ 0) (hA : A < 2 ^ 128) (x1 : -20000 ≤ x) (x2 : x ≤ 20000) : Bd ⟨b, od A, 1, x + (tz A : Int)⟩ 128 20200 := by
 have tA := tz_blen A
 have bA := (blen_iff A 128).2 hA
 obtain ⟨o1, o2⟩ := od_is A A0
 have le : od A ≤ A := by
  have p := Nat.two_pow_pos (tz A)
  have := Nat.mul_le_mul_left (od A) p
  rw [Nat.mul_one] at this
  omega
 exact ⟨Nat.lt_of_le_of_lt le hA, by show 1 < 2 ^ 128; decide, by show -((20200 : Nat) : Int) ≤ x + (tz A : Int); omega, by show x + (tz A : Int) ≤ ((20200 : Nat) : Int); omega⟩
theorem add_num {f : Int} (hf : Is4 f) (m : Int) (sa sb : Bool) (X Y n : Nat) (ex ey : Int) (X0 : X ≠ 0) (Y0 : Y ≠ 0) (hX : X < 2 ^ 128) (hY : Y < 2 ^ 128) (hn : ex = ey + (n : Int)) (hg : Y ≤ X * 2 ^ n) (x1 : -20000 ≤ ex) (x2 : ex ≤ 20000) (y1 : -20000 ≤ ey) (y2 : ey ≤ 20000) (N : Nat) (hN : sumN sa sb X Y n = N) (N0 : N ≠ 0) :
  ∃ (k : Nat) (e : Int), addX ⟨sa, od X, 1, ex + (tz X : Int)⟩ ⟨sb, od Y, 1, ey + (tz Y : Int)⟩ = (⟨sa, k, 1, e⟩, 0) ∧ addX ⟨sb, od Y, 1, ey + (tz Y : Int)⟩ ⟨sa, od X, 1, ex + (tz X : Int)⟩ = (⟨sa, k, 1, e⟩, 0) ∧ (XN.mk sa k 1 e).can ∧ nl k ≤ 8192 ∧ k ≠ 0 ∧
   rnd f m ⟨sa, k, 1, e⟩ = dlv f m sa (ey + (blen N : Int) - 1) (qW (pV f + 1) N) (qM (pV f + 1) N false) := by
 have bX := (blen_iff X 128).2 hX
 have bY := (blen_iff Y 128).2 hY
 have bN : blen N ≤ 45000 := by
  have : blen N ≤ 128 + n + 1 := by
   apply blen_le_of
   have h1 : X * 2 ^ n < 2 ^ (128 + n) := by rw [Nat.pow_add]; exact (Nat.mul_lt_mul_right (Nat.two_pow_pos n)).2 hX
   have h2 : N ≤ X * 2 ^ n + X * 2 ^ n := by rw [← hN]; unfold sumN; split <;> omega
   rw [Nat.pow_succ]
   omega
  omega
 obtain ⟨w1, w2, w3, w4, w5, w6, w7⟩ := x_whole hf sa N ey N0 bN (by omega) (by omega)
 obtain ⟨u1, u2, u3, u4, u5, u6, u7⟩ := x_whole hf sa X ex X0 (by omega) (by omega) (by omega)
 obtain ⟨v1, v2, v3, v4, v5, v6, v7⟩ := x_whole hf sb Y ey Y0 (by omega) (by omega) (by omega)
 have wv := mk_val sa N 1 ey (by decide) (by rw [w1])
 have uv := mk_val sa X 1 ex (by decide) (by rw [u1])
 have vv := mk_val sb Y 1 ey (by decide) (by rw [v1])
 rw [w1] at wv
 rw [u1] at uv
 rw [v1] at vv
 have sr := sum_rat sa sb X Y n ey hg
 rw [← hn, hN] at sr
 have hv : (XN.mk sa (od X) 1 (ex + (tz X : Int))).val + (XN.mk sb (od Y) 1 (ey + (tz Y : Int))).val = (XN.mk sa (od N) 1 (ey + (tz N : Int))).val := by
  rw [uv, vv, wv]
  exact sr
 have B1 := bd_whole sa X ex X0 hX x1 x2
 have B2 := bd_whole sb Y ey Y0 hY y1 y2
 refine ⟨od N, ey + (tz N : Int), addX_is _ _ _ u2 v2 w2 B1 B2 hv, addX_is _ _ _ v2 u2 w2 B2 B1 (by rw [Rat.add_comm]; exact hv), w2, w4, w3, ?_⟩
 unfold rnd
 rw [if_neg w3, w5, w6, w7]
def kl (f : Int) (n : Nat) : Bool := !okB f n || decide (kC f n = 0 ∨ 7 ≤ kC f n)
theorem fit_ok {f : Int} (hf : Is4 f) {n : Nat} (h : Fit f n) : okB f n = true := by
 unfold okB
 rw [decide_eq_true_iff]
 exact ⟨is4_le hf, h⟩
theorem ok_lt {f : Int} (hf : Is4 f) {n : Nat} (h : okB f n = true) : n < 340282366920938463463374607431768211456 := by
 have fit := (okB_yes (is4_ok hf).1 h).2
 have := (fm hf).2.2.2.2.2.2
 unfold Fit at fit
 omega
end Go.Proofs.YtoaaajeblhaeoaaGreatDoor
