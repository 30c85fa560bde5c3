/-
  What the functions that the statement reaches return: part 12 (KL).
-/
import Derived.Test.YtkblmpmkchkpjaaGreatDoorKt11
namespace Go.Proofs.YtkblmpmkchkpjaaGreatDoor
set_option maxRecDepth 100000
set_option maxHeartbeats 40000000
open Go.RowKit WMath
set_option linter.unusedSimpArgs false
set_option linter.unusedVariables false
theorem rpack_nan (f q X Y : Int) (c s rr u v C S R : Nat) (E : Bool) (l o : Nat) (k : Int) (w : World)
  (KP : zP (∀ w, Calls Tryz.prog 87 #[.int .u8 f] w fun r w' => r = .returned (.int .i64 q) ∧ w' = w))
  (KU : zP (∀ w, Calls Tryz.prog 33 #[.int .u8 f, .agg #[.int .u64 u, .int .u64 v]] w fun r w' => r = .returned (.agg (pt C S Y R)) ∧ Below w.heap.size w w'))
  (ls : S < Q) (lr : R < Q) (hs : s < Q) (hr : rr < Q) (hE : (decide (C = c) && (decide (S = s) && (decide (Y = X) && decide (R = rr)))) = E)
  (KN : zP (∀ w, Calls Tryz.prog 82 #[.agg (cw 6 rr)] w fun r w' => r = .returned (.int .i64 (l : Nat)) ∧ Below w.heap.size w w')) (h1 : IntKind.i64.wrap (q - 1) = k)
  (hl : decide (k < (l : Int)) = false)
  (KO : zP (∀ w, Calls Tryz.prog 105 #[.int .u8 f] w fun r w' => r = .returned (.int .i64 (o : Nat)) ∧ w' = w))
  (KB : zP (∀ w, Calls Tryz.prog 104 #[.int .u8 f, .bool false, .int .i64 (o : Nat), .agg (cw 6 rr)] w fun r w' => r = .returned (.agg #[.int .u64 u, .int .u64 v]) ∧ Below w.heap.size w w'))
  (hc : c = 8 ∨ c = 9) : Calls Tryz.prog 107 #[.int .u8 f, .agg (pt c s X rr)] w fun r w' => r = .returned (.tuple #[.agg #[.int .u64 (if E then (u : Int) else 0), .int .u64 (if E then (v : Int) else 0)], .int .i64 (if E then 0 else 80)]) ∧ Below w.heap.size w w' := by
 have hat := zU 6
 have hz := yB
 have hff := z8
 have hs0 := xO
 have hcs : ∀ x, ((cw 6 x).size = 6) = True := fun x => eq_true (zR 6 x)
 have hp1 := xP
 have hp3 := ptz
 have hp4 := yI
 have hp5 : ∀ (c s : Nat) (x : Int) (r : Nat), ((pt c s x r).size = 14) = True := fun _ _ _ _ => eq_true rfl
 have heq := eqp
 have hg := eqgp
 have ha0 := xH
 have ha1 := xD
 have ha2 := xC
 have ha3 := y9
 have ha4 := y8
 have ha5 := y7
 have ha6 := y6
 have ha7 := yZ
 have ha8 := xG
 have ha9 := xF
 have ha10 := yQ
 have ha11 := yP
 have ha12 := yO
 have ha13 := yN
 have hb0 := pt_q0
 have hb1 := pt_q1
 have hb2 := pt_q2
 have hb3 := pt_q3
 have hb4 := pt_q4
 have hb5 := pt_q5
 have hb6 := pt_q6
 have hb7 := pt_q7
 have hb8 := pt_q8
 have hb9 := pt_q9
 have hb10 := pt_q10
 have hb11 := pt_q11
 have hb12 := pt_q12
 have hb13 := pt_q13
 rcases hc with hc | hc
 ·
  have f0 : ((c : Int) == 0) = false := by rw [hc]; rfl
  have f7 : ((c : Int) == 7) = false := by rw [hc]; rfl
  have f3 : ((c : Int) == 3) = false := by rw [hc]; rfl
  have f4 : ((c : Int) == 4) = false := by rw [hc]; rfl
  have f8 : ((c : Int) == 8) = true := by rw [hc]; rfl
  clear hc
  cases E
  ·
   simp only [Bool.false_eq_true, if_false, if_true]
   obtain ⟨Ai, Aj, Ak, B0⟩ := yX w (Obj.cells (pt c s X rr) 68) (Obj.cells #[.int .u64 0, .int .u64 0] 25) (Obj.cells #[.int .u64 0, .int .u64 0] 25)
   go_enter Tryz.func107, Tryz.ntmps107
   go_wp2_with fail
   refine (KP.out _).mono ?_
   rintro r w' ⟨rfl, hw'⟩
   obtain rfl := hw'.symm
   go_wp2_with fail
   refine (KN.out _).mono ?_
   rintro r w1 ⟨rfl, b1⟩
   have B1 : Below w.heap.size w w1 := zL B0 b1
   obtain ⟨Ab, Af, Ag⟩ := zZ b1 Ai Aj Ak
   clear b1 B0 Ai Aj Ak
   obtain ⟨An, Ao, Ap, Aq, Ar, As, At, Au, Av, Aw, Ax, Ay, Az, AA⟩ := zD Ab
   obtain ⟨AB, AC⟩ := zF Af
   obtain ⟨AD, AE⟩ := zF Ag
   have sS : zP (∀ W W1 : World, (Below w.heap.size w W ∧ W.heap[w.heap.size]? = some (.cells (pt c s X rr) 68) ∧ W.heap[w.heap.size + 1]? = some (.cells #[.int .u64 0, .int .u64 0] 25) ∧ W.cell? ⟨w.heap.size, 0, none⟩ = some (.int .u8 c) ∧ W.cell? ⟨w.heap.size, 1, none⟩ = some (.int .u64 (wd s 0)) ∧ W.cell? ⟨w.heap.size, 2, none⟩ = some (.int .u64 (wd s 1)) ∧ W.cell? ⟨w.heap.size, 3, none⟩ = some (.int .u64 (wd s 2)) ∧ W.cell? ⟨w.heap.size, 4, none⟩ = some (.int .u64 (wd s 3)) ∧ W.cell? ⟨w.heap.size, 5, none⟩ = some (.int .u64 (wd s 4)) ∧ W.cell? ⟨w.heap.size, 6, none⟩ = some (.int .u64 (wd s 5)) ∧ W.cell? ⟨w.heap.size, 7, none⟩ = some (.int .i64 X) ∧ W.cell? ⟨w.heap.size, 8, none⟩ = some (.int .u64 (wd rr 0)) ∧ W.cell? ⟨w.heap.size, 9, none⟩ = some (.int .u64 (wd rr 1)) ∧ W.cell? ⟨w.heap.size, 10, none⟩ = some (.int .u64 (wd rr 2)) ∧ W.cell? ⟨w.heap.size, 11, none⟩ = some (.int .u64 (wd rr 3)) ∧ W.cell? ⟨w.heap.size, 12, none⟩ = some (.int .u64 (wd rr 4)) ∧ W.cell? ⟨w.heap.size, 13, none⟩ = some (.int .u64 (wd rr 5))) → Below W.heap.size W W1 → (Below w.heap.size w W1 ∧ W1.heap[w.heap.size]? = some (.cells (pt c s X rr) 68) ∧ W1.heap[w.heap.size + 1]? = some (.cells #[.int .u64 0, .int .u64 0] 25) ∧ W1.cell? ⟨w.heap.size, 0, none⟩ = some (.int .u8 c) ∧ W1.cell? ⟨w.heap.size, 1, none⟩ = some (.int .u64 (wd s 0)) ∧ W1.cell? ⟨w.heap.size, 2, none⟩ = some (.int .u64 (wd s 1)) ∧ W1.cell? ⟨w.heap.size, 3, none⟩ = some (.int .u64 (wd s 2)) ∧ W1.cell? ⟨w.heap.size, 4, none⟩ = some (.int .u64 (wd s 3)) ∧ W1.cell? ⟨w.heap.size, 5, none⟩ = some (.int .u64 (wd s 4)) ∧ W1.cell? ⟨w.heap.size, 6, none⟩ = some (.int .u64 (wd s 5)) ∧ W1.cell? ⟨w.heap.size, 7, none⟩ = some (.int .i64 X) ∧ W1.cell? ⟨w.heap.size, 8, none⟩ = some (.int .u64 (wd rr 0)) ∧ W1.cell? ⟨w.heap.size, 9, none⟩ = some (.int .u64 (wd rr 1)) ∧ W1.cell? ⟨w.heap.size, 10, none⟩ = some (.int .u64 (wd rr 2)) ∧ W1.cell? ⟨w.heap.size, 11, none⟩ = some (.int .u64 (wd rr 3)) ∧ W1.cell? ⟨w.heap.size, 12, none⟩ = some (.int .u64 (wd rr 4)) ∧ W1.cell? ⟨w.heap.size, 13, none⟩ = some (.int .u64 (wd rr 5)))) := zK (fun W W1 h b => ⟨zL h.1 b, zA b _ _ _ h.2.1, zA b _ _ _ h.2.2.1, zC (zA b _ _ _ h.2.1) 0 _ rfl, zC (zA b _ _ _ h.2.1) 1 _ rfl, zC (zA b _ _ _ h.2.1) 2 _ rfl, zC (zA b _ _ _ h.2.1) 3 _ rfl, zC (zA b _ _ _ h.2.1) 4 _ rfl, zC (zA b _ _ _ h.2.1) 5 _ rfl, zC (zA b _ _ _ h.2.1) 6 _ rfl, zC (zA b _ _ _ h.2.1) 7 _ rfl, zC (zA b _ _ _ h.2.1) 8 _ rfl, zC (zA b _ _ _ h.2.1) 9 _ rfl, zC (zA b _ _ _ h.2.1) 10 _ rfl, zC (zA b _ _ _ h.2.1) 11 _ rfl, zC (zA b _ _ _ h.2.1) 12 _ rfl, zC (zA b _ _ _ h.2.1) 13 _ rfl⟩)
   have sT : zP (∀ (W : World) (xA xB : Value), (Below w.heap.size w W ∧ W.heap[w.heap.size]? = some (.cells (pt c s X rr) 68) ∧ W.heap[w.heap.size + 1]? = some (.cells #[.int .u64 0, .int .u64 0] 25) ∧ W.cell? ⟨w.heap.size, 0, none⟩ = some (.int .u8 c) ∧ W.cell? ⟨w.heap.size, 1, none⟩ = some (.int .u64 (wd s 0)) ∧ W.cell? ⟨w.heap.size, 2, none⟩ = some (.int .u64 (wd s 1)) ∧ W.cell? ⟨w.heap.size, 3, none⟩ = some (.int .u64 (wd s 2)) ∧ W.cell? ⟨w.heap.size, 4, none⟩ = some (.int .u64 (wd s 3)) ∧ W.cell? ⟨w.heap.size, 5, none⟩ = some (.int .u64 (wd s 4)) ∧ W.cell? ⟨w.heap.size, 6, none⟩ = some (.int .u64 (wd s 5)) ∧ W.cell? ⟨w.heap.size, 7, none⟩ = some (.int .i64 X) ∧ W.cell? ⟨w.heap.size, 8, none⟩ = some (.int .u64 (wd rr 0)) ∧ W.cell? ⟨w.heap.size, 9, none⟩ = some (.int .u64 (wd rr 1)) ∧ W.cell? ⟨w.heap.size, 10, none⟩ = some (.int .u64 (wd rr 2)) ∧ W.cell? ⟨w.heap.size, 11, none⟩ = some (.int .u64 (wd rr 3)) ∧ W.cell? ⟨w.heap.size, 12, none⟩ = some (.int .u64 (wd rr 4)) ∧ W.cell? ⟨w.heap.size, 13, none⟩ = some (.int .u64 (wd rr 5))) → (Below w.heap.size w ((W.setCell ⟨w.heap.size + 1 + 1, 0, none⟩ xA).setCell ⟨w.heap.size + 1 + 1, 1, none⟩ xB) ∧ ((W.setCell ⟨w.heap.size + 1 + 1, 0, none⟩ xA).setCell ⟨w.heap.size + 1 + 1, 1, none⟩ xB).heap[w.heap.size]? = some (.cells (pt c s X rr) 68) ∧ ((W.setCell ⟨w.heap.size + 1 + 1, 0, none⟩ xA).setCell ⟨w.heap.size + 1 + 1, 1, none⟩ xB).heap[w.heap.size + 1]? = some (.cells #[.int .u64 0, .int .u64 0] 25) ∧ ((W.setCell ⟨w.heap.size + 1 + 1, 0, none⟩ xA).setCell ⟨w.heap.size + 1 + 1, 1, none⟩ xB).cell? ⟨w.heap.size, 0, none⟩ = some (.int .u8 c) ∧ ((W.setCell ⟨w.heap.size + 1 + 1, 0, none⟩ xA).setCell ⟨w.heap.size + 1 + 1, 1, none⟩ xB).cell? ⟨w.heap.size, 1, none⟩ = some (.int .u64 (wd s 0)) ∧ ((W.setCell ⟨w.heap.size + 1 + 1, 0, none⟩ xA).setCell ⟨w.heap.size + 1 + 1, 1, none⟩ xB).cell? ⟨w.heap.size, 2, none⟩ = some (.int .u64 (wd s 1)) ∧ ((W.setCell ⟨w.heap.size + 1 + 1, 0, none⟩ xA).setCell ⟨w.heap.size + 1 + 1, 1, none⟩ xB).cell? ⟨w.heap.size, 3, none⟩ = some (.int .u64 (wd s 2)) ∧ ((W.setCell ⟨w.heap.size + 1 + 1, 0, none⟩ xA).setCell ⟨w.heap.size + 1 + 1, 1, none⟩ xB).cell? ⟨w.heap.size, 4, none⟩ = some (.int .u64 (wd s 3)) ∧ ((W.setCell ⟨w.heap.size + 1 + 1, 0, none⟩ xA).setCell ⟨w.heap.size + 1 + 1, 1, none⟩ xB).cell? ⟨w.heap.size, 5, none⟩ = some (.int .u64 (wd s 4)) ∧ ((W.setCell ⟨w.heap.size + 1 + 1, 0, none⟩ xA).setCell ⟨w.heap.size + 1 + 1, 1, none⟩ xB).cell? ⟨w.heap.size, 6, none⟩ = some (.int .u64 (wd s 5)) ∧ ((W.setCell ⟨w.heap.size + 1 + 1, 0, none⟩ xA).setCell ⟨w.heap.size + 1 + 1, 1, none⟩ xB).cell? ⟨w.heap.size, 7, none⟩ = some (.int .i64 X) ∧ ((W.setCell ⟨w.heap.size + 1 + 1, 0, none⟩ xA).setCell ⟨w.heap.size + 1 + 1, 1, none⟩ xB).cell? ⟨w.heap.size, 8, none⟩ = some (.int .u64 (wd rr 0)) ∧ ((W.setCell ⟨w.heap.size + 1 + 1, 0, none⟩ xA).setCell ⟨w.heap.size + 1 + 1, 1, none⟩ xB).cell? ⟨w.heap.size, 9, none⟩ = some (.int .u64 (wd rr 1)) ∧ ((W.setCell ⟨w.heap.size + 1 + 1, 0, none⟩ xA).setCell ⟨w.heap.size + 1 + 1, 1, none⟩ xB).cell? ⟨w.heap.size, 10, none⟩ = some (.int .u64 (wd rr 2)) ∧ ((W.setCell ⟨w.heap.size + 1 + 1, 0, none⟩ xA).setCell ⟨w.heap.size + 1 + 1, 1, none⟩ xB).cell? ⟨w.heap.size, 11, none⟩ = some (.int .u64 (wd rr 3)) ∧ ((W.setCell ⟨w.heap.size + 1 + 1, 0, none⟩ xA).setCell ⟨w.heap.size + 1 + 1, 1, none⟩ xB).cell? ⟨w.heap.size, 12, none⟩ = some (.int .u64 (wd rr 4)) ∧ ((W.setCell ⟨w.heap.size + 1 + 1, 0, none⟩ xA).setCell ⟨w.heap.size + 1 + 1, 1, none⟩ xB).cell? ⟨w.heap.size, 13, none⟩ = some (.int .u64 (wd rr 5)))) := zK (fun W xA xB h => ⟨zI h.1 (show w.heap.size ≤ w.heap.size + 1 + 1 by first | exact Nat.le_refl _ | omega | (skip; omega)) xA xB, (zB (by first | omega | (skip; omega))).trans ((zB (by first | omega | (skip; omega))).trans h.2.1), (zB (by first | omega | (skip; omega))).trans ((zB (by first | omega | (skip; omega))).trans h.2.2.1), zC ((zB (by first | omega | (skip; omega))).trans ((zB (by first | omega | (skip; omega))).trans h.2.1)) 0 _ rfl, zC ((zB (by first | omega | (skip; omega))).trans ((zB (by first | omega | (skip; omega))).trans h.2.1)) 1 _ rfl, zC ((zB (by first | omega | (skip; omega))).trans ((zB (by first | omega | (skip; omega))).trans h.2.1)) 2 _ rfl, zC ((zB (by first | omega | (skip; omega))).trans ((zB (by first | omega | (skip; omega))).trans h.2.1)) 3 _ rfl, zC ((zB (by first | omega | (skip; omega))).trans ((zB (by first | omega | (skip; omega))).trans h.2.1)) 4 _ rfl, zC ((zB (by first | omega | (skip; omega))).trans ((zB (by first | omega | (skip; omega))).trans h.2.1)) 5 _ rfl, zC ((zB (by first | omega | (skip; omega))).trans ((zB (by first | omega | (skip; omega))).trans h.2.1)) 6 _ rfl, zC ((zB (by first | omega | (skip; omega))).trans ((zB (by first | omega | (skip; omega))).trans h.2.1)) 7 _ rfl, zC ((zB (by first | omega | (skip; omega))).trans ((zB (by first | omega | (skip; omega))).trans h.2.1)) 8 _ rfl, zC ((zB (by first | omega | (skip; omega))).trans ((zB (by first | omega | (skip; omega))).trans h.2.1)) 9 _ rfl, zC ((zB (by first | omega | (skip; omega))).trans ((zB (by first | omega | (skip; omega))).trans h.2.1)) 10 _ rfl, zC ((zB (by first | omega | (skip; omega))).trans ((zB (by first | omega | (skip; omega))).trans h.2.1)) 11 _ rfl, zC ((zB (by first | omega | (skip; omega))).trans ((zB (by first | omega | (skip; omega))).trans h.2.1)) 12 _ rfl, zC ((zB (by first | omega | (skip; omega))).trans ((zB (by first | omega | (skip; omega))).trans h.2.1)) 13 _ rfl⟩)
   have s0 : Below w.heap.size w (w1).drew ∧ (w1).drew.heap[w.heap.size]? = some (.cells (pt c s X rr) 68) ∧ (w1).drew.heap[w.heap.size + 1]? = some (.cells #[.int .u64 0, .int .u64 0] 25) ∧ (w1).drew.cell? ⟨w.heap.size, 0, none⟩ = some (.int .u8 c) ∧ (w1).drew.cell? ⟨w.heap.size, 1, none⟩ = some (.int .u64 (wd s 0)) ∧ (w1).drew.cell? ⟨w.heap.size, 2, none⟩ = some (.int .u64 (wd s 1)) ∧ (w1).drew.cell? ⟨w.heap.size, 3, none⟩ = some (.int .u64 (wd s 2)) ∧ (w1).drew.cell? ⟨w.heap.size, 4, none⟩ = some (.int .u64 (wd s 3)) ∧ (w1).drew.cell? ⟨w.heap.size, 5, none⟩ = some (.int .u64 (wd s 4)) ∧ (w1).drew.cell? ⟨w.heap.size, 6, none⟩ = some (.int .u64 (wd s 5)) ∧ (w1).drew.cell? ⟨w.heap.size, 7, none⟩ = some (.int .i64 X) ∧ (w1).drew.cell? ⟨w.heap.size, 8, none⟩ = some (.int .u64 (wd rr 0)) ∧ (w1).drew.cell? ⟨w.heap.size, 9, none⟩ = some (.int .u64 (wd rr 1)) ∧ (w1).drew.cell? ⟨w.heap.size, 10, none⟩ = some (.int .u64 (wd rr 2)) ∧ (w1).drew.cell? ⟨w.heap.size, 11, none⟩ = some (.int .u64 (wd rr 3)) ∧ (w1).drew.cell? ⟨w.heap.size, 12, none⟩ = some (.int .u64 (wd rr 4)) ∧ (w1).drew.cell? ⟨w.heap.size, 13, none⟩ = some (.int .u64 (wd rr 5)) := ⟨B1.drew, Ab, Af, zC (Ab) 0 _ rfl, zC (Ab) 1 _ rfl, zC (Ab) 2 _ rfl, zC (Ab) 3 _ rfl, zC (Ab) 4 _ rfl, zC (Ab) 5 _ rfl, zC (Ab) 6 _ rfl, zC (Ab) 7 _ rfl, zC (Ab) 8 _ rfl, zC (Ab) 9 _ rfl, zC (Ab) 10 _ rfl, zC (Ab) 11 _ rfl, zC (Ab) 12 _ rfl, zC (Ab) 13 _ rfl⟩
   have rz : (w1).drew.heap[w.heap.size + 1 + 1]? = some (.cells #[.int .u64 0, .int .u64 0] 25) := Ag
   go_wp2_with fail
   go_region_held3 (fun W => Below w.heap.size w W ∧ W.heap[w.heap.size]? = some (.cells (pt c s X rr) 68) ∧ W.heap[w.heap.size + 1]? = some (.cells #[.int .u64 0, .int .u64 0] 25) ∧ W.cell? ⟨w.heap.size, 0, none⟩ = some (.int .u8 c) ∧ W.cell? ⟨w.heap.size, 1, none⟩ = some (.int .u64 (wd s 0)) ∧ W.cell? ⟨w.heap.size, 2, none⟩ = some (.int .u64 (wd s 1)) ∧ W.cell? ⟨w.heap.size, 3, none⟩ = some (.int .u64 (wd s 2)) ∧ W.cell? ⟨w.heap.size, 4, none⟩ = some (.int .u64 (wd s 3)) ∧ W.cell? ⟨w.heap.size, 5, none⟩ = some (.int .u64 (wd s 4)) ∧ W.cell? ⟨w.heap.size, 6, none⟩ = some (.int .u64 (wd s 5)) ∧ W.cell? ⟨w.heap.size, 7, none⟩ = some (.int .i64 X) ∧ W.cell? ⟨w.heap.size, 8, none⟩ = some (.int .u64 (wd rr 0)) ∧ W.cell? ⟨w.heap.size, 9, none⟩ = some (.int .u64 (wd rr 1)) ∧ W.cell? ⟨w.heap.size, 10, none⟩ = some (.int .u64 (wd rr 2)) ∧ W.cell? ⟨w.heap.size, 11, none⟩ = some (.int .u64 (wd rr 3)) ∧ W.cell? ⟨w.heap.size, 12, none⟩ = some (.int .u64 (wd rr 4)) ∧ W.cell? ⟨w.heap.size, 13, none⟩ = some (.int .u64 (wd rr 5))) (first | exact s1 | exact s0 | exact sT.out _ _ _ s1)
    (first | (go_at_call 105; refine (KO.out _).mono ?_; rintro r wz ⟨rfl, rfl⟩) | (go_at_call 104; refine (KB.out _).mono ?_; rintro r wq ⟨rfl, bq⟩; have s1 := (by first | exact sS.out _ _ s1 bq | exact sS.out _ _ s0 bq); have rz := zA bq _ _ _ rz; have AF := fz (k := 0) rz; have AG := fz (k := 1) rz; have AH := zC rz 0 _ rfl; have AI := zC rz 1 _ rfl; clear bq) | fail)
   have s2 : Below w.heap.size w ((wq.setCell ⟨w.heap.size + 1 + 1, 0, none⟩ (.int .u64 u)).setCell ⟨w.heap.size + 1 + 1, 1, none⟩ (.int .u64 v)) ∧ ((wq.setCell ⟨w.heap.size + 1 + 1, 0, none⟩ (.int .u64 u)).setCell ⟨w.heap.size + 1 + 1, 1, none⟩ (.int .u64 v)).heap[w.heap.size]? = some (.cells (pt c s X rr) 68) ∧ ((wq.setCell ⟨w.heap.size + 1 + 1, 0, none⟩ (.int .u64 u)).setCell ⟨w.heap.size + 1 + 1, 1, none⟩ (.int .u64 v)).heap[w.heap.size + 1]? = some (.cells #[.int .u64 0, .int .u64 0] 25) ∧ ((wq.setCell ⟨w.heap.size + 1 + 1, 0, none⟩ (.int .u64 u)).setCell ⟨w.heap.size + 1 + 1, 1, none⟩ (.int .u64 v)).cell? ⟨w.heap.size, 0, none⟩ = some (.int .u8 c) ∧ ((wq.setCell ⟨w.heap.size + 1 + 1, 0, none⟩ (.int .u64 u)).setCell ⟨w.heap.size + 1 + 1, 1, none⟩ (.int .u64 v)).cell? ⟨w.heap.size, 1, none⟩ = some (.int .u64 (wd s 0)) ∧ ((wq.setCell ⟨w.heap.size + 1 + 1, 0, none⟩ (.int .u64 u)).setCell ⟨w.heap.size + 1 + 1, 1, none⟩ (.int .u64 v)).cell? ⟨w.heap.size, 2, none⟩ = some (.int .u64 (wd s 1)) ∧ ((wq.setCell ⟨w.heap.size + 1 + 1, 0, none⟩ (.int .u64 u)).setCell ⟨w.heap.size + 1 + 1, 1, none⟩ (.int .u64 v)).cell? ⟨w.heap.size, 3, none⟩ = some (.int .u64 (wd s 2)) ∧ ((wq.setCell ⟨w.heap.size + 1 + 1, 0, none⟩ (.int .u64 u)).setCell ⟨w.heap.size + 1 + 1, 1, none⟩ (.int .u64 v)).cell? ⟨w.heap.size, 4, none⟩ = some (.int .u64 (wd s 3)) ∧ ((wq.setCell ⟨w.heap.size + 1 + 1, 0, none⟩ (.int .u64 u)).setCell ⟨w.heap.size + 1 + 1, 1, none⟩ (.int .u64 v)).cell? ⟨w.heap.size, 5, none⟩ = some (.int .u64 (wd s 4)) ∧ ((wq.setCell ⟨w.heap.size + 1 + 1, 0, none⟩ (.int .u64 u)).setCell ⟨w.heap.size + 1 + 1, 1, none⟩ (.int .u64 v)).cell? ⟨w.heap.size, 6, none⟩ = some (.int .u64 (wd s 5)) ∧ ((wq.setCell ⟨w.heap.size + 1 + 1, 0, none⟩ (.int .u64 u)).setCell ⟨w.heap.size + 1 + 1, 1, none⟩ (.int .u64 v)).cell? ⟨w.heap.size, 7, none⟩ = some (.int .i64 X) ∧ ((wq.setCell ⟨w.heap.size + 1 + 1, 0, none⟩ (.int .u64 u)).setCell ⟨w.heap.size + 1 + 1, 1, none⟩ (.int .u64 v)).cell? ⟨w.heap.size, 8, none⟩ = some (.int .u64 (wd rr 0)) ∧ ((wq.setCell ⟨w.heap.size + 1 + 1, 0, none⟩ (.int .u64 u)).setCell ⟨w.heap.size + 1 + 1, 1, none⟩ (.int .u64 v)).cell? ⟨w.heap.size, 9, none⟩ = some (.int .u64 (wd rr 1)) ∧ ((wq.setCell ⟨w.heap.size + 1 + 1, 0, none⟩ (.int .u64 u)).setCell ⟨w.heap.size + 1 + 1, 1, none⟩ (.int .u64 v)).cell? ⟨w.heap.size, 10, none⟩ = some (.int .u64 (wd rr 2)) ∧ ((wq.setCell ⟨w.heap.size + 1 + 1, 0, none⟩ (.int .u64 u)).setCell ⟨w.heap.size + 1 + 1, 1, none⟩ (.int .u64 v)).cell? ⟨w.heap.size, 11, none⟩ = some (.int .u64 (wd rr 3)) ∧ ((wq.setCell ⟨w.heap.size + 1 + 1, 0, none⟩ (.int .u64 u)).setCell ⟨w.heap.size + 1 + 1, 1, none⟩ (.int .u64 v)).cell? ⟨w.heap.size, 12, none⟩ = some (.int .u64 (wd rr 4)) ∧ ((wq.setCell ⟨w.heap.size + 1 + 1, 0, none⟩ (.int .u64 u)).setCell ⟨w.heap.size + 1 + 1, 1, none⟩ (.int .u64 v)).cell? ⟨w.heap.size, 13, none⟩ = some (.int .u64 (wd rr 5)) := sT.out _ _ _ s1
   have Ac : ((wq.setCell ⟨w.heap.size + 1 + 1, 0, none⟩ (.int .u64 u)).setCell ⟨w.heap.size + 1 + 1, 1, none⟩ (.int .u64 v)).heap[w.heap.size + 1 + 1]? = some (.cells #[.int .u64 u, .int .u64 v] 25) := yE rz _ _
   have B2 := And.left s2
   have Aa := s2.2.1
   have Ad := s2.2.2.1
   obtain ⟨w2, Ah⟩ : ∃ V, ((wq.setCell ⟨w.heap.size + 1 + 1, 0, none⟩ (.int .u64 u)).setCell ⟨w.heap.size + 1 + 1, 1, none⟩ (.int .u64 v)) = V := ⟨_, rfl⟩
   rw [Ah] at B2 Aa Ad Ac
   try rw [Ah]
   clear s0 s1 s2 sS sT rz AF AG AH AI Ah B1 Ab An Ao Ap Aq Ar As At Au Av Aw Ax Ay Az AA Af AB AC Ag AD AE
   obtain ⟨AJ, AK, AL, AM, AN, AO, AP, AQ, AR, AS, AT, AU, AV, AW⟩ := zD Aa
   obtain ⟨AX, AY⟩ := zF Ad
   obtain ⟨AZ, A0⟩ := zF Ac
   go_wp2_with fail
   obtain ⟨F, hF1, hF2⟩ := zS w2
   have fp_0 := fun u => zC (zA (hF1 u) _ _ _ Aa) 0 _ rfl
   have fp_1 := fun u => zC (zA (hF1 u) _ _ _ Aa) 1 _ rfl
   have fp_2 := fun u => zC (zA (hF1 u) _ _ _ Aa) 2 _ rfl
   have fp_3 := fun u => zC (zA (hF1 u) _ _ _ Aa) 3 _ rfl
   have fp_4 := fun u => zC (zA (hF1 u) _ _ _ Aa) 4 _ rfl
   have fp_5 := fun u => zC (zA (hF1 u) _ _ _ Aa) 5 _ rfl
   have fp_6 := fun u => zC (zA (hF1 u) _ _ _ Aa) 6 _ rfl
   have fp_7 := fun u => zC (zA (hF1 u) _ _ _ Aa) 7 _ rfl
   have fp_8 := fun u => zC (zA (hF1 u) _ _ _ Aa) 8 _ rfl
   have fp_9 := fun u => zC (zA (hF1 u) _ _ _ Aa) 9 _ rfl
   have fp_10 := fun u => zC (zA (hF1 u) _ _ _ Aa) 10 _ rfl
   have fp_11 := fun u => zC (zA (hF1 u) _ _ _ Aa) 11 _ rfl
   have fp_12 := fun u => zC (zA (hF1 u) _ _ _ Aa) 12 _ rfl
   have fp_13 := fun u => zC (zA (hF1 u) _ _ _ Aa) 13 _ rfl
   have fz_0 := fun u => zC (zA (hF1 u) _ _ _ Ad) 0 _ rfl
   have fz_1 := fun u => zC (zA (hF1 u) _ _ _ Ad) 1 _ rfl
   have fb_0 := fun u => zC (zA (hF1 u) _ _ _ Ac) 0 _ rfl
   have fb_1 := fun u => zC (zA (hF1 u) _ _ _ Ac) 1 _ rfl
   refine zJ F hF2 (by kernel_rfl) (by kernel_rfl) ?_
   repeat first | go_big_quiet_step (first | (go_at_call 33; exact zN hF1 hF2 (KU.out _)) | fail) | quiet_step (first | (go_at_call 33; exact zN hF1 hF2 (KU.out _)) | fail)
   refine wpQuiet_nil ?_
   rintro _ ⟨uW, rfl⟩
   have B3 := zL B2 (hF1 uW)
   obtain ⟨Al, Ae, Am⟩ := zZ (hF1 uW) Aa Ad Ac
   obtain ⟨w3, hw⟩ : ∃ V, F uW = V := ⟨_, rfl⟩
   rw [hw] at B3 Al Ae Am
   try rw [hw]
   clear hw hF1 hF2 B2 fp_0 fp_1 fp_2 fp_3 fp_4 fp_5 fp_6 fp_7 fp_8 fp_9 fp_10 fp_11 fp_12 fp_13 fz_0 fz_1 fb_0 fb_1 Aa AJ AK AL AM AN AO AP AQ AR AS AT AU AV AW Ad AX AY Ac AZ A0
   clear F
   obtain ⟨A1, A2, A3, A4, A5, A6, A7, A8, A9, Ba, Bb, Bc, Bd, Be⟩ := zD Al
   obtain ⟨Bf, Bg⟩ := zF Ae
   obtain ⟨Bh, Bi⟩ := zF Am
   have q0 := fz (k := 0) Ae
   have q1 := fz (k := 1) Ae
   obtain ⟨E0, E1⟩ := zM Ae (.int .u64 0) (.int .u64 0)
   go_wp2
   exact bodyPost_ret (v := .tuple #[.agg #[.int .u64 0, .int .u64 0], .int .i64 80]) (by simp [results, Tryz.results107, go_sem, E0, E1]) rfl ⟨rfl, zI B3 (by first | exact Nat.le_refl _ | omega | (skip; omega)) _ _⟩
  ·
   simp only [Bool.false_eq_true, if_false, if_true]
   obtain ⟨Ai, Aj, Ak, B0⟩ := yX w (Obj.cells (pt c s X rr) 68) (Obj.cells #[.int .u64 0, .int .u64 0] 25) (Obj.cells #[.int .u64 0, .int .u64 0] 25)
   go_enter Tryz.func107, Tryz.ntmps107
   go_wp2_with fail
   refine (KP.out _).mono ?_
   rintro r w' ⟨rfl, hw'⟩
   obtain rfl := hw'.symm
   go_wp2_with fail
   refine (KN.out _).mono ?_
   rintro r w1 ⟨rfl, b1⟩
   have B1 : Below w.heap.size w w1 := zL B0 b1
   obtain ⟨Ab, Af, Ag⟩ := zZ b1 Ai Aj Ak
   clear b1 B0 Ai Aj Ak
   obtain ⟨An, Ao, Ap, Aq, Ar, As, At, Au, Av, Aw, Ax, Ay, Az, AA⟩ := zD Ab
   obtain ⟨AB, AC⟩ := zF Af
   obtain ⟨AD, AE⟩ := zF Ag
   have sS : zP (∀ W W1 : World, (Below w.heap.size w W ∧ W.heap[w.heap.size]? = some (.cells (pt c s X rr) 68) ∧ W.heap[w.heap.size + 1]? = some (.cells #[.int .u64 0, .int .u64 0] 25) ∧ W.cell? ⟨w.heap.size, 0, none⟩ = some (.int .u8 c) ∧ W.cell? ⟨w.heap.size, 1, none⟩ = some (.int .u64 (wd s 0)) ∧ W.cell? ⟨w.heap.size, 2, none⟩ = some (.int .u64 (wd s 1)) ∧ W.cell? ⟨w.heap.size, 3, none⟩ = some (.int .u64 (wd s 2)) ∧ W.cell? ⟨w.heap.size, 4, none⟩ = some (.int .u64 (wd s 3)) ∧ W.cell? ⟨w.heap.size, 5, none⟩ = some (.int .u64 (wd s 4)) ∧ W.cell? ⟨w.heap.size, 6, none⟩ = some (.int .u64 (wd s 5)) ∧ W.cell? ⟨w.heap.size, 7, none⟩ = some (.int .i64 X) ∧ W.cell? ⟨w.heap.size, 8, none⟩ = some (.int .u64 (wd rr 0)) ∧ W.cell? ⟨w.heap.size, 9, none⟩ = some (.int .u64 (wd rr 1)) ∧ W.cell? ⟨w.heap.size, 10, none⟩ = some (.int .u64 (wd rr 2)) ∧ W.cell? ⟨w.heap.size, 11, none⟩ = some (.int .u64 (wd rr 3)) ∧ W.cell? ⟨w.heap.size, 12, none⟩ = some (.int .u64 (wd rr 4)) ∧ W.cell? ⟨w.heap.size, 13, none⟩ = some (.int .u64 (wd rr 5))) → Below W.heap.size W W1 → (Below w.heap.size w W1 ∧ W1.heap[w.heap.size]? = some (.cells (pt c s X rr) 68) ∧ W1.heap[w.heap.size + 1]? = some (.cells #[.int .u64 0, .int .u64 0] 25) ∧ W1.cell? ⟨w.heap.size, 0, none⟩ = some (.int .u8 c) ∧ W1.cell? ⟨w.heap.size, 1, none⟩ = some (.int .u64 (wd s 0)) ∧ W1.cell? ⟨w.heap.size, 2, none⟩ = some (.int .u64 (wd s 1)) ∧ W1.cell? ⟨w.heap.size, 3, none⟩ = some (.int .u64 (wd s 2)) ∧ W1.cell? ⟨w.heap.size, 4, none⟩ = some (.int .u64 (wd s 3)) ∧ W1.cell? ⟨w.heap.size, 5, none⟩ = some (.int .u64 (wd s 4)) ∧ W1.cell? ⟨w.heap.size, 6, none⟩ = some (.int .u64 (wd s 5)) ∧ W1.cell? ⟨w.heap.size, 7, none⟩ = some (.int .i64 X) ∧ W1.cell? ⟨w.heap.size, 8, none⟩ = some (.int .u64 (wd rr 0)) ∧ W1.cell? ⟨w.heap.size, 9, none⟩ = some (.int .u64 (wd rr 1)) ∧ W1.cell? ⟨w.heap.size, 10, none⟩ = some (.int .u64 (wd rr 2)) ∧ W1.cell? ⟨w.heap.size, 11, none⟩ = some (.int .u64 (wd rr 3)) ∧ W1.cell? ⟨w.heap.size, 12, none⟩ = some (.int .u64 (wd rr 4)) ∧ W1.cell? ⟨w.heap.size, 13, none⟩ = some (.int .u64 (wd rr 5)))) := zK (fun W W1 h b => ⟨zL h.1 b, zA b _ _ _ h.2.1, zA b _ _ _ h.2.2.1, zC (zA b _ _ _ h.2.1) 0 _ rfl, zC (zA b _ _ _ h.2.1) 1 _ rfl, zC (zA b _ _ _ h.2.1) 2 _ rfl, zC (zA b _ _ _ h.2.1) 3 _ rfl, zC (zA b _ _ _ h.2.1) 4 _ rfl, zC (zA b _ _ _ h.2.1) 5 _ rfl, zC (zA b _ _ _ h.2.1) 6 _ rfl, zC (zA b _ _ _ h.2.1) 7 _ rfl, zC (zA b _ _ _ h.2.1) 8 _ rfl, zC (zA b _ _ _ h.2.1) 9 _ rfl, zC (zA b _ _ _ h.2.1) 10 _ rfl, zC (zA b _ _ _ h.2.1) 11 _ rfl, zC (zA b _ _ _ h.2.1) 12 _ rfl, zC (zA b _ _ _ h.2.1) 13 _ rfl⟩)
   have sT : zP (∀ (W : World) (xA xB : Value), (Below w.heap.size w W ∧ W.heap[w.heap.size]? = some (.cells (pt c s X rr) 68) ∧ W.heap[w.heap.size + 1]? = some (.cells #[.int .u64 0, .int .u64 0] 25) ∧ W.cell? ⟨w.heap.size, 0, none⟩ = some (.int .u8 c) ∧ W.cell? ⟨w.heap.size, 1, none⟩ = some (.int .u64 (wd s 0)) ∧ W.cell? ⟨w.heap.size, 2, none⟩ = some (.int .u64 (wd s 1)) ∧ W.cell? ⟨w.heap.size, 3, none⟩ = some (.int .u64 (wd s 2)) ∧ W.cell? ⟨w.heap.size, 4, none⟩ = some (.int .u64 (wd s 3)) ∧ W.cell? ⟨w.heap.size, 5, none⟩ = some (.int .u64 (wd s 4)) ∧ W.cell? ⟨w.heap.size, 6, none⟩ = some (.int .u64 (wd s 5)) ∧ W.cell? ⟨w.heap.size, 7, none⟩ = some (.int .i64 X) ∧ W.cell? ⟨w.heap.size, 8, none⟩ = some (.int .u64 (wd rr 0)) ∧ W.cell? ⟨w.heap.size, 9, none⟩ = some (.int .u64 (wd rr 1)) ∧ W.cell? ⟨w.heap.size, 10, none⟩ = some (.int .u64 (wd rr 2)) ∧ W.cell? ⟨w.heap.size, 11, none⟩ = some (.int .u64 (wd rr 3)) ∧ W.cell? ⟨w.heap.size, 12, none⟩ = some (.int .u64 (wd rr 4)) ∧ W.cell? ⟨w.heap.size, 13, none⟩ = some (.int .u64 (wd rr 5))) → (Below w.heap.size w ((W.setCell ⟨w.heap.size + 1 + 1, 0, none⟩ xA).setCell ⟨w.heap.size + 1 + 1, 1, none⟩ xB) ∧ ((W.setCell ⟨w.heap.size + 1 + 1, 0, none⟩ xA).setCell ⟨w.heap.size + 1 + 1, 1, none⟩ xB).heap[w.heap.size]? = some (.cells (pt c s X rr) 68) ∧ ((W.setCell ⟨w.heap.size + 1 + 1, 0, none⟩ xA).setCell ⟨w.heap.size + 1 + 1, 1, none⟩ xB).heap[w.heap.size + 1]? = some (.cells #[.int .u64 0, .int .u64 0] 25) ∧ ((W.setCell ⟨w.heap.size + 1 + 1, 0, none⟩ xA).setCell ⟨w.heap.size + 1 + 1, 1, none⟩ xB).cell? ⟨w.heap.size, 0, none⟩ = some (.int .u8 c) ∧ ((W.setCell ⟨w.heap.size + 1 + 1, 0, none⟩ xA).setCell ⟨w.heap.size + 1 + 1, 1, none⟩ xB).cell? ⟨w.heap.size, 1, none⟩ = some (.int .u64 (wd s 0)) ∧ ((W.setCell ⟨w.heap.size + 1 + 1, 0, none⟩ xA).setCell ⟨w.heap.size + 1 + 1, 1, none⟩ xB).cell? ⟨w.heap.size, 2, none⟩ = some (.int .u64 (wd s 1)) ∧ ((W.setCell ⟨w.heap.size + 1 + 1, 0, none⟩ xA).setCell ⟨w.heap.size + 1 + 1, 1, none⟩ xB).cell? ⟨w.heap.size, 3, none⟩ = some (.int .u64 (wd s 2)) ∧ ((W.setCell ⟨w.heap.size + 1 + 1, 0, none⟩ xA).setCell ⟨w.heap.size + 1 + 1, 1, none⟩ xB).cell? ⟨w.heap.size, 4, none⟩ = some (.int .u64 (wd s 3)) ∧ ((W.setCell ⟨w.heap.size + 1 + 1, 0, none⟩ xA).setCell ⟨w.heap.size + 1 + 1, 1, none⟩ xB).cell? ⟨w.heap.size, 5, none⟩ = some (.int .u64 (wd s 4)) ∧ ((W.setCell ⟨w.heap.size + 1 + 1, 0, none⟩ xA).setCell ⟨w.heap.size + 1 + 1, 1, none⟩ xB).cell? ⟨w.heap.size, 6, none⟩ = some (.int .u64 (wd s 5)) ∧ ((W.setCell ⟨w.heap.size + 1 + 1, 0, none⟩ xA).setCell ⟨w.heap.size + 1 + 1, 1, none⟩ xB).cell? ⟨w.heap.size, 7, none⟩ = some (.int .i64 X) ∧ ((W.setCell ⟨w.heap.size + 1 + 1, 0, none⟩ xA).setCell ⟨w.heap.size + 1 + 1, 1, none⟩ xB).cell? ⟨w.heap.size, 8, none⟩ = some (.int .u64 (wd rr 0)) ∧ ((W.setCell ⟨w.heap.size + 1 + 1, 0, none⟩ xA).setCell ⟨w.heap.size + 1 + 1, 1, none⟩ xB).cell? ⟨w.heap.size, 9, none⟩ = some (.int .u64 (wd rr 1)) ∧ ((W.setCell ⟨w.heap.size + 1 + 1, 0, none⟩ xA).setCell ⟨w.heap.size + 1 + 1, 1, none⟩ xB).cell? ⟨w.heap.size, 10, none⟩ = some (.int .u64 (wd rr 2)) ∧ ((W.setCell ⟨w.heap.size + 1 + 1, 0, none⟩ xA).setCell ⟨w.heap.size + 1 + 1, 1, none⟩ xB).cell? ⟨w.heap.size, 11, none⟩ = some (.int .u64 (wd rr 3)) ∧ ((W.setCell ⟨w.heap.size + 1 + 1, 0, none⟩ xA).setCell ⟨w.heap.size + 1 + 1, 1, none⟩ xB).cell? ⟨w.heap.size, 12, none⟩ = some (.int .u64 (wd rr 4)) ∧ ((W.setCell ⟨w.heap.size + 1 + 1, 0, none⟩ xA).setCell ⟨w.heap.size + 1 + 1, 1, none⟩ xB).cell? ⟨w.heap.size, 13, none⟩ = some (.int .u64 (wd rr 5)))) := zK (fun W xA xB h => ⟨zI h.1 (show w.heap.size ≤ w.heap.size + 1 + 1 by first | exact Nat.le_refl _ | omega | (skip; omega)) xA xB, (zB (by first | omega | (skip; omega))).trans ((zB (by first | omega | (skip; omega))).trans h.2.1), (zB (by first | omega | (skip; omega))).trans ((zB (by first | omega | (skip; omega))).trans h.2.2.1), zC ((zB (by first | omega | (skip; omega))).trans ((zB (by first | omega | (skip; omega))).trans h.2.1)) 0 _ rfl, zC ((zB (by first | omega | (skip; omega))).trans ((zB (by first | omega | (skip; omega))).trans h.2.1)) 1 _ rfl, zC ((zB (by first | omega | (skip; omega))).trans ((zB (by first | omega | (skip; omega))).trans h.2.1)) 2 _ rfl, zC ((zB (by first | omega | (skip; omega))).trans ((zB (by first | omega | (skip; omega))).trans h.2.1)) 3 _ rfl, zC ((zB (by first | omega | (skip; omega))).trans ((zB (by first | omega | (skip; omega))).trans h.2.1)) 4 _ rfl, zC ((zB (by first | omega | (skip; omega))).trans ((zB (by first | omega | (skip; omega))).trans h.2.1)) 5 _ rfl, zC ((zB (by first | omega | (skip; omega))).trans ((zB (by first | omega | (skip; omega))).trans h.2.1)) 6 _ rfl, zC ((zB (by first | omega | (skip; omega))).trans ((zB (by first | omega | (skip; omega))).trans h.2.1)) 7 _ rfl, zC ((zB (by first | omega | (skip; omega))).trans ((zB (by first | omega | (skip; omega))).trans h.2.1)) 8 _ rfl, zC ((zB (by first | omega | (skip; omega))).trans ((zB (by first | omega | (skip; omega))).trans h.2.1)) 9 _ rfl, zC ((zB (by first | omega | (skip; omega))).trans ((zB (by first | omega | (skip; omega))).trans h.2.1)) 10 _ rfl, zC ((zB (by first | omega | (skip; omega))).trans ((zB (by first | omega | (skip; omega))).trans h.2.1)) 11 _ rfl, zC ((zB (by first | omega | (skip; omega))).trans ((zB (by first | omega | (skip; omega))).trans h.2.1)) 12 _ rfl, zC ((zB (by first | omega | (skip; omega))).trans ((zB (by first | omega | (skip; omega))).trans h.2.1)) 13 _ rfl⟩)
   have s0 : Below w.heap.size w (w1).drew ∧ (w1).drew.heap[w.heap.size]? = some (.cells (pt c s X rr) 68) ∧ (w1).drew.heap[w.heap.size + 1]? = some (.cells #[.int .u64 0, .int .u64 0] 25) ∧ (w1).drew.cell? ⟨w.heap.size, 0, none⟩ = some (.int .u8 c) ∧ (w1).drew.cell? ⟨w.heap.size, 1, none⟩ = some (.int .u64 (wd s 0)) ∧ (w1).drew.cell? ⟨w.heap.size, 2, none⟩ = some (.int .u64 (wd s 1)) ∧ (w1).drew.cell? ⟨w.heap.size, 3, none⟩ = some (.int .u64 (wd s 2)) ∧ (w1).drew.cell? ⟨w.heap.size, 4, none⟩ = some (.int .u64 (wd s 3)) ∧ (w1).drew.cell? ⟨w.heap.size, 5, none⟩ = some (.int .u64 (wd s 4)) ∧ (w1).drew.cell? ⟨w.heap.size, 6, none⟩ = some (.int .u64 (wd s 5)) ∧ (w1).drew.cell? ⟨w.heap.size, 7, none⟩ = some (.int .i64 X) ∧ (w1).drew.cell? ⟨w.heap.size, 8, none⟩ = some (.int .u64 (wd rr 0)) ∧ (w1).drew.cell? ⟨w.heap.size, 9, none⟩ = some (.int .u64 (wd rr 1)) ∧ (w1).drew.cell? ⟨w.heap.size, 10, none⟩ = some (.int .u64 (wd rr 2)) ∧ (w1).drew.cell? ⟨w.heap.size, 11, none⟩ = some (.int .u64 (wd rr 3)) ∧ (w1).drew.cell? ⟨w.heap.size, 12, none⟩ = some (.int .u64 (wd rr 4)) ∧ (w1).drew.cell? ⟨w.heap.size, 13, none⟩ = some (.int .u64 (wd rr 5)) := ⟨B1.drew, Ab, Af, zC (Ab) 0 _ rfl, zC (Ab) 1 _ rfl, zC (Ab) 2 _ rfl, zC (Ab) 3 _ rfl, zC (Ab) 4 _ rfl, zC (Ab) 5 _ rfl, zC (Ab) 6 _ rfl, zC (Ab) 7 _ rfl, zC (Ab) 8 _ rfl, zC (Ab) 9 _ rfl, zC (Ab) 10 _ rfl, zC (Ab) 11 _ rfl, zC (Ab) 12 _ rfl, zC (Ab) 13 _ rfl⟩
   have rz : (w1).drew.heap[w.heap.size + 1 + 1]? = some (.cells #[.int .u64 0, .int .u64 0] 25) := Ag
   go_wp2_with fail
   go_region_held3 (fun W => Below w.heap.size w W ∧ W.heap[w.heap.size]? = some (.cells (pt c s X rr) 68) ∧ W.heap[w.heap.size + 1]? = some (.cells #[.int .u64 0, .int .u64 0] 25) ∧ W.cell? ⟨w.heap.size, 0, none⟩ = some (.int .u8 c) ∧ W.cell? ⟨w.heap.size, 1, none⟩ = some (.int .u64 (wd s 0)) ∧ W.cell? ⟨w.heap.size, 2, none⟩ = some (.int .u64 (wd s 1)) ∧ W.cell? ⟨w.heap.size, 3, none⟩ = some (.int .u64 (wd s 2)) ∧ W.cell? ⟨w.heap.size, 4, none⟩ = some (.int .u64 (wd s 3)) ∧ W.cell? ⟨w.heap.size, 5, none⟩ = some (.int .u64 (wd s 4)) ∧ W.cell? ⟨w.heap.size, 6, none⟩ = some (.int .u64 (wd s 5)) ∧ W.cell? ⟨w.heap.size, 7, none⟩ = some (.int .i64 X) ∧ W.cell? ⟨w.heap.size, 8, none⟩ = some (.int .u64 (wd rr 0)) ∧ W.cell? ⟨w.heap.size, 9, none⟩ = some (.int .u64 (wd rr 1)) ∧ W.cell? ⟨w.heap.size, 10, none⟩ = some (.int .u64 (wd rr 2)) ∧ W.cell? ⟨w.heap.size, 11, none⟩ = some (.int .u64 (wd rr 3)) ∧ W.cell? ⟨w.heap.size, 12, none⟩ = some (.int .u64 (wd rr 4)) ∧ W.cell? ⟨w.heap.size, 13, none⟩ = some (.int .u64 (wd rr 5))) (first | exact s1 | exact s0 | exact sT.out _ _ _ s1)
    (first | (go_at_call 105; refine (KO.out _).mono ?_; rintro r wz ⟨rfl, rfl⟩) | (go_at_call 104; refine (KB.out _).mono ?_; rintro r wq ⟨rfl, bq⟩; have s1 := (by first | exact sS.out _ _ s1 bq | exact sS.out _ _ s0 bq); have rz := zA bq _ _ _ rz; have AF := fz (k := 0) rz; have AG := fz (k := 1) rz; have AH := zC rz 0 _ rfl; have AI := zC rz 1 _ rfl; clear bq) | fail)
   have s2 : Below w.heap.size w ((wq.setCell ⟨w.heap.size + 1 + 1, 0, none⟩ (.int .u64 u)).setCell ⟨w.heap.size + 1 + 1, 1, none⟩ (.int .u64 v)) ∧ ((wq.setCell ⟨w.heap.size + 1 + 1, 0, none⟩ (.int .u64 u)).setCell ⟨w.heap.size + 1 + 1, 1, none⟩ (.int .u64 v)).heap[w.heap.size]? = some (.cells (pt c s X rr) 68) ∧ ((wq.setCell ⟨w.heap.size + 1 + 1, 0, none⟩ (.int .u64 u)).setCell ⟨w.heap.size + 1 + 1, 1, none⟩ (.int .u64 v)).heap[w.heap.size + 1]? = some (.cells #[.int .u64 0, .int .u64 0] 25) ∧ ((wq.setCell ⟨w.heap.size + 1 + 1, 0, none⟩ (.int .u64 u)).setCell ⟨w.heap.size + 1 + 1, 1, none⟩ (.int .u64 v)).cell? ⟨w.heap.size, 0, none⟩ = some (.int .u8 c) ∧ ((wq.setCell ⟨w.heap.size + 1 + 1, 0, none⟩ (.int .u64 u)).setCell ⟨w.heap.size + 1 + 1, 1, none⟩ (.int .u64 v)).cell? ⟨w.heap.size, 1, none⟩ = some (.int .u64 (wd s 0)) ∧ ((wq.setCell ⟨w.heap.size + 1 + 1, 0, none⟩ (.int .u64 u)).setCell ⟨w.heap.size + 1 + 1, 1, none⟩ (.int .u64 v)).cell? ⟨w.heap.size, 2, none⟩ = some (.int .u64 (wd s 1)) ∧ ((wq.setCell ⟨w.heap.size + 1 + 1, 0, none⟩ (.int .u64 u)).setCell ⟨w.heap.size + 1 + 1, 1, none⟩ (.int .u64 v)).cell? ⟨w.heap.size, 3, none⟩ = some (.int .u64 (wd s 2)) ∧ ((wq.setCell ⟨w.heap.size + 1 + 1, 0, none⟩ (.int .u64 u)).setCell ⟨w.heap.size + 1 + 1, 1, none⟩ (.int .u64 v)).cell? ⟨w.heap.size, 4, none⟩ = some (.int .u64 (wd s 3)) ∧ ((wq.setCell ⟨w.heap.size + 1 + 1, 0, none⟩ (.int .u64 u)).setCell ⟨w.heap.size + 1 + 1, 1, none⟩ (.int .u64 v)).cell? ⟨w.heap.size, 5, none⟩ = some (.int .u64 (wd s 4)) ∧ ((wq.setCell ⟨w.heap.size + 1 + 1, 0, none⟩ (.int .u64 u)).setCell ⟨w.heap.size + 1 + 1, 1, none⟩ (.int .u64 v)).cell? ⟨w.heap.size, 6, none⟩ = some (.int .u64 (wd s 5)) ∧ ((wq.setCell ⟨w.heap.size + 1 + 1, 0, none⟩ (.int .u64 u)).setCell ⟨w.heap.size + 1 + 1, 1, none⟩ (.int .u64 v)).cell? ⟨w.heap.size, 7, none⟩ = some (.int .i64 X) ∧ ((wq.setCell ⟨w.heap.size + 1 + 1, 0, none⟩ (.int .u64 u)).setCell ⟨w.heap.size + 1 + 1, 1, none⟩ (.int .u64 v)).cell? ⟨w.heap.size, 8, none⟩ = some (.int .u64 (wd rr 0)) ∧ ((wq.setCell ⟨w.heap.size + 1 + 1, 0, none⟩ (.int .u64 u)).setCell ⟨w.heap.size + 1 + 1, 1, none⟩ (.int .u64 v)).cell? ⟨w.heap.size, 9, none⟩ = some (.int .u64 (wd rr 1)) ∧ ((wq.setCell ⟨w.heap.size + 1 + 1, 0, none⟩ (.int .u64 u)).setCell ⟨w.heap.size + 1 + 1, 1, none⟩ (.int .u64 v)).cell? ⟨w.heap.size, 10, none⟩ = some (.int .u64 (wd rr 2)) ∧ ((wq.setCell ⟨w.heap.size + 1 + 1, 0, none⟩ (.int .u64 u)).setCell ⟨w.heap.size + 1 + 1, 1, none⟩ (.int .u64 v)).cell? ⟨w.heap.size, 11, none⟩ = some (.int .u64 (wd rr 3)) ∧ ((wq.setCell ⟨w.heap.size + 1 + 1, 0, none⟩ (.int .u64 u)).setCell ⟨w.heap.size + 1 + 1, 1, none⟩ (.int .u64 v)).cell? ⟨w.heap.size, 12, none⟩ = some (.int .u64 (wd rr 4)) ∧ ((wq.setCell ⟨w.heap.size + 1 + 1, 0, none⟩ (.int .u64 u)).setCell ⟨w.heap.size + 1 + 1, 1, none⟩ (.int .u64 v)).cell? ⟨w.heap.size, 13, none⟩ = some (.int .u64 (wd rr 5)) := sT.out _ _ _ s1
   have Ac : ((wq.setCell ⟨w.heap.size + 1 + 1, 0, none⟩ (.int .u64 u)).setCell ⟨w.heap.size + 1 + 1, 1, none⟩ (.int .u64 v)).heap[w.heap.size + 1 + 1]? = some (.cells #[.int .u64 u, .int .u64 v] 25) := yE rz _ _
   have B2 := And.left s2
   have Aa := s2.2.1
   have Ad := s2.2.2.1
   obtain ⟨w2, Ah⟩ : ∃ V, ((wq.setCell ⟨w.heap.size + 1 + 1, 0, none⟩ (.int .u64 u)).setCell ⟨w.heap.size + 1 + 1, 1, none⟩ (.int .u64 v)) = V := ⟨_, rfl⟩
   rw [Ah] at B2 Aa Ad Ac
   try rw [Ah]
   clear s0 s1 s2 sS sT rz AF AG AH AI Ah B1 Ab An Ao Ap Aq Ar As At Au Av Aw Ax Ay Az AA Af AB AC Ag AD AE
   obtain ⟨AJ, AK, AL, AM, AN, AO, AP, AQ, AR, AS, AT, AU, AV, AW⟩ := zD Aa
   obtain ⟨AX, AY⟩ := zF Ad
   obtain ⟨AZ, A0⟩ := zF Ac
   go_wp2_with fail
   obtain ⟨F, hF1, hF2⟩ := zS w2
   have fp_0 := fun u => zC (zA (hF1 u) _ _ _ Aa) 0 _ rfl
   have fp_1 := fun u => zC (zA (hF1 u) _ _ _ Aa) 1 _ rfl
   have fp_2 := fun u => zC (zA (hF1 u) _ _ _ Aa) 2 _ rfl
   have fp_3 := fun u => zC (zA (hF1 u) _ _ _ Aa) 3 _ rfl
   have fp_4 := fun u => zC (zA (hF1 u) _ _ _ Aa) 4 _ rfl
   have fp_5 := fun u => zC (zA (hF1 u) _ _ _ Aa) 5 _ rfl
   have fp_6 := fun u => zC (zA (hF1 u) _ _ _ Aa) 6 _ rfl
   have fp_7 := fun u => zC (zA (hF1 u) _ _ _ Aa) 7 _ rfl
   have fp_8 := fun u => zC (zA (hF1 u) _ _ _ Aa) 8 _ rfl
   have fp_9 := fun u => zC (zA (hF1 u) _ _ _ Aa) 9 _ rfl
   have fp_10 := fun u => zC (zA (hF1 u) _ _ _ Aa) 10 _ rfl
   have fp_11 := fun u => zC (zA (hF1 u) _ _ _ Aa) 11 _ rfl
   have fp_12 := fun u => zC (zA (hF1 u) _ _ _ Aa) 12 _ rfl
   have fp_13 := fun u => zC (zA (hF1 u) _ _ _ Aa) 13 _ rfl
   have fz_0 := fun u => zC (zA (hF1 u) _ _ _ Ad) 0 _ rfl
   have fz_1 := fun u => zC (zA (hF1 u) _ _ _ Ad) 1 _ rfl
   have fb_0 := fun u => zC (zA (hF1 u) _ _ _ Ac) 0 _ rfl
   have fb_1 := fun u => zC (zA (hF1 u) _ _ _ Ac) 1 _ rfl
   refine zJ F hF2 (by kernel_rfl) (by kernel_rfl) ?_
   repeat first | go_big_quiet_step (first | (go_at_call 33; exact zN hF1 hF2 (KU.out _)) | fail) | quiet_step (first | (go_at_call 33; exact zN hF1 hF2 (KU.out _)) | fail)
   refine wpQuiet_nil ?_
   rintro _ ⟨uW, rfl⟩
   have B3 := zL B2 (hF1 uW)
   obtain ⟨Al, Ae, Am⟩ := zZ (hF1 uW) Aa Ad Ac
   obtain ⟨w3, hw⟩ : ∃ V, F uW = V := ⟨_, rfl⟩
   rw [hw] at B3 Al Ae Am
   try rw [hw]
   clear hw hF1 hF2 B2 fp_0 fp_1 fp_2 fp_3 fp_4 fp_5 fp_6 fp_7 fp_8 fp_9 fp_10 fp_11 fp_12 fp_13 fz_0 fz_1 fb_0 fb_1 Aa AJ AK AL AM AN AO AP AQ AR AS AT AU AV AW Ad AX AY Ac AZ A0
   clear F
   obtain ⟨A1, A2, A3, A4, A5, A6, A7, A8, A9, Ba, Bb, Bc, Bd, Be⟩ := zD Al
   obtain ⟨Bf, Bg⟩ := zF Ae
   obtain ⟨Bh, Bi⟩ := zF Am
   have q0 := fz (k := 0) Ae
   have q1 := fz (k := 1) Ae
   obtain ⟨E0, E1⟩ := zM Ae (.int .u64 u) (.int .u64 v)
   go_wp2
   exact bodyPost_ret (v := .tuple #[.agg #[.int .u64 u, .int .u64 v], .int .i64 0]) (by simp [results, Tryz.results107, go_sem, E0, E1]) rfl ⟨rfl, zI B3 (by first | exact Nat.le_refl _ | omega | (skip; omega)) _ _⟩
 ·
  have f0 : ((c : Int) == 0) = false := by rw [hc]; rfl
  have f7 : ((c : Int) == 7) = false := by rw [hc]; rfl
  have f3 : ((c : Int) == 3) = false := by rw [hc]; rfl
  have f4 : ((c : Int) == 4) = false := by rw [hc]; rfl
  have f8 : ((c : Int) == 8) = false := by rw [hc]; rfl
  have f9 : ((c : Int) == 9) = true := by rw [hc]; rfl
  clear hc
  cases E
  ·
   simp only [Bool.false_eq_true, if_false, if_true]
   obtain ⟨Ai, Aj, Ak, B0⟩ := yX w (Obj.cells (pt c s X rr) 68) (Obj.cells #[.int .u64 0, .int .u64 0] 25) (Obj.cells #[.int .u64 0, .int .u64 0] 25)
   go_enter Tryz.func107, Tryz.ntmps107
   go_wp2_with fail
   refine (KP.out _).mono ?_
   rintro r w' ⟨rfl, hw'⟩
   obtain rfl := hw'.symm
   go_wp2_with fail
   refine (KN.out _).mono ?_
   rintro r w1 ⟨rfl, b1⟩
   have B1 : Below w.heap.size w w1 := zL B0 b1
   obtain ⟨Ab, Af, Ag⟩ := zZ b1 Ai Aj Ak
   clear b1 B0 Ai Aj Ak
   obtain ⟨An, Ao, Ap, Aq, Ar, As, At, Au, Av, Aw, Ax, Ay, Az, AA⟩ := zD Ab
   obtain ⟨AB, AC⟩ := zF Af
   obtain ⟨AD, AE⟩ := zF Ag
   have sS : zP (∀ W W1 : World, (Below w.heap.size w W ∧ W.heap[w.heap.size]? = some (.cells (pt c s X rr) 68) ∧ W.heap[w.heap.size + 1]? = some (.cells #[.int .u64 0, .int .u64 0] 25) ∧ W.cell? ⟨w.heap.size, 0, none⟩ = some (.int .u8 c) ∧ W.cell? ⟨w.heap.size, 1, none⟩ = some (.int .u64 (wd s 0)) ∧ W.cell? ⟨w.heap.size, 2, none⟩ = some (.int .u64 (wd s 1)) ∧ W.cell? ⟨w.heap.size, 3, none⟩ = some (.int .u64 (wd s 2)) ∧ W.cell? ⟨w.heap.size, 4, none⟩ = some (.int .u64 (wd s 3)) ∧ W.cell? ⟨w.heap.size, 5, none⟩ = some (.int .u64 (wd s 4)) ∧ W.cell? ⟨w.heap.size, 6, none⟩ = some (.int .u64 (wd s 5)) ∧ W.cell? ⟨w.heap.size, 7, none⟩ = some (.int .i64 X) ∧ W.cell? ⟨w.heap.size, 8, none⟩ = some (.int .u64 (wd rr 0)) ∧ W.cell? ⟨w.heap.size, 9, none⟩ = some (.int .u64 (wd rr 1)) ∧ W.cell? ⟨w.heap.size, 10, none⟩ = some (.int .u64 (wd rr 2)) ∧ W.cell? ⟨w.heap.size, 11, none⟩ = some (.int .u64 (wd rr 3)) ∧ W.cell? ⟨w.heap.size, 12, none⟩ = some (.int .u64 (wd rr 4)) ∧ W.cell? ⟨w.heap.size, 13, none⟩ = some (.int .u64 (wd rr 5))) → Below W.heap.size W W1 → (Below w.heap.size w W1 ∧ W1.heap[w.heap.size]? = some (.cells (pt c s X rr) 68) ∧ W1.heap[w.heap.size + 1]? = some (.cells #[.int .u64 0, .int .u64 0] 25) ∧ W1.cell? ⟨w.heap.size, 0, none⟩ = some (.int .u8 c) ∧ W1.cell? ⟨w.heap.size, 1, none⟩ = some (.int .u64 (wd s 0)) ∧ W1.cell? ⟨w.heap.size, 2, none⟩ = some (.int .u64 (wd s 1)) ∧ W1.cell? ⟨w.heap.size, 3, none⟩ = some (.int .u64 (wd s 2)) ∧ W1.cell? ⟨w.heap.size, 4, none⟩ = some (.int .u64 (wd s 3)) ∧ W1.cell? ⟨w.heap.size, 5, none⟩ = some (.int .u64 (wd s 4)) ∧ W1.cell? ⟨w.heap.size, 6, none⟩ = some (.int .u64 (wd s 5)) ∧ W1.cell? ⟨w.heap.size, 7, none⟩ = some (.int .i64 X) ∧ W1.cell? ⟨w.heap.size, 8, none⟩ = some (.int .u64 (wd rr 0)) ∧ W1.cell? ⟨w.heap.size, 9, none⟩ = some (.int .u64 (wd rr 1)) ∧ W1.cell? ⟨w.heap.size, 10, none⟩ = some (.int .u64 (wd rr 2)) ∧ W1.cell? ⟨w.heap.size, 11, none⟩ = some (.int .u64 (wd rr 3)) ∧ W1.cell? ⟨w.heap.size, 12, none⟩ = some (.int .u64 (wd rr 4)) ∧ W1.cell? ⟨w.heap.size, 13, none⟩ = some (.int .u64 (wd rr 5)))) := zK (fun W W1 h b => ⟨zL h.1 b, zA b _ _ _ h.2.1, zA b _ _ _ h.2.2.1, zC (zA b _ _ _ h.2.1) 0 _ rfl, zC (zA b _ _ _ h.2.1) 1 _ rfl, zC (zA b _ _ _ h.2.1) 2 _ rfl, zC (zA b _ _ _ h.2.1) 3 _ rfl, zC (zA b _ _ _ h.2.1) 4 _ rfl, zC (zA b _ _ _ h.2.1) 5 _ rfl, zC (zA b _ _ _ h.2.1) 6 _ rfl, zC (zA b _ _ _ h.2.1) 7 _ rfl, zC (zA b _ _ _ h.2.1) 8 _ rfl, zC (zA b _ _ _ h.2.1) 9 _ rfl, zC (zA b _ _ _ h.2.1) 10 _ rfl, zC (zA b _ _ _ h.2.1) 11 _ rfl, zC (zA b _ _ _ h.2.1) 12 _ rfl, zC (zA b _ _ _ h.2.1) 13 _ rfl⟩)
   have sT : zP (∀ (W : World) (xA xB : Value), (Below w.heap.size w W ∧ W.heap[w.heap.size]? = some (.cells (pt c s X rr) 68) ∧ W.heap[w.heap.size + 1]? = some (.cells #[.int .u64 0, .int .u64 0] 25) ∧ W.cell? ⟨w.heap.size, 0, none⟩ = some (.int .u8 c) ∧ W.cell? ⟨w.heap.size, 1, none⟩ = some (.int .u64 (wd s 0)) ∧ W.cell? ⟨w.heap.size, 2, none⟩ = some (.int .u64 (wd s 1)) ∧ W.cell? ⟨w.heap.size, 3, none⟩ = some (.int .u64 (wd s 2)) ∧ W.cell? ⟨w.heap.size, 4, none⟩ = some (.int .u64 (wd s 3)) ∧ W.cell? ⟨w.heap.size, 5, none⟩ = some (.int .u64 (wd s 4)) ∧ W.cell? ⟨w.heap.size, 6, none⟩ = some (.int .u64 (wd s 5)) ∧ W.cell? ⟨w.heap.size, 7, none⟩ = some (.int .i64 X) ∧ W.cell? ⟨w.heap.size, 8, none⟩ = some (.int .u64 (wd rr 0)) ∧ W.cell? ⟨w.heap.size, 9, none⟩ = some (.int .u64 (wd rr 1)) ∧ W.cell? ⟨w.heap.size, 10, none⟩ = some (.int .u64 (wd rr 2)) ∧ W.cell? ⟨w.heap.size, 11, none⟩ = some (.int .u64 (wd rr 3)) ∧ W.cell? ⟨w.heap.size, 12, none⟩ = some (.int .u64 (wd rr 4)) ∧ W.cell? ⟨w.heap.size, 13, none⟩ = some (.int .u64 (wd rr 5))) → (Below w.heap.size w ((W.setCell ⟨w.heap.size + 1 + 1, 0, none⟩ xA).setCell ⟨w.heap.size + 1 + 1, 1, none⟩ xB) ∧ ((W.setCell ⟨w.heap.size + 1 + 1, 0, none⟩ xA).setCell ⟨w.heap.size + 1 + 1, 1, none⟩ xB).heap[w.heap.size]? = some (.cells (pt c s X rr) 68) ∧ ((W.setCell ⟨w.heap.size + 1 + 1, 0, none⟩ xA).setCell ⟨w.heap.size + 1 + 1, 1, none⟩ xB).heap[w.heap.size + 1]? = some (.cells #[.int .u64 0, .int .u64 0] 25) ∧ ((W.setCell ⟨w.heap.size + 1 + 1, 0, none⟩ xA).setCell ⟨w.heap.size + 1 + 1, 1, none⟩ xB).cell? ⟨w.heap.size, 0, none⟩ = some (.int .u8 c) ∧ ((W.setCell ⟨w.heap.size + 1 + 1, 0, none⟩ xA).setCell ⟨w.heap.size + 1 + 1, 1, none⟩ xB).cell? ⟨w.heap.size, 1, none⟩ = some (.int .u64 (wd s 0)) ∧ ((W.setCell ⟨w.heap.size + 1 + 1, 0, none⟩ xA).setCell ⟨w.heap.size + 1 + 1, 1, none⟩ xB).cell? ⟨w.heap.size, 2, none⟩ = some (.int .u64 (wd s 1)) ∧ ((W.setCell ⟨w.heap.size + 1 + 1, 0, none⟩ xA).setCell ⟨w.heap.size + 1 + 1, 1, none⟩ xB).cell? ⟨w.heap.size, 3, none⟩ = some (.int .u64 (wd s 2)) ∧ ((W.setCell ⟨w.heap.size + 1 + 1, 0, none⟩ xA).setCell ⟨w.heap.size + 1 + 1, 1, none⟩ xB).cell? ⟨w.heap.size, 4, none⟩ = some (.int .u64 (wd s 3)) ∧ ((W.setCell ⟨w.heap.size + 1 + 1, 0, none⟩ xA).setCell ⟨w.heap.size + 1 + 1, 1, none⟩ xB).cell? ⟨w.heap.size, 5, none⟩ = some (.int .u64 (wd s 4)) ∧ ((W.setCell ⟨w.heap.size + 1 + 1, 0, none⟩ xA).setCell ⟨w.heap.size + 1 + 1, 1, none⟩ xB).cell? ⟨w.heap.size, 6, none⟩ = some (.int .u64 (wd s 5)) ∧ ((W.setCell ⟨w.heap.size + 1 + 1, 0, none⟩ xA).setCell ⟨w.heap.size + 1 + 1, 1, none⟩ xB).cell? ⟨w.heap.size, 7, none⟩ = some (.int .i64 X) ∧ ((W.setCell ⟨w.heap.size + 1 + 1, 0, none⟩ xA).setCell ⟨w.heap.size + 1 + 1, 1, none⟩ xB).cell? ⟨w.heap.size, 8, none⟩ = some (.int .u64 (wd rr 0)) ∧ ((W.setCell ⟨w.heap.size + 1 + 1, 0, none⟩ xA).setCell ⟨w.heap.size + 1 + 1, 1, none⟩ xB).cell? ⟨w.heap.size, 9, none⟩ = some (.int .u64 (wd rr 1)) ∧ ((W.setCell ⟨w.heap.size + 1 + 1, 0, none⟩ xA).setCell ⟨w.heap.size + 1 + 1, 1, none⟩ xB).cell? ⟨w.heap.size, 10, none⟩ = some (.int .u64 (wd rr 2)) ∧ ((W.setCell ⟨w.heap.size + 1 + 1, 0, none⟩ xA).setCell ⟨w.heap.size + 1 + 1, 1, none⟩ xB).cell? ⟨w.heap.size, 11, none⟩ = some (.int .u64 (wd rr 3)) ∧ ((W.setCell ⟨w.heap.size + 1 + 1, 0, none⟩ xA).setCell ⟨w.heap.size + 1 + 1, 1, none⟩ xB).cell? ⟨w.heap.size, 12, none⟩ = some (.int .u64 (wd rr 4)) ∧ ((W.setCell ⟨w.heap.size + 1 + 1, 0, none⟩ xA).setCell ⟨w.heap.size + 1 + 1, 1, none⟩ xB).cell? ⟨w.heap.size, 13, none⟩ = some (.int .u64 (wd rr 5)))) := zK (fun W xA xB h => ⟨zI h.1 (show w.heap.size ≤ w.heap.size + 1 + 1 by first | exact Nat.le_refl _ | omega | (skip; omega)) xA xB, (zB (by first | omega | (skip; omega))).trans ((zB (by first | omega | (skip; omega))).trans h.2.1), (zB (by first | omega | (skip; omega))).trans ((zB (by first | omega | (skip; omega))).trans h.2.2.1), zC ((zB (by first | omega | (skip; omega))).trans ((zB (by first | omega | (skip; omega))).trans h.2.1)) 0 _ rfl, zC ((zB (by first | omega | (skip; omega))).trans ((zB (by first | omega | (skip; omega))).trans h.2.1)) 1 _ rfl, zC ((zB (by first | omega | (skip; omega))).trans ((zB (by first | omega | (skip; omega))).trans h.2.1)) 2 _ rfl, zC ((zB (by first | omega | (skip; omega))).trans ((zB (by first | omega | (skip; omega))).trans h.2.1)) 3 _ rfl, zC ((zB (by first | omega | (skip; omega))).trans ((zB (by first | omega | (skip; omega))).trans h.2.1)) 4 _ rfl, zC ((zB (by first | omega | (skip; omega))).trans ((zB (by first | omega | (skip; omega))).trans h.2.1)) 5 _ rfl, zC ((zB (by first | omega | (skip; omega))).trans ((zB (by first | omega | (skip; omega))).trans h.2.1)) 6 _ rfl, zC ((zB (by first | omega | (skip; omega))).trans ((zB (by first | omega | (skip; omega))).trans h.2.1)) 7 _ rfl, zC ((zB (by first | omega | (skip; omega))).trans ((zB (by first | omega | (skip; omega))).trans h.2.1)) 8 _ rfl, zC ((zB (by first | omega | (skip; omega))).trans ((zB (by first | omega | (skip; omega))).trans h.2.1)) 9 _ rfl, zC ((zB (by first | omega | (skip; omega))).trans ((zB (by first | omega | (skip; omega))).trans h.2.1)) 10 _ rfl, zC ((zB (by first | omega | (skip; omega))).trans ((zB (by first | omega | (skip; omega))).trans h.2.1)) 11 _ rfl, zC ((zB (by first | omega | (skip; omega))).trans ((zB (by first | omega | (skip; omega))).trans h.2.1)) 12 _ rfl, zC ((zB (by first | omega | (skip; omega))).trans ((zB (by first | omega | (skip; omega))).trans h.2.1)) 13 _ rfl⟩)
   have s0 : Below w.heap.size w (w1).drew ∧ (w1).drew.heap[w.heap.size]? = some (.cells (pt c s X rr) 68) ∧ (w1).drew.heap[w.heap.size + 1]? = some (.cells #[.int .u64 0, .int .u64 0] 25) ∧ (w1).drew.cell? ⟨w.heap.size, 0, none⟩ = some (.int .u8 c) ∧ (w1).drew.cell? ⟨w.heap.size, 1, none⟩ = some (.int .u64 (wd s 0)) ∧ (w1).drew.cell? ⟨w.heap.size, 2, none⟩ = some (.int .u64 (wd s 1)) ∧ (w1).drew.cell? ⟨w.heap.size, 3, none⟩ = some (.int .u64 (wd s 2)) ∧ (w1).drew.cell? ⟨w.heap.size, 4, none⟩ = some (.int .u64 (wd s 3)) ∧ (w1).drew.cell? ⟨w.heap.size, 5, none⟩ = some (.int .u64 (wd s 4)) ∧ (w1).drew.cell? ⟨w.heap.size, 6, none⟩ = some (.int .u64 (wd s 5)) ∧ (w1).drew.cell? ⟨w.heap.size, 7, none⟩ = some (.int .i64 X) ∧ (w1).drew.cell? ⟨w.heap.size, 8, none⟩ = some (.int .u64 (wd rr 0)) ∧ (w1).drew.cell? ⟨w.heap.size, 9, none⟩ = some (.int .u64 (wd rr 1)) ∧ (w1).drew.cell? ⟨w.heap.size, 10, none⟩ = some (.int .u64 (wd rr 2)) ∧ (w1).drew.cell? ⟨w.heap.size, 11, none⟩ = some (.int .u64 (wd rr 3)) ∧ (w1).drew.cell? ⟨w.heap.size, 12, none⟩ = some (.int .u64 (wd rr 4)) ∧ (w1).drew.cell? ⟨w.heap.size, 13, none⟩ = some (.int .u64 (wd rr 5)) := ⟨B1.drew, Ab, Af, zC (Ab) 0 _ rfl, zC (Ab) 1 _ rfl, zC (Ab) 2 _ rfl, zC (Ab) 3 _ rfl, zC (Ab) 4 _ rfl, zC (Ab) 5 _ rfl, zC (Ab) 6 _ rfl, zC (Ab) 7 _ rfl, zC (Ab) 8 _ rfl, zC (Ab) 9 _ rfl, zC (Ab) 10 _ rfl, zC (Ab) 11 _ rfl, zC (Ab) 12 _ rfl, zC (Ab) 13 _ rfl⟩
   have rz : (w1).drew.heap[w.heap.size + 1 + 1]? = some (.cells #[.int .u64 0, .int .u64 0] 25) := Ag
   go_wp2_with fail
   go_region_held3 (fun W => Below w.heap.size w W ∧ W.heap[w.heap.size]? = some (.cells (pt c s X rr) 68) ∧ W.heap[w.heap.size + 1]? = some (.cells #[.int .u64 0, .int .u64 0] 25) ∧ W.cell? ⟨w.heap.size, 0, none⟩ = some (.int .u8 c) ∧ W.cell? ⟨w.heap.size, 1, none⟩ = some (.int .u64 (wd s 0)) ∧ W.cell? ⟨w.heap.size, 2, none⟩ = some (.int .u64 (wd s 1)) ∧ W.cell? ⟨w.heap.size, 3, none⟩ = some (.int .u64 (wd s 2)) ∧ W.cell? ⟨w.heap.size, 4, none⟩ = some (.int .u64 (wd s 3)) ∧ W.cell? ⟨w.heap.size, 5, none⟩ = some (.int .u64 (wd s 4)) ∧ W.cell? ⟨w.heap.size, 6, none⟩ = some (.int .u64 (wd s 5)) ∧ W.cell? ⟨w.heap.size, 7, none⟩ = some (.int .i64 X) ∧ W.cell? ⟨w.heap.size, 8, none⟩ = some (.int .u64 (wd rr 0)) ∧ W.cell? ⟨w.heap.size, 9, none⟩ = some (.int .u64 (wd rr 1)) ∧ W.cell? ⟨w.heap.size, 10, none⟩ = some (.int .u64 (wd rr 2)) ∧ W.cell? ⟨w.heap.size, 11, none⟩ = some (.int .u64 (wd rr 3)) ∧ W.cell? ⟨w.heap.size, 12, none⟩ = some (.int .u64 (wd rr 4)) ∧ W.cell? ⟨w.heap.size, 13, none⟩ = some (.int .u64 (wd rr 5))) (first | exact s1 | exact s0 | exact sT.out _ _ _ s1)
    (first | (go_at_call 105; refine (KO.out _).mono ?_; rintro r wz ⟨rfl, rfl⟩) | (go_at_call 104; refine (KB.out _).mono ?_; rintro r wq ⟨rfl, bq⟩; have s1 := (by first | exact sS.out _ _ s1 bq | exact sS.out _ _ s0 bq); have rz := zA bq _ _ _ rz; have AF := fz (k := 0) rz; have AG := fz (k := 1) rz; have AH := zC rz 0 _ rfl; have AI := zC rz 1 _ rfl; clear bq) | fail)
   have s2 : Below w.heap.size w ((wq.setCell ⟨w.heap.size + 1 + 1, 0, none⟩ (.int .u64 u)).setCell ⟨w.heap.size + 1 + 1, 1, none⟩ (.int .u64 v)) ∧ ((wq.setCell ⟨w.heap.size + 1 + 1, 0, none⟩ (.int .u64 u)).setCell ⟨w.heap.size + 1 + 1, 1, none⟩ (.int .u64 v)).heap[w.heap.size]? = some (.cells (pt c s X rr) 68) ∧ ((wq.setCell ⟨w.heap.size + 1 + 1, 0, none⟩ (.int .u64 u)).setCell ⟨w.heap.size + 1 + 1, 1, none⟩ (.int .u64 v)).heap[w.heap.size + 1]? = some (.cells #[.int .u64 0, .int .u64 0] 25) ∧ ((wq.setCell ⟨w.heap.size + 1 + 1, 0, none⟩ (.int .u64 u)).setCell ⟨w.heap.size + 1 + 1, 1, none⟩ (.int .u64 v)).cell? ⟨w.heap.size, 0, none⟩ = some (.int .u8 c) ∧ ((wq.setCell ⟨w.heap.size + 1 + 1, 0, none⟩ (.int .u64 u)).setCell ⟨w.heap.size + 1 + 1, 1, none⟩ (.int .u64 v)).cell? ⟨w.heap.size, 1, none⟩ = some (.int .u64 (wd s 0)) ∧ ((wq.setCell ⟨w.heap.size + 1 + 1, 0, none⟩ (.int .u64 u)).setCell ⟨w.heap.size + 1 + 1, 1, none⟩ (.int .u64 v)).cell? ⟨w.heap.size, 2, none⟩ = some (.int .u64 (wd s 1)) ∧ ((wq.setCell ⟨w.heap.size + 1 + 1, 0, none⟩ (.int .u64 u)).setCell ⟨w.heap.size + 1 + 1, 1, none⟩ (.int .u64 v)).cell? ⟨w.heap.size, 3, none⟩ = some (.int .u64 (wd s 2)) ∧ ((wq.setCell ⟨w.heap.size + 1 + 1, 0, none⟩ (.int .u64 u)).setCell ⟨w.heap.size + 1 + 1, 1, none⟩ (.int .u64 v)).cell? ⟨w.heap.size, 4, none⟩ = some (.int .u64 (wd s 3)) ∧ ((wq.setCell ⟨w.heap.size + 1 + 1, 0, none⟩ (.int .u64 u)).setCell ⟨w.heap.size + 1 + 1, 1, none⟩ (.int .u64 v)).cell? ⟨w.heap.size, 5, none⟩ = some (.int .u64 (wd s 4)) ∧ ((wq.setCell ⟨w.heap.size + 1 + 1, 0, none⟩ (.int .u64 u)).setCell ⟨w.heap.size + 1 + 1, 1, none⟩ (.int .u64 v)).cell? ⟨w.heap.size, 6, none⟩ = some (.int .u64 (wd s 5)) ∧ ((wq.setCell ⟨w.heap.size + 1 + 1, 0, none⟩ (.int .u64 u)).setCell ⟨w.heap.size + 1 + 1, 1, none⟩ (.int .u64 v)).cell? ⟨w.heap.size, 7, none⟩ = some (.int .i64 X) ∧ ((wq.setCell ⟨w.heap.size + 1 + 1, 0, none⟩ (.int .u64 u)).setCell ⟨w.heap.size + 1 + 1, 1, none⟩ (.int .u64 v)).cell? ⟨w.heap.size, 8, none⟩ = some (.int .u64 (wd rr 0)) ∧ ((wq.setCell ⟨w.heap.size + 1 + 1, 0, none⟩ (.int .u64 u)).setCell ⟨w.heap.size + 1 + 1, 1, none⟩ (.int .u64 v)).cell? ⟨w.heap.size, 9, none⟩ = some (.int .u64 (wd rr 1)) ∧ ((wq.setCell ⟨w.heap.size + 1 + 1, 0, none⟩ (.int .u64 u)).setCell ⟨w.heap.size + 1 + 1, 1, none⟩ (.int .u64 v)).cell? ⟨w.heap.size, 10, none⟩ = some (.int .u64 (wd rr 2)) ∧ ((wq.setCell ⟨w.heap.size + 1 + 1, 0, none⟩ (.int .u64 u)).setCell ⟨w.heap.size + 1 + 1, 1, none⟩ (.int .u64 v)).cell? ⟨w.heap.size, 11, none⟩ = some (.int .u64 (wd rr 3)) ∧ ((wq.setCell ⟨w.heap.size + 1 + 1, 0, none⟩ (.int .u64 u)).setCell ⟨w.heap.size + 1 + 1, 1, none⟩ (.int .u64 v)).cell? ⟨w.heap.size, 12, none⟩ = some (.int .u64 (wd rr 4)) ∧ ((wq.setCell ⟨w.heap.size + 1 + 1, 0, none⟩ (.int .u64 u)).setCell ⟨w.heap.size + 1 + 1, 1, none⟩ (.int .u64 v)).cell? ⟨w.heap.size, 13, none⟩ = some (.int .u64 (wd rr 5)) := sT.out _ _ _ s1
   have Ac : ((wq.setCell ⟨w.heap.size + 1 + 1, 0, none⟩ (.int .u64 u)).setCell ⟨w.heap.size + 1 + 1, 1, none⟩ (.int .u64 v)).heap[w.heap.size + 1 + 1]? = some (.cells #[.int .u64 u, .int .u64 v] 25) := yE rz _ _
   have B2 := And.left s2
   have Aa := s2.2.1
   have Ad := s2.2.2.1
   obtain ⟨w2, Ah⟩ : ∃ V, ((wq.setCell ⟨w.heap.size + 1 + 1, 0, none⟩ (.int .u64 u)).setCell ⟨w.heap.size + 1 + 1, 1, none⟩ (.int .u64 v)) = V := ⟨_, rfl⟩
   rw [Ah] at B2 Aa Ad Ac
   try rw [Ah]
   clear s0 s1 s2 sS sT rz AF AG AH AI Ah B1 Ab An Ao Ap Aq Ar As At Au Av Aw Ax Ay Az AA Af AB AC Ag AD AE
   obtain ⟨AJ, AK, AL, AM, AN, AO, AP, AQ, AR, AS, AT, AU, AV, AW⟩ := zD Aa
   obtain ⟨AX, AY⟩ := zF Ad
   obtain ⟨AZ, A0⟩ := zF Ac
   go_wp2_with fail
   obtain ⟨F, hF1, hF2⟩ := zS w2
   have fp_0 := fun u => zC (zA (hF1 u) _ _ _ Aa) 0 _ rfl
   have fp_1 := fun u => zC (zA (hF1 u) _ _ _ Aa) 1 _ rfl
   have fp_2 := fun u => zC (zA (hF1 u) _ _ _ Aa) 2 _ rfl
   have fp_3 := fun u => zC (zA (hF1 u) _ _ _ Aa) 3 _ rfl
   have fp_4 := fun u => zC (zA (hF1 u) _ _ _ Aa) 4 _ rfl
   have fp_5 := fun u => zC (zA (hF1 u) _ _ _ Aa) 5 _ rfl
   have fp_6 := fun u => zC (zA (hF1 u) _ _ _ Aa) 6 _ rfl
   have fp_7 := fun u => zC (zA (hF1 u) _ _ _ Aa) 7 _ rfl
   have fp_8 := fun u => zC (zA (hF1 u) _ _ _ Aa) 8 _ rfl
   have fp_9 := fun u => zC (zA (hF1 u) _ _ _ Aa) 9 _ rfl
   have fp_10 := fun u => zC (zA (hF1 u) _ _ _ Aa) 10 _ rfl
   have fp_11 := fun u => zC (zA (hF1 u) _ _ _ Aa) 11 _ rfl
   have fp_12 := fun u => zC (zA (hF1 u) _ _ _ Aa) 12 _ rfl
   have fp_13 := fun u => zC (zA (hF1 u) _ _ _ Aa) 13 _ rfl
   have fz_0 := fun u => zC (zA (hF1 u) _ _ _ Ad) 0 _ rfl
   have fz_1 := fun u => zC (zA (hF1 u) _ _ _ Ad) 1 _ rfl
   have fb_0 := fun u => zC (zA (hF1 u) _ _ _ Ac) 0 _ rfl
   have fb_1 := fun u => zC (zA (hF1 u) _ _ _ Ac) 1 _ rfl
   refine zJ F hF2 (by kernel_rfl) (by kernel_rfl) ?_
   repeat first | go_big_quiet_step (first | (go_at_call 33; exact zN hF1 hF2 (KU.out _)) | fail) | quiet_step (first | (go_at_call 33; exact zN hF1 hF2 (KU.out _)) | fail)
   refine wpQuiet_nil ?_
   rintro _ ⟨uW, rfl⟩
   have B3 := zL B2 (hF1 uW)
   obtain ⟨Al, Ae, Am⟩ := zZ (hF1 uW) Aa Ad Ac
   obtain ⟨w3, hw⟩ : ∃ V, F uW = V := ⟨_, rfl⟩
   rw [hw] at B3 Al Ae Am
   try rw [hw]
   clear hw hF1 hF2 B2 fp_0 fp_1 fp_2 fp_3 fp_4 fp_5 fp_6 fp_7 fp_8 fp_9 fp_10 fp_11 fp_12 fp_13 fz_0 fz_1 fb_0 fb_1 Aa AJ AK AL AM AN AO AP AQ AR AS AT AU AV AW Ad AX AY Ac AZ A0
   clear F
   obtain ⟨A1, A2, A3, A4, A5, A6, A7, A8, A9, Ba, Bb, Bc, Bd, Be⟩ := zD Al
   obtain ⟨Bf, Bg⟩ := zF Ae
   obtain ⟨Bh, Bi⟩ := zF Am
   have q0 := fz (k := 0) Ae
   have q1 := fz (k := 1) Ae
   obtain ⟨E0, E1⟩ := zM Ae (.int .u64 0) (.int .u64 0)
   go_wp2
   exact bodyPost_ret (v := .tuple #[.agg #[.int .u64 0, .int .u64 0], .int .i64 80]) (by simp [results, Tryz.results107, go_sem, E0, E1]) rfl ⟨rfl, zI B3 (by first | exact Nat.le_refl _ | omega | (skip; omega)) _ _⟩
  ·
   simp only [Bool.false_eq_true, if_false, if_true]
   obtain ⟨Ai, Aj, Ak, B0⟩ := yX w (Obj.cells (pt c s X rr) 68) (Obj.cells #[.int .u64 0, .int .u64 0] 25) (Obj.cells #[.int .u64 0, .int .u64 0] 25)
   go_enter Tryz.func107, Tryz.ntmps107
   go_wp2_with fail
   refine (KP.out _).mono ?_
   rintro r w' ⟨rfl, hw'⟩
   obtain rfl := hw'.symm
   go_wp2_with fail
   refine (KN.out _).mono ?_
   rintro r w1 ⟨rfl, b1⟩
   have B1 : Below w.heap.size w w1 := zL B0 b1
   obtain ⟨Ab, Af, Ag⟩ := zZ b1 Ai Aj Ak
   clear b1 B0 Ai Aj Ak
   obtain ⟨An, Ao, Ap, Aq, Ar, As, At, Au, Av, Aw, Ax, Ay, Az, AA⟩ := zD Ab
   obtain ⟨AB, AC⟩ := zF Af
   obtain ⟨AD, AE⟩ := zF Ag
   have sS : zP (∀ W W1 : World, (Below w.heap.size w W ∧ W.heap[w.heap.size]? = some (.cells (pt c s X rr) 68) ∧ W.heap[w.heap.size + 1]? = some (.cells #[.int .u64 0, .int .u64 0] 25) ∧ W.cell? ⟨w.heap.size, 0, none⟩ = some (.int .u8 c) ∧ W.cell? ⟨w.heap.size, 1, none⟩ = some (.int .u64 (wd s 0)) ∧ W.cell? ⟨w.heap.size, 2, none⟩ = some (.int .u64 (wd s 1)) ∧ W.cell? ⟨w.heap.size, 3, none⟩ = some (.int .u64 (wd s 2)) ∧ W.cell? ⟨w.heap.size, 4, none⟩ = some (.int .u64 (wd s 3)) ∧ W.cell? ⟨w.heap.size, 5, none⟩ = some (.int .u64 (wd s 4)) ∧ W.cell? ⟨w.heap.size, 6, none⟩ = some (.int .u64 (wd s 5)) ∧ W.cell? ⟨w.heap.size, 7, none⟩ = some (.int .i64 X) ∧ W.cell? ⟨w.heap.size, 8, none⟩ = some (.int .u64 (wd rr 0)) ∧ W.cell? ⟨w.heap.size, 9, none⟩ = some (.int .u64 (wd rr 1)) ∧ W.cell? ⟨w.heap.size, 10, none⟩ = some (.int .u64 (wd rr 2)) ∧ W.cell? ⟨w.heap.size, 11, none⟩ = some (.int .u64 (wd rr 3)) ∧ W.cell? ⟨w.heap.size, 12, none⟩ = some (.int .u64 (wd rr 4)) ∧ W.cell? ⟨w.heap.size, 13, none⟩ = some (.int .u64 (wd rr 5))) → Below W.heap.size W W1 → (Below w.heap.size w W1 ∧ W1.heap[w.heap.size]? = some (.cells (pt c s X rr) 68) ∧ W1.heap[w.heap.size + 1]? = some (.cells #[.int .u64 0, .int .u64 0] 25) ∧ W1.cell? ⟨w.heap.size, 0, none⟩ = some (.int .u8 c) ∧ W1.cell? ⟨w.heap.size, 1, none⟩ = some (.int .u64 (wd s 0)) ∧ W1.cell? ⟨w.heap.size, 2, none⟩ = some (.int .u64 (wd s 1)) ∧ W1.cell? ⟨w.heap.size, 3, none⟩ = some (.int .u64 (wd s 2)) ∧ W1.cell? ⟨w.heap.size, 4, none⟩ = some (.int .u64 (wd s 3)) ∧ W1.cell? ⟨w.heap.size, 5, none⟩ = some (.int .u64 (wd s 4)) ∧ W1.cell? ⟨w.heap.size, 6, none⟩ = some (.int .u64 (wd s 5)) ∧ W1.cell? ⟨w.heap.size, 7, none⟩ = some (.int .i64 X) ∧ W1.cell? ⟨w.heap.size, 8, none⟩ = some (.int .u64 (wd rr 0)) ∧ W1.cell? ⟨w.heap.size, 9, none⟩ = some (.int .u64 (wd rr 1)) ∧ W1.cell? ⟨w.heap.size, 10, none⟩ = some (.int .u64 (wd rr 2)) ∧ W1.cell? ⟨w.heap.size, 11, none⟩ = some (.int .u64 (wd rr 3)) ∧ W1.cell? ⟨w.heap.size, 12, none⟩ = some (.int .u64 (wd rr 4)) ∧ W1.cell? ⟨w.heap.size, 13, none⟩ = some (.int .u64 (wd rr 5)))) := zK (fun W W1 h b => ⟨zL h.1 b, zA b _ _ _ h.2.1, zA b _ _ _ h.2.2.1, zC (zA b _ _ _ h.2.1) 0 _ rfl, zC (zA b _ _ _ h.2.1) 1 _ rfl, zC (zA b _ _ _ h.2.1) 2 _ rfl, zC (zA b _ _ _ h.2.1) 3 _ rfl, zC (zA b _ _ _ h.2.1) 4 _ rfl, zC (zA b _ _ _ h.2.1) 5 _ rfl, zC (zA b _ _ _ h.2.1) 6 _ rfl, zC (zA b _ _ _ h.2.1) 7 _ rfl, zC (zA b _ _ _ h.2.1) 8 _ rfl, zC (zA b _ _ _ h.2.1) 9 _ rfl, zC (zA b _ _ _ h.2.1) 10 _ rfl, zC (zA b _ _ _ h.2.1) 11 _ rfl, zC (zA b _ _ _ h.2.1) 12 _ rfl, zC (zA b _ _ _ h.2.1) 13 _ rfl⟩)
   have sT : zP (∀ (W : World) (xA xB : Value), (Below w.heap.size w W ∧ W.heap[w.heap.size]? = some (.cells (pt c s X rr) 68) ∧ W.heap[w.heap.size + 1]? = some (.cells #[.int .u64 0, .int .u64 0] 25) ∧ W.cell? ⟨w.heap.size, 0, none⟩ = some (.int .u8 c) ∧ W.cell? ⟨w.heap.size, 1, none⟩ = some (.int .u64 (wd s 0)) ∧ W.cell? ⟨w.heap.size, 2, none⟩ = some (.int .u64 (wd s 1)) ∧ W.cell? ⟨w.heap.size, 3, none⟩ = some (.int .u64 (wd s 2)) ∧ W.cell? ⟨w.heap.size, 4, none⟩ = some (.int .u64 (wd s 3)) ∧ W.cell? ⟨w.heap.size, 5, none⟩ = some (.int .u64 (wd s 4)) ∧ W.cell? ⟨w.heap.size, 6, none⟩ = some (.int .u64 (wd s 5)) ∧ W.cell? ⟨w.heap.size, 7, none⟩ = some (.int .i64 X) ∧ W.cell? ⟨w.heap.size, 8, none⟩ = some (.int .u64 (wd rr 0)) ∧ W.cell? ⟨w.heap.size, 9, none⟩ = some (.int .u64 (wd rr 1)) ∧ W.cell? ⟨w.heap.size, 10, none⟩ = some (.int .u64 (wd rr 2)) ∧ W.cell? ⟨w.heap.size, 11, none⟩ = some (.int .u64 (wd rr 3)) ∧ W.cell? ⟨w.heap.size, 12, none⟩ = some (.int .u64 (wd rr 4)) ∧ W.cell? ⟨w.heap.size, 13, none⟩ = some (.int .u64 (wd rr 5))) → (Below w.heap.size w ((W.setCell ⟨w.heap.size + 1 + 1, 0, none⟩ xA).setCell ⟨w.heap.size + 1 + 1, 1, none⟩ xB) ∧ ((W.setCell ⟨w.heap.size + 1 + 1, 0, none⟩ xA).setCell ⟨w.heap.size + 1 + 1, 1, none⟩ xB).heap[w.heap.size]? = some (.cells (pt c s X rr) 68) ∧ ((W.setCell ⟨w.heap.size + 1 + 1, 0, none⟩ xA).setCell ⟨w.heap.size + 1 + 1, 1, none⟩ xB).heap[w.heap.size + 1]? = some (.cells #[.int .u64 0, .int .u64 0] 25) ∧ ((W.setCell ⟨w.heap.size + 1 + 1, 0, none⟩ xA).setCell ⟨w.heap.size + 1 + 1, 1, none⟩ xB).cell? ⟨w.heap.size, 0, none⟩ = some (.int .u8 c) ∧ ((W.setCell ⟨w.heap.size + 1 + 1, 0, none⟩ xA).setCell ⟨w.heap.size + 1 + 1, 1, none⟩ xB).cell? ⟨w.heap.size, 1, none⟩ = some (.int .u64 (wd s 0)) ∧ ((W.setCell ⟨w.heap.size + 1 + 1, 0, none⟩ xA).setCell ⟨w.heap.size + 1 + 1, 1, none⟩ xB).cell? ⟨w.heap.size, 2, none⟩ = some (.int .u64 (wd s 1)) ∧ ((W.setCell ⟨w.heap.size + 1 + 1, 0, none⟩ xA).setCell ⟨w.heap.size + 1 + 1, 1, none⟩ xB).cell? ⟨w.heap.size, 3, none⟩ = some (.int .u64 (wd s 2)) ∧ ((W.setCell ⟨w.heap.size + 1 + 1, 0, none⟩ xA).setCell ⟨w.heap.size + 1 + 1, 1, none⟩ xB).cell? ⟨w.heap.size, 4, none⟩ = some (.int .u64 (wd s 3)) ∧ ((W.setCell ⟨w.heap.size + 1 + 1, 0, none⟩ xA).setCell ⟨w.heap.size + 1 + 1, 1, none⟩ xB).cell? ⟨w.heap.size, 5, none⟩ = some (.int .u64 (wd s 4)) ∧ ((W.setCell ⟨w.heap.size + 1 + 1, 0, none⟩ xA).setCell ⟨w.heap.size + 1 + 1, 1, none⟩ xB).cell? ⟨w.heap.size, 6, none⟩ = some (.int .u64 (wd s 5)) ∧ ((W.setCell ⟨w.heap.size + 1 + 1, 0, none⟩ xA).setCell ⟨w.heap.size + 1 + 1, 1, none⟩ xB).cell? ⟨w.heap.size, 7, none⟩ = some (.int .i64 X) ∧ ((W.setCell ⟨w.heap.size + 1 + 1, 0, none⟩ xA).setCell ⟨w.heap.size + 1 + 1, 1, none⟩ xB).cell? ⟨w.heap.size, 8, none⟩ = some (.int .u64 (wd rr 0)) ∧ ((W.setCell ⟨w.heap.size + 1 + 1, 0, none⟩ xA).setCell ⟨w.heap.size + 1 + 1, 1, none⟩ xB).cell? ⟨w.heap.size, 9, none⟩ = some (.int .u64 (wd rr 1)) ∧ ((W.setCell ⟨w.heap.size + 1 + 1, 0, none⟩ xA).setCell ⟨w.heap.size + 1 + 1, 1, none⟩ xB).cell? ⟨w.heap.size, 10, none⟩ = some (.int .u64 (wd rr 2)) ∧ ((W.setCell ⟨w.heap.size + 1 + 1, 0, none⟩ xA).setCell ⟨w.heap.size + 1 + 1, 1, none⟩ xB).cell? ⟨w.heap.size, 11, none⟩ = some (.int .u64 (wd rr 3)) ∧ ((W.setCell ⟨w.heap.size + 1 + 1, 0, none⟩ xA).setCell ⟨w.heap.size + 1 + 1, 1, none⟩ xB).cell? ⟨w.heap.size, 12, none⟩ = some (.int .u64 (wd rr 4)) ∧ ((W.setCell ⟨w.heap.size + 1 + 1, 0, none⟩ xA).setCell ⟨w.heap.size + 1 + 1, 1, none⟩ xB).cell? ⟨w.heap.size, 13, none⟩ = some (.int .u64 (wd rr 5)))) := zK (fun W xA xB h => ⟨zI h.1 (show w.heap.size ≤ w.heap.size + 1 + 1 by first | exact Nat.le_refl _ | omega | (skip; omega)) xA xB, (zB (by first | omega | (skip; omega))).trans ((zB (by first | omega | (skip; omega))).trans h.2.1), (zB (by first | omega | (skip; omega))).trans ((zB (by first | omega | (skip; omega))).trans h.2.2.1), zC ((zB (by first | omega | (skip; omega))).trans ((zB (by first | omega | (skip; omega))).trans h.2.1)) 0 _ rfl, zC ((zB (by first | omega | (skip; omega))).trans ((zB (by first | omega | (skip; omega))).trans h.2.1)) 1 _ rfl, zC ((zB (by first | omega | (skip; omega))).trans ((zB (by first | omega | (skip; omega))).trans h.2.1)) 2 _ rfl, zC ((zB (by first | omega | (skip; omega))).trans ((zB (by first | omega | (skip; omega))).trans h.2.1)) 3 _ rfl, zC ((zB (by first | omega | (skip; omega))).trans ((zB (by first | omega | (skip; omega))).trans h.2.1)) 4 _ rfl, zC ((zB (by first | omega | (skip; omega))).trans ((zB (by first | omega | (skip; omega))).trans h.2.1)) 5 _ rfl, zC ((zB (by first | omega | (skip; omega))).trans ((zB (by first | omega | (skip; omega))).trans h.2.1)) 6 _ rfl, zC ((zB (by first | omega | (skip; omega))).trans ((zB (by first | omega | (skip; omega))).trans h.2.1)) 7 _ rfl, zC ((zB (by first | omega | (skip; omega))).trans ((zB (by first | omega | (skip; omega))).trans h.2.1)) 8 _ rfl, zC ((zB (by first | omega | (skip; omega))).trans ((zB (by first | omega | (skip; omega))).trans h.2.1)) 9 _ rfl, zC ((zB (by first | omega | (skip; omega))).trans ((zB (by first | omega | (skip; omega))).trans h.2.1)) 10 _ rfl, zC ((zB (by first | omega | (skip; omega))).trans ((zB (by first | omega | (skip; omega))).trans h.2.1)) 11 _ rfl, zC ((zB (by first | omega | (skip; omega))).trans ((zB (by first | omega | (skip; omega))).trans h.2.1)) 12 _ rfl, zC ((zB (by first | omega | (skip; omega))).trans ((zB (by first | omega | (skip; omega))).trans h.2.1)) 13 _ rfl⟩)
   have s0 : Below w.heap.size w (w1).drew ∧ (w1).drew.heap[w.heap.size]? = some (.cells (pt c s X rr) 68) ∧ (w1).drew.heap[w.heap.size + 1]? = some (.cells #[.int .u64 0, .int .u64 0] 25) ∧ (w1).drew.cell? ⟨w.heap.size, 0, none⟩ = some (.int .u8 c) ∧ (w1).drew.cell? ⟨w.heap.size, 1, none⟩ = some (.int .u64 (wd s 0)) ∧ (w1).drew.cell? ⟨w.heap.size, 2, none⟩ = some (.int .u64 (wd s 1)) ∧ (w1).drew.cell? ⟨w.heap.size, 3, none⟩ = some (.int .u64 (wd s 2)) ∧ (w1).drew.cell? ⟨w.heap.size, 4, none⟩ = some (.int .u64 (wd s 3)) ∧ (w1).drew.cell? ⟨w.heap.size, 5, none⟩ = some (.int .u64 (wd s 4)) ∧ (w1).drew.cell? ⟨w.heap.size, 6, none⟩ = some (.int .u64 (wd s 5)) ∧ (w1).drew.cell? ⟨w.heap.size, 7, none⟩ = some (.int .i64 X) ∧ (w1).drew.cell? ⟨w.heap.size, 8, none⟩ = some (.int .u64 (wd rr 0)) ∧ (w1).drew.cell? ⟨w.heap.size, 9, none⟩ = some (.int .u64 (wd rr 1)) ∧ (w1).drew.cell? ⟨w.heap.size, 10, none⟩ = some (.int .u64 (wd rr 2)) ∧ (w1).drew.cell? ⟨w.heap.size, 11, none⟩ = some (.int .u64 (wd rr 3)) ∧ (w1).drew.cell? ⟨w.heap.size, 12, none⟩ = some (.int .u64 (wd rr 4)) ∧ (w1).drew.cell? ⟨w.heap.size, 13, none⟩ = some (.int .u64 (wd rr 5)) := ⟨B1.drew, Ab, Af, zC (Ab) 0 _ rfl, zC (Ab) 1 _ rfl, zC (Ab) 2 _ rfl, zC (Ab) 3 _ rfl, zC (Ab) 4 _ rfl, zC (Ab) 5 _ rfl, zC (Ab) 6 _ rfl, zC (Ab) 7 _ rfl, zC (Ab) 8 _ rfl, zC (Ab) 9 _ rfl, zC (Ab) 10 _ rfl, zC (Ab) 11 _ rfl, zC (Ab) 12 _ rfl, zC (Ab) 13 _ rfl⟩
   have rz : (w1).drew.heap[w.heap.size + 1 + 1]? = some (.cells #[.int .u64 0, .int .u64 0] 25) := Ag
   go_wp2_with fail
   go_region_held3 (fun W => Below w.heap.size w W ∧ W.heap[w.heap.size]? = some (.cells (pt c s X rr) 68) ∧ W.heap[w.heap.size + 1]? = some (.cells #[.int .u64 0, .int .u64 0] 25) ∧ W.cell? ⟨w.heap.size, 0, none⟩ = some (.int .u8 c) ∧ W.cell? ⟨w.heap.size, 1, none⟩ = some (.int .u64 (wd s 0)) ∧ W.cell? ⟨w.heap.size, 2, none⟩ = some (.int .u64 (wd s 1)) ∧ W.cell? ⟨w.heap.size, 3, none⟩ = some (.int .u64 (wd s 2)) ∧ W.cell? ⟨w.heap.size, 4, none⟩ = some (.int .u64 (wd s 3)) ∧ W.cell? ⟨w.heap.size, 5, none⟩ = some (.int .u64 (wd s 4)) ∧ W.cell? ⟨w.heap.size, 6, none⟩ = some (.int .u64 (wd s 5)) ∧ W.cell? ⟨w.heap.size, 7, none⟩ = some (.int .i64 X) ∧ W.cell? ⟨w.heap.size, 8, none⟩ = some (.int .u64 (wd rr 0)) ∧ W.cell? ⟨w.heap.size, 9, none⟩ = some (.int .u64 (wd rr 1)) ∧ W.cell? ⟨w.heap.size, 10, none⟩ = some (.int .u64 (wd rr 2)) ∧ W.cell? ⟨w.heap.size, 11, none⟩ = some (.int .u64 (wd rr 3)) ∧ W.cell? ⟨w.heap.size, 12, none⟩ = some (.int .u64 (wd rr 4)) ∧ W.cell? ⟨w.heap.size, 13, none⟩ = some (.int .u64 (wd rr 5))) (first | exact s1 | exact s0 | exact sT.out _ _ _ s1)
    (first | (go_at_call 105; refine (KO.out _).mono ?_; rintro r wz ⟨rfl, rfl⟩) | (go_at_call 104; refine (KB.out _).mono ?_; rintro r wq ⟨rfl, bq⟩; have s1 := (by first | exact sS.out _ _ s1 bq | exact sS.out _ _ s0 bq); have rz := zA bq _ _ _ rz; have AF := fz (k := 0) rz; have AG := fz (k := 1) rz; have AH := zC rz 0 _ rfl; have AI := zC rz 1 _ rfl; clear bq) | fail)
   have s2 : Below w.heap.size w ((wq.setCell ⟨w.heap.size + 1 + 1, 0, none⟩ (.int .u64 u)).setCell ⟨w.heap.size + 1 + 1, 1, none⟩ (.int .u64 v)) ∧ ((wq.setCell ⟨w.heap.size + 1 + 1, 0, none⟩ (.int .u64 u)).setCell ⟨w.heap.size + 1 + 1, 1, none⟩ (.int .u64 v)).heap[w.heap.size]? = some (.cells (pt c s X rr) 68) ∧ ((wq.setCell ⟨w.heap.size + 1 + 1, 0, none⟩ (.int .u64 u)).setCell ⟨w.heap.size + 1 + 1, 1, none⟩ (.int .u64 v)).heap[w.heap.size + 1]? = some (.cells #[.int .u64 0, .int .u64 0] 25) ∧ ((wq.setCell ⟨w.heap.size + 1 + 1, 0, none⟩ (.int .u64 u)).setCell ⟨w.heap.size + 1 + 1, 1, none⟩ (.int .u64 v)).cell? ⟨w.heap.size, 0, none⟩ = some (.int .u8 c) ∧ ((wq.setCell ⟨w.heap.size + 1 + 1, 0, none⟩ (.int .u64 u)).setCell ⟨w.heap.size + 1 + 1, 1, none⟩ (.int .u64 v)).cell? ⟨w.heap.size, 1, none⟩ = some (.int .u64 (wd s 0)) ∧ ((wq.setCell ⟨w.heap.size + 1 + 1, 0, none⟩ (.int .u64 u)).setCell ⟨w.heap.size + 1 + 1, 1, none⟩ (.int .u64 v)).cell? ⟨w.heap.size, 2, none⟩ = some (.int .u64 (wd s 1)) ∧ ((wq.setCell ⟨w.heap.size + 1 + 1, 0, none⟩ (.int .u64 u)).setCell ⟨w.heap.size + 1 + 1, 1, none⟩ (.int .u64 v)).cell? ⟨w.heap.size, 3, none⟩ = some (.int .u64 (wd s 2)) ∧ ((wq.setCell ⟨w.heap.size + 1 + 1, 0, none⟩ (.int .u64 u)).setCell ⟨w.heap.size + 1 + 1, 1, none⟩ (.int .u64 v)).cell? ⟨w.heap.size, 4, none⟩ = some (.int .u64 (wd s 3)) ∧ ((wq.setCell ⟨w.heap.size + 1 + 1, 0, none⟩ (.int .u64 u)).setCell ⟨w.heap.size + 1 + 1, 1, none⟩ (.int .u64 v)).cell? ⟨w.heap.size, 5, none⟩ = some (.int .u64 (wd s 4)) ∧ ((wq.setCell ⟨w.heap.size + 1 + 1, 0, none⟩ (.int .u64 u)).setCell ⟨w.heap.size + 1 + 1, 1, none⟩ (.int .u64 v)).cell? ⟨w.heap.size, 6, none⟩ = some (.int .u64 (wd s 5)) ∧ ((wq.setCell ⟨w.heap.size + 1 + 1, 0, none⟩ (.int .u64 u)).setCell ⟨w.heap.size + 1 + 1, 1, none⟩ (.int .u64 v)).cell? ⟨w.heap.size, 7, none⟩ = some (.int .i64 X) ∧ ((wq.setCell ⟨w.heap.size + 1 + 1, 0, none⟩ (.int .u64 u)).setCell ⟨w.heap.size + 1 + 1, 1, none⟩ (.int .u64 v)).cell? ⟨w.heap.size, 8, none⟩ = some (.int .u64 (wd rr 0)) ∧ ((wq.setCell ⟨w.heap.size + 1 + 1, 0, none⟩ (.int .u64 u)).setCell ⟨w.heap.size + 1 + 1, 1, none⟩ (.int .u64 v)).cell? ⟨w.heap.size, 9, none⟩ = some (.int .u64 (wd rr 1)) ∧ ((wq.setCell ⟨w.heap.size + 1 + 1, 0, none⟩ (.int .u64 u)).setCell ⟨w.heap.size + 1 + 1, 1, none⟩ (.int .u64 v)).cell? ⟨w.heap.size, 10, none⟩ = some (.int .u64 (wd rr 2)) ∧ ((wq.setCell ⟨w.heap.size + 1 + 1, 0, none⟩ (.int .u64 u)).setCell ⟨w.heap.size + 1 + 1, 1, none⟩ (.int .u64 v)).cell? ⟨w.heap.size, 11, none⟩ = some (.int .u64 (wd rr 3)) ∧ ((wq.setCell ⟨w.heap.size + 1 + 1, 0, none⟩ (.int .u64 u)).setCell ⟨w.heap.size + 1 + 1, 1, none⟩ (.int .u64 v)).cell? ⟨w.heap.size, 12, none⟩ = some (.int .u64 (wd rr 4)) ∧ ((wq.setCell ⟨w.heap.size + 1 + 1, 0, none⟩ (.int .u64 u)).setCell ⟨w.heap.size + 1 + 1, 1, none⟩ (.int .u64 v)).cell? ⟨w.heap.size, 13, none⟩ = some (.int .u64 (wd rr 5)) := sT.out _ _ _ s1
   have Ac : ((wq.setCell ⟨w.heap.size + 1 + 1, 0, none⟩ (.int .u64 u)).setCell ⟨w.heap.size + 1 + 1, 1, none⟩ (.int .u64 v)).heap[w.heap.size + 1 + 1]? = some (.cells #[.int .u64 u, .int .u64 v] 25) := yE rz _ _
   have B2 := And.left s2
   have Aa := s2.2.1
   have Ad := s2.2.2.1
   obtain ⟨w2, Ah⟩ : ∃ V, ((wq.setCell ⟨w.heap.size + 1 + 1, 0, none⟩ (.int .u64 u)).setCell ⟨w.heap.size + 1 + 1, 1, none⟩ (.int .u64 v)) = V := ⟨_, rfl⟩
   rw [Ah] at B2 Aa Ad Ac
   try rw [Ah]
   clear s0 s1 s2 sS sT rz AF AG AH AI Ah B1 Ab An Ao Ap Aq Ar As At Au Av Aw Ax Ay Az AA Af AB AC Ag AD AE
   obtain ⟨AJ, AK, AL, AM, AN, AO, AP, AQ, AR, AS, AT, AU, AV, AW⟩ := zD Aa
   obtain ⟨AX, AY⟩ := zF Ad
   obtain ⟨AZ, A0⟩ := zF Ac
   go_wp2_with fail
   obtain ⟨F, hF1, hF2⟩ := zS w2
   have fp_0 := fun u => zC (zA (hF1 u) _ _ _ Aa) 0 _ rfl
   have fp_1 := fun u => zC (zA (hF1 u) _ _ _ Aa) 1 _ rfl
   have fp_2 := fun u => zC (zA (hF1 u) _ _ _ Aa) 2 _ rfl
   have fp_3 := fun u => zC (zA (hF1 u) _ _ _ Aa) 3 _ rfl
   have fp_4 := fun u => zC (zA (hF1 u) _ _ _ Aa) 4 _ rfl
   have fp_5 := fun u => zC (zA (hF1 u) _ _ _ Aa) 5 _ rfl
   have fp_6 := fun u => zC (zA (hF1 u) _ _ _ Aa) 6 _ rfl
   have fp_7 := fun u => zC (zA (hF1 u) _ _ _ Aa) 7 _ rfl
   have fp_8 := fun u => zC (zA (hF1 u) _ _ _ Aa) 8 _ rfl
   have fp_9 := fun u => zC (zA (hF1 u) _ _ _ Aa) 9 _ rfl
   have fp_10 := fun u => zC (zA (hF1 u) _ _ _ Aa) 10 _ rfl
   have fp_11 := fun u => zC (zA (hF1 u) _ _ _ Aa) 11 _ rfl
   have fp_12 := fun u => zC (zA (hF1 u) _ _ _ Aa) 12 _ rfl
   have fp_13 := fun u => zC (zA (hF1 u) _ _ _ Aa) 13 _ rfl
   have fz_0 := fun u => zC (zA (hF1 u) _ _ _ Ad) 0 _ rfl
   have fz_1 := fun u => zC (zA (hF1 u) _ _ _ Ad) 1 _ rfl
   have fb_0 := fun u => zC (zA (hF1 u) _ _ _ Ac) 0 _ rfl
   have fb_1 := fun u => zC (zA (hF1 u) _ _ _ Ac) 1 _ rfl
   refine zJ F hF2 (by kernel_rfl) (by kernel_rfl) ?_
   repeat first | go_big_quiet_step (first | (go_at_call 33; exact zN hF1 hF2 (KU.out _)) | fail) | quiet_step (first | (go_at_call 33; exact zN hF1 hF2 (KU.out _)) | fail)
   refine wpQuiet_nil ?_
   rintro _ ⟨uW, rfl⟩
   have B3 := zL B2 (hF1 uW)
   obtain ⟨Al, Ae, Am⟩ := zZ (hF1 uW) Aa Ad Ac
   obtain ⟨w3, hw⟩ : ∃ V, F uW = V := ⟨_, rfl⟩
   rw [hw] at B3 Al Ae Am
   try rw [hw]
   clear hw hF1 hF2 B2 fp_0 fp_1 fp_2 fp_3 fp_4 fp_5 fp_6 fp_7 fp_8 fp_9 fp_10 fp_11 fp_12 fp_13 fz_0 fz_1 fb_0 fb_1 Aa AJ AK AL AM AN AO AP AQ AR AS AT AU AV AW Ad AX AY Ac AZ A0
   clear F
   obtain ⟨A1, A2, A3, A4, A5, A6, A7, A8, A9, Ba, Bb, Bc, Bd, Be⟩ := zD Al
   obtain ⟨Bf, Bg⟩ := zF Ae
   obtain ⟨Bh, Bi⟩ := zF Am
   have q0 := fz (k := 0) Ae
   have q1 := fz (k := 1) Ae
   obtain ⟨E0, E1⟩ := zM Ae (.int .u64 u) (.int .u64 v)
   go_wp2
   exact bodyPost_ret (v := .tuple #[.agg #[.int .u64 u, .int .u64 v], .int .i64 0]) (by simp [results, Tryz.results107, go_sem, E0, E1]) rfl ⟨rfl, zI B3 (by first | exact Nat.le_refl _ | omega | (skip; omega)) _ _⟩
end Go.Proofs.YtkblmpmkchkpjaaGreatDoor
