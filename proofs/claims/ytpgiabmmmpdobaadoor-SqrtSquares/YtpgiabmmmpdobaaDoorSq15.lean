/-
  What the functions that the statement reaches return: part 15 (Q1, Q2, Q4).
-/
import Derived.Test.YtpgiabmmmpdobaaDoorSq14
namespace Go.Proofs.YtpgiabmmmpdobaaDoor
set_option maxRecDepth 100000
set_option maxHeartbeats 40000000
set_option maxRecDepth 100000
open Go.RowKit WMath XMath
set_option linter.unusedSimpArgs false
set_option linter.unusedVariables false
theorem rnd_exact {f : Int} (hf : Is4 f) (m : Int) (x : XN) (hx : x.can) (n0 : x.n ≠ 0) (hd : nl x.d ≤ 8192) (M : Nat) (h : rnd f m x = (M, 0)) : (0 < kC f M ∧ kC f M < 7) ∧ (vX f M).can ∧ (vX f M).val = x.val := by
  obtain ⟨t1, t2⟩ := top_lim hx
  obtain ⟨wk, fl⟩ := x_num hf x hx n0 hd t1 t2
  have hp := fp8 hf
  obtain ⟨n1, n2, n3, n4, n5, n6⟩ := nm8 hf
  unfold rnd at h
  rw [if_neg n0] at h
  obtain ⟨k, hk⟩ : ∃ k, dK f (topX x) = k := ⟨_, rfl⟩
  obtain ⟨j, hj⟩ : ∃ j, dJ f (topX x) = j := ⟨_, rfl⟩
  have hk2 : (k : Int) = stE f (topX x) - topX x := by rw [← hk]; unfold dK stE; omega
  have hj2 : (j : Int) = stE f (topX x) - (1 - fE f) := by rw [← hj]; unfold dJ stE; omega
  have st : stE f (topX x) = topX x ∧ 1 - fE f ≤ topX x ∨ stE f (topX x) = 1 - fE f := by unfold stE; omega
  unfold dlv at h
  rw [hk, hj] at h
  by_cases ov : fE f < stE f (topX x) - fP f + (blen (rG m x.b (xW f x) k (xM f x)) : Int)
  · rw [if_pos ov] at h
    injection h with h1 h2
    exact absurd h2 (by decide)
  rw [if_neg ov] at h
  injection h with hM hfl
  have hn : (rH (xW f x) k || rM (xW f x) k (xM f x)) = false := by
    rcases Bool.eq_false_or_eq_true (rH (xW f x) k || rM (xW f x) k (xM f x)) with c | c
    · rw [c, if_pos rfl] at hfl
      split at hfl <;> exact absurd hfl (by decide)
    · exact c
  obtain ⟨c1, c2⟩ := Bool.or_eq_false_iff.1 hn
  have hG : rG m x.b (xW f x) k (xM f x) = rS (xW f x) k := by
    unfold rG
    rw [c1, c2, gO_none]
    rfl
  rw [hG] at hM ov
  have l := rS_lim wk k
  have v := val_eS hf x.b j (rS (xW f x) k) (by omega) (by
    rcases Nat.eq_zero_or_pos k with z | z
    · exact Or.inr (l.2.1 z)
    · exact Or.inl (by omega)) (by omega)
  rw [hM] at v
  refine ⟨v.1, v.2.1, ?_⟩
  rw [v.2.2.1, val_mag]
  congr 1
  have fk := fl (k + 1) (by omega)
  have g := fl_good x (topX x - fP f + ((k + 1 : Nat) : Int)) hx n0 (by rw [fk])
  rw [fk] at g
  unfold rM at c2
  obtain ⟨d1, d2⟩ := Bool.or_eq_false_iff.1 c2
  have d1 := of_decide_eq_false d1
  unfold rH at c1
  have c1 := of_decide_eq_false c1
  have z : xW f x % 2 ^ (k + 1) = 0 := by
    rw [Nat.mod_pow_succ]
    have e1 : xW f x % 2 ^ k = 0 := Decidable.not_not.1 d1
    have e2 : xW f x / 2 ^ k % 2 = 0 := by omega
    rw [e1, e2, Nat.mul_zero]
  have q := g.2.2.1 (by rw [d2, z]; rfl)
  have eS' : xW f x / 2 ^ (k + 1) = rS (xW f x) k := by
    unfold rS
    rw [Nat.pow_succ, Nat.div_div_eq_div_mul]
  have ee : topX x - fP f + ((k + 1 : Nat) : Int) = lx f + (j : Int) := by omega
  rw [← q, ee]
  show ((rS (xW f x) k : Nat) : Rat) * _ = ((xW f x / 2 ^ (k + 1) : Nat) : Rat) * _
  rw [eS']
theorem nl_one2 : nl 1 ≤ 8192 := by decide +kernel
theorem kN_pos {f : Int} {n : Nat} (h : kC f n = 5 ∨ kC f n = 6) : kN f n = false := by
  rcases Bool.eq_false_or_eq_true (kN f n) with c | c
  · unfold kC at h
    rw [c] at h
    simp only [if_true] at h
    repeat' split at h
    all_goals omega
  · exact c
theorem root_own {f : Int} (hf : Is4 f) (m : Int) (x : XN) (hx : x.can) (n0 : x.n ≠ 0) (hd : nl x.d ≤ 8192) (B : Nat) (fB : Fit f B) (nB : kC f B = 5 ∨ kC f B = 6) (hv : x.mag = (vX f B).mag * (vX f B).mag) (M : Nat) (fl : Int) (h : Rts f m x M fl) : M = B ∧ fl = 0 := by
  obtain ⟨v1, v2, v3, v4⟩ := own_round hf m B fB (by omega)
  unfold Rts at h
  rw [if_neg n0] at h
  obtain ⟨W, more, wk, hR, hD⟩ := h
  rcases v4 with ⟨b0, hr⟩ | b0
  · obtain ⟨t1, t2⟩ := top_lim v1
    have vb : (vX f B).b = false := by
      have := (vX_whole hf B (by omega) (by omega)).2.2.1
      rw [this]
      show kN f B = false
      exact kN_pos nB
    obtain ⟨s1, s2, s3⟩ := sq_num hf (vX f B) x v1 hx b0 n0 v3 hd hv (by
      obtain ⟨k1, k2, k3, k4⟩ := vX_whole hf B (by omega) (by omega)
      obtain ⟨l1, l2, l3⟩ := kS_lim hf B
      have bl := (blen_iff (kS f B) 128).2 k2
      have tp := (x_whole hf (kN f B) (kS f B) (kX f B) k1 (by omega) (by omega) (by omega)).2.2.2.2.1
      rw [k3, tp]
      omega) W more hR
    unfold rnd at hr
    rw [if_neg b0, vb, ← s1, ← s2, ← s3, hD] at hr
    injection hr with e1 e2
    exact ⟨e1, e2⟩
  · exfalso
    have k0 := (vX_whole hf B (by omega) (by omega))
    obtain ⟨k1, k2, k3, k4⟩ := k0
    have o := (od_is _ k1).2
    rw [b0] at k3
    have := congrArg XN.n k3
    have z : XN.n X0 = 0 := rfl
    rw [z] at this
    have t : (0 : Nat) = od (kS f B) := this
    omega
theorem kN_neg {f : Int} {n : Nat} (h : kC f n = 1 ∨ kC f n = 2) : kN f n = true := by
  rcases Bool.eq_false_or_eq_true (kN f n) with c | c
  · exact c
  · unfold kC at h
    rw [c] at h
    simp only [Bool.false_eq_true, if_false] at h
    repeat' split at h
    all_goals omega
theorem sq_root {f : Int} (hf : Is4 f) (m : Int) (a s : Nat) (fa : Fit f a) (ha : kC f a = 1 ∨ kC f a = 2 ∨ kC f a = 5 ∨ kC f a = 6) (h : mulR f m a a = (s, 0)) :
    (kC f s = 5 ∨ kC f s = 6) ∧ ∀ (M : Nat) (fl : Int), Rts f m (vX f s) M fl → M = enc7 f false (kE f a) (kT f a) ∧ fl = 0 := by
  obtain ⟨l1, l2, l3⟩ := kS_lim hf a
  obtain ⟨k1, k2, k3, k4⟩ := vX_whole hf a (by omega) (by omega)
  obtain ⟨n, e, p1, p2, p3, p4, p5⟩ := mul_num hf m (kN f a) (kN f a) (kS f a) (kS f a) (kX f a) (kX f a) k1 k1 k2 k2 l2 l3 l2 l3
  rw [← k3] at p1
  unfold mulR at h
  rw [if_neg (by omega), if_neg (by omega), if_neg (by omega), if_neg (by omega), if_neg (by omega), ← p5] at h
  obtain ⟨c1, c2, c3⟩ := rnd_exact hf m _ p2 p4 (by show nl 1 ≤ 8192; exact nl_one2) s h
  have g := mul_good (vX f a) (vX f a) k4 k4 (by rw [p1])
  rw [p1] at g
  have v : (vX f s).val = (vX f a).mag * (vX f a).mag := by rw [c3]; exact g.2.trans (val_sq _)
  have an : (vX f a).n ≠ 0 := by
    have o := (od_is _ k1).2
    rw [k3]
    show od (kS f a) ≠ 0
    omega
  have mp := mag_pos (vX f a) an k4.d0
  have vp : 0 < (vX f s).val := by rw [v]; exact Rat.mul_pos mp mp
  have c34 : ¬ (kC f s = 3 ∨ kC f s = 4) := fun c => by
    have := vX_mk hf s c1
    rw [(k_null s c).1, mk_null] at this
    injection this with h1 h2
    rw [← h1] at vp
    exact absurd vp (by decide +kernel)
  obtain ⟨s1, s2, s3, s4⟩ := vX_whole hf s c1 c34
  have sd : (vX f s).d = 1 := by rw [s3]
  have sn : (vX f s).n ≠ 0 := by
    have o := (od_is _ s1).2
    rw [s3]
    show od (kS f s) ≠ 0
    omega
  have sb : (vX f s).b = kN f s := by rw [s3]
  have c12 : ¬ (kC f s = 1 ∨ kC f s = 2) := fun c => by
    have t := kN_neg c
    rw [val_mag, sb, t] at vp
    have := mag_nn (vX f s) s4.d0
    have z : sgn true = -1 := rfl
    rw [z] at vp
    grind
  have cs : kC f s = 5 ∨ kC f s = 6 := by omega
  refine ⟨cs, fun M fl hR => ?_⟩
  obtain ⟨q1, q2, q3, q4⟩ := k_parts (f := f) a ha
  have tl := kT_lt (f := f) a
  obtain ⟨e1, e2, e3, e4⟩ := enc_k hf false (Nat.le_of_lt q1) tl
  have vB := vX_enc hf false (kE f a) (kT f a) q1 tl
  have vA := vX_enc hf (kN f a) (kE f a) (kT f a) q1 tl
  rw [k_enc hf fa] at vA
  have cB : kC f (enc7 f false (kE f a) (kT f a)) = 5 ∨ kC f (enc7 f false (kE f a) (kT f a)) = 6 := by
    unfold kC at ha ⊢
    rw [e2, e3, e4]
    simp only [Bool.false_eq_true, if_false]
    repeat' split at ha
    all_goals simp_all
  refine root_own hf m (vX f s) s4 sn (by rw [sd]; exact nl_one2) _ e1 cB ?_ M fl hR
  have m1 : (vX f s).mag = (vX f s).val := by
    rw [val_mag, sb, kN_pos cs]
    show _ = (1 : Rat) * _
    rw [Rat.one_mul]
  rw [m1, v, ← val_sq, ← val_sq, vA.2.2.1, vB.2.2.1]
  have y1 := sgn_sq (kN f a)
  have y2 := sgn_sq false
  generalize sgn (kN f a) = i at y1 ⊢
  generalize sgn false = j at y2 ⊢
  generalize ((sV f (kE f a) (kT f a) : Nat) : Rat) = b
  generalize (2 : Rat) ^ (xV f (kE f a)) = d
  have w1 : i * b * d * (i * b * d) = (i * i) * (b * d * (b * d)) := by grind
  have w2 : j * b * d * (j * b * d) = (j * j) * (b * d * (b * d)) := by grind
  rw [w1, w2, y1, y2]
end Go.Proofs.YtpgiabmmmpdobaaDoor
namespace Go.Proofs.YtpgiabmmmpdobaaDoor
set_option maxRecDepth 100000
set_option maxHeartbeats 40000000
set_option maxRecDepth 100000
open Go.RowKit WMath
set_option linter.unusedSimpArgs false
set_option linter.unusedVariables false
theorem rq_lt1 (c : Bool) (s : Nat) (x : Int) (r : Bool) (t : Nat) : ((rg c s x r).size < 1 + (cw 6 t).size) = False := eq_false (by rw [cw_size]; exact (show ¬ (9 < 1 + 6) by decide))
theorem rq_lt8 (c : Bool) (s : Nat) (x : Int) (r : Bool) : ((rg c s x r).size < 8) = False := eq_false (show ¬ (9 < 8) by decide)
theorem rq_lt9 (c : Bool) (s : Nat) (x : Int) (r : Bool) : ((rg c s x r).size < 9) = False := eq_false (show ¬ (9 < 9) by decide)
theorem rq_ne (c : Bool) (s : Nat) (x : Int) (r : Bool) : (rg c s x r = #[]) = False := eq_false (fun h => by have := congrArg Array.size h; exact absurd this (by decide : ¬ (9 = 0)))
theorem rq_bld (T : Nat) (E : Int) (more : Bool) : ((((((((rg false 0 0 false).setIfInBounds 1 (.int .u64 (wd T 0 : Nat))).setIfInBounds 2 (.int .u64 (wd T 1 : Nat))).setIfInBounds 3 (.int .u64 (wd T 2 : Nat))).setIfInBounds 4 (.int .u64 (wd T 3 : Nat))).setIfInBounds 5 (.int .u64 (wd T 4 : Nat))).setIfInBounds 6 (.int .u64 (wd T 5 : Nat))).setIfInBounds 7 (.int .i64 E)).setIfInBounds 8 (.bool more) = rg false T E more := Array.ext' (by
  simp only [Array.toList_setIfInBounds]
  rfl)
set_option maxRecDepth 100000 in
set_option maxHeartbeats 8000000 in
theorem sr_root (c1 m1 : Nat) (X1 : Int) (r1 S T R : Nat) (l1 n0 d0 o n d E : Int) (ov more : Bool) (w : World)
    (KL1 : Box (∀ w, Calls Tryd.prog 61 #[.agg (cw 6 m1)] w fun r w' => r = .returned (.int .i64 l1) ∧ Below w.heap.size w w')) (hn0 : IntKind.i64.wrap (230 - l1) = n0) (hd0 : IntKind.i64.wrap (X1 - n0) = d0) (ho : bits .and .i64 d0 1 = o) (hn : IntKind.i64.wrap (n0 - o) = n)
    (KD : Box (∀ w, Calls Tryd.prog 68 #[.agg (cw 6 m1), .int .i64 n] w fun r w' => r = .returned (.tuple #[.agg (cw 6 S), .bool ov]) ∧ Below w.heap.size w w'))
    (KQ : Box (∀ w, Calls Tryd.prog 69 #[.agg (cw 6 S)] w fun r w' => r = .returned (.tuple #[.agg (cw 6 T), .agg (cw 6 R)]) ∧ Below w.heap.size w w')) (hd : IntKind.i64.wrap (X1 - n) = d) (hE : d / 2 = E) (hE2 : IntKind.i64.wrap E = E) (hmo : (!decide (R = 0)) = more) (hR : R < Q) :
    Calls Tryd.prog 32 #[.agg (pt c1 m1 X1 r1)] w fun r w' => r = .returned (.agg (rg false T E more)) ∧ Below w.heap.size w w' := by
  have hat := cw_at 6
  have hz := cw6z
  have hff := cw6f
  have hs0 := st0
  have hcs : ∀ x, ((cw 6 x).size = 6) = True := fun x => eq_true (cw_size 6 x)
  have hp1 := rgf
  have hp3 := rgz
  have hp4 := st_r0
  have hzi := cw_zip
  have hls := rg_sets
  have hl8 : ∀ (c : Bool) (s : Nat) (x : Int) (r r' : Bool), (rg c s x r).toList.set 8 (Value.bool r') = (rg c s x r').toList := fun _ _ _ _ _ => rfl
  have hp5 : ∀ (c : Bool) (s : Nat) (x : Int) (r : Bool), ((rg c s x r).size = 9) = True := fun _ _ _ _ => eq_true rfl
  have hq1 := ptf
  have hq5 : ∀ (c s : Nat) (x : Int) (r : Nat), ((pt c s x r).size = 14) = True := fun _ _ _ _ => eq_true rfl
  have hs3 := st1
  have hb1 := rq_lt1
  have hb8 := rq_lt8
  have hb9 := rq_lt9
  have hbn := rq_ne
  have hbb := rq_bld
  have heq := eq6
  have hgq := eqg6
  have hQ := Q_pos
  have hsz := size_al
  obtain ⟨Rx_0, Rz_0, B0⟩ := opn2 w (Obj.cells (pt c1 m1 X1 r1) 47) (Obj.cells (rg false 0 0 false) 55)
  go_enter Tryd.func32, Tryd.ntmps32
  obtain ⟨cx_0_0, cx_0_1, cx_0_2, cx_0_3, cx_0_4, cx_0_5, cx_0_6, cx_0_7, cx_0_8, cx_0_9, cx_0_10, cx_0_11, cx_0_12, cx_0_13⟩ := pt_cells Rx_0
  go_wp2_with fail
  refine (KL1.out _).mono ?_
  rintro r w1 ⟨rfl, b1⟩
  have B1 : Below w.heap.size w w1 := btr B0 b1
  have Rx_1 := heap_of b1 _ _ _ Rx_0
  have Rz_1 := heap_of b1 _ _ _ Rz_0
  clear b1 B0 Rx_0 cx_0_0 cx_0_1 cx_0_2 cx_0_3 cx_0_4 cx_0_5 cx_0_6 cx_0_7 cx_0_8 cx_0_9 cx_0_10 cx_0_11 cx_0_12 cx_0_13 Rz_0
  obtain ⟨cx_1_0, cx_1_1, cx_1_2, cx_1_3, cx_1_4, cx_1_5, cx_1_6, cx_1_7, cx_1_8, cx_1_9, cx_1_10, cx_1_11, cx_1_12, cx_1_13⟩ := pt_cells Rx_1
  go_wp2_with fail
  refine (KD.out _).mono ?_
  rintro r w2 ⟨rfl, b2⟩
  have B2 : Below w.heap.size w w2 := btr B1 b2
  have Rx_2 := heap_of b2 _ _ _ Rx_1
  have Rz_2 := heap_of b2 _ _ _ Rz_1
  clear b2 B1 Rx_1 cx_1_0 cx_1_1 cx_1_2 cx_1_3 cx_1_4 cx_1_5 cx_1_6 cx_1_7 cx_1_8 cx_1_9 cx_1_10 cx_1_11 cx_1_12 cx_1_13 Rz_1
  obtain ⟨cx_2_0, cx_2_1, cx_2_2, cx_2_3, cx_2_4, cx_2_5, cx_2_6, cx_2_7, cx_2_8, cx_2_9, cx_2_10, cx_2_11, cx_2_12, cx_2_13⟩ := pt_cells Rx_2
  have S3 := box B2.size
  have Lx_3 : Box (w.heap.size < w2.heap.size) := box (Array.getElem?_eq_some_iff.1 Rx_2).1
  have Lz_3 : Box (w.heap.size + 1 < w2.heap.size) := box (Array.getElem?_eq_some_iff.1 Rz_2).1
  have Rq_3 := heap_alloc_last w2 (Obj.cells (cw 6 S) 45)
  have B3 := btr B2 (bal w2 (Obj.cells (cw 6 S) 45))
  have Rx_3 := heap_of (bal w2 (Obj.cells (cw 6 S) 45)) _ _ _ Rx_2
  have Rz_3 := heap_of (bal w2 (Obj.cells (cw 6 S) 45)) _ _ _ Rz_2
  clear B2 Rx_2 cx_2_0 cx_2_1 cx_2_2 cx_2_3 cx_2_4 cx_2_5 cx_2_6 cx_2_7 cx_2_8 cx_2_9 cx_2_10 cx_2_11 cx_2_12 cx_2_13 Rz_2
  obtain ⟨cx_3_0, cx_3_1, cx_3_2, cx_3_3, cx_3_4, cx_3_5, cx_3_6, cx_3_7, cx_3_8, cx_3_9, cx_3_10, cx_3_11, cx_3_12, cx_3_13⟩ := pt_cells Rx_3
  have cq_3_0 := row_cell Rq_3
  obtain ⟨cz_3_0, cz_3_1, cz_3_2, cz_3_3, cz_3_4, cz_3_5, cz_3_6, cz_3_7, cz_3_8⟩ := rg_cells Rz_3
  go_wp2_with fail
  refine (KQ.out _).mono ?_
  rintro r w4 ⟨rfl, b4⟩
  have B4 : Below w.heap.size w w4 := btr B3 b4
  have Rx_4 := heap_of b4 _ _ _ Rx_3
  have Rz_4 := heap_of b4 _ _ _ Rz_3
  have Rq_4 := heap_of b4 _ _ _ Rq_3
  clear b4 B3 Rx_3 cx_3_0 cx_3_1 cx_3_2 cx_3_3 cx_3_4 cx_3_5 cx_3_6 cx_3_7 cx_3_8 cx_3_9 cx_3_10 cx_3_11 cx_3_12 cx_3_13 Rz_3 cz_3_0 cz_3_1 cz_3_2 cz_3_3 cz_3_4 cz_3_5 cz_3_6 cz_3_7 cz_3_8 Rq_3 cq_3_0
  obtain ⟨cx_4_0, cx_4_1, cx_4_2, cx_4_3, cx_4_4, cx_4_5, cx_4_6, cx_4_7, cx_4_8, cx_4_9, cx_4_10, cx_4_11, cx_4_12, cx_4_13⟩ := pt_cells Rx_4
  obtain ⟨cz_4_0, cz_4_1, cz_4_2, cz_4_3, cz_4_4, cz_4_5, cz_4_6, cz_4_7, cz_4_8⟩ := rg_cells Rz_4
  have cq_4_0 := row_cell Rq_4
  have S5 := box B4.size
  have Lx_5 : Box (w.heap.size < w4.heap.size) := box (Array.getElem?_eq_some_iff.1 Rx_4).1
  have Lz_5 : Box (w.heap.size + 1 < w4.heap.size) := box (Array.getElem?_eq_some_iff.1 Rz_4).1
  have Lq_5 : Box (w2.heap.size < w4.heap.size) := box (Array.getElem?_eq_some_iff.1 Rq_4).1
  have Rs_5 := heap_alloc_last w4 (Obj.cells (cw 6 T) 45)
  have B5 := btr B4 (bal w4 (Obj.cells (cw 6 T) 45))
  have Rx_5 := heap_of (bal w4 (Obj.cells (cw 6 T) 45)) _ _ _ Rx_4
  have Rz_5 := heap_of (bal w4 (Obj.cells (cw 6 T) 45)) _ _ _ Rz_4
  have Rq_5 := heap_of (bal w4 (Obj.cells (cw 6 T) 45)) _ _ _ Rq_4
  clear B4 Rx_4 cx_4_0 cx_4_1 cx_4_2 cx_4_3 cx_4_4 cx_4_5 cx_4_6 cx_4_7 cx_4_8 cx_4_9 cx_4_10 cx_4_11 cx_4_12 cx_4_13 Rz_4 cz_4_0 cz_4_1 cz_4_2 cz_4_3 cz_4_4 cz_4_5 cz_4_6 cz_4_7 cz_4_8 Rq_4 cq_4_0
  obtain ⟨cx_5_0, cx_5_1, cx_5_2, cx_5_3, cx_5_4, cx_5_5, cx_5_6, cx_5_7, cx_5_8, cx_5_9, cx_5_10, cx_5_11, cx_5_12, cx_5_13⟩ := pt_cells Rx_5
  obtain ⟨cz_5_0, cz_5_1, cz_5_2, cz_5_3, cz_5_4, cz_5_5, cz_5_6, cz_5_7, cz_5_8⟩ := rg_cells Rz_5
  have cq_5_0 := row_cell Rq_5
  have cs_5_0 := row_cell Rs_5
  have S6 := box B5.size
  have Lx_6 : Box (w.heap.size < (w4.alloc (Obj.cells (cw 6 T) 45)).heap.size) := box (Array.getElem?_eq_some_iff.1 Rx_5).1
  have Lz_6 : Box (w.heap.size + 1 < (w4.alloc (Obj.cells (cw 6 T) 45)).heap.size) := box (Array.getElem?_eq_some_iff.1 Rz_5).1
  have Lq_6 : Box (w2.heap.size < (w4.alloc (Obj.cells (cw 6 T) 45)).heap.size) := box (Array.getElem?_eq_some_iff.1 Rq_5).1
  have Ls_6 : Box (w4.heap.size < (w4.alloc (Obj.cells (cw 6 T) 45)).heap.size) := box (Array.getElem?_eq_some_iff.1 Rs_5).1
  have Z6 := box (size_al w4 (Obj.cells (cw 6 T) 45))
  have Rr_6 : ((w4.alloc (Obj.cells (cw 6 T) 45)).alloc (Obj.cells (cw 6 R) 45)).heap[w4.heap.size + 1]? = some (Obj.cells (cw 6 R) 45) := by have := heap_alloc_last (w4.alloc (Obj.cells (cw 6 T) 45)) (Obj.cells (cw 6 R) 45); simpa only [size_al] using this
  have B6 := btr B5 (bal (w4.alloc (Obj.cells (cw 6 T) 45)) (Obj.cells (cw 6 R) 45))
  have Rx_6 := heap_of (bal (w4.alloc (Obj.cells (cw 6 T) 45)) (Obj.cells (cw 6 R) 45)) _ _ _ Rx_5
  have Rz_6 := heap_of (bal (w4.alloc (Obj.cells (cw 6 T) 45)) (Obj.cells (cw 6 R) 45)) _ _ _ Rz_5
  have Rq_6 := heap_of (bal (w4.alloc (Obj.cells (cw 6 T) 45)) (Obj.cells (cw 6 R) 45)) _ _ _ Rq_5
  have Rs_6 := heap_of (bal (w4.alloc (Obj.cells (cw 6 T) 45)) (Obj.cells (cw 6 R) 45)) _ _ _ Rs_5
  clear B5 Rx_5 cx_5_0 cx_5_1 cx_5_2 cx_5_3 cx_5_4 cx_5_5 cx_5_6 cx_5_7 cx_5_8 cx_5_9 cx_5_10 cx_5_11 cx_5_12 cx_5_13 Rz_5 cz_5_0 cz_5_1 cz_5_2 cz_5_3 cz_5_4 cz_5_5 cz_5_6 cz_5_7 cz_5_8 Rq_5 cq_5_0 Rs_5 cs_5_0
  obtain ⟨cx_6_0, cx_6_1, cx_6_2, cx_6_3, cx_6_4, cx_6_5, cx_6_6, cx_6_7, cx_6_8, cx_6_9, cx_6_10, cx_6_11, cx_6_12, cx_6_13⟩ := pt_cells Rx_6
  obtain ⟨cz_6_0, cz_6_1, cz_6_2, cz_6_3, cz_6_4, cz_6_5, cz_6_6, cz_6_7, cz_6_8⟩ := rg_cells Rz_6
  have cq_6_0 := row_cell Rq_6
  have cs_6_0 := row_cell Rs_6
  have cr_6_0 := row_cell Rr_6
  have ge : w.heap.size ≤ w.heap.size + 1 := (by first | exact Nat.le_refl _ | omega | (have := S3.out; have := Lx_3.out; have := Lz_3.out; have := S5.out; have := Lx_5.out; have := Lz_5.out; have := Lq_5.out; have := Z6.out; have := S6.out; have := Lx_6.out; have := Lz_6.out; have := Lq_6.out; have := Ls_6.out; omega))
  obtain ⟨wV, hwV⟩ : ∃ V, ((w4.alloc (Obj.cells (cw 6 T) 45)).alloc (Obj.cells (cw 6 R) 45)) = V := ⟨_, rfl⟩
  have BV := B6
  have Vx := Rx_6
  have Vz := Rz_6
  have Vq := Rq_6
  have Vs := Rs_6
  have Vr := Rr_6
  rw [hwV] at BV Vx Vz Vq Vs Vr
  go_wp2_with fail
  try rw [hwV]
  clear hwV B6 Rx_6 cx_6_0 cx_6_1 cx_6_2 cx_6_3 cx_6_4 cx_6_5 cx_6_6 cx_6_7 cx_6_8 cx_6_9 cx_6_10 cx_6_11 cx_6_12 cx_6_13 Rz_6 cz_6_0 cz_6_1 cz_6_2 cz_6_3 cz_6_4 cz_6_5 cz_6_6 cz_6_7 cz_6_8 Rq_6 cq_6_0 Rs_6 cs_6_0 Rr_6 cr_6_0
  obtain ⟨vx_0, vx_1, vx_2, vx_3, vx_4, vx_5, vx_6, vx_7, vx_8, vx_9, vx_10, vx_11, vx_12, vx_13⟩ := pt_cells Vx
  obtain ⟨vz_0, vz_1, vz_2, vz_3, vz_4, vz_5, vz_6, vz_7, vz_8⟩ := rg_cells Vz
  have vq_0 := row_cell Vq
  have vs_0 := row_cell Vs
  have vr_0 := row_cell Vr
  have VD : wV.drew.heap[w.heap.size + 1]? = some (Obj.cells (rg false 0 0 false) 55) := Vz
  have hstz := st_r wV.drew (w.heap.size + 1) false T E more false 0 0 false VD
  go_region
  have RZ := setRow_row (c' := rg false T E more) VD
  obtain ⟨dz0, dz1, dz2, dz3, dz4, dz5, dz6, dz7, dz8⟩ := rg_cells RZ
  have bz := bel_set (c := rg false T E more) BV.drew ge
  go_wp2
  exact bodyPost_ret (v := .agg (rg false T E more)) (by simp [results, Tryd.results32, go_sem, dz0, dz1, dz2, dz3, dz4, dz5, dz6, dz7, dz8, rgf] <;> rfl) rfl ⟨rfl, bz⟩
set_option maxRecDepth 100000 in
set_option maxHeartbeats 8000000 in
theorem sr_all (f m : Int) (x1 y1 u v : Nat) (c1 m1 : Nat) (X1 : Int) (r1 : Nat) (S : Nat) (X fl : Int) (more : Bool) (w : World)
    (KF : Box (∀ (T : TypeId) (g : Nat) (w : World), w.heap.size = g → FAt w → Calls Tryd.prog 18 #[.int .u8 f, .int .u8 m, .slice (some ⟨g, 0, none⟩) 1 1] (w.alloc (.cells #[.int .u64 (x1 : Nat), .int .u64 (y1 : Nat)] T)) fun r w' => r = .returned (.bool true) ∧ Below w.heap.size w w'))
    (KU1 : Box (∀ w, FAt w → Calls Tryd.prog 19 #[.int .u8 f, .agg #[.int .u64 (x1 : Nat), .int .u64 (y1 : Nat)]] w fun r w' => r = .returned (.tuple #[.agg (pt c1 m1 X1 r1), .int .i64 0]) ∧ Below w.heap.size w w'))
    (H : Box ((((c1 : Int) == 9) = true ∧ Box (∀ w, FAt w → Calls Tryd.prog 21 #[.int .u8 f] w fun r w' => r = .returned (.agg #[.int .u64 (u : Nat), .int .u64 (v : Nat)]) ∧ Below w.heap.size w w') ∧ fl = 0) ∨
      (((c1 : Int) == 9) = false ∧ ((c1 : Int) == 8) = true ∧ Box (∀ w, FAt w → Calls Tryd.prog 21 #[.int .u8 f] w fun r w' => r = .returned (.agg #[.int .u64 (u : Nat), .int .u64 (v : Nat)]) ∧ Below w.heap.size w w') ∧ fl = 16) ∨
      (((c1 : Int) == 9) = false ∧ ((c1 : Int) == 8) = false ∧ ((c1 : Int) == 2) = true ∧ Box (∀ w, FAt w → Calls Tryd.prog 21 #[.int .u8 f] w fun r w' => r = .returned (.agg #[.int .u64 (u : Nat), .int .u64 (v : Nat)]) ∧ Below w.heap.size w w') ∧ fl = 16) ∨
      (((c1 : Int) == 9) = false ∧ ((c1 : Int) == 8) = false ∧ ((c1 : Int) == 2) = false ∧ ((c1 : Int) == 1) = true ∧ Box (∀ w, FAt w → Calls Tryd.prog 21 #[.int .u8 f] w fun r w' => r = .returned (.agg #[.int .u64 (u : Nat), .int .u64 (v : Nat)]) ∧ Below w.heap.size w w') ∧ fl = 16) ∨
      (((c1 : Int) == 9) = false ∧ ((c1 : Int) == 8) = false ∧ ((c1 : Int) == 2) = false ∧ ((c1 : Int) == 1) = false ∧ ((c1 : Int) == 0) = true ∧ Box (∀ w, FAt w → Calls Tryd.prog 21 #[.int .u8 f] w fun r w' => r = .returned (.agg #[.int .u64 (u : Nat), .int .u64 (v : Nat)]) ∧ Below w.heap.size w w') ∧ fl = 16) ∨
      (((c1 : Int) == 9) = false ∧ ((c1 : Int) == 8) = false ∧ ((c1 : Int) == 2) = false ∧ ((c1 : Int) == 1) = false ∧ ((c1 : Int) == 0) = false ∧ ((c1 : Int) == 3) = true ∧ x1 = u ∧ y1 = v ∧ fl = 0) ∨
      (((c1 : Int) == 9) = false ∧ ((c1 : Int) == 8) = false ∧ ((c1 : Int) == 2) = false ∧ ((c1 : Int) == 1) = false ∧ ((c1 : Int) == 0) = false ∧ ((c1 : Int) == 3) = false ∧ ((c1 : Int) == 4) = true ∧ x1 = u ∧ y1 = v ∧ fl = 0) ∨
      (((c1 : Int) == 9) = false ∧ ((c1 : Int) == 8) = false ∧ ((c1 : Int) == 2) = false ∧ ((c1 : Int) == 1) = false ∧ ((c1 : Int) == 0) = false ∧ ((c1 : Int) == 3) = false ∧ ((c1 : Int) == 4) = false ∧ ((c1 : Int) == 7) = true ∧ x1 = u ∧ y1 = v ∧ fl = 0) ∨
      (((c1 : Int) == 9) = false ∧ ((c1 : Int) == 8) = false ∧ ((c1 : Int) == 2) = false ∧ ((c1 : Int) == 1) = false ∧ ((c1 : Int) == 0) = false ∧ ((c1 : Int) == 3) = false ∧ ((c1 : Int) == 4) = false ∧ ((c1 : Int) == 7) = false ∧ Box (∀ w, Calls Tryd.prog 32 #[.agg (pt c1 m1 X1 r1)] w fun r w' => r = .returned (.agg (rg false S X more)) ∧ Below w.heap.size w w') ∧ Box (∀ w, FAt w → Calls Tryd.prog 23 #[.int .u8 f, .int .u8 m, .agg (rg false S X more)] w fun r w' => r = .returned (.tuple #[.agg #[.int .u64 (u : Nat), .int .u64 (v : Nat)], .int .u8 fl, .int .i64 0]) ∧ Below w.heap.size w w'))))
    (hT : FAt w) : Calls Tryd.prog 13 #[.int .u8 f, .int .u8 m, .agg #[.int .u64 (x1 : Nat), .int .u64 (y1 : Nat)]] w fun r w' => r = .returned (.tuple #[.agg #[.int .u64 (u : Nat), .int .u64 (v : Nat)], .int .u8 fl, .int .i64 0]) ∧ Below w.heap.size w w' := by
  have FF := box hT
  clear hT
  have hat := cw_at 6
  have hz := cw6z
  have hff := cw6f
  have hs0 := st0
  have hcs : ∀ x, ((cw 6 x).size = 6) = True := fun x => eq_true (cw_size 6 x)
  have hp1 := rgf
  have hp3 := rgz
  have hp5 : ∀ (c : Bool) (s : Nat) (x : Int) (r : Bool), ((rg c s x r).size = 9) = True := fun _ _ _ _ => eq_true rfl
  have hq1 := ptf
  have hq3 := ptz
  have hq4 := st_p0
  have hq5 : ∀ (c s : Nat) (x : Int) (r : Nat), ((pt c s x r).size = 14) = True := fun _ _ _ _ => eq_true rfl
  obtain ⟨Ra_0, Rz_0, B0⟩ := opn2 w (Obj.cells #[.int .u64 (x1 : Nat), .int .u64 (y1 : Nat)] 26) (Obj.cells #[.int .u64 0, .int .u64 0] 26)
  go_enter Tryd.func13, Tryd.ntmps13
  obtain ⟨ca_0_0, ca_0_1⟩ := cells2s Ra_0
  go_wp2_with fail
  refine (KF.out _ _ ((w.alloc (Obj.cells #[.int .u64 (x1 : Nat), .int .u64 (y1 : Nat)] 26)).alloc (Obj.cells #[.int .u64 0, .int .u64 0] 26)) (by first | rfl | simp only [size_al]) (fatB FF.out B0)).mono ?_
  rintro r w1 ⟨rfl, b1⟩
  have B1 : Below w.heap.size w w1 := btr B0 b1
  have Ra_1 := heap_of b1 _ _ _ Ra_0
  have Rz_1 := heap_of b1 _ _ _ Rz_0
  clear b1 B0 Ra_0 ca_0_0 ca_0_1 Rz_0
  obtain ⟨ca_1_0, ca_1_1⟩ := cells2s Ra_1
  go_wp2_with fail
  refine (KU1.out _ (fatB FF.out B1)).mono ?_
  rintro r w2 ⟨rfl, b2⟩
  have B2 : Below w.heap.size w w2 := btr B1 b2
  have Ra_2 := heap_of b2 _ _ _ Ra_1
  have Rz_2 := heap_of b2 _ _ _ Rz_1
  clear b2 B1 Ra_1 ca_1_0 ca_1_1 Rz_1
  obtain ⟨ca_2_0, ca_2_1⟩ := cells2s Ra_2
  have S3 := box B2.size
  have La_3 : Box (w.heap.size < w2.heap.size) := box (Array.getElem?_eq_some_iff.1 Ra_2).1
  have Lz_3 : Box (w.heap.size + 1 < w2.heap.size) := box (Array.getElem?_eq_some_iff.1 Rz_2).1
  have Rx_3 := heap_alloc_last w2 (Obj.cells (pt c1 m1 X1 r1) 47)
  have B3 := btr B2 (bal w2 (Obj.cells (pt c1 m1 X1 r1) 47))
  have Ra_3 := heap_of (bal w2 (Obj.cells (pt c1 m1 X1 r1) 47)) _ _ _ Ra_2
  have Rz_3 := heap_of (bal w2 (Obj.cells (pt c1 m1 X1 r1) 47)) _ _ _ Rz_2
  clear B2 Ra_2 ca_2_0 ca_2_1 Rz_2
  obtain ⟨ca_3_0, ca_3_1⟩ := cells2s Ra_3
  have cx_3_0 := (pt_cells Rx_3).1
  rcases H.out with ⟨h9, KN, rfl⟩ | ⟨h9, h8, KN, rfl⟩ | ⟨h9, h8, h2, KN, rfl⟩ | ⟨h9, h8, h2, h1, KN, rfl⟩ | ⟨h9, h8, h2, h1, h0, KN, rfl⟩ | ⟨h9, h8, h2, h1, h0, h3, rfl, rfl, rfl⟩ | ⟨h9, h8, h2, h1, h0, h3, h4, rfl, rfl, rfl⟩ | ⟨h9, h8, h2, h1, h0, h3, h4, h7, rfl, rfl, rfl⟩ | ⟨h9, h8, h2, h1, h0, h3, h4, h7, KX, KP⟩
  · clear H
    go_wp2_with fail
    refine (KN.out _ (fatB FF.out B3)).mono ?_
    rintro r w4 ⟨rfl, b4⟩
    have B4 : Below w.heap.size w w4 := btr B3 b4
    have Ra_4 := heap_of b4 _ _ _ Ra_3
    have Rz_4 := heap_of b4 _ _ _ Rz_3
    have Rx_4 := heap_of b4 _ _ _ Rx_3
    clear b4 B3 Ra_3 ca_3_0 ca_3_1 Rz_3 Rx_3 cx_3_0
    obtain ⟨ca_4_0, ca_4_1⟩ := cells2s Ra_4
    have cx_4_0 := (pt_cells Rx_4).1
    obtain ⟨cz_4_0, cz_4_1⟩ := cells2s Rz_4
    have q0 := fz (k := 0) Rz_4
    have q1 := fz (k := 1) Rz_4
    obtain ⟨E0, E1⟩ := set2_cells Rz_4 (.int .u64 (u : Nat)) (.int .u64 (v : Nat))
    go_wp2
    exact bodyPost_ret (v := .tuple #[.agg #[.int .u64 (u : Nat), .int .u64 (v : Nat)], .int .u8 0, .int .i64 0]) (by simp [results, Tryd.results13, go_sem, E0, E1]) rfl ⟨rfl, set2_below B4 (by first | exact Nat.le_refl _ | omega | (have := S3.out; have := La_3.out; have := Lz_3.out; omega)) _ _⟩
  · clear H
    go_wp2_with fail
    refine (KN.out _ (fatB FF.out B3)).mono ?_
    rintro r w4 ⟨rfl, b4⟩
    have B4 : Below w.heap.size w w4 := btr B3 b4
    have Ra_4 := heap_of b4 _ _ _ Ra_3
    have Rz_4 := heap_of b4 _ _ _ Rz_3
    have Rx_4 := heap_of b4 _ _ _ Rx_3
    clear b4 B3 Ra_3 ca_3_0 ca_3_1 Rz_3 Rx_3 cx_3_0
    obtain ⟨ca_4_0, ca_4_1⟩ := cells2s Ra_4
    have cx_4_0 := (pt_cells Rx_4).1
    obtain ⟨cz_4_0, cz_4_1⟩ := cells2s Rz_4
    have q0 := fz (k := 0) Rz_4
    have q1 := fz (k := 1) Rz_4
    obtain ⟨E0, E1⟩ := set2_cells Rz_4 (.int .u64 (u : Nat)) (.int .u64 (v : Nat))
    go_wp2
    exact bodyPost_ret (v := .tuple #[.agg #[.int .u64 (u : Nat), .int .u64 (v : Nat)], .int .u8 16, .int .i64 0]) (by simp [results, Tryd.results13, go_sem, E0, E1]) rfl ⟨rfl, set2_below B4 (by first | exact Nat.le_refl _ | omega | (have := S3.out; have := La_3.out; have := Lz_3.out; omega)) _ _⟩
  · clear H
    go_wp2_with fail
    refine (KN.out _ (fatB FF.out B3)).mono ?_
    rintro r w4 ⟨rfl, b4⟩
    have B4 : Below w.heap.size w w4 := btr B3 b4
    have Ra_4 := heap_of b4 _ _ _ Ra_3
    have Rz_4 := heap_of b4 _ _ _ Rz_3
    have Rx_4 := heap_of b4 _ _ _ Rx_3
    clear b4 B3 Ra_3 ca_3_0 ca_3_1 Rz_3 Rx_3 cx_3_0
    obtain ⟨ca_4_0, ca_4_1⟩ := cells2s Ra_4
    have cx_4_0 := (pt_cells Rx_4).1
    obtain ⟨cz_4_0, cz_4_1⟩ := cells2s Rz_4
    have q0 := fz (k := 0) Rz_4
    have q1 := fz (k := 1) Rz_4
    obtain ⟨E0, E1⟩ := set2_cells Rz_4 (.int .u64 (u : Nat)) (.int .u64 (v : Nat))
    go_wp2
    exact bodyPost_ret (v := .tuple #[.agg #[.int .u64 (u : Nat), .int .u64 (v : Nat)], .int .u8 16, .int .i64 0]) (by simp [results, Tryd.results13, go_sem, E0, E1]) rfl ⟨rfl, set2_below B4 (by first | exact Nat.le_refl _ | omega | (have := S3.out; have := La_3.out; have := Lz_3.out; omega)) _ _⟩
  · clear H
    go_wp2_with fail
    refine (KN.out _ (fatB FF.out B3)).mono ?_
    rintro r w4 ⟨rfl, b4⟩
    have B4 : Below w.heap.size w w4 := btr B3 b4
    have Ra_4 := heap_of b4 _ _ _ Ra_3
    have Rz_4 := heap_of b4 _ _ _ Rz_3
    have Rx_4 := heap_of b4 _ _ _ Rx_3
    clear b4 B3 Ra_3 ca_3_0 ca_3_1 Rz_3 Rx_3 cx_3_0
    obtain ⟨ca_4_0, ca_4_1⟩ := cells2s Ra_4
    have cx_4_0 := (pt_cells Rx_4).1
    obtain ⟨cz_4_0, cz_4_1⟩ := cells2s Rz_4
    have q0 := fz (k := 0) Rz_4
    have q1 := fz (k := 1) Rz_4
    obtain ⟨E0, E1⟩ := set2_cells Rz_4 (.int .u64 (u : Nat)) (.int .u64 (v : Nat))
    go_wp2
    exact bodyPost_ret (v := .tuple #[.agg #[.int .u64 (u : Nat), .int .u64 (v : Nat)], .int .u8 16, .int .i64 0]) (by simp [results, Tryd.results13, go_sem, E0, E1]) rfl ⟨rfl, set2_below B4 (by first | exact Nat.le_refl _ | omega | (have := S3.out; have := La_3.out; have := Lz_3.out; omega)) _ _⟩
  · clear H
    go_wp2_with fail
    refine (KN.out _ (fatB FF.out B3)).mono ?_
    rintro r w4 ⟨rfl, b4⟩
    have B4 : Below w.heap.size w w4 := btr B3 b4
    have Ra_4 := heap_of b4 _ _ _ Ra_3
    have Rz_4 := heap_of b4 _ _ _ Rz_3
    have Rx_4 := heap_of b4 _ _ _ Rx_3
    clear b4 B3 Ra_3 ca_3_0 ca_3_1 Rz_3 Rx_3 cx_3_0
    obtain ⟨ca_4_0, ca_4_1⟩ := cells2s Ra_4
    have cx_4_0 := (pt_cells Rx_4).1
    obtain ⟨cz_4_0, cz_4_1⟩ := cells2s Rz_4
    have q0 := fz (k := 0) Rz_4
    have q1 := fz (k := 1) Rz_4
    obtain ⟨E0, E1⟩ := set2_cells Rz_4 (.int .u64 (u : Nat)) (.int .u64 (v : Nat))
    go_wp2
    exact bodyPost_ret (v := .tuple #[.agg #[.int .u64 (u : Nat), .int .u64 (v : Nat)], .int .u8 16, .int .i64 0]) (by simp [results, Tryd.results13, go_sem, E0, E1]) rfl ⟨rfl, set2_below B4 (by first | exact Nat.le_refl _ | omega | (have := S3.out; have := La_3.out; have := Lz_3.out; omega)) _ _⟩
  · clear H
    obtain ⟨cz_3_0, cz_3_1⟩ := cells2s Rz_3
    have q0 := fz (k := 0) Rz_3
    have q1 := fz (k := 1) Rz_3
    obtain ⟨E0, E1⟩ := set2_cells Rz_3 (.int .u64 (x1 : Nat)) (.int .u64 (y1 : Nat))
    go_wp2
    exact bodyPost_ret (v := .tuple #[.agg #[.int .u64 (x1 : Nat), .int .u64 (y1 : Nat)], .int .u8 0, .int .i64 0]) (by simp [results, Tryd.results13, go_sem, E0, E1]) rfl ⟨rfl, set2_below B3 (by first | exact Nat.le_refl _ | omega | (have := S3.out; have := La_3.out; have := Lz_3.out; omega)) _ _⟩
  · clear H
    obtain ⟨cz_3_0, cz_3_1⟩ := cells2s Rz_3
    have q0 := fz (k := 0) Rz_3
    have q1 := fz (k := 1) Rz_3
    obtain ⟨E0, E1⟩ := set2_cells Rz_3 (.int .u64 (x1 : Nat)) (.int .u64 (y1 : Nat))
    go_wp2
    exact bodyPost_ret (v := .tuple #[.agg #[.int .u64 (x1 : Nat), .int .u64 (y1 : Nat)], .int .u8 0, .int .i64 0]) (by simp [results, Tryd.results13, go_sem, E0, E1]) rfl ⟨rfl, set2_below B3 (by first | exact Nat.le_refl _ | omega | (have := S3.out; have := La_3.out; have := Lz_3.out; omega)) _ _⟩
  · clear H
    obtain ⟨cz_3_0, cz_3_1⟩ := cells2s Rz_3
    have q0 := fz (k := 0) Rz_3
    have q1 := fz (k := 1) Rz_3
    obtain ⟨E0, E1⟩ := set2_cells Rz_3 (.int .u64 (x1 : Nat)) (.int .u64 (y1 : Nat))
    go_wp2
    exact bodyPost_ret (v := .tuple #[.agg #[.int .u64 (x1 : Nat), .int .u64 (y1 : Nat)], .int .u8 0, .int .i64 0]) (by simp [results, Tryd.results13, go_sem, E0, E1]) rfl ⟨rfl, set2_below B3 (by first | exact Nat.le_refl _ | omega | (have := S3.out; have := La_3.out; have := Lz_3.out; omega)) _ _⟩
  · clear H
    obtain ⟨cx_3_0, cx_3_1, cx_3_2, cx_3_3, cx_3_4, cx_3_5, cx_3_6, cx_3_7, cx_3_8, cx_3_9, cx_3_10, cx_3_11, cx_3_12, cx_3_13⟩ := pt_cells Rx_3
    go_wp2_with fail
    refine (KX.out _).mono ?_
    rintro r w4 ⟨rfl, b4⟩
    have B4 : Below w.heap.size w w4 := btr B3 b4
    have Ra_4 := heap_of b4 _ _ _ Ra_3
    have Rz_4 := heap_of b4 _ _ _ Rz_3
    have Rx_4 := heap_of b4 _ _ _ Rx_3
    clear b4 B3 Ra_3 ca_3_0 ca_3_1 Rz_3 Rx_3 cx_3_0 cx_3_1 cx_3_2 cx_3_3 cx_3_4 cx_3_5 cx_3_6 cx_3_7 cx_3_8 cx_3_9 cx_3_10 cx_3_11 cx_3_12 cx_3_13
    obtain ⟨ca_4_0, ca_4_1⟩ := cells2s Ra_4
    obtain ⟨cx_4_0, cx_4_1, cx_4_2, cx_4_3, cx_4_4, cx_4_5, cx_4_6, cx_4_7, cx_4_8, cx_4_9, cx_4_10, cx_4_11, cx_4_12, cx_4_13⟩ := pt_cells Rx_4
    clear cx_4_0 cx_4_1 cx_4_2 cx_4_3 cx_4_4 cx_4_5 cx_4_6 cx_4_7 cx_4_8 cx_4_9 cx_4_10 cx_4_11 cx_4_12 cx_4_13
    go_wp2_with fail
    refine (KP.out _ (fatB FF.out B4)).mono ?_
    rintro r w5 ⟨rfl, b5⟩
    have B5 : Below w.heap.size w w5 := btr B4 b5
    have Ra_5 := heap_of b5 _ _ _ Ra_4
    have Rz_5 := heap_of b5 _ _ _ Rz_4
    have Rx_5 := heap_of b5 _ _ _ Rx_4
    clear b5 B4 Ra_4 ca_4_0 ca_4_1 Rz_4 Rx_4
    obtain ⟨ca_5_0, ca_5_1⟩ := cells2s Ra_5
    obtain ⟨cz_5_0, cz_5_1⟩ := cells2s Rz_5
    have q0 := fz (k := 0) Rz_5
    have q1 := fz (k := 1) Rz_5
    obtain ⟨E0, E1⟩ := set2_cells Rz_5 (.int .u64 (u : Nat)) (.int .u64 (v : Nat))
    go_wp2
    exact bodyPost_ret (v := .tuple #[.agg #[.int .u64 (u : Nat), .int .u64 (v : Nat)], .int .u8 fl, .int .i64 0]) (by simp [results, Tryd.results13, go_sem, E0, E1]) rfl ⟨rfl, set2_below B5 (by first | exact Nat.le_refl _ | omega | (have := S3.out; have := La_3.out; have := Lz_3.out; omega)) _ _⟩
end Go.Proofs.YtpgiabmmmpdobaaDoor
namespace Go.Proofs.YtpgiabmmmpdobaaDoor
set_option maxRecDepth 100000
set_option maxHeartbeats 40000000
set_option maxRecDepth 100000
open Go.RowKit WMath XMath
set_option linter.unusedSimpArgs false
set_option linter.unusedVariables false
theorem and_odd (d : Int) (h1 : -9223372036854775808 ≤ d) (h2 : d ≤ 9223372036854775807) : bits .and .i64 d 1 = d % 2 := by
  show IntKind.i64.wrap ((BitVec.ofInt 64 d &&& BitVec.ofInt 64 1).toNat : Int) = _
  have e1 : (BitVec.ofInt 64 1).toNat = 2 ^ 1 - 1 := by decide
  have e2 : (BitVec.ofInt 64 d).toNat = (d % 18446744073709551616).toNat := BitVec.toNat_ofInt d
  rw [BitVec.toNat_and, e1, Nat.and_two_pow_sub_one_eq_mod, IntKind.wrap_i64, e2]
  omega
def sK (f : Int) (a : Nat) : Nat := 230 - blen (kS f a) - ((kX f a - (230 - (blen (kS f a) : Int))) % 2).toNat
def SqR (f m : Int) (a M : Nat) (fl : Int) : Prop :=
  if kC f a = 8 then M = eNaN f ∧ fl = 16
  else if kC f a = 9 then M = eNaN f ∧ fl = 0
  else if kC f a = 3 ∨ kC f a = 4 ∨ kC f a = 7 then M = a ∧ fl = 0
  else if kC f a ≤ 2 then M = eNaN f ∧ fl = 16
  else ∃ q, RootIs (kS f a * 2 ^ sK f a) q ∧ dlv f m false ((kX f a - (sK f a : Int)) / 2 + (blen q : Int) - 1) (qW (pV f + 1) q) (qM (pV f + 1) q (!decide (kS f a * 2 ^ sK f a - q * q = 0))) = (M, fl)
theorem sqR_some (f m : Int) (a : Nat) : ∃ M fl, SqR f m a M fl := by
  unfold SqR
  split
  · exact ⟨_, _, rfl, rfl⟩
  split
  · exact ⟨_, _, rfl, rfl⟩
  split
  · exact ⟨_, _, rfl, rfl⟩
  split
  · exact ⟨_, _, rfl, rfl⟩
  · obtain ⟨q, hq⟩ := root_any (kS f a * 2 ^ sK f a)
    exact ⟨_, _, q, hq, rfl⟩
theorem sK_is {f : Int} (hf : Is4 f) (a : Nat) (h : kC f a = 1 ∨ kC f a = 2 ∨ kC f a = 5 ∨ kC f a = 6) : 116 ≤ sK f a ∧ sK f a ≤ 229 ∧ kX f a = 2 * ((kX f a - (sK f a : Int)) / 2) + (sK f a : Int) ∧ (blen (kS f a) + sK f a = 230 ∨ blen (kS f a) + sK f a = 229) := by
  obtain ⟨b1, b2⟩ := kS_blen hf a h
  unfold sK
  omega
theorem root_len {N q : Nat} (hq : RootIs N q) (h : blen N = 230 ∨ blen N = 229) : blen q = 115 := by
  obtain ⟨q1, q2⟩ := hq
  have n0 : N ≠ 0 := fun e => by
    rw [e] at h
    have : blen 0 = 0 := by unfold blen; rw [if_pos rfl]
    omega
  obtain ⟨l1, l2, l3⟩ := blen_low N n0
  have u1 : N < 2 ^ 230 := (blen_iff N 230).1 (by omega)
  have u2 : 2 ^ 228 ≤ N := Nat.le_trans (Nat.pow_le_pow_right (by decide) (by omega)) l2
  have s1 : q < 2 ^ 115 := by
    rcases Nat.lt_or_ge q (2 ^ 115) with c | c
    · exact c
    · have := Nat.mul_le_mul c c
      rw [← Nat.pow_add] at this
      omega
  have s2 : 2 ^ 114 ≤ q := by
    rcases Nat.lt_or_ge q (2 ^ 114) with c | c
    · have := Nat.mul_le_mul (show q + 1 ≤ 2 ^ 114 by omega) (show q + 1 ≤ 2 ^ 114 by omega)
      rw [← Nat.pow_add] at this
      omega
    · exact c
  have t1 := (blen_iff q 115).2 s1
  have t2 : ¬ blen q ≤ 114 := fun c => by
    have := (blen_iff q 114).1 c
    omega
  omega
theorem sqR_rts {f : Int} (hf : Is4 f) (m : Int) (a M : Nat) (fl : Int) (c : kC f a = 5 ∨ kC f a = 6) (h : SqR f m a M fl) : Rts f m ⟨false, od (kS f a), 1, kX f a + (tz (kS f a) : Int)⟩ M fl := by
  unfold SqR at h
  rw [if_neg (by omega), if_neg (by omega), if_neg (by omega), if_neg (by omega)] at h
  obtain ⟨q, hq, hd⟩ := h
  obtain ⟨k1, k2, k3, k4⟩ := sK_is hf a (by omega)
  obtain ⟨l1, l2, l3⟩ := kS_lim hf a
  obtain ⟨p1, p2, p3, p4⟩ := k_parts (f := f) a (by omega)
  have bq := root_len hq (by rw [blen_shift _ _ p4]; exact k4)
  have l112 : pV f ≤ 112 := by rcases hf with rfl | rfl | rfl | rfl <;> decide
  exact root_num hf m (kS f a) (sK f a) q _ (kX f a) ((kX f a - (sK f a : Int)) / 2) p4 l1 k3 (by omega) (by omega) (by omega) hq (by rw [Bool.not_not]) (by omega) (by omega) M fl hd
theorem kSqrt_is (f m : Int) (hf : Is4 f) (hm : 0 ≤ m ∧ m ≤ 4) (x1 y1 a : Nat) (hx1 : x1 < 18446744073709551616) (hy1 : y1 < 18446744073709551616) (ha : y1 + 18446744073709551616 * x1 = a)
    (oa : okB f a = true) (M : Nat) (fl : Int) (hr : SqR f m a M fl) (u v : Nat) (hv : bv7 M = (u, v)) (w : World) (hT : FAt w) :
    Calls Tryd.prog 13 #[.int .u8 f, .int .u8 m, .agg #[.int .u64 (x1 : Nat), .int .u64 (y1 : Nat)]] w fun r w' => r = .returned (.tuple #[.agg #[.int .u64 (u : Nat), .int .u64 (v : Nat)], .int .u8 fl, .int .i64 0]) ∧ Below w.heap.size w w' := by
  have KF := kmay1 f m (is4_ok hf).1 (is4_ok hf).2.1 hm.1 x1 y1 a hx1 hy1 ha true (by rw [oa, decide_eq_true (show f ≤ 3 ∧ m ≤ 4 from ⟨is4_le hf, hm.2⟩)]; rfl)
  obtain ⟨sa1, sa2, sa3⟩ := kS_lim hf a
  have ba := fun h => kS_blen hf a h
  have sk := fun h => sK_is hf a h
  have p1 := fun h => k_parts (f := f) a h
  have lc1 := kC_lt f a
  obtain ⟨c1, hc1⟩ : ∃ c, kC f a = c := ⟨_, rfl⟩
  obtain ⟨m1, hm1⟩ : ∃ c, kS f a = c := ⟨_, rfl⟩
  obtain ⟨X1, hX1⟩ : ∃ c, kX f a = c := ⟨_, rfl⟩
  obtain ⟨k, hk⟩ : ∃ k, sK f a = k := ⟨_, rfl⟩
  have KU1 : Box (∀ w, FAt w → Calls Tryd.prog 19 #[.int .u8 f, .agg #[.int .u64 (x1 : Nat), .int .u64 (y1 : Nat)]] w fun r w' => r = .returned (.tuple #[.agg (pt c1 m1 X1 (kF f a)), .int .i64 0]) ∧ Below w.heap.size w w') := box (fun w hT => kUnpack_yes f hf x1 y1 a c1 m1 (kF f a) X1 hx1 hy1 ha oa (by unfold kp; rw [hc1, hm1, hX1]) w hT)
  unfold SqR at hr
  have hk2 := hk
  unfold sK at hk2
  rw [hc1, hX1, hm1, hk] at hr
  rw [hc1, hm1, hX1, hk] at sk
  rw [hc1, hm1] at p1 ba
  rw [hc1] at lc1
  rw [hm1] at sa1
  rw [hX1] at sa2 sa3
  rw [hm1, hX1] at hk2
  have KN : bv7 (eNaN f) = (u, v) → Box (∀ w, FAt w → Calls Tryd.prog 21 #[.int .u8 f] w fun r w' => r = .returned (.agg #[.int .u64 (u : Nat), .int .u64 (v : Nat)]) ∧ Below w.heap.size w w') := fun h => box (fun w hT => kNaN_is f hf u v h w hT)
  have e1 : bv7 a = (x1, y1) := by unfold bv7; rw [← ha]; congr 1 <;> omega
  by_cases d8 : c1 = 8
  · rw [if_pos d8] at hr
    obtain ⟨rfl, rfl⟩ := hr
    exact sr_all f m x1 y1 u v c1 m1 X1 _ 0 0 _ false w KF KU1 (box (Or.inr (Or.inl (⟨(ine (by omega)), (ieq (by omega)), KN hv, rfl⟩)))) hT
  rw [if_neg d8] at hr
  by_cases d9 : c1 = 9
  · rw [if_pos d9] at hr
    obtain ⟨rfl, rfl⟩ := hr
    exact sr_all f m x1 y1 u v c1 m1 X1 _ 0 0 _ false w KF KU1 (box (Or.inl (⟨(ieq (by omega)), KN hv, rfl⟩))) hT
  rw [if_neg d9] at hr
  by_cases d3 : c1 = 3 ∨ c1 = 4 ∨ c1 = 7
  · rw [if_pos d3] at hr
    obtain ⟨rfl, rfl⟩ := hr
    rw [e1] at hv
    injection hv with v1 v2
    subst v1 v2
    by_cases d : c1 = 3
    · exact sr_all f m x1 y1 x1 y1 c1 m1 X1 _ 0 0 _ false w KF KU1 (box (Or.inr (Or.inr (Or.inr (Or.inr (Or.inr (Or.inl (⟨(ine (by omega)), (ine (by omega)), (ine (by omega)), (ine (by omega)), (ine (by omega)), (ieq (by omega)), rfl, rfl, rfl⟩)))))))) hT
    by_cases d4 : c1 = 4
    · exact sr_all f m x1 y1 x1 y1 c1 m1 X1 _ 0 0 _ false w KF KU1 (box (Or.inr (Or.inr (Or.inr (Or.inr (Or.inr (Or.inr (Or.inl (⟨(ine (by omega)), (ine (by omega)), (ine (by omega)), (ine (by omega)), (ine (by omega)), (ine (by omega)), (ieq (by omega)), rfl, rfl, rfl⟩))))))))) hT
    · exact sr_all f m x1 y1 x1 y1 c1 m1 X1 _ 0 0 _ false w KF KU1 (box (Or.inr (Or.inr (Or.inr (Or.inr (Or.inr (Or.inr (Or.inr (Or.inl (⟨(ine (by omega)), (ine (by omega)), (ine (by omega)), (ine (by omega)), (ine (by omega)), (ine (by omega)), (ine (by omega)), (ieq (by omega)), rfl, rfl, rfl⟩)))))))))) hT
  rw [if_neg d3] at hr
  by_cases d2 : c1 ≤ 2
  · rw [if_pos d2] at hr
    obtain ⟨rfl, rfl⟩ := hr
    by_cases d : c1 = 2
    · exact sr_all f m x1 y1 u v c1 m1 X1 _ 0 0 _ false w KF KU1 (box (Or.inr (Or.inr (Or.inl (⟨(ine (by omega)), (ine (by omega)), (ieq (by omega)), KN hv, rfl⟩))))) hT
    by_cases d1 : c1 = 1
    · exact sr_all f m x1 y1 u v c1 m1 X1 _ 0 0 _ false w KF KU1 (box (Or.inr (Or.inr (Or.inr (Or.inl (⟨(ine (by omega)), (ine (by omega)), (ine (by omega)), (ieq (by omega)), KN hv, rfl⟩)))))) hT
    · exact sr_all f m x1 y1 u v c1 m1 X1 _ 0 0 _ false w KF KU1 (box (Or.inr (Or.inr (Or.inr (Or.inr (Or.inl (⟨(ine (by omega)), (ine (by omega)), (ine (by omega)), (ine (by omega)), (ieq (by omega)), KN hv, rfl⟩))))))) hT
  rw [if_neg d2] at hr
  obtain ⟨a1, a2⟩ := ba (by omega)
  obtain ⟨k1, k2, k3, k4⟩ := sk (by omega)
  have m10 := (p1 (by omega)).2.2.2
  obtain ⟨q, hq, hd⟩ := hr
  have bs := blen_shift m1 k m10
  have bq := root_len hq (by rw [bs]; exact k4)
  obtain ⟨x, hx⟩ : ∃ x, m1 * 2 ^ k = x := ⟨_, rfl⟩
  obtain ⟨E, hE⟩ : ∃ E, (X1 - (k : Int)) / 2 = E := ⟨_, rfl⟩
  rw [hx] at hq hd bs
  rw [hE] at hd k3
  obtain ⟨y, hy⟩ : ∃ y, x - q * q = y := ⟨_, rfl⟩
  rw [hy] at hd
  obtain ⟨more, hmo⟩ : ∃ o, (!decide (y = 0)) = o := ⟨_, rfl⟩
  rw [hmo] at hd
  have xQ : x < Q := q256 ((blen_iff x 256).1 (by omega))
  have qQ : q < Q := q256 ((blen_iff q 256).1 (by omega))
  have yQ : y < Q := by omega
  have q0 : q ≠ 0 := fun h => by
    rw [h] at bq
    have : blen 0 = 0 := by unfold blen; rw [if_pos rfl]
    omega
  have ck : cnt6 (k : Int) = k := by unfold cnt6; omega
  have KL1 : Box (∀ w, Calls Tryd.prog 61 #[.agg (cw 6 m1)] w fun r w' => r = .returned (.int .i64 (blen m1 : Nat)) ∧ Below w.heap.size w w') := box (fun w => wlen_is m1 _ (lt_Q7 sa1) rfl w)
  have KD : Box (∀ w, Calls Tryd.prog 68 #[.agg (cw 6 m1), .int .i64 (k : Nat)] w fun r w' => r = .returned (.tuple #[.agg (cw 6 x), .bool false]) ∧ Below w.heap.size w w') := box (fun w => wleft_is m1 x (k : Int) false (lt_Q7 sa1) (by rw [ck, hx]; exact Nat.mod_eq_of_lt xQ) (by rw [ck, hx]; exact decide_eq_false (Nat.not_le.2 xQ)) w)
  have KQ : Box (∀ w, Calls Tryd.prog 69 #[.agg (cw 6 x)] w fun r w' => r = .returned (.tuple #[.agg (cw 6 q), .agg (cw 6 y)]) ∧ Below w.heap.size w w') := box (fun w => qsqrt_is x q y xQ hq hy w)
  have KX : Box (∀ w, Calls Tryd.prog 32 #[.agg (pt c1 m1 X1 (kF f a))] w fun r w' => r = .returned (.agg (rg false q E more)) ∧ Below w.heap.size w w') := box (fun w => sr_root c1 m1 X1 _ x q y (blen m1 : Nat) (230 - (blen m1 : Int)) (X1 - (230 - (blen m1 : Int))) ((X1 - (230 - (blen m1 : Int))) % 2) (k : Int) (X1 - (k : Int)) E false more w KL1 (wrap_i64_is _ (by omega) (by omega)) (wrap_i64_is _ (by omega) (by omega)) (and_odd _ (by omega) (by omega)) (by rw [wrap_i64_is _ (by omega) (by omega)]; omega) KD KQ (wrap_i64_is _ (by omega) (by omega)) hE (wrap_i64_is _ (by omega) (by omega)) hmo yQ)
  have l112 : pV f ≤ 112 := by rcases hf with rfl | rfl | rfl | rfl <;> decide
  exact sr_all f m x1 y1 u v c1 m1 X1 _ q E fl more w KF KU1 (box (Or.inr (Or.inr (Or.inr (Or.inr (Or.inr (Or.inr (Or.inr (Or.inr (⟨(ine (by omega)), (ine (by omega)), (ine (by omega)), (ine (by omega)), (ine (by omega)), (ine (by omega)), (ine (by omega)), (ine (by omega)), KX, box (fun w hT => kPack_is f m hf hm false q qQ q0 E more (by omega) (by omega) (fun _ => by omega) M fl hd u v hv w hT)⟩)))))))))) hT
theorem al14 : SqR 2 0 17408 16384 0 ∧ okB 2 17408 = true := by
  refine ⟨?_, by decide +kernel⟩
  have c : kC 2 17408 = 6 := by decide +kernel
  unfold SqR
  rw [c, if_neg (by decide), if_neg (by decide), if_neg (by decide), if_neg (by decide)]
  exact ⟨2 ^ 114, by unfold RootIs; decide +kernel, by decide +kernel⟩
set_option maxRecDepth 100000 in
set_option maxHeartbeats 4000000 in
theorem r14alive (w : World) (hT : FAt w) : Calls Tryd.prog 12 #[] w fun r w' => r = .returned (.bool true) ∧ Below w.heap.size w w' := by
  have FF := box hT
  have K1 : Box (∀ w, FAt w → Calls Tryd.prog 13 #[.int .u8 2, .int .u8 0, .agg #[.int .u64 0, .int .u64 17408]] w fun r w' => r = .returned (.tuple #[.agg #[.int .u64 0, .int .u64 16384], .int .u8 0, .int .i64 0]) ∧ Below w.heap.size w w') := box (fun w hT => kSqrt_is 2 0 (by unfold Is4; omega) (by decide) 0 17408 17408 (by decide) (by decide) rfl al14.2 16384 0 al14.1 0 16384 rfl w hT)
  clear hT
  have B0 : Below w.heap.size w w := (Below.refl _ _)
  go_enter Tryd.func12, Tryd.ntmps12
  go_wp2_with fail
  refine (K1.out _ (fatB FF.out B0)).mono ?_
  rintro r w1 ⟨rfl, b1⟩
  have B1 : Below w.heap.size w w1 := btr B0 b1
  clear b1 B0 
  have S2 := box B1.size
  have Rb_2 := heap_alloc_last w1 (Obj.cells #[.int .u64 0, .int .u64 16384] 26)
  have B2 := btr B1 (bal w1 (Obj.cells #[.int .u64 0, .int .u64 16384] 26))
  clear B1 
  obtain ⟨cb_2_0, cb_2_1⟩ := cells2s Rb_2
  go_wp2
  go_ret
  exact ⟨rfl, B2⟩
end Go.Proofs.YtpgiabmmmpdobaaDoor
