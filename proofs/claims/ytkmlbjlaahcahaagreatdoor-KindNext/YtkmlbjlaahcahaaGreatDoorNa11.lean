/-
  What the functions that the statement reaches return: part 11 (KD, KE, KU, KF, Dmath, Word4, List12, List13, List14, List15, Gmath).
-/
import Derived.Test.YtkmlbjlaahcahaaGreatDoorNa10
namespace Go.Proofs.YtkmlbjlaahcahaaGreatDoor
set_option maxRecDepth 100000
open Go.RowKit WMath
set_option linter.unusedSimpArgs false
set_option linter.unusedVariables false

theorem or_bit_lo (t k : Nat) (h : t < 2 ^ k) : 2 ^ k ||| t = 2 ^ k + t := by
  have e := Nat.two_pow_add_eq_or_of_lt h 1
  rw [Nat.mul_one] at e
  exact e.symm
theorem cnt_k8 {i : Nat} (h : i < 384) : cnt6 (i : Int) = i := by unfold cnt6; omega
theorem kparts_is (f : Int) (hf : Is4 f) (x y n : Nat) (hx : x < 18446744073709551616) (hy : y < 18446744073709551616) (hn : y + 18446744073709551616 * x = n) (w : World) (hT : FAt w) :
    Calls Tryz.prog 77 #[.int .u8 f, .agg #[.int .u64 (x : Nat), .int .u64 (y : Nat)]] w fun r w' => r = .returned (.agg (pt (kC f n) (kS f n) (kX f n) (kF f n))) ∧ Below w.heap.size w w' := by
  have f4 := is4_ok hf
  obtain ⟨u, v, huv⟩ : ∃ u v, bv7 (kT f n) = (u, v) := ⟨_, _, rfl⟩
  obtain ⟨g1, g2, g3, g4, g5, g6, g7⟩ := fm hf
  have tl := kT_lt (f := f) n
  have el := kE_le (f := f) n
  have tn : kT f n < 340282366920938463463374607431768211456 := by rw [g1, Nat.add_mul] at g7; omega
  have pn : 2 ^ pV f + kT f n < 340282366920938463463374607431768211456 := by rw [g1, Nat.add_mul] at g7; have := Nat.mul_le_mul_right (2 ^ pV f) g5; omega
  obtain ⟨u1, v1, t1⟩ := bv_lt tn huv
  obtain ⟨p1, p2, p3, p4, _⟩ := pV_lim hf
  obtain ⟨l1, l2, l3, l4, l5⟩ := lx_lim hf
  have KC : Box (∀ w, FAt w → Calls Tryz.prog 111 #[.int .u8 f, .agg #[.int .u64 (x : Nat), .int .u64 (y : Nat)]] w fun r w' => r = .returned (.int .u8 ((kC f n : Nat) : Int)) ∧ Below w.heap.size w w') := box (fun w hT => kclass_is f hf x y n _ hx hy hn rfl w hT)
  have KF : Box (∀ w, FAt w → Calls Tryz.prog 150 #[.int .u8 f, .agg #[.int .u64 (x : Nat), .int .u64 (y : Nat)]] w fun r w' => r = .returned (.agg #[.int .u64 (u : Nat), .int .u64 (v : Nat)]) ∧ Below w.heap.size w w') := box (fun w hT => kfraction_is f hf x y n u v hx hy hn huv w hT)
  have KO : Box (∀ w, Calls Tryz.prog 149 #[.agg #[.int .u64 (u : Nat), .int .u64 (v : Nat)]] w fun r w' => r = .returned (.agg (cw 6 (kT f n))) ∧ Below w.heap.size w w') := box (fun w => wofbits_is u v _ u1 v1 t1 w)
  have KL : Box (∀ w, FAt w → Calls Tryz.prog 121 #[.int .u8 f] w fun r w' => r = .returned (.int .i64 (lx f)) ∧ Below w.heap.size w w') := box (fun w hT => kleast_is f hf _ rfl w hT)
  have cl := kC_lt f n
  by_cases c1 : kC f n = 8 ∨ kC f n = 9
  · have e1 : kS f n = 0 ∧ kX f n = 0 ∧ kF f n = kT f n := by
      unfold kS kX kF
      rw [if_neg (by omega), if_neg (by omega), if_neg (by omega), if_neg (by omega), if_pos c1]
      exact ⟨rfl, rfl, rfl⟩
    rw [e1.1, e1.2.1, e1.2.2]
    exact kparts_nan f x y _ u v _ w KC KF KO c1 hT
  by_cases c2 : kC f n = 2 ∨ kC f n = 5
  · have e1 : kS f n = kT f n ∧ kX f n = lx f ∧ kF f n = 0 := by
      unfold kS kX kF
      rw [if_pos c2, if_pos c2, if_neg c1]
      exact ⟨rfl, rfl, rfl⟩
    rw [e1.1, e1.2.1, e1.2.2]
    exact kparts_sub f x y _ u v _ _ w KC KF KO KL c2 hT
  by_cases c3 : kC f n = 1 ∨ kC f n = 6
  · have e1 : kS f n = 2 ^ pV f + kT f n ∧ kX f n = lx f + (kE f n : Int) - 1 ∧ kF f n = 0 := by
      unfold kS kX kF
      rw [if_neg c2, if_neg c2, if_neg c1, if_pos c3, if_pos c3]
      exact ⟨rfl, rfl, rfl⟩
    rw [e1.1, e1.2.1, e1.2.2]
    have pl : 2 ^ pV f < Q := lt_Q7 (by omega)
    exact kparts_norm f x y _ u v _ (lx f) (fP f) _ (pV f) (2 ^ pV f) _ (kE f n) w KC KF KO KL
      (box (fun w => wof_al 1 (by decide) w)) (box (fun w hT => kb_precision f _ f4.1 f4.2.1 rfl w hT))
      (box (fun w => wleft_is 1 (2 ^ pV f) _ false (lt_Q7 (by omega)) (by rw [cnt_k8 (by omega), Nat.one_mul, Nat.mod_eq_of_lt pl]) (by rw [cnt_k8 (by omega), Nat.one_mul]; simp; omega) w))
      (box (fun w => wor_is (2 ^ pV f) (kT f n) _ pl (lt_Q7 (by omega)) (or_bit_lo _ _ tl) w))
      (box (fun w hT => kfield_is f hf x y n _ hx hy hn rfl w hT)) p2 (by rw [IntKind.wrap_i64]; omega) (by rw [IntKind.wrap_i64]; omega) (by rw [IntKind.wrap_i64]; omega) c3 hT
  · have e1 : kS f n = 0 ∧ kX f n = 0 ∧ kF f n = 0 := by
      unfold kS kX kF
      rw [if_neg c2, if_neg c2, if_neg c1, if_neg c3, if_neg c3]
      exact ⟨rfl, rfl, rfl⟩
    rw [e1.1, e1.2.1, e1.2.2]
    exact kparts_none f x y _ u v _ w KC KF KO (by omega) hT
theorem kUnpack_yes (f : Int) (hf : Is4 f) (x y n c s rr : Nat) (X : Int) (hx : x < 18446744073709551616) (hy : y < 18446744073709551616) (hn : y + 18446744073709551616 * x = n) (ho : okB f n = true) (hp : kp f n = (c, s, X, rr)) (w : World) (hT : FAt w) :
    Calls Tryz.prog 20 #[.int .u8 f, .agg #[.int .u64 (x : Nat), .int .u64 (y : Nat)]] w fun r w' => r = .returned (.tuple #[.agg (pt c s X rr), .int .i64 0]) ∧ Below w.heap.size w w' := by
  have f4 := is4_ok hf
  have K1 := box (sk_fits f x y n true f4.1 f4.2.1 hx hy hn ho)
  have K2 := box (kparts_is f hf x y n hx hy hn)
  unfold kp at hp
  injection hp with h1 h2
  injection h2 with h2 h3
  injection h3 with h3 h4
  rw [h1, h2, h3, h4] at K2
  have hat := cw_at 6
  have hz := cw6z
  have hff := cw6f
  have hs0 := st0
  have hcs : ∀ x, ((cw 6 x).size = 6) = True := fun x => eq_true (cw_size 6 x)
  have hp1 := ptf
  have hp3 := ptz
  have hp5 : ∀ (c s : Nat) (x : Int) (r : Nat), ((pt c s x r).size = 14) = True := fun _ _ _ _ => eq_true rfl
  have TT := box hT
  clear hT hf hx hy hn ho h1 h2 h3 h4
  obtain ⟨Rb_0, Rz_0, B0⟩ := kopn2 w (Obj.cells #[.int .u64 (x : Nat), .int .u64 (y : Nat)] 25) (Obj.cells (pt 0 0 0 0) 55)
  go_enter Tryz.func20, Tryz.ntmps20
  go_wp2_with fail
  refine (K1.out _ (fatB TT.out B0)).mono ?_
  rintro r w1 ⟨rfl, b1⟩
  have B1 : Below w.heap.size w w1 := btr7 B0 b1
  have Rb_1 := heap_of b1 _ _ _ Rb_0
  have Rz_1 := heap_of b1 _ _ _ Rz_0
  clear b1 B0 Rb_0 Rz_0
  obtain ⟨cb_1_0, cb_1_1⟩ := cell7t Rb_1
  obtain ⟨cz_1_0, cz_1_1, cz_1_2, cz_1_3, cz_1_4, cz_1_5, cz_1_6, cz_1_7, cz_1_8, cz_1_9, cz_1_10, cz_1_11, cz_1_12, cz_1_13⟩ := pt_cells Rz_1
  go_wp2_with fail
  refine (K2.out _ (fatB TT.out B1)).mono ?_
  rintro r w2 ⟨rfl, b2⟩
  have B2 : Below w.heap.size w w2 := btr7 B1 b2
  have Rb_2 := heap_of b2 _ _ _ Rb_1
  have Rz_2 := heap_of b2 _ _ _ Rz_1
  clear b2 B1 Rb_1 cb_1_0 cb_1_1 Rz_1 cz_1_0 cz_1_1 cz_1_2 cz_1_3 cz_1_4 cz_1_5 cz_1_6 cz_1_7 cz_1_8 cz_1_9 cz_1_10 cz_1_11 cz_1_12 cz_1_13
  obtain ⟨cb_2_0, cb_2_1⟩ := cell7t Rb_2
  obtain ⟨cz_2_0, cz_2_1, cz_2_2, cz_2_3, cz_2_4, cz_2_5, cz_2_6, cz_2_7, cz_2_8, cz_2_9, cz_2_10, cz_2_11, cz_2_12, cz_2_13⟩ := pt_cells Rz_2
  have hstz := st_p w2 (w.heap.size + 1) c s X rr 0 0 0 0 Rz_2
  have RZ := setRow_row (c' := pt c s X rr) Rz_2
  obtain ⟨dz0, dz1, dz2, dz3, dz4, dz5, dz6, dz7, dz8, dz9, dz10, dz11, dz12, dz13⟩ := pt_cells RZ
  have bz := bel_set (c := pt c s X rr) B2 (show w.heap.size ≤ w.heap.size + 1 by first | exact Nat.le_refl _ | omega | (skip; omega))
  go_wp2
  exact bodyPost_ret (v := .tuple #[.agg (pt c s X rr), .int .i64 0]) (by simp [results, Tryz.results20, go_sem, dz0, dz1, dz2, dz3, dz4, dz5, dz6, dz7, dz8, dz9, dz10, dz11, dz12, dz13, ptf] <;> rfl) rfl ⟨rfl, bz⟩
end Go.Proofs.YtkmlbjlaahcahaaGreatDoor
namespace Go.Proofs.YtkmlbjlaahcahaaGreatDoor
set_option maxRecDepth 100000
open Go.RowKit WMath
set_option linter.unusedSimpArgs false
set_option linter.unusedVariables false

set_option maxRecDepth 100000 in
set_option maxHeartbeats 1000000 in
theorem kalive (w : World) (hT : FAt w) : Calls Tryz.prog 11 #[] w fun r w' => r = .returned (.bool true) ∧ Below w.heap.size w w' := by
  have hf2 : Is4 2 := Or.inr (Or.inr (Or.inl rfl))
  have K1 : Box (∀ w, FAt w → Calls Tryz.prog 44 #[.int .u8 2, .agg #[.int .u64 0, .int .u64 32768]] w fun r w' => r = .returned (.tuple #[.int .u8 3, .int .i64 0]) ∧ Below w.heap.size w w') := box (fun w hT => kClass_yes 2 hf2 0 32768 32768 3 (by decide) (by decide) (by decide) (by decide +kernel) (by decide +kernel) w hT)
  have K2 : Box (∀ w, FAt w → Calls Tryz.prog 20 #[.int .u8 2, .agg #[.int .u64 0, .int .u64 15360]] w fun r w' => r = .returned (.tuple #[.agg (pt 6 1024 (-10) 0), .int .i64 0]) ∧ Below w.heap.size w w') := box (fun w hT => kUnpack_yes 2 hf2 0 15360 15360 6 1024 0 (-10) (by decide) (by decide) (by decide) (by decide +kernel) (by decide +kernel) w hT)
  have K3 : Box (∀ w, FAt w → Calls Tryz.prog 44 #[.int .u8 4, .agg #[.int .u64 0, .int .u64 0]] w fun r w' => r = .returned (.tuple #[.int .u8 0, .int .i64 2]) ∧ Below w.heap.size w w') := box (fun w hT => kClass_no 4 (by decide) (by decide) 0 0 0 (by decide) (by decide) (by decide) (by decide +kernel) w hT)
  have hat := cw_at 6
  have hz := cw6z
  have hff := cw6f
  have hs0 := st0
  have hcs : ∀ x, ((cw 6 x).size = 6) = True := fun x => eq_true (cw_size 6 x)
  have heq := eq6
  have hg := eqg6
  have h1024 : (1024 : Nat) < Q := lt_Q7 (by decide)
  have hset : (cw 6 0).setIfInBounds 0 (.int .u64 1024) = cw 6 1024 := set0 1024 (by decide)
  have hp1 := ptf
  have hp3 := ptz
  have hp4 := st_p0
  have hp5 : ∀ (c s : Nat) (x : Int) (r : Nat), ((pt c s x r).size = 14) = True := fun _ _ _ _ => eq_true rfl
  have ha1 := pt_at1
  have ha2 := pt_at2
  have ha3 := pt_at3
  have ha4 := pt_at4
  have ha5 := pt_at5
  have ha6 := pt_at6
  have ha7 := pt_at7
  have TT := box hT
  clear hT hf2
  have B0 : Below w.heap.size w w := (Below.refl _ _)
  go_enter Tryz.func11, Tryz.ntmps11
  go_wp2_with fail
  refine (K1.out _ (fatB TT.out B0)).mono ?_
  rintro r w1 ⟨rfl, b1⟩
  have B1 : Below w.heap.size w w1 := btr7 B0 b1
  clear b1 B0 
  go_wp2_with fail
  refine (K2.out _ (fatB TT.out B1)).mono ?_
  rintro r w2 ⟨rfl, b2⟩
  have B2 : Below w.heap.size w w2 := btr7 B1 b2
  clear b2 B1 
  have S3 := box B2.size
  have Rp_3 := heap_alloc_last w2 (Obj.cells (pt 6 1024 (-10) 0) 55)
  have B3 := btr7 B2 (bal7 w2 (Obj.cells (pt 6 1024 (-10) 0) 55))
  clear B2 
  obtain ⟨cp_3_0, cp_3_1, cp_3_2, cp_3_3, cp_3_4, cp_3_5, cp_3_6, cp_3_7, cp_3_8, cp_3_9, cp_3_10, cp_3_11, cp_3_12, cp_3_13⟩ := pt_cells Rp_3
  go_wp2_with fail
  refine (K3.out _ (fatB TT.out B3)).mono ?_
  rintro r w4 ⟨rfl, b4⟩
  have B4 : Below w.heap.size w w4 := btr7 B3 b4
  have Rp_4 := heap_of b4 _ _ _ Rp_3
  clear b4 B3 Rp_3 cp_3_0 cp_3_1 cp_3_2 cp_3_3 cp_3_4 cp_3_5 cp_3_6 cp_3_7 cp_3_8 cp_3_9 cp_3_10 cp_3_11 cp_3_12 cp_3_13
  obtain ⟨cp_4_0, cp_4_1, cp_4_2, cp_4_3, cp_4_4, cp_4_5, cp_4_6, cp_4_7, cp_4_8, cp_4_9, cp_4_10, cp_4_11, cp_4_12, cp_4_13⟩ := pt_cells Rp_4
  go_wp2
  go_ret
  exact ⟨rfl, B4⟩

end Go.Proofs.YtkmlbjlaahcahaaGreatDoor
namespace Go.Proofs.YtkmlbjlaahcahaaGreatDoor
set_option maxRecDepth 100000
open Go.RowKit WMath
set_option linter.unusedSimpArgs false
set_option linter.unusedVariables false

theorem em_lim {f : Int} (hf : Is4 f) : IntKind.i64.wrap (1 - fE f - fP f) = 1 - fE f - fP f ∧ IntKind.i64.wrap (1 - fE f - fP f + 1) = lx f ∧ IntKind.i64.wrap (fE f - fP f) = fE f - fP f ∧ IntKind.i64.wrap (fE f - fP f + 1) = fE f - (pV f : Int) ∧ (if fC f = 0 then 1 - fE f else 0) = 1 - fE f ∧ 2 * fE f + 1 = (oV f : Int) ∧ 0 ≤ fE f ∧ fE f ≤ 16383 ∧ fP f = (pV f : Int) + 1 ∧ lx f = 1 - fE f - fP f + 1 ∧ pV f < 128 ∧ -16494 ≤ lx f ∧ lx f ≤ 0 := by
  rcases hf with rfl | rfl | rfl | rfl <;> decide +kernel
end Go.Proofs.YtkmlbjlaahcahaaGreatDoor
namespace Go.Proofs.YtkmlbjlaahcahaaGreatDoor
set_option maxRecDepth 100000
open Go.RowKit WMath
set_option linter.unusedSimpArgs false
set_option linter.unusedVariables false

theorem lt_128 {s : Nat} (hs : s < Q) : (wd s 0 + 18446744073709551616 * wd s 1 = s) ↔ s < 340282366920938463463374607431768211456 := by
  constructor
  · intro h
    have := wd_lt s 0
    have := wd_lt s 1
    omega
  · intro h
    rw [(wd01 h).1, (wd01 h).2]; omega
theorem ktobits_one (s u v : Nat) (hs : s < Q) (huv : bv7 (toB s) = (u, v)) : ∃ o, ∀ w, Calls Tryz.prog 119 #[.agg (cw 6 s)] w fun r w' => r = .returned (.tuple #[.agg #[.int .u64 (u : Nat), .int .u64 (v : Nat)], .bool o]) ∧ Below w.heap.size w w' := by
  unfold toB bv7 at huv
  by_cases h : s < 340282366920938463463374607431768211456
  · rw [if_pos h] at huv
    injection huv with h1 h2
    refine ⟨true, fun w => ?_⟩
    have k := wtobits_yes s hs ((lt_128 hs).2 h) w
    rw [(wd01 h).1, (wd01 h).2, h1, h2] at k
    exact k
  · rw [if_neg h] at huv
    injection huv with h1 h2
    refine ⟨false, fun w => ?_⟩
    have k := wtobits_no s hs (fun e => h ((lt_128 hs).1 e)) w
    rw [← h1, ← h2]
    exact k
theorem toB_lt (s : Nat) : toB s < 340282366920938463463374607431768211456 := by unfold toB; split <;> omega
theorem plN_lt (f : Int) (u : Nat) : plN f u < 340282366920938463463374607431768211456 := by
  unfold plN
  split
  · exact Nat.mod_lt _ (by decide)
  · exact Nat.lt_trans (Nat.mod_lt _ (by decide)) (by decide)
set_option maxHeartbeats 1000000 in
theorem kfinite_is (f : Int) (hf : Is4 f) (s a b : Nat) (X : Int) (hs : s < Q) (x1 : -9223372036854775808 ≤ X) (x2 : X ≤ 9223372036854775807) (hv : bv7 (fb f s X) = (a, b)) (w : World) (hT : FAt w) :
    Calls Tryz.prog 54 #[.int .u8 f, .agg (cw 6 s), .int .i64 X] w fun r w' => r = .returned (.agg #[.int .u64 (a : Nat), .int .u64 (b : Nat)]) ∧ Below w.heap.size w w' := by
  have hat := cw_at 6
  have hz := cw6z
  have hff := cw6f
  have hs0 := st0
  have hcs : ∀ x, ((cw 6 x).size = 6) = True := fun x => eq_true (cw_size 6 x)
  obtain ⟨u, v, huv⟩ : ∃ u v, bv7 (toB s) = (u, v) := ⟨_, _, rfl⟩
  obtain ⟨o, ho⟩ := ktobits_one s u v hs huv
  have K1 := box ho
  obtain ⟨u1, v1, uv⟩ := bv_lt (toB_lt s) huv
  have K2 := box (fun w hT => kleast_is f hf (lx f) rfl w hT)
  obtain ⟨_, _, _, p4, _⟩ := pV_lim hf
  obtain ⟨_, _, l3, l4, _⟩ := lx_lim hf
  have K3 := box (fun w hT => kfw f hf (pV f) rfl w hT)
  obtain ⟨c, d, hcd⟩ : ∃ u v, bv7 (plN f (u64w (X - lx f))) = (u, v) := ⟨_, _, rfl⟩
  have ul : u64w (X - lx f) < 18446744073709551616 := by unfold u64w; omega
  have K4 := box (kplaced_is (u64w (X - lx f)) (pV f) c d ul p4 (by rw [plG_is hf]; exact hcd))
  obtain ⟨c1, d1, cd⟩ := bv_lt (plN_lt f _) hcd
  have K5 := box (kplus_is c d u v _ _ a b c1 d1 cd u1 v1 uv hv)
  have e1 : IntKind.u64.wrap (IntKind.i64.wrap (X - lx f)) = (u64w (X - lx f) : Int) := by
    unfold u64w
    rw [IntKind.wrap_u64, IntKind.wrap_i64]
    omega
  obtain ⟨L, hL⟩ : ∃ q, lx f = q := ⟨_, rfl⟩
  rw [hL] at K2 K4 e1
  obtain ⟨U, hU⟩ : ∃ q, u64w (X - L) = q := ⟨_, rfl⟩
  rw [hU] at K4 e1
  obtain ⟨P, hP⟩ : ∃ q, pV f = q := ⟨_, rfl⟩
  rw [hP] at K3 K4
  have TT := box hT
  clear hT hf hs x1 x2 hv huv ho u1 v1 uv p4 l3 l4 hcd ul c1 d1 cd hL hU hP
  obtain ⟨Rs_0, Rz_0, B0⟩ := kopn2 w (Obj.cells (cw 6 s) 53) (Obj.cells #[.int .u64 0, .int .u64 0] 25)
  go_enter Tryz.func54, Tryz.ntmps54
  go_wp2_with fail
  refine (K1.out _).mono ?_
  rintro r w1 ⟨rfl, b1⟩
  have B1 : Below w.heap.size w w1 := btr7 B0 b1
  have Rs_1 := heap_of b1 _ _ _ Rs_0
  have Rz_1 := heap_of b1 _ _ _ Rz_0
  clear b1 B0 Rs_0 Rz_0
  have cs_1_0 := row_cell Rs_1
  obtain ⟨cz_1_0, cz_1_1⟩ := cell7t Rz_1
  have S2 := box B1.size
  have Ls_2 : Box (w.heap.size < w1.heap.size) := box (Array.getElem?_eq_some_iff.1 Rs_1).1
  have Lz_2 : Box (w.heap.size + 1 < w1.heap.size) := box (Array.getElem?_eq_some_iff.1 Rz_1).1
  have Rlow_2 := heap_alloc_last w1 (Obj.cells #[.int .u64 (u : Nat), .int .u64 (v : Nat)] 25)
  have B2 := btr7 B1 (bal7 w1 (Obj.cells #[.int .u64 (u : Nat), .int .u64 (v : Nat)] 25))
  have Rs_2 := heap_of (bal7 w1 (Obj.cells #[.int .u64 (u : Nat), .int .u64 (v : Nat)] 25)) _ _ _ Rs_1
  have Rz_2 := heap_of (bal7 w1 (Obj.cells #[.int .u64 (u : Nat), .int .u64 (v : Nat)] 25)) _ _ _ Rz_1
  clear B1 Rs_1 cs_1_0 Rz_1 cz_1_0 cz_1_1
  have cs_2_0 := row_cell Rs_2
  obtain ⟨cz_2_0, cz_2_1⟩ := cell7t Rz_2
  obtain ⟨clow_2_0, clow_2_1⟩ := cell7t Rlow_2
  have sS : Box (∀ W W1 : World, (Below w.heap.size w W ∧ W.heap[w.heap.size]? = some (Obj.cells (cw 6 s) 53) ∧ W.heap[w1.heap.size]? = some (Obj.cells #[.int .u64 (u : Nat), .int .u64 (v : Nat)] 25) ∧ W.cell? ⟨w.heap.size, 0, none⟩ = some (.int .u64 ((wd s 0 : Nat) : Int)) ∧ W.cell? ⟨w.heap.size, 1, none⟩ = some (.int .u64 ((wd s 1 : Nat) : Int)) ∧ W.cell? ⟨w.heap.size, 2, none⟩ = some (.int .u64 ((wd s 2 : Nat) : Int)) ∧ W.cell? ⟨w.heap.size, 3, none⟩ = some (.int .u64 ((wd s 3 : Nat) : Int)) ∧ W.cell? ⟨w.heap.size, 4, none⟩ = some (.int .u64 ((wd s 4 : Nat) : Int)) ∧ W.cell? ⟨w.heap.size, 5, none⟩ = some (.int .u64 ((wd s 5 : Nat) : Int)) ∧ W.cell? ⟨w1.heap.size, 0, none⟩ = some (.int .u64 (u : Nat)) ∧ W.cell? ⟨w1.heap.size, 1, none⟩ = some (.int .u64 (v : Nat))) → Below W.heap.size W W1 → (Below w.heap.size w W1 ∧ W1.heap[w.heap.size]? = some (Obj.cells (cw 6 s) 53) ∧ W1.heap[w1.heap.size]? = some (Obj.cells #[.int .u64 (u : Nat), .int .u64 (v : Nat)] 25) ∧ W1.cell? ⟨w.heap.size, 0, none⟩ = some (.int .u64 ((wd s 0 : Nat) : Int)) ∧ W1.cell? ⟨w.heap.size, 1, none⟩ = some (.int .u64 ((wd s 1 : Nat) : Int)) ∧ W1.cell? ⟨w.heap.size, 2, none⟩ = some (.int .u64 ((wd s 2 : Nat) : Int)) ∧ W1.cell? ⟨w.heap.size, 3, none⟩ = some (.int .u64 ((wd s 3 : Nat) : Int)) ∧ W1.cell? ⟨w.heap.size, 4, none⟩ = some (.int .u64 ((wd s 4 : Nat) : Int)) ∧ W1.cell? ⟨w.heap.size, 5, none⟩ = some (.int .u64 ((wd s 5 : Nat) : Int)) ∧ W1.cell? ⟨w1.heap.size, 0, none⟩ = some (.int .u64 (u : Nat)) ∧ W1.cell? ⟨w1.heap.size, 1, none⟩ = some (.int .u64 (v : Nat)))) := box (fun W W1 h b => ⟨btr7 h.1 b, heap_of b _ _ _ h.2.1, heap_of b _ _ _ h.2.2.1, row_cell (heap_of b _ _ _ h.2.1) 0 (by decide), row_cell (heap_of b _ _ _ h.2.1) 1 (by decide), row_cell (heap_of b _ _ _ h.2.1) 2 (by decide), row_cell (heap_of b _ _ _ h.2.1) 3 (by decide), row_cell (heap_of b _ _ _ h.2.1) 4 (by decide), row_cell (heap_of b _ _ _ h.2.1) 5 (by decide), cell7 (heap_of b _ _ _ h.2.2.1) 0 _ rfl, cell7 (heap_of b _ _ _ h.2.2.1) 1 _ rfl⟩)
  have sT : Box (∀ (W : World) (xA xB : Value), (Below w.heap.size w W ∧ W.heap[w.heap.size]? = some (Obj.cells (cw 6 s) 53) ∧ W.heap[w1.heap.size]? = some (Obj.cells #[.int .u64 (u : Nat), .int .u64 (v : Nat)] 25) ∧ W.cell? ⟨w.heap.size, 0, none⟩ = some (.int .u64 ((wd s 0 : Nat) : Int)) ∧ W.cell? ⟨w.heap.size, 1, none⟩ = some (.int .u64 ((wd s 1 : Nat) : Int)) ∧ W.cell? ⟨w.heap.size, 2, none⟩ = some (.int .u64 ((wd s 2 : Nat) : Int)) ∧ W.cell? ⟨w.heap.size, 3, none⟩ = some (.int .u64 ((wd s 3 : Nat) : Int)) ∧ W.cell? ⟨w.heap.size, 4, none⟩ = some (.int .u64 ((wd s 4 : Nat) : Int)) ∧ W.cell? ⟨w.heap.size, 5, none⟩ = some (.int .u64 ((wd s 5 : Nat) : Int)) ∧ W.cell? ⟨w1.heap.size, 0, none⟩ = some (.int .u64 (u : Nat)) ∧ W.cell? ⟨w1.heap.size, 1, none⟩ = some (.int .u64 (v : Nat))) → (Below w.heap.size w ((W.setCell ⟨w.heap.size + 1, 0, none⟩ xA).setCell ⟨w.heap.size + 1, 1, none⟩ xB) ∧ ((W.setCell ⟨w.heap.size + 1, 0, none⟩ xA).setCell ⟨w.heap.size + 1, 1, none⟩ xB).heap[w.heap.size]? = some (Obj.cells (cw 6 s) 53) ∧ ((W.setCell ⟨w.heap.size + 1, 0, none⟩ xA).setCell ⟨w.heap.size + 1, 1, none⟩ xB).heap[w1.heap.size]? = some (Obj.cells #[.int .u64 (u : Nat), .int .u64 (v : Nat)] 25) ∧ ((W.setCell ⟨w.heap.size + 1, 0, none⟩ xA).setCell ⟨w.heap.size + 1, 1, none⟩ xB).cell? ⟨w.heap.size, 0, none⟩ = some (.int .u64 ((wd s 0 : Nat) : Int)) ∧ ((W.setCell ⟨w.heap.size + 1, 0, none⟩ xA).setCell ⟨w.heap.size + 1, 1, none⟩ xB).cell? ⟨w.heap.size, 1, none⟩ = some (.int .u64 ((wd s 1 : Nat) : Int)) ∧ ((W.setCell ⟨w.heap.size + 1, 0, none⟩ xA).setCell ⟨w.heap.size + 1, 1, none⟩ xB).cell? ⟨w.heap.size, 2, none⟩ = some (.int .u64 ((wd s 2 : Nat) : Int)) ∧ ((W.setCell ⟨w.heap.size + 1, 0, none⟩ xA).setCell ⟨w.heap.size + 1, 1, none⟩ xB).cell? ⟨w.heap.size, 3, none⟩ = some (.int .u64 ((wd s 3 : Nat) : Int)) ∧ ((W.setCell ⟨w.heap.size + 1, 0, none⟩ xA).setCell ⟨w.heap.size + 1, 1, none⟩ xB).cell? ⟨w.heap.size, 4, none⟩ = some (.int .u64 ((wd s 4 : Nat) : Int)) ∧ ((W.setCell ⟨w.heap.size + 1, 0, none⟩ xA).setCell ⟨w.heap.size + 1, 1, none⟩ xB).cell? ⟨w.heap.size, 5, none⟩ = some (.int .u64 ((wd s 5 : Nat) : Int)) ∧ ((W.setCell ⟨w.heap.size + 1, 0, none⟩ xA).setCell ⟨w.heap.size + 1, 1, none⟩ xB).cell? ⟨w1.heap.size, 0, none⟩ = some (.int .u64 (u : Nat)) ∧ ((W.setCell ⟨w.heap.size + 1, 0, none⟩ xA).setCell ⟨w.heap.size + 1, 1, none⟩ xB).cell? ⟨w1.heap.size, 1, none⟩ = some (.int .u64 (v : Nat)))) := box (fun W xA xB h => ⟨set2_below h.1 (by first | exact Nat.le_refl _ | omega | (have := S2.out; have := Ls_2.out; have := Lz_2.out; omega)) xA xB, (setCell_other (by first | omega | (have := S2.out; have := Ls_2.out; have := Lz_2.out; omega))).trans ((setCell_other (by first | omega | (have := S2.out; have := Ls_2.out; have := Lz_2.out; omega))).trans h.2.1), (setCell_other (by first | omega | (have := S2.out; have := Ls_2.out; have := Lz_2.out; omega))).trans ((setCell_other (by first | omega | (have := S2.out; have := Ls_2.out; have := Lz_2.out; omega))).trans h.2.2.1), row_cell ((setCell_other (by first | omega | (have := S2.out; have := Ls_2.out; have := Lz_2.out; omega))).trans ((setCell_other (by first | omega | (have := S2.out; have := Ls_2.out; have := Lz_2.out; omega))).trans h.2.1)) 0 (by decide), row_cell ((setCell_other (by first | omega | (have := S2.out; have := Ls_2.out; have := Lz_2.out; omega))).trans ((setCell_other (by first | omega | (have := S2.out; have := Ls_2.out; have := Lz_2.out; omega))).trans h.2.1)) 1 (by decide), row_cell ((setCell_other (by first | omega | (have := S2.out; have := Ls_2.out; have := Lz_2.out; omega))).trans ((setCell_other (by first | omega | (have := S2.out; have := Ls_2.out; have := Lz_2.out; omega))).trans h.2.1)) 2 (by decide), row_cell ((setCell_other (by first | omega | (have := S2.out; have := Ls_2.out; have := Lz_2.out; omega))).trans ((setCell_other (by first | omega | (have := S2.out; have := Ls_2.out; have := Lz_2.out; omega))).trans h.2.1)) 3 (by decide), row_cell ((setCell_other (by first | omega | (have := S2.out; have := Ls_2.out; have := Lz_2.out; omega))).trans ((setCell_other (by first | omega | (have := S2.out; have := Ls_2.out; have := Lz_2.out; omega))).trans h.2.1)) 4 (by decide), row_cell ((setCell_other (by first | omega | (have := S2.out; have := Ls_2.out; have := Lz_2.out; omega))).trans ((setCell_other (by first | omega | (have := S2.out; have := Ls_2.out; have := Lz_2.out; omega))).trans h.2.1)) 5 (by decide), cell7 ((setCell_other (by first | omega | (have := S2.out; have := Ls_2.out; have := Lz_2.out; omega))).trans ((setCell_other (by first | omega | (have := S2.out; have := Ls_2.out; have := Lz_2.out; omega))).trans h.2.2.1)) 0 _ rfl, cell7 ((setCell_other (by first | omega | (have := S2.out; have := Ls_2.out; have := Lz_2.out; omega))).trans ((setCell_other (by first | omega | (have := S2.out; have := Ls_2.out; have := Lz_2.out; omega))).trans h.2.2.1)) 1 _ rfl⟩)
  have s0 : Below w.heap.size w ((w1.alloc (Obj.cells #[.int .u64 (u : Nat), .int .u64 (v : Nat)] 25))).drew ∧ ((w1.alloc (Obj.cells #[.int .u64 (u : Nat), .int .u64 (v : Nat)] 25))).drew.heap[w.heap.size]? = some (Obj.cells (cw 6 s) 53) ∧ ((w1.alloc (Obj.cells #[.int .u64 (u : Nat), .int .u64 (v : Nat)] 25))).drew.heap[w1.heap.size]? = some (Obj.cells #[.int .u64 (u : Nat), .int .u64 (v : Nat)] 25) ∧ ((w1.alloc (Obj.cells #[.int .u64 (u : Nat), .int .u64 (v : Nat)] 25))).drew.cell? ⟨w.heap.size, 0, none⟩ = some (.int .u64 ((wd s 0 : Nat) : Int)) ∧ ((w1.alloc (Obj.cells #[.int .u64 (u : Nat), .int .u64 (v : Nat)] 25))).drew.cell? ⟨w.heap.size, 1, none⟩ = some (.int .u64 ((wd s 1 : Nat) : Int)) ∧ ((w1.alloc (Obj.cells #[.int .u64 (u : Nat), .int .u64 (v : Nat)] 25))).drew.cell? ⟨w.heap.size, 2, none⟩ = some (.int .u64 ((wd s 2 : Nat) : Int)) ∧ ((w1.alloc (Obj.cells #[.int .u64 (u : Nat), .int .u64 (v : Nat)] 25))).drew.cell? ⟨w.heap.size, 3, none⟩ = some (.int .u64 ((wd s 3 : Nat) : Int)) ∧ ((w1.alloc (Obj.cells #[.int .u64 (u : Nat), .int .u64 (v : Nat)] 25))).drew.cell? ⟨w.heap.size, 4, none⟩ = some (.int .u64 ((wd s 4 : Nat) : Int)) ∧ ((w1.alloc (Obj.cells #[.int .u64 (u : Nat), .int .u64 (v : Nat)] 25))).drew.cell? ⟨w.heap.size, 5, none⟩ = some (.int .u64 ((wd s 5 : Nat) : Int)) ∧ ((w1.alloc (Obj.cells #[.int .u64 (u : Nat), .int .u64 (v : Nat)] 25))).drew.cell? ⟨w1.heap.size, 0, none⟩ = some (.int .u64 (u : Nat)) ∧ ((w1.alloc (Obj.cells #[.int .u64 (u : Nat), .int .u64 (v : Nat)] 25))).drew.cell? ⟨w1.heap.size, 1, none⟩ = some (.int .u64 (v : Nat)) := ⟨B2.drew, Rs_2, Rlow_2, row_cell (Rs_2) 0 (by decide), row_cell (Rs_2) 1 (by decide), row_cell (Rs_2) 2 (by decide), row_cell (Rs_2) 3 (by decide), row_cell (Rs_2) 4 (by decide), row_cell (Rs_2) 5 (by decide), cell7 (Rlow_2) 0 _ rfl, cell7 (Rlow_2) 1 _ rfl⟩
  have rz : ((w1.alloc (Obj.cells #[.int .u64 (u : Nat), .int .u64 (v : Nat)] 25))).drew.heap[w.heap.size + 1]? = some (Obj.cells #[.int .u64 0, .int .u64 0] 25) := Rz_2
  have hq0 := fz (k := 0) rz
  have hq1 := fz (k := 1) rz
  have hc0 := cell7 rz 0 _ rfl
  have hc1 := cell7 rz 1 _ rfl
  go_wp2_with fail
  go_region_held3 (fun W => Below w.heap.size w W ∧ W.heap[w.heap.size]? = some (Obj.cells (cw 6 s) 53) ∧ W.heap[w1.heap.size]? = some (Obj.cells #[.int .u64 (u : Nat), .int .u64 (v : Nat)] 25) ∧ W.cell? ⟨w.heap.size, 0, none⟩ = some (.int .u64 ((wd s 0 : Nat) : Int)) ∧ W.cell? ⟨w.heap.size, 1, none⟩ = some (.int .u64 ((wd s 1 : Nat) : Int)) ∧ W.cell? ⟨w.heap.size, 2, none⟩ = some (.int .u64 ((wd s 2 : Nat) : Int)) ∧ W.cell? ⟨w.heap.size, 3, none⟩ = some (.int .u64 ((wd s 3 : Nat) : Int)) ∧ W.cell? ⟨w.heap.size, 4, none⟩ = some (.int .u64 ((wd s 4 : Nat) : Int)) ∧ W.cell? ⟨w.heap.size, 5, none⟩ = some (.int .u64 ((wd s 5 : Nat) : Int)) ∧ W.cell? ⟨w1.heap.size, 0, none⟩ = some (.int .u64 (u : Nat)) ∧ W.cell? ⟨w1.heap.size, 1, none⟩ = some (.int .u64 (v : Nat))) (first | exact s1 | exact s0 | exact sT.out _ _ _ s1 | exact sT.out _ _ _ s0)
    (first | (go_at_call 121; (first | refine (K2.out _ (fatB TT.out (And.left s1))).mono ?_ | refine (K2.out _ (fatB TT.out (And.left s0))).mono ?_); rintro r wq ⟨rfl, bq⟩; have s1 := (by first | exact sS.out _ _ s1 bq | exact sS.out _ _ s0 bq); have rz := heap_of bq _ _ _ rz; have hq0 := fz (k := 0) rz; have hq1 := fz (k := 1) rz; have hc0 := cell7 rz 0 _ rfl; have hc1 := cell7 rz 1 _ rfl; clear bq) | (go_at_call 122; (first | refine (K3.out _ (fatB TT.out (And.left s1))).mono ?_ | refine (K3.out _ (fatB TT.out (And.left s0))).mono ?_); rintro r wq ⟨rfl, bq⟩; have s1 := (by first | exact sS.out _ _ s1 bq | exact sS.out _ _ s0 bq); have rz := heap_of bq _ _ _ rz; have hq0 := fz (k := 0) rz; have hq1 := fz (k := 1) rz; have hc0 := cell7 rz 0 _ rfl; have hc1 := cell7 rz 1 _ rfl; clear bq) | (go_at_call 120; (first | refine (K4.out _).mono ?_ | refine (K4.out _).mono ?_); rintro r wq ⟨rfl, bq⟩; have s1 := (by first | exact sS.out _ _ s1 bq | exact sS.out _ _ s0 bq); have rz := heap_of bq _ _ _ rz; have hq0 := fz (k := 0) rz; have hq1 := fz (k := 1) rz; have hc0 := cell7 rz 0 _ rfl; have hc1 := cell7 rz 1 _ rfl; clear bq) | (go_at_call 80; (first | refine (K5.out _).mono ?_ | refine (K5.out _).mono ?_); rintro r wq ⟨rfl, bq⟩; have s1 := (by first | exact sS.out _ _ s1 bq | exact sS.out _ _ s0 bq); have rz := heap_of bq _ _ _ rz; have hq0 := fz (k := 0) rz; have hq1 := fz (k := 1) rz; have hc0 := cell7 rz 0 _ rfl; have hc1 := cell7 rz 1 _ rfl; clear bq) | fail)
  obtain ⟨E0, E1⟩ := set2_cells rz (.int .u64 (a : Nat)) (.int .u64 (b : Nat))
  have BZ := (by first | exact And.left s1 | exact And.left s0 : Below w.heap.size w _)
  go_wp2
  exact bodyPost_ret (v := .agg #[.int .u64 (a : Nat), .int .u64 (b : Nat)]) (by simp [results, Tryz.results54, go_sem, E0, E1]) rfl ⟨rfl, set2_below BZ (by first | exact Nat.le_refl _ | omega | (have := S2.out; have := Ls_2.out; have := Lz_2.out; omega)) _ _⟩
end Go.Proofs.YtkmlbjlaahcahaaGreatDoor
namespace Go.Proofs.YtkmlbjlaahcahaaGreatDoor.WMath
set_option maxRecDepth 100000

/-- The guess at a digit, out of the highest words. -/
def gs (hi lo top : Nat) : Nat := if hi < top then (hi * 18446744073709551616 + lo) / top else 18446744073709551615
theorem gs_lt (hi lo top : Nat) (hl : lo < 18446744073709551616) : gs hi lo top < 18446744073709551616 := by
  unfold gs
  split
  · rename_i h
    apply Nat.div_lt_of_lt_mul
    have : (hi + 1) * 18446744073709551616 ≤ top * 18446744073709551616 := Nat.mul_le_mul_right _ h
    omega
  · omega
theorem div_top (V m : Nat) (hV : V < 2 ^ (64 * (m + 1))) : V / 2 ^ (64 * m) = wd V m := by
  unfold wd
  rw [Nat.mod_eq_of_lt]
  apply Nat.div_lt_of_lt_mul
  rw [← pow64]
  exact hV
theorem div_top2 (V m : Nat) (hV : V < 2 ^ (64 * (m + 2))) : V / 2 ^ (64 * m) = wd V (m + 1) * 18446744073709551616 + wd V m := by
  have h1 := div_top V (m + 1) hV
  rw [pow64, ← Nat.div_div_eq_div_mul] at h1
  have h2 : wd V m = V / 2 ^ (64 * m) % 18446744073709551616 := rfl
  omega
theorem gs_ge (V b m hi lo top : Nat) (hV : V < 2 ^ (64 * (m + 2))) (hb : b < 2 ^ (64 * (m + 1))) (hlt : V < 18446744073709551616 * b) (h1 : wd V (m + 1) = hi) (h2 : wd V m = lo) (h3 : wd b m = top) : V / b ≤ gs hi lo top := by
  unfold gs
  split
  · rename_i h
    have e1 := div_top2 V m hV
    have e2 := div_top b m hb
    rw [h1, h2] at e1
    rw [h3] at e2
    rw [← e1]
    have htop : 0 < top := by omega
    rw [Nat.le_div_iff_mul_le htop, Nat.le_div_iff_mul_le (Nat.two_pow_pos _)]
    have h4 : top * 2 ^ (64 * m) ≤ b := by rw [← e2]; exact Nat.div_mul_le_self _ _
    have h5 : V / b * (top * 2 ^ (64 * m)) ≤ V / b * b := Nat.mul_le_mul_left _ h4
    have h6 : V / b * b ≤ V := Nat.div_mul_le_self _ _
    rw [Nat.mul_assoc]
    omega
  · have hb0 : 0 < b := by
      by_cases e : b = 0
      · rw [e] at hlt; omega
      · omega
    have : V / b < 18446744073709551616 := Nat.div_lt_of_lt_mul (by rw [Nat.mul_comm]; exact hlt)
    omega

/-- What a digit's rounds keep: t times b were taken. -/
def DigSt (V b P t S : Nat) (u : Bool) : Prop := V / b ≤ t ∧ S + t * b = V + P * u.toNat ∧ S < P
theorem digSt_end {V b P t S : Nat} (h : DigSt V b P t S false) (hb : 0 < b) : t = V / b ∧ S = V % b := by
  obtain ⟨h1, h2, _⟩ := h
  rw [Bool.toNat_false, Nat.mul_zero, Nat.add_zero] at h2
  have h3 : t ≤ V / b := (Nat.le_div_iff_mul_le hb).2 (by omega)
  have e : t = V / b := by omega
  refine ⟨e, ?_⟩
  have := Nat.div_add_mod V b
  rw [← e, Nat.mul_comm] at this
  omega
theorem digSt_start (V b P t S : Nat) (u : Bool) (h1 : V / b ≤ t) (h2 : S + b * t = V + P * u.toNat) (h3 : S < P) : DigSt V b P t S u := ⟨h1, by rw [Nat.mul_comm t b]; exact h2, h3⟩
theorem digSt_next {V b P t S : Nat} (h : DigSt V b P t S true) (hb : 0 < b) (hbP : b < P) : 0 < t ∧ DigSt V b P (t - 1) ((S + b * 1) % P) (!decide (P ≤ S + b * 1)) := by
  obtain ⟨h1, h2, h3⟩ := h
  rw [Bool.toNat_true, Nat.mul_one] at h2
  have ht : V < t * b := by omega
  have h4 : V / b < t := (Nat.div_lt_iff_lt_mul hb).2 ht
  have t0 : 0 < t := Nat.pos_of_ne_zero (fun e => by rw [e, Nat.zero_mul] at ht; omega)
  have h6 : V / b ≤ t - 1 := Nat.le_sub_one_of_lt h4
  clear h1 h4
  have h5 : (t - 1) * b + b = t * b := by
    have : t - 1 + 1 = t := by omega
    rw [← Nat.succ_mul, Nat.succ_eq_add_one, this]
  refine ⟨t0, h6, ?_, Nat.mod_lt _ (by omega)⟩
  rw [Nat.mul_one]
  by_cases e : P ≤ S + b
  · rw [decide_eq_true e, Nat.mod_eq_sub_mod e, Nat.mod_eq_of_lt (by omega)]
    simp only [Bool.not_true, Bool.toNat_false]
    omega
  · rw [decide_eq_false e, Nat.mod_eq_of_lt (by omega)]
    simp only [Bool.not_false, Bool.toNat_true]
    omega

/-- What long division keeps: what is left below b times a power, and the digits so far. -/
def LdSt (A b i X q : Nat) : Prop := X < b * 2 ^ (64 * i) ∧ X + b * q = A ∧ q % 2 ^ (64 * i) = 0
theorem ldSt_next {A b i X q M V : Nat} (h : LdSt A b (i + 1) X q) (hb : b < 2 ^ (64 * M)) (hb0 : 0 < b) (hV : vw X i (M + 1) = V) :
    V < 18446744073709551616 * b ∧ V / b < 18446744073709551616 ∧ LdSt A b i (putw X i (M + 1) (V % b)) (q + 2 ^ (64 * i) * (V / b)) := by
  obtain ⟨h1, h2, h3⟩ := h
  have hX : X < 2 ^ (64 * (i + (M + 1))) := by
    have e : b * 2 ^ (64 * (i + 1)) ≤ 2 ^ (64 * M) * 2 ^ (64 * (i + 1)) := Nat.mul_le_mul_right _ (Nat.le_of_lt hb)
    rw [← Nat.pow_add, show 64 * M + 64 * (i + 1) = 64 * (i + (M + 1)) by omega] at e
    omega
  have eV : V = X / 2 ^ (64 * i) := by rw [← hV]; exact vw_top X i (M + 1) hX
  have hVb : V < 18446744073709551616 * b := by
    rw [eV]
    apply Nat.div_lt_of_lt_mul
    rw [pow64] at h1
    rw [← Nat.mul_assoc, Nat.mul_comm _ b]
    exact h1
  have hq : V / b < 18446744073709551616 := Nat.div_lt_of_lt_mul (by rw [Nat.mul_comm]; exact hVb)
  refine ⟨hVb, hq, ?_⟩
  rw [putw_top X i (M + 1) _ hX]
  have d1 := Nat.div_add_mod X (2 ^ (64 * i))
  have d2 := Nat.div_add_mod V b
  have d3 := Nat.mod_lt X (Nat.two_pow_pos (64 * i))
  have d4 := Nat.mod_lt V hb0
  rw [← eV] at d1
  have d5 : 2 ^ (64 * i) * V = 2 ^ (64 * i) * (b * (V / b)) + 2 ^ (64 * i) * (V % b) := by rw [← Nat.mul_add, d2]
  have d6 : 2 ^ (64 * i) * (b * (V / b)) = b * (2 ^ (64 * i) * (V / b)) := by rw [Nat.mul_left_comm]
  have d7 : 2 ^ (64 * i) * (V % b + 1) ≤ 2 ^ (64 * i) * b := Nat.mul_le_mul_left _ d4
  rw [Nat.mul_add, Nat.mul_one] at d7
  refine ⟨by rw [Nat.mul_comm b]; omega, by rw [Nat.mul_add]; omega, ?_⟩
  rw [Nat.add_mul_mod_self_left]
  rw [pow64] at h3
  have h4 := Nat.mod_mod_of_dvd q (Nat.dvd_mul_right (2 ^ (64 * i)) 18446744073709551616)
  rw [h3, Nat.zero_mod] at h4
  exact h4.symm
theorem ldSt_end {A b X q : Nat} (h : LdSt A b 0 X q) (hb : 0 < b) : q = A / b ∧ X = A % b := by
  obtain ⟨h1, h2, _⟩ := h
  rw [Nat.mul_zero, Nat.pow_zero, Nat.mul_one] at h1
  have e : q = A / b := by
    apply Nat.le_antisymm
    · rw [Nat.le_div_iff_mul_le hb, Nat.mul_comm]; omega
    · have : A / b < q + 1 := by
        rw [Nat.div_lt_iff_lt_mul hb, Nat.add_mul, Nat.mul_comm q b]
        omega
      omega
  refine ⟨e, ?_⟩
  have := Nat.div_add_mod A b
  rw [← e] at this
  omega
/-- The start: as many digits as the lengths leave. -/
theorem ldSt_start (a b n L M K : Nat) (ha : a < 2 ^ (64 * L)) (hb : 2 ^ (64 * M - 1) ≤ b * 2 ^ n) (hb2 : 2 ^ (64 * (M - 1)) ≤ b) (hM : 0 < M) (hn : n < 64) (hK : K = L + 1 - M) : LdSt (a * 2 ^ n) (b * 2 ^ n) K (a * 2 ^ n) 0 := by
  refine ⟨?_, by omega, Nat.zero_mod _⟩
  by_cases h : M ≤ L
  · have h1 : a * 2 ^ n < 2 ^ (64 * L) * 2 ^ n := Nat.mul_lt_mul_of_pos_right ha (Nat.two_pow_pos _)
    have h2 : 2 ^ (64 * M - 1) * 2 ^ (64 * K) ≤ b * 2 ^ n * 2 ^ (64 * K) := Nat.mul_le_mul_right _ hb
    rw [← Nat.pow_add] at h1 h2
    have h3 : 2 ^ (64 * L + n) ≤ 2 ^ (64 * M - 1 + 64 * K) := Nat.pow_le_pow_right (by decide) (by omega)
    omega
  · have hK0 : K = 0 := by omega
    rw [hK0, Nat.mul_zero, Nat.pow_zero, Nat.mul_one]
    apply Nat.mul_lt_mul_of_pos_right _ (Nat.two_pow_pos _)
    have h3 : 2 ^ (64 * L) ≤ 2 ^ (64 * (M - 1)) := pow64_le _ _ (by omega)
    omega
end Go.Proofs.YtkmlbjlaahcahaaGreatDoor.WMath
namespace Go.Proofs.YtkmlbjlaahcahaaGreatDoor
set_option maxRecDepth 100000
open Go.RowKit WMath

theorem div_no (hi lo d : Nat) (hh : d ≤ hi) (w : World) :
    Calls Tryz.prog 275 #[.int .u64 hi, .int .u64 lo, .int .u64 d] w fun e w' => e = .returned (.tuple #[.int .u64 0, .int .u64 0, .int .i64 2]) ∧ w' = w := by
  go_enter Tryz.func275, Tryz.ntmps275
  go_wp2
  refine wp_scope_jumps 0 (fun _ _ => False) (fun _ _ => 0) rfl ?_ (fun _ _ h => h.elim)
  go_wp2
  simp only [Exit.jump]
  go_ret3
  exact ⟨rfl, rfl⟩

end Go.Proofs.YtkmlbjlaahcahaaGreatDoor
namespace Go.Proofs.YtkmlbjlaahcahaaGreatDoor
set_option maxRecDepth 100000
open Go.RowKit WMath

theorem div_is (hi lo d q r : Nat) (hh : hi < d) (hl : lo < 18446744073709551616) (hd : d < 18446744073709551616) (hq : (hi * 18446744073709551616 + lo) / d = q) (hr : (hi * 18446744073709551616 + lo) % d = r) (w : World) :
    Calls Tryz.prog 275 #[.int .u64 hi, .int .u64 lo, .int .u64 d] w fun e w' => e = .returned (.tuple #[.int .u64 (q : Nat), .int .u64 (r : Nat), .int .i64 0]) ∧ w' = w := by
  subst hq hr; exact div_any hi lo d hh hl hd w
theorem l_guess (hi lo d q : Nat) (hl : lo < 18446744073709551616) (hd : d < 18446744073709551616) (hq : gs hi lo d = q) (w : World) :
    Calls Tryz.prog 255 #[.int .u64 hi, .int .u64 lo, .int .u64 d] w fun e w' => e = .returned (.int .u64 (q : Nat)) ∧ w' = w := by
  unfold gs at hq
  by_cases h : hi < d
  · rw [if_pos h] at hq
    have H := box (div_is hi lo d q _ h hl hd hq rfl)
    clear hq h
    go_enter Tryz.func255, Tryz.ntmps255
    go_wp2_with fail
    refine (H.out _).mono ?_
    rintro e w' ⟨rfl, rfl⟩
    go_wp2
    go_ret
    exact ⟨rfl, rfl⟩
  · rw [if_neg h] at hq
    subst hq
    have H := box (div_no hi lo d (by omega))
    clear h
    go_enter Tryz.func255, Tryz.ntmps255
    go_wp2_with fail
    refine (H.out _).mono ?_
    rintro e w' ⟨rfl, rfl⟩
    go_wp2
    go_ret
    exact ⟨rfl, rfl⟩

set_option maxRecDepth 100000 in
set_option maxHeartbeats 1000000 in
theorem l_digit (w : World) (g o m c N X : Nat) (T : TypeId) (row : w.heap[g]? = some (.cells (cw N X) T)) (hN : o + (m + 2) ≤ N) (q : Option Addr) (d b B : Nat) (hb : SL B w q (m + 1) d b) (hB : B ≤ g) (hm : m ≤ 50000) (V : Nat) (hV : vw X o (m + 2) = V) (hVb : V < 18446744073709551616 * b) (hb0 : 0 < b) (t : Nat) (ht : V / b = t) :
    Calls Tryz.prog 233 #[.slice (some ⟨g, o, none⟩) (m + 2) c, .slice q (m + 1) d] w fun r w' => r = .returned (.int .u64 (t : Nat)) ∧ w'.heap[g]? = some (.cells (cw N (putw X o (m + 2) (V % b))) T) ∧ Only g w w' := by
  obtain ⟨qb, qo, rfl, _⟩ := hb.ptr (by omega)
  obtain ⟨hi, hhi⟩ : ∃ x, wd V (m + 1) = x := ⟨_, rfl⟩
  obtain ⟨lo, hlo⟩ : ∃ x, wd V m = x := ⟨_, rfl⟩
  obtain ⟨top, htop⟩ : ∃ x, wd b m = x := ⟨_, rfl⟩
  obtain ⟨G, hG⟩ : ∃ G, gs hi lo top = G := ⟨_, rfl⟩
  have lo64 : lo < 18446744073709551616 := by rw [← hlo]; exact wd_lt _ _
  have top64 : top < 18446744073709551616 := by rw [← htop]; exact wd_lt _ _
  have VL : V < 2 ^ (64 * (m + 2)) := by rw [← hV]; exact vw_lt _ _ _
  have hge := gs_ge V b m hi lo top VL hb.1 hVb hhi hlo htop
  have G64 : G < 18446744073709551616 := by rw [← hG]; exact gs_lt hi lo top lo64
  rw [hG] at hge
  have c1 : w.cell? ⟨g, o + (m + 1), none⟩ = some (.int .u64 (hi : Nat)) := by
    rw [cell_of_row w g _ _ _ _ row, cw_at _ _ _ (by omega), ← hhi, ← hV, wd_vw _ _ _ _ (by omega)]
  have c2 : w.cell? ⟨g, o + m, none⟩ = some (.int .u64 (lo : Nat)) := by
    rw [cell_of_row w g _ _ _ _ row, cw_at _ _ _ (by omega), ← hlo, ← hV, wd_vw _ _ _ _ (by omega)]
  have c3 := hb.cell m top (by omega) htop
  have n1 : IntKind.i64.wrap ((m : Int) + 1) = (m : Int) + 1 := wrap_i64_is _ (by omega) (by omega)
  have n2 : IntKind.i64.wrap ((m : Int) + 1 - 1) = (m : Int) := by rw [wrap_i64_is _ (by omega) (by omega)]; omega
  have n3 : IntKind.i64.wrap (m : Int) = (m : Int) := wrap_i64_is _ (by omega) (by omega)
  have GS := box (l_guess hi lo top G lo64 top64 hG)
  have HV := box hV
  have HVB := box hVb
  have HT := box ht
  have HGE := box hge
  have HVL := box VL
  clear hhi hlo htop hG hV hVb ht hge VL
  go_enter Tryz.func233, Tryz.ntmps233
  go_wp2
  go_quiet ((go_at_call 255; exact (GS.out _).mono (fun _ _ h => ⟨h.1, _, h.2⟩)))
  go_wp2_with fail
  obtain ⟨P, hP⟩ : ∃ P, 2 ^ (64 * (m + 2)) = P := ⟨_, rfl⟩
  have bP : b < P := by rw [← hP]; exact Nat.lt_of_lt_of_le hb.1 (pow64_le _ _ (by omega))
  have bGP : b * G < P := by
    rw [← hP, show m + 2 = m + 1 + 1 by omega, pow64]
    exact Nat.mul_lt_mul_of_lt_of_le hb.1 (Nat.le_of_lt G64) (by decide)
  obtain ⟨u0, hu0⟩ : ∃ u, decide (V < b * G) = u := ⟨_, rfl⟩
  have hVP : V < P := by rw [← hP]; exact HVL.out
  obtain ⟨S0, hS0, hS0P⟩ : ∃ S, S + b * G = V + P * u0.toNat ∧ S < P := by
    by_cases e : V < b * G
    · rw [decide_eq_true e] at hu0
      subst hu0
      exact ⟨V + P - b * G, by rw [Bool.toNat_true]; omega, by omega⟩
    · rw [decide_eq_false e] at hu0
      subst hu0
      exact ⟨V - b * G, by rw [Bool.toNat_false]; omega, by omega⟩
  have sb : SL B (w.drewN nq) (some ⟨qb, qo, none⟩) (m + 1) d b := hb.below (below_drewN (Below.refl w.heap.size w) nq) (by have := (Array.getElem?_eq_some_iff.1 row).1; omega)
  have o0 : Only g w (w.drewN nq) := Only.ofBelow (below_drewN (Below.refl w.heap.size w) nq) (Nat.le_refl _)
  refine (l_takeFrom (w.drewN nq) g o (m + 2) c N X T row hN _ (m + 1) d b B sb hB G G64 (by omega) (by omega) (by rw [hP]; exact bGP) V S0 u0 HV.out hu0 (by rw [hP]; exact hS0)).mono ?_
  rintro e w1 ⟨rfl, r1, o1⟩
  have D0 : Box (DigSt V b P G S0 u0) := box (digSt_start V b P G S0 u0 HGE.out hS0 hS0P)
  have O1 := o0.trans o1
  clear hu0 hS0 c1 c2 c3 o0 o1 sb bGP hS0P n1 n2 n3
  go_wp2
  go_loopw [6, 7] (fun tv uv wr => ∃ (t S : Nat) (u : Bool), t < 18446744073709551616 ∧ tv = .int .u64 t ∧ uv = .bool u ∧ wr.heap[g]? = some (.cells (cw N (putw X o (m + 2) S)) T) ∧ Only g w wr ∧ Box (DigSt V b P t S u)) (fun tv _ _ => (intOf tv).toNat)
  case atStart => exact ⟨G, S0, u0, G64, rfl, rfl, r1, O1, D0⟩
  case round =>
    clear r1 O1 D0
    obtain ⟨y, S, u, y64, rfl, rfl, r2, o2, HD⟩ := hrel
    cases u
    · obtain ⟨e1, e2⟩ := digSt_end HD.out hb0
      rw [HT.out] at e1
      subst e1
      rw [e2] at r2
      clear e2 HD
      go_wp2
      go_ret
      exact ⟨rfl, r2, o2⟩
    · obtain ⟨h0, hn⟩ := digSt_next HD.out hb0 bP
      have SP : S < 2 ^ (64 * (m + 2)) := by rw [hP]; exact HD.out.2.2
      obtain ⟨z, rfl⟩ : ∃ z, y = z + 1 := ⟨y - 1, by omega⟩
      rw [Nat.add_sub_cancel] at hn
      have s2 := hb.only o2 hB
      have A1 : Box (b * 1 < 2 ^ (64 * (m + 2))) := box (by rw [hP]; omega)
      have A2 := box (vw_putw X o (m + 2) S SP)
      obtain ⟨S2, hS2⟩ : ∃ S2, (S + b * 1) % P = S2 := ⟨_, rfl⟩
      obtain ⟨ov, hov⟩ : ∃ ov, decide (P ≤ S + b * 1) = ov := ⟨_, rfl⟩
      rw [hS2, hov] at hn
      have A3 : Box ((S + b * 1) % 2 ^ (64 * (m + 2)) = S2) := box (by rw [hP]; exact hS2)
      have A4 : Box (decide (2 ^ (64 * (m + 2)) ≤ S + b * 1) = ov) := box (by rw [hP]; exact hov)
      have A5 := box (putw_putw X o (m + 2) S S2 SP)
      have HN := box hn
      have nz : IntKind.u64.wrap (z : Int) = (z : Int) := by rw [IntKind.wrap_u64]; omega
      have nz2 : ((z + 1 : Nat) : Int) - 1 = (z : Int) := by omega
      clear hS2 hov hn HD SP h0
      go_wp2_with fail
      refine (l_addTo wr g o (m + 2) c N (putw X o (m + 2) S) T r2 hN _ (m + 1) d b B s2 hB 1 (by decide) (by omega) (by omega) A1.out S S2 ov A2.out A3.out A4.out).mono ?_
      rintro e w3 ⟨rfl, r3, o3⟩
      rw [A5.out] at r3
      have o4 := o2.trans o3
      go_wp2
      go_roundw
      case rel => exact ⟨z, S2, !ov, by omega, by first | rfl | go_num, rfl, r3, o4, HN⟩
      case measure => simp [intOf]
end Go.Proofs.YtkmlbjlaahcahaaGreatDoor
namespace Go.Proofs.YtkmlbjlaahcahaaGreatDoor
set_option maxRecDepth 100000
open Go.RowKit WMath

theorem blen_sh (b n : Nat) (hb : b ≠ 0) : blen (b * 2 ^ n) = blen b + n := by
  have h1 := blen_le b hb
  have h2 := blen_lt b
  have h3 := blen_pos b hb
  have e : blen b + n = blen b - 1 + n + 1 := by omega
  rw [e]
  apply blen_of
  · rw [Nat.pow_add]; exact Nat.mul_le_mul_right _ h1
  · rw [show blen b - 1 + n + 1 = blen b + n by omega, Nat.pow_add]
    exact Nat.mul_lt_mul_of_pos_right h2 (Nat.two_pow_pos _)
theorem dv_norm (b M n : Nat) (hb : b ≠ 0) (hM : wl b = M) (hn : n = 64 * M - blen b) : 0 < M ∧ n < 64 ∧ blen b + n = 64 * M ∧ wl (b * 2 ^ n) = M ∧ 2 ^ (64 * M - 1) ≤ b * 2 ^ n ∧ b * 2 ^ n < 2 ^ (64 * M) := by
  have h0 := wl_pos b hb
  rw [hM] at h0
  have h1 := blen_pos b hb
  have e : blen b + n = 64 * M ∧ n < 64 := by rw [← hM] at hn ⊢; unfold wl at *; omega
  have hs := blen_sh b n hb
  rw [e.1] at hs
  have hne : b * 2 ^ n ≠ 0 := Nat.mul_ne_zero hb (Nat.ne_of_gt (Nat.two_pow_pos _))
  refine ⟨h0, e.2, e.1, by unfold wl; rw [hs]; omega, ?_, ?_⟩
  · have := blen_le _ hne
    rw [hs] at this
    exact this
  · have := blen_lt (b * 2 ^ n)
    rw [hs] at this
    exact this
theorem q_set (q i t : Nat) (h : q % 2 ^ (64 * (i + 1)) = 0) : setw q i t = q + 2 ^ (64 * i) * t := by
  have h1 := mod_wd q i
  rw [h] at h1
  have h2 : 2 ^ (64 * i) * wd q i = 0 := by omega
  have := setw_add q i t
  omega

set_option maxRecDepth 100000 in
set_option maxHeartbeats 2000000 in
theorem l_divide (w : World) (p q : Option Addr) (L c a M d b B K1 K2 : Nat) (ha : SL B w p L c a) (hb : SL B w q M d b) (hB : B ≤ w.heap.size) (hL : L ≤ 40000) (hM : M ≤ 40000) (lb : wl b = M) (hb0 : b ≠ 0) (hK1 : wl (a / b) = K1) (hK2 : wl (a % b) = K2) :
    Calls Tryz.prog 198 #[.slice p L c, .slice q M d] w fun r w' => ∃ u e v f, r = .returned (.tuple #[.slice u K1 e, .slice v K2 f]) ∧ SL w'.heap.size w' u K1 e (a / b) ∧ SL w'.heap.size w' v K2 f (a % b) ∧ Below w.heap.size w w' := by
  obtain ⟨l, hl⟩ : ∃ l, blen b = l := ⟨_, rfl⟩
  obtain ⟨n, hn⟩ : ∃ n, 64 * M - l = n := ⟨_, rfl⟩
  obtain ⟨hM0, n64, hln, hby, hlow, hhigh⟩ := dv_norm b M n hb0 lb (by rw [hl, hn])
  rw [hl] at hln
  have hb2 : 2 ^ (64 * (M - 1)) ≤ b := by rw [← lb]; exact wl_le b hb0
  obtain ⟨N, hN⟩ : ∃ N, L + 1 - M = N := ⟨_, rfl⟩
  have LD := box (ldSt_start a b n L M N ha.1 hlow hb2 hM0 n64 hN.symm)
  have hraise := raise_lt a L n 0 ha.1 (by omega)
  obtain ⟨m, rfl⟩ : ∃ m, M = m + 1 := ⟨M - 1, by omega⟩
  have n1 : IntKind.i64.wrap (((m : Int) + 1) * 64) = ((m : Int) + 1) * 64 := wrap_i64_is _ (by omega) (by omega)
  have n2 : IntKind.i64.wrap (((m : Int) + 1) * 64 - (l : Int)) = (n : Int) := by rw [wrap_i64_is _ (by omega) (by omega)]; omega
  have hl2 : l ≤ 3000000 := by omega
  have n2' : ((m : Int) + 1) * 64 - (l : Int) = (n : Int) := by omega
  have n2'' : IntKind.i64.wrap (n : Int) = (n : Int) := wrap_i64_is _ (by omega) (by omega)
  have n3 : IntKind.i64.wrap ((L : Int) - ((m : Int) + 1)) = (L : Int) - ((m : Int) + 1) := wrap_i64_is _ (by omega) (by omega)
  have n4 : IntKind.i64.wrap ((L : Int) - ((m : Int) + 1) + 1) = (L : Int) - ((m : Int) + 1) + 1 := wrap_i64_is _ (by omega) (by omega)
  have HLB := box lb
  have HL := box hl
  have HBY := box hby
  have HRA := box hraise
  have HHI := box hhigh
  have HB0 := box hb0
  have HN := box hN
  have HK1 := box hK1
  have HK2 := box hK2
  have Hn := box hn
  have Hln := box hln
  clear lb hl hby hraise hhigh hb0 hlow hb2 hK1 hK2 hn hN hln
  go_enter Tryz.func198, Tryz.ntmps198
  go_wp2_with fail
  refine (l_bitLen w q (m + 1) d b l B hb (by omega) HLB.out HL.out).mono ?_
  rintro e w1 ⟨rfl, rfl⟩
  go_wp2_with fail
  refine (l_up w1 q (m + 1) d b n (m + 1) B hb hB (by omega) (by omega) HBY.out).mono ?_
  rintro e w2 ⟨y, yd, rfl, s2, b2⟩
  go_wp2_with fail
  refine (l_raise w2 p L c a n 0 B (ha.below b2 hB) (by have := b2.size; omega) (by omega) (by omega) (by omega)).mono ?_
  rintro e w3 ⟨g, rfl, hg, r3, b3⟩
  have hcase : ((L : Int) - ((m : Int) + 1) + 1 = (N : Int) ∧ ((N : Int) < 0) = False) ∨ (((L : Int) - ((m : Int) + 1) + 1 < 0) = True ∧ (0 : Int) = (N : Int)) := by
    have := HN.out
    by_cases hqL : m ≤ L
    · left; exact ⟨by omega, eq_false (by omega)⟩
    · right; exact ⟨eq_true (by omega), by omega⟩
  have N2 : N ≤ 40001 := by have := HN.out; omega
  obtain ⟨h, hh⟩ : ∃ h, w3.heap.size = h := ⟨_, rfl⟩
  have gh : g < h := by rw [← hh]; exact (Array.getElem?_eq_some_iff.1 r3).1
  have q4 : (w3.alloc (.cells (cw N 0) 23)).heap[h]? = some (.cells (cw N 0) 23) := by rw [← hh]; exact heap_alloc_last _ _
  have b4 : Below h w3 (w3.alloc (.cells (cw N 0) 23)) := by rw [← hh]; exact (Below.refl _ _).alloc (Nat.le_refl _) _
  have r4 : (w3.alloc (.cells (cw N 0) 23)).heap[g]? = some (.cells (cw (L + 1) (a * 2 ^ n)) 23) := by rw [b4.block g gh]; exact r3
  have s3 : SL w2.heap.size w3 y (m + 1) yd (b * 2 ^ n) := s2.below b3 (Nat.le_refl _)
  have h2 : w2.heap.size ≤ h := by rw [← hh]; exact b3.size
  have s4 : SL w2.heap.size (w3.alloc (.cells (cw N 0) 23)) y (m + 1) yd (b * 2 ^ n) := s3.below b4 h2
  have c4 : Below w1.heap.size w1 (w3.alloc (.cells (cw N 0) 23)) := btr (btr b2 b3) (bal _ _)
  have z4 : (w3.alloc (.cells (cw N 0) 23)).heap.size = h + 1 := by rw [size_al, hh]
  have h1 : w1.heap.size ≤ w2.heap.size := b2.size
  have Q4 := box q4
  have R4 := box r4
  have S4 := box s4
  have C4 := box c4
  have Z4 := box z4
  clear q4 b4 r4 s3 s4 c4 z4 s2 b2 b3 r3
  rcases hcase with ⟨e1, e2⟩ | ⟨e1, e2⟩
  all_goals
    first
      | (have hmk := cw_make N (N : Int) rfl (by omega)
         have n6 : IntKind.i64.wrap (N : Int) = (N : Int) := wrap_i64_is _ (by omega) (by omega)
         have e3 : ((N : Int) < 0) = False := e2)
      | (have hmk := cw_make N (0 : Int) e2 (by omega)
         clear e2)
    have n7 : IntKind.i64.wrap ((N : Int) - 1) = (N : Int) - 1 := wrap_i64_is _ (by omega) (by omega)
    go_wp2
    clear hmk
    go_loopw [9] (fun iv wr => ∃ (i X q : Nat), i ≤ N ∧ iv = .int .i64 ((i : Int) - 1) ∧ wr.heap[g]? = some (.cells (cw (L + 1) X) 23) ∧ wr.heap[h]? = some (.cells (cw N q) 23) ∧ SL w2.heap.size wr y (m + 1) yd (b * 2 ^ n) ∧ Below w1.heap.size w1 wr ∧ Box (LdSt (a * 2 ^ n) (b * 2 ^ n) i X q ∧ X < 2 ^ (64 * (L + 1)) ∧ q < 2 ^ (64 * N))) (fun iv _ => (intOf iv + 1).toNat)
    case atStart => exact ⟨N, a * 2 ^ n, 0, Nat.le_refl _, rfl, R4.out, Q4.out, S4.out, C4.out, box ⟨LD.out, HRA.out, Nat.two_pow_pos _⟩⟩
    case round =>
      obtain ⟨i, X, q', hi, rfl, r5, q5, s5, c5, HE⟩ := hrel
      by_cases h0 : i = 0
      · subst h0
        obtain ⟨E1, E2, E3⟩ := HE.out
        have bb0 : 0 < b * 2 ^ n := Nat.mul_pos (Nat.pos_of_ne_zero HB0.out) (Nat.two_pow_pos _)
        obtain ⟨f1, f2⟩ := ldSt_end E1 bb0
        rw [Nat.mul_div_mul_right _ _ (Nat.two_pow_pos _)] at f1
        rw [Nat.mul_mod_mul_right] at f2
        subst f1
        have sq : SL wr.heap.size wr (some ⟨h, 0, none⟩) N N (a / b) := SL.row q5 _ (Array.getElem?_eq_some_iff.1 q5).1 E3 (Nat.le_refl _)
        have sx : SL wr.heap.size wr (some ⟨g, 0, none⟩) (L + 1) (L + 1) X := SL.row r5 _ (Array.getElem?_eq_some_iff.1 r5).1 E2 (Nat.le_refl _)
        have ex : X / 2 ^ n = a % b := by rw [f2, Nat.mul_div_cancel _ (Nat.two_pow_pos _)]
        have EX := box ex
        clear E1 E2 E3 f2 ex bb0
        go_wp2_with fail
        refine (l_trim wr _ N N (a / b) K1 _ sq (by omega) HK1.out).mono ?_
        rintro e w7 ⟨u, d7, rfl, s7, rfl⟩
        go_wp2_with fail
        refine (l_down w7 _ (L + 1) (L + 1) X n K2 _ sx (Nat.le_refl _) (by omega) (by omega) (by rw [EX.out]; exact HK2.out)).mono ?_
        rintro e w8 ⟨v, d8, rfl, s8, b8⟩
        rw [EX.out] at s8
        go_wp2
        go_ret2
        exact ⟨u, d7, v, d8, rfl, (s7.below b8 (Nat.le_refl _)).mono b8.size, s8, btr c5 b8⟩
      · obtain ⟨j, rfl⟩ : ∃ j, i = j + 1 := ⟨i - 1, by omega⟩
        obtain ⟨E1, E2, E3⟩ := HE.out
        obtain ⟨V, hV⟩ : ∃ V, vw X j (m + 2) = V := ⟨_, rfl⟩
        have bb0 : 0 < b * 2 ^ n := Nat.mul_pos (Nat.pos_of_ne_zero HB0.out) (Nat.two_pow_pos _)
        obtain ⟨v1, v2, v3⟩ := ldSt_next E1 HHI.out bb0 hV
        obtain ⟨t, ht⟩ : ∃ t, V / (b * 2 ^ n) = t := ⟨_, rfl⟩
        rw [ht] at v2 v3
        have hjN : j < N := by omega
        have hfit : j + (m + 2) ≤ L + 1 := by have := HN.out; omega
        have x3 : putw X j (m + 2) (V % (b * 2 ^ n)) < 2 ^ (64 * (L + 1)) := putw_lt X j (m + 2) _ (L + 1) E2 (Nat.lt_of_lt_of_le (Nat.mod_lt _ bb0) (Nat.le_of_lt (Nat.lt_of_lt_of_le HHI.out (pow64_le _ _ (by omega))))) hfit
        have es := q_set q' j t E1.2.2
        have q3 : setw q' j t < 2 ^ (64 * N) := setw_lt q' j t N E3 hjN v2
        rw [es] at q3
        have NE : Box (LdSt (a * 2 ^ n) (b * 2 ^ n) j (putw X j (m + 2) (V % (b * 2 ^ n))) (q' + 2 ^ (64 * j) * t) ∧ putw X j (m + 2) (V % (b * 2 ^ n)) < 2 ^ (64 * (L + 1)) ∧ q' + 2 ^ (64 * j) * t < 2 ^ (64 * N)) := box ⟨v3, x3, q3⟩
        have ES := box es
        have BB := box bb0
        have HV := box hV
        have V1 := box v1
        have HT := box ht
        have T64 := box v2
        have ej : (((j + 1 : Nat) : Int) - 1) = (j : Int) := by omega
        rw [ej]
        have hji : (j : Int) < (N : Int) := by omega
        have n8 : IntKind.i64.wrap ((j : Int) - 1) = (j : Int) - 1 := wrap_i64_is _ (by omega) (by omega)
        have k1 : IntKind.i64.wrap ((j : Int) + ((m : Int) + 1)) = (j : Int) + ((m : Int) + 1) := wrap_i64_is _ (by omega) (by omega)
        have k2 : IntKind.i64.wrap ((j : Int) + ((m : Int) + 1) + 1) = (j : Int) + ((m : Int) + 1) + 1 := wrap_i64_is _ (by omega) (by omega)
        clear E1 E2 E3 hV v1 v2 v3 ht x3 es q3 bb0 ej
        go_wp2_with fail
        rw [show j + (m + 1) + 1 - j = m + 2 by omega]
        refine (l_digit wr g j m (L + 1 - j) (L + 1) X 23 r5 hfit y yd (b * 2 ^ n) w2.heap.size s5 hg (by omega) V HV.out V1.out BB.out t HT.out).mono ?_
        rintro e w6 ⟨rfl, r6, o6⟩
        have q6 := o6.row (show h ≠ g by omega) q5
        have s6 := s5.only o6 hg
        have c6 : Below w1.heap.size w1 w6 := o6.toBelow c5 (by omega) c5.size
        have c7 : w6.cell? ⟨h, j, none⟩ = some (.int .u64 (wd q' j : Nat)) := by rw [cell_of_row w6 h j _ _ _ q6, cw_at N q' j hjN]
        have f7 := fz (k := j) q6
        have RS : Box ((w6.setCell ⟨h, j, none⟩ (.int .u64 (t : Int))).heap[h]? = some (.cells (cw N (q' + 2 ^ (64 * j) * t)) 23)) := box (by rw [setCell_row q6, cw_set N q' j t hjN T64.out, ES.out])
        have RG : Box ((w6.setCell ⟨h, j, none⟩ (.int .u64 (t : Int))).heap[g]? = some (.cells (cw (L + 1) (putw X j (m + 2) (V % (b * 2 ^ n)))) 23)) := box (by rw [setCell_other (show h ≠ g by omega)]; exact r6)
        have SS : Box (SL w2.heap.size (w6.setCell ⟨h, j, none⟩ (.int .u64 (t : Int))) y (m + 1) yd (b * 2 ^ n)) := box (s6.only ((Only.refl h w6).setCell _) h2)
        have CS : Box (Below w1.heap.size w1 (w6.setCell ⟨h, j, none⟩ (.int .u64 (t : Int)))) := box (c6.setCell (by show w1.heap.size ≤ h; omega) _)
        clear r5 q5 s5 c5 r6 o6 q6 s6 c6
        go_wp2
        go_roundw
        case rel => exact ⟨j, _, _, by omega, by first | rfl | go_num, RG.out, RS.out, SS.out, CS.out, NE⟩
        case measure => simp [intOf]
end Go.Proofs.YtkmlbjlaahcahaaGreatDoor
namespace Go.Proofs.YtkmlbjlaahcahaaGreatDoor
set_option maxRecDepth 100000
open Go.RowKit WMath

/-- The number that a slice holds, as a function of the world. -/
theorem num_fun : ∃ F : World → Value → Nat, ∀ (B : Nat) (w : World) (p : Option Addr) (L c n : Nat), SL B w p L c n → F w (.slice p L c) = n := by
  classical
  refine ⟨fun w v => if h : ∃ n B p L c, v = .slice p L c ∧ SL B w p L c n then Classical.choose h else 0, fun B w p L c n hn => ?_⟩
  have hex : ∃ n B p' L' c', Value.slice p L c = .slice p' L' c' ∧ SL B w p' L' c' n := ⟨n, B, p, L, c, rfl, hn⟩
  simp only [hex, dif_pos]
  obtain ⟨B', p', L', c', e, h'⟩ := Classical.choose_spec hex
  injection e with e1 e2 e3
  subst e1 e2 e3
  refine wd_ext h'.1 hn.1 (fun k hk => ?_)
  obtain ⟨b, o, rfl, _⟩ := hn.ptr (by omega)
  have h1 := h'.cell k _ hk rfl
  have h2 := hn.cell k _ hk rfl
  rw [h1] at h2
  simp only [Option.some.injEq, Value.int.injEq, true_and] at h2
  omega

end Go.Proofs.YtkmlbjlaahcahaaGreatDoor
namespace Go.Proofs.YtkmlbjlaahcahaaGreatDoor
set_option maxRecDepth 100000
open Go.RowKit WMath

set_option maxRecDepth 100000 in
theorem pn_div_ok (a b : Nat) (s t qv rv : ByteArray) (hs : nbA a = s) (ht : nbA b = t) (ha : nl a ≤ 16384) (hb : nl b ≤ 16384) (hb0 : b ≠ 0) (hq : nbA (a / b) = qv) (hr : nbA (a % b) = rv) (w : World) :
    Calls Tryz.prog 118 #[.string s, .string t] w fun r w' => r = .returned (.tuple #[.string qv, .string rv, .int .i64 0]) ∧ Below w.heap.size w w' := by
  have HO := box (ok2 hs ht ha hb)
  have HS := box hs
  have HT := box ht
  have HA := box ha
  have HB := box hb
  have HB0 := box hb0
  have HQ := box hq
  have HR := box hr
  have d2 := eq_empty t
  rw [decide_eq_false (by rw [← ht, nbA_size]; have := nl_pos b hb0; omega)] at d2
  obtain ⟨K, hK⟩ : ∃ K, wl a = K := ⟨_, rfl⟩
  obtain ⟨M, hM⟩ : ∃ M, wl b = M := ⟨_, rfl⟩
  obtain ⟨K1, hK1⟩ : ∃ N, wl (a / b) = N := ⟨_, rfl⟩
  obtain ⟨K2, hK2⟩ : ∃ N, wl (a % b) = N := ⟨_, rfl⟩
  have hK2' : K ≤ 2048 := by rw [← hK]; exact wl_of_nl a ha
  have hM2 : M ≤ 2048 := by rw [← hM]; exact wl_of_nl b hb
  have k1 : K1 ≤ 2048 := by rw [← hK1]; exact Nat.le_trans (wl_mono _ a (Nat.div_le_self _ _)) (by omega)
  have k2 : K2 ≤ 2048 := by rw [← hK2]; exact Nat.le_trans (wl_mono _ a (Nat.mod_le _ _)) (by omega)
  have HK := box hK
  have HM := box hM
  have HK1 := box hK1
  have HK2 := box hK2
  have b0 := bal w (.cells #[.string s, .string t] 26)
  clear hs ht ha hb hb0 hq hr hK hM hK1 hK2
  go_enter Tryz.func118, Tryz.ntmps118
  go_wp2_with fail
  refine (n_may2 s t true HO.out _ w).mono ?_
  rintro r w0 ⟨rfl, rfl⟩
  go_wp2_with fail
  refine (l_wordsOf a K s HS.out (by have := HA.out; omega) HK.out _).mono ?_
  rintro r w1 ⟨p, c, rfl, s1, b1⟩
  go_wp2_with fail
  refine (l_wordsOf b M t HT.out (by have := HB.out; omega) HM.out _).mono ?_
  rintro r w2 ⟨q, d, rfl, s2, b2⟩
  go_wp2_with fail
  refine (l_divide w2 p q K c a M d b w2.heap.size K1 K2 ((s1.below b2 (Nat.le_refl _)).mono b2.size) s2 (Nat.le_refl _) (by omega) (by omega) HM.out HB0.out HK1.out HK2.out).mono ?_
  rintro r w3 ⟨u, e, v, f, rfl, s3, t3, b3⟩
  go_wp2_with fail
  refine (l_natOf w3 u K1 e (a / b) _ qv s3 (Nat.le_refl _) (by omega) HQ.out).mono ?_
  rintro r w4 ⟨rfl, b4⟩
  go_wp2_with fail
  refine (l_natOf w4 v K2 f (a % b) _ rv (t3.below b4 (Nat.le_refl _)) b4.size (by omega) HR.out).mono ?_
  rintro r w5 ⟨rfl, b5⟩
  go_wp2
  go_ret3
  exact ⟨rfl, btr b0 (btr b1 (btr b2 (btr b3 (btr b4 b5))))⟩
end Go.Proofs.YtkmlbjlaahcahaaGreatDoor
namespace Go.Proofs.YtkmlbjlaahcahaaGreatDoor.WMath
set_option maxRecDepth 100000

/-- What the lower bits move is at most the greater count, times less than their power. -/
theorem near_num (K a b x y a0 b0 A B r N s : Int) (hs : s = 1 ∨ s = -1) (ha : a = K * x + a0) (hb : b = K * y + b0) (a1 : 0 ≤ a0) (a2 : a0 ≤ K - 1) (b1 : 0 ≤ b0) (b2 : b0 ≤ K - 1) (hA : 0 ≤ A) (hAB : A ≤ B)
    (hr : r = s * (x * A - y * B)) (hN : N = s * (a * A - b * B)) : K * r ≤ N + (K - 1) * B ∧ N ≤ K * r + (K - 1) * B := by
  have p1 : 0 ≤ a0 * A := Int.mul_nonneg a1 hA
  have p2 : a0 * A ≤ (K - 1) * B := Int.mul_le_mul a2 hAB hA (by omega)
  have p3 : 0 ≤ b0 * B := Int.mul_nonneg b1 (by omega)
  have p4 : b0 * B ≤ (K - 1) * B := Int.mul_le_mul_of_nonneg_right b2 (by omega)
  have e1 : a * A = K * (x * A) + a0 * A := by rw [ha, Int.add_mul, Int.mul_assoc]
  have e2 : b * B = K * (y * B) + b0 * B := by rw [hb, Int.add_mul, Int.mul_assoc]
  have e3 : K * (x * A - y * B) = K * (x * A) - K * (y * B) := Int.mul_sub _ _ _
  generalize (K - 1) * B = Z at *
  generalize a0 * A = u at *
  generalize b0 * B = v at *
  rcases hs with rfl | rfl
  · rw [Int.one_mul] at hr hN
    rw [hr, hN, e1, e2, e3]
    omega
  · rw [Int.neg_mul, Int.one_mul] at hr hN
    rw [hr, hN, e1, e2, Int.mul_neg, e3]
    omega

/-- What the turns keep: the last two rests of the highest bits and of the whole numbers, and how often both numbers are in them. -/
def TurnSt (a b x y r1 A1 B1 r2 A2 B2 F S : Nat) (s : Int) : Prop :=
  (s = 1 ∨ s = -1) ∧ ((F : Int) = s * ((a : Int) * A1 - b * B1)) ∧ ((S : Int) = s * ((b : Int) * B2 - a * A2)) ∧ ((r1 : Int) = s * ((x : Int) * A1 - y * B1)) ∧ ((r2 : Int) = s * ((y : Int) * B2 - x * A2)) ∧
  r1 * B2 + r2 * B1 = x ∧ r1 * A2 + r2 * A1 = y ∧ A2 ≤ B2 ∧ 1 ≤ B2 ∧ A1 + A2 ≤ B1 + B2 ∧ 1 ≤ A1 + A2 ∧ r2 ≤ r1 ∧ Nat.gcd F S = Nat.gcd a b ∧ S ≤ F ∧ (A2 = 0 ∨ (0 < S ∧ S < F ∧ F ≤ b)) ∧ (A2 = 0 → F = a ∧ S = b)
theorem turnSt_start (a b x y : Nat) (hab : b ≤ a) (hxy : y ≤ x) : TurnSt a b x y x 1 0 y 0 1 a b 1 :=
  ⟨Or.inl rfl, by simp, by simp, by simp, by simp, by simp, by simp, by decide, by decide, by decide, by decide, hxy, rfl, hab, Or.inl rfl, fun _ => ⟨rfl, rfl⟩⟩
theorem turnSt_count {a b x y r1 A1 B1 r2 A2 B2 F S t n : Nat} {s : Int} (h : TurnSt a b x y r1 A1 B1 r2 A2 B2 F S s) (h2 : r2 ≠ 0) (ht : r1 / r2 = t) (hn : r1 - t * r2 = n) :
    1 ≤ t ∧ r1 = t * r2 + n ∧ n < r2 ∧ r2 * (B1 + t * B2) + n * B2 = x ∧ r2 * (A1 + t * A2) + n * A2 = y ∧ A1 + t * A2 ≤ B1 + t * B2 ∧ B2 ≤ B1 + t * B2 ∧ 1 ≤ A1 + t * A2 := by
  obtain ⟨_, _, _, _, _, hx, hy, hAB, hB, hs, hA1, hr, _⟩ := h
  have t1 : 1 ≤ t := by rw [← ht]; exact (Nat.le_div_iff_mul_le (by omega)).2 (by omega)
  have d := Nat.div_add_mod r1 r2
  rw [ht, Nat.mul_comm] at d
  have m := Nat.mod_lt r1 (show r2 > 0 by omega)
  have en : n = r1 % r2 := by omega
  have e : r1 = t * r2 + n := by omega
  have x1 : r2 * (B1 + t * B2) + n * B2 = x := by
    rw [← hx, e, Nat.add_mul, Nat.mul_add, Nat.mul_left_comm r2 t B2, Nat.mul_assoc t r2 B2]
    omega
  have x2 : r2 * (A1 + t * A2) + n * A2 = y := by
    rw [← hy, e, Nat.add_mul, Nat.mul_add, Nat.mul_left_comm r2 t A2, Nat.mul_assoc t r2 A2]
    omega
  have lt : n < r2 := by omega
  clear en m d hn ht
  obtain ⟨k, rfl⟩ : ∃ k, t = k + 1 := ⟨t - 1, by omega⟩
  have q1 : k * A2 ≤ k * B2 := Nat.mul_le_mul_left _ hAB
  refine ⟨t1, e, lt, x1, x2, ?_, ?_, ?_⟩
  · rw [Nat.add_mul, Nat.add_mul]; omega
  · rw [Nat.add_mul]; omega
  · rw [Nat.add_mul]; omega
theorem turnSt_next {a b x y r1 A1 B1 r2 A2 B2 F S t n K a0 b0 : Nat} {s : Int} (h : TurnSt a b x y r1 A1 B1 r2 A2 B2 F S s) (h2 : r2 ≠ 0) (ht : r1 / r2 = t) (hn : r1 - t * r2 = n) (ha : a = K * x + a0) (hb : b = K * y + b0) (a1 : a0 < K) (b1 : b0 < K)
    (s1 : B1 + t * B2 ≤ n) (s2 : B2 + (B1 + t * B2) ≤ r2 - n) : ∃ N, TurnSt a b x y r2 A2 B2 n (A1 + t * A2) (B1 + t * B2) S N (-s) ∧ N < S ∧ 0 < N := by
  obtain ⟨c1, c2, c3, c4, c5, c6, c7, c8⟩ := turnSt_count h h2 ht hn
  obtain ⟨hs, hF, hS, hr1, hr2, hx, hy, hAB, hB, hsum, hA1, hr, hg, hSF, hmv, h00⟩ := h
  have eN : (F : Int) - t * S = -s * ((b : Int) * ((B1 + t * B2 : Nat) : Int) - a * ((A1 + t * A2 : Nat) : Int)) := by
    have e1 : (b : Int) * ((B1 + t * B2 : Nat) : Int) = b * B1 + t * (b * B2) := by
      rw [Int.natCast_add, Int.natCast_mul, Int.mul_add, Int.mul_left_comm]
    have e2 : (a : Int) * ((A1 + t * A2 : Nat) : Int) = a * A1 + t * (a * A2) := by
      rw [Int.natCast_add, Int.natCast_mul, Int.mul_add, Int.mul_left_comm]
    rw [hF, hS, e1, e2]
    rcases hs with rfl | rfl
    · rw [Int.one_mul, Int.one_mul, Int.mul_sub, Int.neg_mul, Int.one_mul]
      omega
    · rw [Int.neg_mul, Int.one_mul, Int.neg_mul, Int.one_mul, Int.mul_neg, Int.mul_sub, Int.neg_neg, Int.one_mul]
      omega
  have er : (n : Int) = -s * ((y : Int) * ((B1 + t * B2 : Nat) : Int) - x * ((A1 + t * A2 : Nat) : Int)) := by
    have e1 : (y : Int) * ((B1 + t * B2 : Nat) : Int) = y * B1 + t * (y * B2) := by
      rw [Int.natCast_add, Int.natCast_mul, Int.mul_add, Int.mul_left_comm]
    have e2 : (x : Int) * ((A1 + t * A2 : Nat) : Int) = x * A1 + t * (x * A2) := by
      rw [Int.natCast_add, Int.natCast_mul, Int.mul_add, Int.mul_left_comm]
    have e3 : (n : Int) = r1 - t * r2 := by
      have : (r1 : Int) = ((t * r2 + n : Nat) : Int) := by rw [← c2]
      rw [Int.natCast_add, Int.natCast_mul] at this
      omega
    rw [e3, hr1, hr2, e1, e2]
    rcases hs with rfl | rfl
    · rw [Int.one_mul, Int.one_mul, Int.mul_sub, Int.neg_mul, Int.one_mul]
      omega
    · rw [Int.neg_mul, Int.one_mul, Int.neg_mul, Int.one_mul, Int.mul_neg, Int.mul_sub, Int.neg_neg, Int.one_mul]
      omega
  obtain ⟨An, hAn⟩ : ∃ An, A1 + t * A2 = An := ⟨_, rfl⟩
  obtain ⟨Bn, hBn⟩ : ∃ Bn, B1 + t * B2 = Bn := ⟨_, rfl⟩
  rw [hAn, hBn] at eN er
  rw [hBn] at s1 s2 c4 c6 c7
  rw [hAn] at c5 c6 c8
  have hs' : -s = 1 ∨ -s = -1 := by rcases hs with rfl | rfl <;> simp
  have neg : ∀ u v : Int, s * (u - v) = -s * (v - u) := by
    intro u v
    rw [Int.neg_mul, ← Int.mul_neg, Int.neg_sub]
  have n1 := near_num (K : Int) a b x y a0 b0 An Bn n ((F : Int) - t * S) s hs (by rw [ha]; simp) (by rw [hb]; simp) (by omega) (by omega) (by omega) (by omega) (by omega) (by omega)
    (by rw [er, neg]) (by rw [eN, neg])
  have n2 := near_num (K : Int) a b x y a0 b0 A2 B2 r2 S (-s) hs' (by rw [ha]; simp) (by rw [hb]; simp) (by omega) (by omega) (by omega) (by omega) (by omega) (by omega)
    (by rw [hr2, neg]) (by rw [hS, neg])
  have k0 : (0 : Int) < K := by omega
  have m1 : (K : Int) * Bn ≤ K * n := Int.mul_le_mul_of_nonneg_left (by omega) (by omega)
  have m2 : (K : Int) * (B2 + Bn) ≤ K * (r2 - n) := Int.mul_le_mul_of_nonneg_left (by omega) (by omega)
  have m3 : ((K : Int) - 1) * Bn = K * Bn - Bn := by rw [Int.sub_mul, Int.one_mul]
  have m4 : ((K : Int) - 1) * B2 = K * B2 - B2 := by rw [Int.sub_mul, Int.one_mul]
  rw [Int.mul_add, Int.mul_sub] at m2
  have N0 : (0 : Int) < (F : Int) - t * S := by omega
  have NS : (F : Int) - t * S < S := by omega
  have eT : ((t * S : Nat) : Int) = (t : Int) * S := Int.natCast_mul _ _
  have hle : t * S ≤ F := by omega
  obtain ⟨N, hN⟩ : ∃ N, F = t * S + N := ⟨F - t * S, by omega⟩
  have eNN : (N : Int) = (F : Int) - t * S := by omega
  have hgN : Nat.gcd S N = Nat.gcd a b := by
    rw [← hg, hN, Nat.gcd_mul_right_add_left, Nat.gcd_comm S N]
  refine ⟨N, ?_, by omega, by omega⟩
  refine ⟨hs', ?_, ?_, ?_, ?_, by rw [hBn]; exact c4, by rw [hAn]; exact c5, by rw [hAn, hBn]; exact c6, by omega, by omega, by omega, by omega, hgN, by omega, Or.inr ⟨by omega, by omega, ?_⟩, fun h => ?_⟩
  · rw [hS, neg]
  · rw [eNN, eN, hAn, hBn]
  · rw [hr2, neg]
  · rw [hAn, hBn]; exact er
  · rcases hmv with h | ⟨_, h3, h4⟩
    · have := (h00 h).2; omega
    · omega
  · omega
end Go.Proofs.YtkmlbjlaahcahaaGreatDoor.WMath
