/-
  What the functions that the statement reaches return: part 13 (KD, KE, KF, KG).
-/
import Derived.Test.YtkmlbjlaahcahaaGreatDoorBa12
namespace Go.Proofs.YtkmlbjlaahcahaaGreatDoor
set_option maxRecDepth 100000
open Go.RowKit WMath
set_option linter.unusedSimpArgs false
set_option linter.unusedVariables false

theorem or_bit_lo (t k : Nat) (h : t < 2 ^ k) : 2 ^ k ||| t = 2 ^ k + t := by
  have e := Nat.two_pow_add_eq_or_of_lt h 1
  rw [Nat.mul_one] at e
  exact e.symm
theorem cnt_k8 {i : Nat} (h : i < 384) : cnt6 (i : Int) = i := by unfold cnt6; omega
theorem kparts_is (f : Int) (hf : Is4 f) (x y n : Nat) (hx : x < 18446744073709551616) (hy : y < 18446744073709551616) (hn : y + 18446744073709551616 * x = n) (w : World) (hT : FAt w) :
    Calls Tryz.prog 77 #[.int .u8 f, .agg #[.int .u64 (x : Nat), .int .u64 (y : Nat)]] w fun r w' => r = .returned (.agg (pt (kC f n) (kS f n) (kX f n) (kF f n))) ∧ Below w.heap.size w w' := by
  have f4 := is4_ok hf
  obtain ⟨u, v, huv⟩ : ∃ u v, bv7 (kT f n) = (u, v) := ⟨_, _, rfl⟩
  obtain ⟨g1, g2, g3, g4, g5, g6, g7⟩ := fm hf
  have tl := kT_lt (f := f) n
  have el := kE_le (f := f) n
  have tn : kT f n < 340282366920938463463374607431768211456 := by rw [g1, Nat.add_mul] at g7; omega
  have pn : 2 ^ pV f + kT f n < 340282366920938463463374607431768211456 := by rw [g1, Nat.add_mul] at g7; have := Nat.mul_le_mul_right (2 ^ pV f) g5; omega
  obtain ⟨u1, v1, t1⟩ := bv_lt tn huv
  obtain ⟨p1, p2, p3, p4, _⟩ := pV_lim hf
  obtain ⟨l1, l2, l3, l4, l5⟩ := lx_lim hf
  have KC : Box (∀ w, FAt w → Calls Tryz.prog 111 #[.int .u8 f, .agg #[.int .u64 (x : Nat), .int .u64 (y : Nat)]] w fun r w' => r = .returned (.int .u8 ((kC f n : Nat) : Int)) ∧ Below w.heap.size w w') := box (fun w hT => kclass_is f hf x y n _ hx hy hn rfl w hT)
  have KF : Box (∀ w, FAt w → Calls Tryz.prog 150 #[.int .u8 f, .agg #[.int .u64 (x : Nat), .int .u64 (y : Nat)]] w fun r w' => r = .returned (.agg #[.int .u64 (u : Nat), .int .u64 (v : Nat)]) ∧ Below w.heap.size w w') := box (fun w hT => kfraction_is f hf x y n u v hx hy hn huv w hT)
  have KO : Box (∀ w, Calls Tryz.prog 149 #[.agg #[.int .u64 (u : Nat), .int .u64 (v : Nat)]] w fun r w' => r = .returned (.agg (cw 6 (kT f n))) ∧ Below w.heap.size w w') := box (fun w => wofbits_is u v _ u1 v1 t1 w)
  have KL : Box (∀ w, FAt w → Calls Tryz.prog 121 #[.int .u8 f] w fun r w' => r = .returned (.int .i64 (lx f)) ∧ Below w.heap.size w w') := box (fun w hT => kleast_is f hf _ rfl w hT)
  have cl := kC_lt f n
  by_cases c1 : kC f n = 8 ∨ kC f n = 9
  · have e1 : kS f n = 0 ∧ kX f n = 0 ∧ kF f n = kT f n := by
      unfold kS kX kF
      rw [if_neg (by omega), if_neg (by omega), if_neg (by omega), if_neg (by omega), if_pos c1]
      exact ⟨rfl, rfl, rfl⟩
    rw [e1.1, e1.2.1, e1.2.2]
    exact kparts_nan f x y _ u v _ w KC KF KO c1 hT
  by_cases c2 : kC f n = 2 ∨ kC f n = 5
  · have e1 : kS f n = kT f n ∧ kX f n = lx f ∧ kF f n = 0 := by
      unfold kS kX kF
      rw [if_pos c2, if_pos c2, if_neg c1]
      exact ⟨rfl, rfl, rfl⟩
    rw [e1.1, e1.2.1, e1.2.2]
    exact kparts_sub f x y _ u v _ _ w KC KF KO KL c2 hT
  by_cases c3 : kC f n = 1 ∨ kC f n = 6
  · have e1 : kS f n = 2 ^ pV f + kT f n ∧ kX f n = lx f + (kE f n : Int) - 1 ∧ kF f n = 0 := by
      unfold kS kX kF
      rw [if_neg c2, if_neg c2, if_neg c1, if_pos c3, if_pos c3]
      exact ⟨rfl, rfl, rfl⟩
    rw [e1.1, e1.2.1, e1.2.2]
    have pl : 2 ^ pV f < Q := lt_Q7 (by omega)
    exact kparts_norm f x y _ u v _ (lx f) (fP f) _ (pV f) (2 ^ pV f) _ (kE f n) w KC KF KO KL
      (box (fun w => wof_al 1 (by decide) w)) (box (fun w hT => kb_precision f _ f4.1 f4.2.1 rfl w hT))
      (box (fun w => wleft_is 1 (2 ^ pV f) _ false (lt_Q7 (by omega)) (by rw [cnt_k8 (by omega), Nat.one_mul, Nat.mod_eq_of_lt pl]) (by rw [cnt_k8 (by omega), Nat.one_mul]; simp; omega) w))
      (box (fun w => wor_is (2 ^ pV f) (kT f n) _ pl (lt_Q7 (by omega)) (or_bit_lo _ _ tl) w))
      (box (fun w hT => kfield_is f hf x y n _ hx hy hn rfl w hT)) p2 (by rw [IntKind.wrap_i64]; omega) (by rw [IntKind.wrap_i64]; omega) (by rw [IntKind.wrap_i64]; omega) c3 hT
  · have e1 : kS f n = 0 ∧ kX f n = 0 ∧ kF f n = 0 := by
      unfold kS kX kF
      rw [if_neg c2, if_neg c2, if_neg c1, if_neg c3, if_neg c3]
      exact ⟨rfl, rfl, rfl⟩
    rw [e1.1, e1.2.1, e1.2.2]
    exact kparts_none f x y _ u v _ w KC KF KO (by omega) hT
theorem kUnpack_yes (f : Int) (hf : Is4 f) (x y n c s rr : Nat) (X : Int) (hx : x < 18446744073709551616) (hy : y < 18446744073709551616) (hn : y + 18446744073709551616 * x = n) (ho : okB f n = true) (hp : kp f n = (c, s, X, rr)) (w : World) (hT : FAt w) :
    Calls Tryz.prog 20 #[.int .u8 f, .agg #[.int .u64 (x : Nat), .int .u64 (y : Nat)]] w fun r w' => r = .returned (.tuple #[.agg (pt c s X rr), .int .i64 0]) ∧ Below w.heap.size w w' := by
  have f4 := is4_ok hf
  have K1 := box (sk_fits f x y n true f4.1 f4.2.1 hx hy hn ho)
  have K2 := box (kparts_is f hf x y n hx hy hn)
  unfold kp at hp
  injection hp with h1 h2
  injection h2 with h2 h3
  injection h3 with h3 h4
  rw [h1, h2, h3, h4] at K2
  have hat := cw_at 6
  have hz := cw6z
  have hff := cw6f
  have hs0 := st0
  have hcs : ∀ x, ((cw 6 x).size = 6) = True := fun x => eq_true (cw_size 6 x)
  have hp1 := ptf
  have hp3 := ptz
  have hp5 : ∀ (c s : Nat) (x : Int) (r : Nat), ((pt c s x r).size = 14) = True := fun _ _ _ _ => eq_true rfl
  have TT := box hT
  clear hT hf hx hy hn ho h1 h2 h3 h4
  obtain ⟨Rb_0, Rz_0, B0⟩ := kopn2 w (Obj.cells #[.int .u64 (x : Nat), .int .u64 (y : Nat)] 25) (Obj.cells (pt 0 0 0 0) 55)
  go_enter Tryz.func20, Tryz.ntmps20
  go_wp2_with fail
  refine (K1.out _ (fatB TT.out B0)).mono ?_
  rintro r w1 ⟨rfl, b1⟩
  have B1 : Below w.heap.size w w1 := btr7 B0 b1
  have Rb_1 := heap_of b1 _ _ _ Rb_0
  have Rz_1 := heap_of b1 _ _ _ Rz_0
  clear b1 B0 Rb_0 Rz_0
  obtain ⟨cb_1_0, cb_1_1⟩ := cell7t Rb_1
  obtain ⟨cz_1_0, cz_1_1, cz_1_2, cz_1_3, cz_1_4, cz_1_5, cz_1_6, cz_1_7, cz_1_8, cz_1_9, cz_1_10, cz_1_11, cz_1_12, cz_1_13⟩ := pt_cells Rz_1
  go_wp2_with fail
  refine (K2.out _ (fatB TT.out B1)).mono ?_
  rintro r w2 ⟨rfl, b2⟩
  have B2 : Below w.heap.size w w2 := btr7 B1 b2
  have Rb_2 := heap_of b2 _ _ _ Rb_1
  have Rz_2 := heap_of b2 _ _ _ Rz_1
  clear b2 B1 Rb_1 cb_1_0 cb_1_1 Rz_1 cz_1_0 cz_1_1 cz_1_2 cz_1_3 cz_1_4 cz_1_5 cz_1_6 cz_1_7 cz_1_8 cz_1_9 cz_1_10 cz_1_11 cz_1_12 cz_1_13
  obtain ⟨cb_2_0, cb_2_1⟩ := cell7t Rb_2
  obtain ⟨cz_2_0, cz_2_1, cz_2_2, cz_2_3, cz_2_4, cz_2_5, cz_2_6, cz_2_7, cz_2_8, cz_2_9, cz_2_10, cz_2_11, cz_2_12, cz_2_13⟩ := pt_cells Rz_2
  have hstz := st_p w2 (w.heap.size + 1) c s X rr 0 0 0 0 Rz_2
  have RZ := setRow_row (c' := pt c s X rr) Rz_2
  obtain ⟨dz0, dz1, dz2, dz3, dz4, dz5, dz6, dz7, dz8, dz9, dz10, dz11, dz12, dz13⟩ := pt_cells RZ
  have bz := bel_set (c := pt c s X rr) B2 (show w.heap.size ≤ w.heap.size + 1 by first | exact Nat.le_refl _ | omega | (skip; omega))
  go_wp2
  exact bodyPost_ret (v := .tuple #[.agg (pt c s X rr), .int .i64 0]) (by simp [results, Tryz.results20, go_sem, dz0, dz1, dz2, dz3, dz4, dz5, dz6, dz7, dz8, dz9, dz10, dz11, dz12, dz13, ptf] <;> rfl) rfl ⟨rfl, bz⟩
theorem kUnpack_no (f : Int) (h0 : 0 ≤ f) (h1 : f ≤ 255) (x y n : Nat) (hx : x < 18446744073709551616) (hy : y < 18446744073709551616) (hn : y + 18446744073709551616 * x = n) (ho : okB f n = false) (w : World) (hT : FAt w) :
    Calls Tryz.prog 20 #[.int .u8 f, .agg #[.int .u64 (x : Nat), .int .u64 (y : Nat)]] w fun r w' => r = .returned (.tuple #[.agg (pt 0 0 0 0), .int .i64 2]) ∧ Below w.heap.size w w' := by
  have K1 := box (sk_fits f x y n false h0 h1 hx hy hn ho)
  have hat := cw_at 6
  have hz := cw6z
  have hff := cw6f
  have hs0 := st0
  have hcs : ∀ x, ((cw 6 x).size = 6) = True := fun x => eq_true (cw_size 6 x)
  have hp1 := ptf
  have hp3 := ptz
  have hp5 : ∀ (c s : Nat) (x : Int) (r : Nat), ((pt c s x r).size = 14) = True := fun _ _ _ _ => eq_true rfl
  have TT := box hT
  clear hT hx hy hn ho
  obtain ⟨Rb_0, Rz_0, B0⟩ := kopn2 w (Obj.cells #[.int .u64 (x : Nat), .int .u64 (y : Nat)] 25) (Obj.cells (pt 0 0 0 0) 55)
  go_enter Tryz.func20, Tryz.ntmps20
  go_wp2_with fail
  refine (K1.out _ (fatB TT.out B0)).mono ?_
  rintro r w1 ⟨rfl, b1⟩
  have B1 : Below w.heap.size w w1 := btr7 B0 b1
  have Rb_1 := heap_of b1 _ _ _ Rb_0
  have Rz_1 := heap_of b1 _ _ _ Rz_0
  clear b1 B0 Rb_0 Rz_0
  obtain ⟨cb_1_0, cb_1_1⟩ := cell7t Rb_1
  obtain ⟨cz_1_0, cz_1_1, cz_1_2, cz_1_3, cz_1_4, cz_1_5, cz_1_6, cz_1_7, cz_1_8, cz_1_9, cz_1_10, cz_1_11, cz_1_12, cz_1_13⟩ := pt_cells Rz_1
  have hstz := st_p w1 (w.heap.size + 1) 0 0 0 0 0 0 0 0 Rz_1
  have RZ := setRow_row (c' := pt 0 0 0 0) Rz_1
  obtain ⟨dz0, dz1, dz2, dz3, dz4, dz5, dz6, dz7, dz8, dz9, dz10, dz11, dz12, dz13⟩ := pt_cells RZ
  have bz := bel_set (c := pt 0 0 0 0) B1 (show w.heap.size ≤ w.heap.size + 1 by first | exact Nat.le_refl _ | omega | (skip; omega))
  go_wp2
  exact bodyPost_ret (v := .tuple #[.agg (pt 0 0 0 0), .int .i64 2]) (by simp [results, Tryz.results20, go_sem, dz0, dz1, dz2, dz3, dz4, dz5, dz6, dz7, dz8, dz9, dz10, dz11, dz12, dz13, ptf] <;> rfl) rfl ⟨rfl, bz⟩
end Go.Proofs.YtkmlbjlaahcahaaGreatDoor
namespace Go.Proofs.YtkmlbjlaahcahaaGreatDoor
set_option maxRecDepth 100000
open Go.RowKit WMath
set_option linter.unusedSimpArgs false
set_option linter.unusedVariables false

set_option maxRecDepth 100000 in
set_option maxHeartbeats 1000000 in
theorem kalive (w : World) (hT : FAt w) : Calls Tryz.prog 11 #[] w fun r w' => r = .returned (.bool true) ∧ Below w.heap.size w w' := by
  have hf2 : Is4 2 := Or.inr (Or.inr (Or.inl rfl))
  have K1 : Box (∀ w, FAt w → Calls Tryz.prog 44 #[.int .u8 2, .agg #[.int .u64 0, .int .u64 32768]] w fun r w' => r = .returned (.tuple #[.int .u8 3, .int .i64 0]) ∧ Below w.heap.size w w') := box (fun w hT => kClass_yes 2 hf2 0 32768 32768 3 (by decide) (by decide) (by decide) (by decide +kernel) (by decide +kernel) w hT)
  have K2 : Box (∀ w, FAt w → Calls Tryz.prog 20 #[.int .u8 2, .agg #[.int .u64 0, .int .u64 15360]] w fun r w' => r = .returned (.tuple #[.agg (pt 6 1024 (-10) 0), .int .i64 0]) ∧ Below w.heap.size w w') := box (fun w hT => kUnpack_yes 2 hf2 0 15360 15360 6 1024 0 (-10) (by decide) (by decide) (by decide) (by decide +kernel) (by decide +kernel) w hT)
  have K3 : Box (∀ w, FAt w → Calls Tryz.prog 44 #[.int .u8 4, .agg #[.int .u64 0, .int .u64 0]] w fun r w' => r = .returned (.tuple #[.int .u8 0, .int .i64 2]) ∧ Below w.heap.size w w') := box (fun w hT => kClass_no 4 (by decide) (by decide) 0 0 0 (by decide) (by decide) (by decide) (by decide +kernel) w hT)
  have hat := cw_at 6
  have hz := cw6z
  have hff := cw6f
  have hs0 := st0
  have hcs : ∀ x, ((cw 6 x).size = 6) = True := fun x => eq_true (cw_size 6 x)
  have heq := eq6
  have hg := eqg6
  have h1024 : (1024 : Nat) < Q := lt_Q7 (by decide)
  have hset : (cw 6 0).setIfInBounds 0 (.int .u64 1024) = cw 6 1024 := set0 1024 (by decide)
  have hp1 := ptf
  have hp3 := ptz
  have hp4 := st_p0
  have hp5 : ∀ (c s : Nat) (x : Int) (r : Nat), ((pt c s x r).size = 14) = True := fun _ _ _ _ => eq_true rfl
  have ha1 := pt_at1
  have ha2 := pt_at2
  have ha3 := pt_at3
  have ha4 := pt_at4
  have ha5 := pt_at5
  have ha6 := pt_at6
  have ha7 := pt_at7
  have TT := box hT
  clear hT hf2
  have B0 : Below w.heap.size w w := (Below.refl _ _)
  go_enter Tryz.func11, Tryz.ntmps11
  go_wp2_with fail
  refine (K1.out _ (fatB TT.out B0)).mono ?_
  rintro r w1 ⟨rfl, b1⟩
  have B1 : Below w.heap.size w w1 := btr7 B0 b1
  clear b1 B0 
  go_wp2_with fail
  refine (K2.out _ (fatB TT.out B1)).mono ?_
  rintro r w2 ⟨rfl, b2⟩
  have B2 : Below w.heap.size w w2 := btr7 B1 b2
  clear b2 B1 
  have S3 := box B2.size
  have Rp_3 := heap_alloc_last w2 (Obj.cells (pt 6 1024 (-10) 0) 55)
  have B3 := btr7 B2 (bal7 w2 (Obj.cells (pt 6 1024 (-10) 0) 55))
  clear B2 
  obtain ⟨cp_3_0, cp_3_1, cp_3_2, cp_3_3, cp_3_4, cp_3_5, cp_3_6, cp_3_7, cp_3_8, cp_3_9, cp_3_10, cp_3_11, cp_3_12, cp_3_13⟩ := pt_cells Rp_3
  go_wp2_with fail
  refine (K3.out _ (fatB TT.out B3)).mono ?_
  rintro r w4 ⟨rfl, b4⟩
  have B4 : Below w.heap.size w w4 := btr7 B3 b4
  have Rp_4 := heap_of b4 _ _ _ Rp_3
  clear b4 B3 Rp_3 cp_3_0 cp_3_1 cp_3_2 cp_3_3 cp_3_4 cp_3_5 cp_3_6 cp_3_7 cp_3_8 cp_3_9 cp_3_10 cp_3_11 cp_3_12 cp_3_13
  obtain ⟨cp_4_0, cp_4_1, cp_4_2, cp_4_3, cp_4_4, cp_4_5, cp_4_6, cp_4_7, cp_4_8, cp_4_9, cp_4_10, cp_4_11, cp_4_12, cp_4_13⟩ := pt_cells Rp_4
  go_wp2
  go_ret
  exact ⟨rfl, B4⟩

theorem kfits_law (f : Int) (x y n : Nat) (o : Bool) (h0 : 0 ≤ f) (hx : x < 18446744073709551616) (hy : y < 18446744073709551616) (hn : y + 18446744073709551616 * x = n) (ho : okB f n = o) (w : World) : Calls Tryz.prog 9 #[.int .u8 f, .agg #[.int .u64 (x : Nat), .int .u64 (y : Nat)]] w fun r w' => r = .returned (.bool o) ∧ Below w.heap.size w w' := by
  have K1 := box (rk_fits f x y n o h0 hx hy hn ho)
  clear hx hy hn ho
  obtain ⟨Rb_0, B0⟩ := kopn1 w (Obj.cells #[.int .u64 (x : Nat), .int .u64 (y : Nat)] 25)
  go_enter Tryz.func9, Tryz.ntmps9
  go_wp2_with fail
  refine (K1.out _).mono ?_
  rintro r w1 ⟨rfl, b1⟩
  have B1 : Below w.heap.size w w1 := btr7 B0 b1
  have Rb_1 := heap_of b1 _ _ _ Rb_0
  clear b1 B0 Rb_0
  obtain ⟨cb_1_0, cb_1_1⟩ := cell7t Rb_1
  go_wp2
  go_ret
  exact ⟨rfl, B1⟩
end Go.Proofs.YtkmlbjlaahcahaaGreatDoor
namespace Go.Proofs.YtkmlbjlaahcahaaGreatDoor
set_option maxRecDepth 100000
open Go.RowKit WMath
set_option linter.unusedSimpArgs false
set_option linter.unusedVariables false

theorem lt_128 {s : Nat} (hs : s < Q) : (wd s 0 + 18446744073709551616 * wd s 1 = s) ↔ s < 340282366920938463463374607431768211456 := by
  constructor
  · intro h
    have := wd_lt s 0
    have := wd_lt s 1
    omega
  · intro h
    rw [(wd01 h).1, (wd01 h).2]; omega
theorem ktobits_one (s u v : Nat) (hs : s < Q) (huv : bv7 (toB s) = (u, v)) : ∃ o, ∀ w, Calls Tryz.prog 119 #[.agg (cw 6 s)] w fun r w' => r = .returned (.tuple #[.agg #[.int .u64 (u : Nat), .int .u64 (v : Nat)], .bool o]) ∧ Below w.heap.size w w' := by
  unfold toB bv7 at huv
  by_cases h : s < 340282366920938463463374607431768211456
  · rw [if_pos h] at huv
    injection huv with h1 h2
    refine ⟨true, fun w => ?_⟩
    have k := wtobits_yes s hs ((lt_128 hs).2 h) w
    rw [(wd01 h).1, (wd01 h).2, h1, h2] at k
    exact k
  · rw [if_neg h] at huv
    injection huv with h1 h2
    refine ⟨false, fun w => ?_⟩
    have k := wtobits_no s hs (fun e => h ((lt_128 hs).1 e)) w
    rw [← h1, ← h2]
    exact k
theorem toB_lt (s : Nat) : toB s < 340282366920938463463374607431768211456 := by unfold toB; split <;> omega
theorem plN_lt (f : Int) (u : Nat) : plN f u < 340282366920938463463374607431768211456 := by
  unfold plN
  split
  · exact Nat.mod_lt _ (by decide)
  · exact Nat.lt_trans (Nat.mod_lt _ (by decide)) (by decide)
set_option maxHeartbeats 1000000 in
theorem kfinite_is (f : Int) (hf : Is4 f) (s a b : Nat) (X : Int) (hs : s < Q) (x1 : -9223372036854775808 ≤ X) (x2 : X ≤ 9223372036854775807) (hv : bv7 (fb f s X) = (a, b)) (w : World) (hT : FAt w) :
    Calls Tryz.prog 54 #[.int .u8 f, .agg (cw 6 s), .int .i64 X] w fun r w' => r = .returned (.agg #[.int .u64 (a : Nat), .int .u64 (b : Nat)]) ∧ Below w.heap.size w w' := by
  have hat := cw_at 6
  have hz := cw6z
  have hff := cw6f
  have hs0 := st0
  have hcs : ∀ x, ((cw 6 x).size = 6) = True := fun x => eq_true (cw_size 6 x)
  obtain ⟨u, v, huv⟩ : ∃ u v, bv7 (toB s) = (u, v) := ⟨_, _, rfl⟩
  obtain ⟨o, ho⟩ := ktobits_one s u v hs huv
  have K1 := box ho
  obtain ⟨u1, v1, uv⟩ := bv_lt (toB_lt s) huv
  have K2 := box (fun w hT => kleast_is f hf (lx f) rfl w hT)
  obtain ⟨_, _, _, p4, _⟩ := pV_lim hf
  obtain ⟨_, _, l3, l4, _⟩ := lx_lim hf
  have K3 := box (fun w hT => kfw f hf (pV f) rfl w hT)
  obtain ⟨c, d, hcd⟩ : ∃ u v, bv7 (plN f (u64w (X - lx f))) = (u, v) := ⟨_, _, rfl⟩
  have ul : u64w (X - lx f) < 18446744073709551616 := by unfold u64w; omega
  have K4 := box (kplaced_is (u64w (X - lx f)) (pV f) c d ul p4 (by rw [plG_is hf]; exact hcd))
  obtain ⟨c1, d1, cd⟩ := bv_lt (plN_lt f _) hcd
  have K5 := box (kplus_is c d u v _ _ a b c1 d1 cd u1 v1 uv hv)
  have e1 : IntKind.u64.wrap (IntKind.i64.wrap (X - lx f)) = (u64w (X - lx f) : Int) := by
    unfold u64w
    rw [IntKind.wrap_u64, IntKind.wrap_i64]
    omega
  obtain ⟨L, hL⟩ : ∃ q, lx f = q := ⟨_, rfl⟩
  rw [hL] at K2 K4 e1
  obtain ⟨U, hU⟩ : ∃ q, u64w (X - L) = q := ⟨_, rfl⟩
  rw [hU] at K4 e1
  obtain ⟨P, hP⟩ : ∃ q, pV f = q := ⟨_, rfl⟩
  rw [hP] at K3 K4
  have TT := box hT
  clear hT hf hs x1 x2 hv huv ho u1 v1 uv p4 l3 l4 hcd ul c1 d1 cd hL hU hP
  obtain ⟨Rs_0, Rz_0, B0⟩ := kopn2 w (Obj.cells (cw 6 s) 53) (Obj.cells #[.int .u64 0, .int .u64 0] 25)
  go_enter Tryz.func54, Tryz.ntmps54
  go_wp2_with fail
  refine (K1.out _).mono ?_
  rintro r w1 ⟨rfl, b1⟩
  have B1 : Below w.heap.size w w1 := btr7 B0 b1
  have Rs_1 := heap_of b1 _ _ _ Rs_0
  have Rz_1 := heap_of b1 _ _ _ Rz_0
  clear b1 B0 Rs_0 Rz_0
  have cs_1_0 := row_cell Rs_1
  obtain ⟨cz_1_0, cz_1_1⟩ := cell7t Rz_1
  have S2 := box B1.size
  have Ls_2 : Box (w.heap.size < w1.heap.size) := box (Array.getElem?_eq_some_iff.1 Rs_1).1
  have Lz_2 : Box (w.heap.size + 1 < w1.heap.size) := box (Array.getElem?_eq_some_iff.1 Rz_1).1
  have Rlow_2 := heap_alloc_last w1 (Obj.cells #[.int .u64 (u : Nat), .int .u64 (v : Nat)] 25)
  have B2 := btr7 B1 (bal7 w1 (Obj.cells #[.int .u64 (u : Nat), .int .u64 (v : Nat)] 25))
  have Rs_2 := heap_of (bal7 w1 (Obj.cells #[.int .u64 (u : Nat), .int .u64 (v : Nat)] 25)) _ _ _ Rs_1
  have Rz_2 := heap_of (bal7 w1 (Obj.cells #[.int .u64 (u : Nat), .int .u64 (v : Nat)] 25)) _ _ _ Rz_1
  clear B1 Rs_1 cs_1_0 Rz_1 cz_1_0 cz_1_1
  have cs_2_0 := row_cell Rs_2
  obtain ⟨cz_2_0, cz_2_1⟩ := cell7t Rz_2
  obtain ⟨clow_2_0, clow_2_1⟩ := cell7t Rlow_2
  have sS : Box (∀ W W1 : World, (Below w.heap.size w W ∧ W.heap[w.heap.size]? = some (Obj.cells (cw 6 s) 53) ∧ W.heap[w1.heap.size]? = some (Obj.cells #[.int .u64 (u : Nat), .int .u64 (v : Nat)] 25) ∧ W.cell? ⟨w.heap.size, 0, none⟩ = some (.int .u64 ((wd s 0 : Nat) : Int)) ∧ W.cell? ⟨w.heap.size, 1, none⟩ = some (.int .u64 ((wd s 1 : Nat) : Int)) ∧ W.cell? ⟨w.heap.size, 2, none⟩ = some (.int .u64 ((wd s 2 : Nat) : Int)) ∧ W.cell? ⟨w.heap.size, 3, none⟩ = some (.int .u64 ((wd s 3 : Nat) : Int)) ∧ W.cell? ⟨w.heap.size, 4, none⟩ = some (.int .u64 ((wd s 4 : Nat) : Int)) ∧ W.cell? ⟨w.heap.size, 5, none⟩ = some (.int .u64 ((wd s 5 : Nat) : Int)) ∧ W.cell? ⟨w1.heap.size, 0, none⟩ = some (.int .u64 (u : Nat)) ∧ W.cell? ⟨w1.heap.size, 1, none⟩ = some (.int .u64 (v : Nat))) → Below W.heap.size W W1 → (Below w.heap.size w W1 ∧ W1.heap[w.heap.size]? = some (Obj.cells (cw 6 s) 53) ∧ W1.heap[w1.heap.size]? = some (Obj.cells #[.int .u64 (u : Nat), .int .u64 (v : Nat)] 25) ∧ W1.cell? ⟨w.heap.size, 0, none⟩ = some (.int .u64 ((wd s 0 : Nat) : Int)) ∧ W1.cell? ⟨w.heap.size, 1, none⟩ = some (.int .u64 ((wd s 1 : Nat) : Int)) ∧ W1.cell? ⟨w.heap.size, 2, none⟩ = some (.int .u64 ((wd s 2 : Nat) : Int)) ∧ W1.cell? ⟨w.heap.size, 3, none⟩ = some (.int .u64 ((wd s 3 : Nat) : Int)) ∧ W1.cell? ⟨w.heap.size, 4, none⟩ = some (.int .u64 ((wd s 4 : Nat) : Int)) ∧ W1.cell? ⟨w.heap.size, 5, none⟩ = some (.int .u64 ((wd s 5 : Nat) : Int)) ∧ W1.cell? ⟨w1.heap.size, 0, none⟩ = some (.int .u64 (u : Nat)) ∧ W1.cell? ⟨w1.heap.size, 1, none⟩ = some (.int .u64 (v : Nat)))) := box (fun W W1 h b => ⟨btr7 h.1 b, heap_of b _ _ _ h.2.1, heap_of b _ _ _ h.2.2.1, row_cell (heap_of b _ _ _ h.2.1) 0 (by decide), row_cell (heap_of b _ _ _ h.2.1) 1 (by decide), row_cell (heap_of b _ _ _ h.2.1) 2 (by decide), row_cell (heap_of b _ _ _ h.2.1) 3 (by decide), row_cell (heap_of b _ _ _ h.2.1) 4 (by decide), row_cell (heap_of b _ _ _ h.2.1) 5 (by decide), cell7 (heap_of b _ _ _ h.2.2.1) 0 _ rfl, cell7 (heap_of b _ _ _ h.2.2.1) 1 _ rfl⟩)
  have sT : Box (∀ (W : World) (xA xB : Value), (Below w.heap.size w W ∧ W.heap[w.heap.size]? = some (Obj.cells (cw 6 s) 53) ∧ W.heap[w1.heap.size]? = some (Obj.cells #[.int .u64 (u : Nat), .int .u64 (v : Nat)] 25) ∧ W.cell? ⟨w.heap.size, 0, none⟩ = some (.int .u64 ((wd s 0 : Nat) : Int)) ∧ W.cell? ⟨w.heap.size, 1, none⟩ = some (.int .u64 ((wd s 1 : Nat) : Int)) ∧ W.cell? ⟨w.heap.size, 2, none⟩ = some (.int .u64 ((wd s 2 : Nat) : Int)) ∧ W.cell? ⟨w.heap.size, 3, none⟩ = some (.int .u64 ((wd s 3 : Nat) : Int)) ∧ W.cell? ⟨w.heap.size, 4, none⟩ = some (.int .u64 ((wd s 4 : Nat) : Int)) ∧ W.cell? ⟨w.heap.size, 5, none⟩ = some (.int .u64 ((wd s 5 : Nat) : Int)) ∧ W.cell? ⟨w1.heap.size, 0, none⟩ = some (.int .u64 (u : Nat)) ∧ W.cell? ⟨w1.heap.size, 1, none⟩ = some (.int .u64 (v : Nat))) → (Below w.heap.size w ((W.setCell ⟨w.heap.size + 1, 0, none⟩ xA).setCell ⟨w.heap.size + 1, 1, none⟩ xB) ∧ ((W.setCell ⟨w.heap.size + 1, 0, none⟩ xA).setCell ⟨w.heap.size + 1, 1, none⟩ xB).heap[w.heap.size]? = some (Obj.cells (cw 6 s) 53) ∧ ((W.setCell ⟨w.heap.size + 1, 0, none⟩ xA).setCell ⟨w.heap.size + 1, 1, none⟩ xB).heap[w1.heap.size]? = some (Obj.cells #[.int .u64 (u : Nat), .int .u64 (v : Nat)] 25) ∧ ((W.setCell ⟨w.heap.size + 1, 0, none⟩ xA).setCell ⟨w.heap.size + 1, 1, none⟩ xB).cell? ⟨w.heap.size, 0, none⟩ = some (.int .u64 ((wd s 0 : Nat) : Int)) ∧ ((W.setCell ⟨w.heap.size + 1, 0, none⟩ xA).setCell ⟨w.heap.size + 1, 1, none⟩ xB).cell? ⟨w.heap.size, 1, none⟩ = some (.int .u64 ((wd s 1 : Nat) : Int)) ∧ ((W.setCell ⟨w.heap.size + 1, 0, none⟩ xA).setCell ⟨w.heap.size + 1, 1, none⟩ xB).cell? ⟨w.heap.size, 2, none⟩ = some (.int .u64 ((wd s 2 : Nat) : Int)) ∧ ((W.setCell ⟨w.heap.size + 1, 0, none⟩ xA).setCell ⟨w.heap.size + 1, 1, none⟩ xB).cell? ⟨w.heap.size, 3, none⟩ = some (.int .u64 ((wd s 3 : Nat) : Int)) ∧ ((W.setCell ⟨w.heap.size + 1, 0, none⟩ xA).setCell ⟨w.heap.size + 1, 1, none⟩ xB).cell? ⟨w.heap.size, 4, none⟩ = some (.int .u64 ((wd s 4 : Nat) : Int)) ∧ ((W.setCell ⟨w.heap.size + 1, 0, none⟩ xA).setCell ⟨w.heap.size + 1, 1, none⟩ xB).cell? ⟨w.heap.size, 5, none⟩ = some (.int .u64 ((wd s 5 : Nat) : Int)) ∧ ((W.setCell ⟨w.heap.size + 1, 0, none⟩ xA).setCell ⟨w.heap.size + 1, 1, none⟩ xB).cell? ⟨w1.heap.size, 0, none⟩ = some (.int .u64 (u : Nat)) ∧ ((W.setCell ⟨w.heap.size + 1, 0, none⟩ xA).setCell ⟨w.heap.size + 1, 1, none⟩ xB).cell? ⟨w1.heap.size, 1, none⟩ = some (.int .u64 (v : Nat)))) := box (fun W xA xB h => ⟨set2_below h.1 (by first | exact Nat.le_refl _ | omega | (have := S2.out; have := Ls_2.out; have := Lz_2.out; omega)) xA xB, (setCell_other (by first | omega | (have := S2.out; have := Ls_2.out; have := Lz_2.out; omega))).trans ((setCell_other (by first | omega | (have := S2.out; have := Ls_2.out; have := Lz_2.out; omega))).trans h.2.1), (setCell_other (by first | omega | (have := S2.out; have := Ls_2.out; have := Lz_2.out; omega))).trans ((setCell_other (by first | omega | (have := S2.out; have := Ls_2.out; have := Lz_2.out; omega))).trans h.2.2.1), row_cell ((setCell_other (by first | omega | (have := S2.out; have := Ls_2.out; have := Lz_2.out; omega))).trans ((setCell_other (by first | omega | (have := S2.out; have := Ls_2.out; have := Lz_2.out; omega))).trans h.2.1)) 0 (by decide), row_cell ((setCell_other (by first | omega | (have := S2.out; have := Ls_2.out; have := Lz_2.out; omega))).trans ((setCell_other (by first | omega | (have := S2.out; have := Ls_2.out; have := Lz_2.out; omega))).trans h.2.1)) 1 (by decide), row_cell ((setCell_other (by first | omega | (have := S2.out; have := Ls_2.out; have := Lz_2.out; omega))).trans ((setCell_other (by first | omega | (have := S2.out; have := Ls_2.out; have := Lz_2.out; omega))).trans h.2.1)) 2 (by decide), row_cell ((setCell_other (by first | omega | (have := S2.out; have := Ls_2.out; have := Lz_2.out; omega))).trans ((setCell_other (by first | omega | (have := S2.out; have := Ls_2.out; have := Lz_2.out; omega))).trans h.2.1)) 3 (by decide), row_cell ((setCell_other (by first | omega | (have := S2.out; have := Ls_2.out; have := Lz_2.out; omega))).trans ((setCell_other (by first | omega | (have := S2.out; have := Ls_2.out; have := Lz_2.out; omega))).trans h.2.1)) 4 (by decide), row_cell ((setCell_other (by first | omega | (have := S2.out; have := Ls_2.out; have := Lz_2.out; omega))).trans ((setCell_other (by first | omega | (have := S2.out; have := Ls_2.out; have := Lz_2.out; omega))).trans h.2.1)) 5 (by decide), cell7 ((setCell_other (by first | omega | (have := S2.out; have := Ls_2.out; have := Lz_2.out; omega))).trans ((setCell_other (by first | omega | (have := S2.out; have := Ls_2.out; have := Lz_2.out; omega))).trans h.2.2.1)) 0 _ rfl, cell7 ((setCell_other (by first | omega | (have := S2.out; have := Ls_2.out; have := Lz_2.out; omega))).trans ((setCell_other (by first | omega | (have := S2.out; have := Ls_2.out; have := Lz_2.out; omega))).trans h.2.2.1)) 1 _ rfl⟩)
  have s0 : Below w.heap.size w ((w1.alloc (Obj.cells #[.int .u64 (u : Nat), .int .u64 (v : Nat)] 25))).drew ∧ ((w1.alloc (Obj.cells #[.int .u64 (u : Nat), .int .u64 (v : Nat)] 25))).drew.heap[w.heap.size]? = some (Obj.cells (cw 6 s) 53) ∧ ((w1.alloc (Obj.cells #[.int .u64 (u : Nat), .int .u64 (v : Nat)] 25))).drew.heap[w1.heap.size]? = some (Obj.cells #[.int .u64 (u : Nat), .int .u64 (v : Nat)] 25) ∧ ((w1.alloc (Obj.cells #[.int .u64 (u : Nat), .int .u64 (v : Nat)] 25))).drew.cell? ⟨w.heap.size, 0, none⟩ = some (.int .u64 ((wd s 0 : Nat) : Int)) ∧ ((w1.alloc (Obj.cells #[.int .u64 (u : Nat), .int .u64 (v : Nat)] 25))).drew.cell? ⟨w.heap.size, 1, none⟩ = some (.int .u64 ((wd s 1 : Nat) : Int)) ∧ ((w1.alloc (Obj.cells #[.int .u64 (u : Nat), .int .u64 (v : Nat)] 25))).drew.cell? ⟨w.heap.size, 2, none⟩ = some (.int .u64 ((wd s 2 : Nat) : Int)) ∧ ((w1.alloc (Obj.cells #[.int .u64 (u : Nat), .int .u64 (v : Nat)] 25))).drew.cell? ⟨w.heap.size, 3, none⟩ = some (.int .u64 ((wd s 3 : Nat) : Int)) ∧ ((w1.alloc (Obj.cells #[.int .u64 (u : Nat), .int .u64 (v : Nat)] 25))).drew.cell? ⟨w.heap.size, 4, none⟩ = some (.int .u64 ((wd s 4 : Nat) : Int)) ∧ ((w1.alloc (Obj.cells #[.int .u64 (u : Nat), .int .u64 (v : Nat)] 25))).drew.cell? ⟨w.heap.size, 5, none⟩ = some (.int .u64 ((wd s 5 : Nat) : Int)) ∧ ((w1.alloc (Obj.cells #[.int .u64 (u : Nat), .int .u64 (v : Nat)] 25))).drew.cell? ⟨w1.heap.size, 0, none⟩ = some (.int .u64 (u : Nat)) ∧ ((w1.alloc (Obj.cells #[.int .u64 (u : Nat), .int .u64 (v : Nat)] 25))).drew.cell? ⟨w1.heap.size, 1, none⟩ = some (.int .u64 (v : Nat)) := ⟨B2.drew, Rs_2, Rlow_2, row_cell (Rs_2) 0 (by decide), row_cell (Rs_2) 1 (by decide), row_cell (Rs_2) 2 (by decide), row_cell (Rs_2) 3 (by decide), row_cell (Rs_2) 4 (by decide), row_cell (Rs_2) 5 (by decide), cell7 (Rlow_2) 0 _ rfl, cell7 (Rlow_2) 1 _ rfl⟩
  have rz : ((w1.alloc (Obj.cells #[.int .u64 (u : Nat), .int .u64 (v : Nat)] 25))).drew.heap[w.heap.size + 1]? = some (Obj.cells #[.int .u64 0, .int .u64 0] 25) := Rz_2
  have hq0 := fz (k := 0) rz
  have hq1 := fz (k := 1) rz
  have hc0 := cell7 rz 0 _ rfl
  have hc1 := cell7 rz 1 _ rfl
  go_wp2_with fail
  go_region_held3 (fun W => Below w.heap.size w W ∧ W.heap[w.heap.size]? = some (Obj.cells (cw 6 s) 53) ∧ W.heap[w1.heap.size]? = some (Obj.cells #[.int .u64 (u : Nat), .int .u64 (v : Nat)] 25) ∧ W.cell? ⟨w.heap.size, 0, none⟩ = some (.int .u64 ((wd s 0 : Nat) : Int)) ∧ W.cell? ⟨w.heap.size, 1, none⟩ = some (.int .u64 ((wd s 1 : Nat) : Int)) ∧ W.cell? ⟨w.heap.size, 2, none⟩ = some (.int .u64 ((wd s 2 : Nat) : Int)) ∧ W.cell? ⟨w.heap.size, 3, none⟩ = some (.int .u64 ((wd s 3 : Nat) : Int)) ∧ W.cell? ⟨w.heap.size, 4, none⟩ = some (.int .u64 ((wd s 4 : Nat) : Int)) ∧ W.cell? ⟨w.heap.size, 5, none⟩ = some (.int .u64 ((wd s 5 : Nat) : Int)) ∧ W.cell? ⟨w1.heap.size, 0, none⟩ = some (.int .u64 (u : Nat)) ∧ W.cell? ⟨w1.heap.size, 1, none⟩ = some (.int .u64 (v : Nat))) (first | exact s1 | exact s0 | exact sT.out _ _ _ s1 | exact sT.out _ _ _ s0)
    (first | (go_at_call 121; (first | refine (K2.out _ (fatB TT.out (And.left s1))).mono ?_ | refine (K2.out _ (fatB TT.out (And.left s0))).mono ?_); rintro r wq ⟨rfl, bq⟩; have s1 := (by first | exact sS.out _ _ s1 bq | exact sS.out _ _ s0 bq); have rz := heap_of bq _ _ _ rz; have hq0 := fz (k := 0) rz; have hq1 := fz (k := 1) rz; have hc0 := cell7 rz 0 _ rfl; have hc1 := cell7 rz 1 _ rfl; clear bq) | (go_at_call 122; (first | refine (K3.out _ (fatB TT.out (And.left s1))).mono ?_ | refine (K3.out _ (fatB TT.out (And.left s0))).mono ?_); rintro r wq ⟨rfl, bq⟩; have s1 := (by first | exact sS.out _ _ s1 bq | exact sS.out _ _ s0 bq); have rz := heap_of bq _ _ _ rz; have hq0 := fz (k := 0) rz; have hq1 := fz (k := 1) rz; have hc0 := cell7 rz 0 _ rfl; have hc1 := cell7 rz 1 _ rfl; clear bq) | (go_at_call 120; (first | refine (K4.out _).mono ?_ | refine (K4.out _).mono ?_); rintro r wq ⟨rfl, bq⟩; have s1 := (by first | exact sS.out _ _ s1 bq | exact sS.out _ _ s0 bq); have rz := heap_of bq _ _ _ rz; have hq0 := fz (k := 0) rz; have hq1 := fz (k := 1) rz; have hc0 := cell7 rz 0 _ rfl; have hc1 := cell7 rz 1 _ rfl; clear bq) | (go_at_call 80; (first | refine (K5.out _).mono ?_ | refine (K5.out _).mono ?_); rintro r wq ⟨rfl, bq⟩; have s1 := (by first | exact sS.out _ _ s1 bq | exact sS.out _ _ s0 bq); have rz := heap_of bq _ _ _ rz; have hq0 := fz (k := 0) rz; have hq1 := fz (k := 1) rz; have hc0 := cell7 rz 0 _ rfl; have hc1 := cell7 rz 1 _ rfl; clear bq) | fail)
  obtain ⟨E0, E1⟩ := set2_cells rz (.int .u64 (a : Nat)) (.int .u64 (b : Nat))
  have BZ := (by first | exact And.left s1 | exact And.left s0 : Below w.heap.size w _)
  go_wp2
  exact bodyPost_ret (v := .agg #[.int .u64 (a : Nat), .int .u64 (b : Nat)]) (by simp [results, Tryz.results54, go_sem, E0, E1]) rfl ⟨rfl, set2_below BZ (by first | exact Nat.le_refl _ | omega | (have := S2.out; have := Ls_2.out; have := Lz_2.out; omega)) _ _⟩
set_option maxHeartbeats 1000000 in
theorem kendless_is (f : Int) (hf : Is4 f) (s a b : Nat) (hs : s < Q) (hv : bv7 (eb f s) = (a, b)) (w : World) (hT : FAt w) :
    Calls Tryz.prog 138 #[.int .u8 f, .agg (cw 6 s)] w fun r w' => r = .returned (.agg #[.int .u64 (a : Nat), .int .u64 (b : Nat)]) ∧ Below w.heap.size w w' := by
  have hat := cw_at 6
  have hz := cw6z
  have hff := cw6f
  have hs0 := st0
  have hcs : ∀ x, ((cw 6 x).size = 6) = True := fun x => eq_true (cw_size 6 x)
  obtain ⟨u, v, huv⟩ : ∃ u v, bv7 (toB s) = (u, v) := ⟨_, _, rfl⟩
  obtain ⟨o, ho⟩ := ktobits_one s u v hs huv
  have K1 := box ho
  obtain ⟨u1, v1, uv⟩ := bv_lt (toB_lt s) huv
  obtain ⟨c, d, hcd⟩ : ∃ u v, bv7 (eInf f false) = (u, v) := ⟨_, _, rfl⟩
  have K4 := box (fun w hT => sk_inf f false hf c d hcd w hT)
  obtain ⟨c1, d1, cd⟩ := bv_lt (einf_k hf).2 hcd
  have K5 := box (kplus_is c d u v _ _ a b c1 d1 cd u1 v1 uv hv)
  have TT := box hT
  clear hT hf hs hv huv ho u1 v1 uv hcd c1 d1 cd
  obtain ⟨Rs_0, Rz_0, B0⟩ := kopn2 w (Obj.cells (cw 6 s) 53) (Obj.cells #[.int .u64 0, .int .u64 0] 25)
  go_enter Tryz.func138, Tryz.ntmps138
  go_wp2_with fail
  refine (K1.out _).mono ?_
  rintro r w1 ⟨rfl, b1⟩
  have B1 : Below w.heap.size w w1 := btr7 B0 b1
  have Rs_1 := heap_of b1 _ _ _ Rs_0
  have Rz_1 := heap_of b1 _ _ _ Rz_0
  clear b1 B0 Rs_0 Rz_0
  have cs_1_0 := row_cell Rs_1
  obtain ⟨cz_1_0, cz_1_1⟩ := cell7t Rz_1
  have S2 := box B1.size
  have Ls_2 : Box (w.heap.size < w1.heap.size) := box (Array.getElem?_eq_some_iff.1 Rs_1).1
  have Lz_2 : Box (w.heap.size + 1 < w1.heap.size) := box (Array.getElem?_eq_some_iff.1 Rz_1).1
  have Rlow_2 := heap_alloc_last w1 (Obj.cells #[.int .u64 (u : Nat), .int .u64 (v : Nat)] 25)
  have B2 := btr7 B1 (bal7 w1 (Obj.cells #[.int .u64 (u : Nat), .int .u64 (v : Nat)] 25))
  have Rs_2 := heap_of (bal7 w1 (Obj.cells #[.int .u64 (u : Nat), .int .u64 (v : Nat)] 25)) _ _ _ Rs_1
  have Rz_2 := heap_of (bal7 w1 (Obj.cells #[.int .u64 (u : Nat), .int .u64 (v : Nat)] 25)) _ _ _ Rz_1
  clear B1 Rs_1 cs_1_0 Rz_1 cz_1_0 cz_1_1
  have cs_2_0 := row_cell Rs_2
  obtain ⟨cz_2_0, cz_2_1⟩ := cell7t Rz_2
  obtain ⟨clow_2_0, clow_2_1⟩ := cell7t Rlow_2
  have sS : Box (∀ W W1 : World, (Below w.heap.size w W ∧ W.heap[w.heap.size]? = some (Obj.cells (cw 6 s) 53) ∧ W.heap[w1.heap.size]? = some (Obj.cells #[.int .u64 (u : Nat), .int .u64 (v : Nat)] 25) ∧ W.cell? ⟨w.heap.size, 0, none⟩ = some (.int .u64 ((wd s 0 : Nat) : Int)) ∧ W.cell? ⟨w.heap.size, 1, none⟩ = some (.int .u64 ((wd s 1 : Nat) : Int)) ∧ W.cell? ⟨w.heap.size, 2, none⟩ = some (.int .u64 ((wd s 2 : Nat) : Int)) ∧ W.cell? ⟨w.heap.size, 3, none⟩ = some (.int .u64 ((wd s 3 : Nat) : Int)) ∧ W.cell? ⟨w.heap.size, 4, none⟩ = some (.int .u64 ((wd s 4 : Nat) : Int)) ∧ W.cell? ⟨w.heap.size, 5, none⟩ = some (.int .u64 ((wd s 5 : Nat) : Int)) ∧ W.cell? ⟨w1.heap.size, 0, none⟩ = some (.int .u64 (u : Nat)) ∧ W.cell? ⟨w1.heap.size, 1, none⟩ = some (.int .u64 (v : Nat))) → Below W.heap.size W W1 → (Below w.heap.size w W1 ∧ W1.heap[w.heap.size]? = some (Obj.cells (cw 6 s) 53) ∧ W1.heap[w1.heap.size]? = some (Obj.cells #[.int .u64 (u : Nat), .int .u64 (v : Nat)] 25) ∧ W1.cell? ⟨w.heap.size, 0, none⟩ = some (.int .u64 ((wd s 0 : Nat) : Int)) ∧ W1.cell? ⟨w.heap.size, 1, none⟩ = some (.int .u64 ((wd s 1 : Nat) : Int)) ∧ W1.cell? ⟨w.heap.size, 2, none⟩ = some (.int .u64 ((wd s 2 : Nat) : Int)) ∧ W1.cell? ⟨w.heap.size, 3, none⟩ = some (.int .u64 ((wd s 3 : Nat) : Int)) ∧ W1.cell? ⟨w.heap.size, 4, none⟩ = some (.int .u64 ((wd s 4 : Nat) : Int)) ∧ W1.cell? ⟨w.heap.size, 5, none⟩ = some (.int .u64 ((wd s 5 : Nat) : Int)) ∧ W1.cell? ⟨w1.heap.size, 0, none⟩ = some (.int .u64 (u : Nat)) ∧ W1.cell? ⟨w1.heap.size, 1, none⟩ = some (.int .u64 (v : Nat)))) := box (fun W W1 h b => ⟨btr7 h.1 b, heap_of b _ _ _ h.2.1, heap_of b _ _ _ h.2.2.1, row_cell (heap_of b _ _ _ h.2.1) 0 (by decide), row_cell (heap_of b _ _ _ h.2.1) 1 (by decide), row_cell (heap_of b _ _ _ h.2.1) 2 (by decide), row_cell (heap_of b _ _ _ h.2.1) 3 (by decide), row_cell (heap_of b _ _ _ h.2.1) 4 (by decide), row_cell (heap_of b _ _ _ h.2.1) 5 (by decide), cell7 (heap_of b _ _ _ h.2.2.1) 0 _ rfl, cell7 (heap_of b _ _ _ h.2.2.1) 1 _ rfl⟩)
  have sT : Box (∀ (W : World) (xA xB : Value), (Below w.heap.size w W ∧ W.heap[w.heap.size]? = some (Obj.cells (cw 6 s) 53) ∧ W.heap[w1.heap.size]? = some (Obj.cells #[.int .u64 (u : Nat), .int .u64 (v : Nat)] 25) ∧ W.cell? ⟨w.heap.size, 0, none⟩ = some (.int .u64 ((wd s 0 : Nat) : Int)) ∧ W.cell? ⟨w.heap.size, 1, none⟩ = some (.int .u64 ((wd s 1 : Nat) : Int)) ∧ W.cell? ⟨w.heap.size, 2, none⟩ = some (.int .u64 ((wd s 2 : Nat) : Int)) ∧ W.cell? ⟨w.heap.size, 3, none⟩ = some (.int .u64 ((wd s 3 : Nat) : Int)) ∧ W.cell? ⟨w.heap.size, 4, none⟩ = some (.int .u64 ((wd s 4 : Nat) : Int)) ∧ W.cell? ⟨w.heap.size, 5, none⟩ = some (.int .u64 ((wd s 5 : Nat) : Int)) ∧ W.cell? ⟨w1.heap.size, 0, none⟩ = some (.int .u64 (u : Nat)) ∧ W.cell? ⟨w1.heap.size, 1, none⟩ = some (.int .u64 (v : Nat))) → (Below w.heap.size w ((W.setCell ⟨w.heap.size + 1, 0, none⟩ xA).setCell ⟨w.heap.size + 1, 1, none⟩ xB) ∧ ((W.setCell ⟨w.heap.size + 1, 0, none⟩ xA).setCell ⟨w.heap.size + 1, 1, none⟩ xB).heap[w.heap.size]? = some (Obj.cells (cw 6 s) 53) ∧ ((W.setCell ⟨w.heap.size + 1, 0, none⟩ xA).setCell ⟨w.heap.size + 1, 1, none⟩ xB).heap[w1.heap.size]? = some (Obj.cells #[.int .u64 (u : Nat), .int .u64 (v : Nat)] 25) ∧ ((W.setCell ⟨w.heap.size + 1, 0, none⟩ xA).setCell ⟨w.heap.size + 1, 1, none⟩ xB).cell? ⟨w.heap.size, 0, none⟩ = some (.int .u64 ((wd s 0 : Nat) : Int)) ∧ ((W.setCell ⟨w.heap.size + 1, 0, none⟩ xA).setCell ⟨w.heap.size + 1, 1, none⟩ xB).cell? ⟨w.heap.size, 1, none⟩ = some (.int .u64 ((wd s 1 : Nat) : Int)) ∧ ((W.setCell ⟨w.heap.size + 1, 0, none⟩ xA).setCell ⟨w.heap.size + 1, 1, none⟩ xB).cell? ⟨w.heap.size, 2, none⟩ = some (.int .u64 ((wd s 2 : Nat) : Int)) ∧ ((W.setCell ⟨w.heap.size + 1, 0, none⟩ xA).setCell ⟨w.heap.size + 1, 1, none⟩ xB).cell? ⟨w.heap.size, 3, none⟩ = some (.int .u64 ((wd s 3 : Nat) : Int)) ∧ ((W.setCell ⟨w.heap.size + 1, 0, none⟩ xA).setCell ⟨w.heap.size + 1, 1, none⟩ xB).cell? ⟨w.heap.size, 4, none⟩ = some (.int .u64 ((wd s 4 : Nat) : Int)) ∧ ((W.setCell ⟨w.heap.size + 1, 0, none⟩ xA).setCell ⟨w.heap.size + 1, 1, none⟩ xB).cell? ⟨w.heap.size, 5, none⟩ = some (.int .u64 ((wd s 5 : Nat) : Int)) ∧ ((W.setCell ⟨w.heap.size + 1, 0, none⟩ xA).setCell ⟨w.heap.size + 1, 1, none⟩ xB).cell? ⟨w1.heap.size, 0, none⟩ = some (.int .u64 (u : Nat)) ∧ ((W.setCell ⟨w.heap.size + 1, 0, none⟩ xA).setCell ⟨w.heap.size + 1, 1, none⟩ xB).cell? ⟨w1.heap.size, 1, none⟩ = some (.int .u64 (v : Nat)))) := box (fun W xA xB h => ⟨set2_below h.1 (by first | exact Nat.le_refl _ | omega | (have := S2.out; have := Ls_2.out; have := Lz_2.out; omega)) xA xB, (setCell_other (by first | omega | (have := S2.out; have := Ls_2.out; have := Lz_2.out; omega))).trans ((setCell_other (by first | omega | (have := S2.out; have := Ls_2.out; have := Lz_2.out; omega))).trans h.2.1), (setCell_other (by first | omega | (have := S2.out; have := Ls_2.out; have := Lz_2.out; omega))).trans ((setCell_other (by first | omega | (have := S2.out; have := Ls_2.out; have := Lz_2.out; omega))).trans h.2.2.1), row_cell ((setCell_other (by first | omega | (have := S2.out; have := Ls_2.out; have := Lz_2.out; omega))).trans ((setCell_other (by first | omega | (have := S2.out; have := Ls_2.out; have := Lz_2.out; omega))).trans h.2.1)) 0 (by decide), row_cell ((setCell_other (by first | omega | (have := S2.out; have := Ls_2.out; have := Lz_2.out; omega))).trans ((setCell_other (by first | omega | (have := S2.out; have := Ls_2.out; have := Lz_2.out; omega))).trans h.2.1)) 1 (by decide), row_cell ((setCell_other (by first | omega | (have := S2.out; have := Ls_2.out; have := Lz_2.out; omega))).trans ((setCell_other (by first | omega | (have := S2.out; have := Ls_2.out; have := Lz_2.out; omega))).trans h.2.1)) 2 (by decide), row_cell ((setCell_other (by first | omega | (have := S2.out; have := Ls_2.out; have := Lz_2.out; omega))).trans ((setCell_other (by first | omega | (have := S2.out; have := Ls_2.out; have := Lz_2.out; omega))).trans h.2.1)) 3 (by decide), row_cell ((setCell_other (by first | omega | (have := S2.out; have := Ls_2.out; have := Lz_2.out; omega))).trans ((setCell_other (by first | omega | (have := S2.out; have := Ls_2.out; have := Lz_2.out; omega))).trans h.2.1)) 4 (by decide), row_cell ((setCell_other (by first | omega | (have := S2.out; have := Ls_2.out; have := Lz_2.out; omega))).trans ((setCell_other (by first | omega | (have := S2.out; have := Ls_2.out; have := Lz_2.out; omega))).trans h.2.1)) 5 (by decide), cell7 ((setCell_other (by first | omega | (have := S2.out; have := Ls_2.out; have := Lz_2.out; omega))).trans ((setCell_other (by first | omega | (have := S2.out; have := Ls_2.out; have := Lz_2.out; omega))).trans h.2.2.1)) 0 _ rfl, cell7 ((setCell_other (by first | omega | (have := S2.out; have := Ls_2.out; have := Lz_2.out; omega))).trans ((setCell_other (by first | omega | (have := S2.out; have := Ls_2.out; have := Lz_2.out; omega))).trans h.2.2.1)) 1 _ rfl⟩)
  have s0 : Below w.heap.size w ((w1.alloc (Obj.cells #[.int .u64 (u : Nat), .int .u64 (v : Nat)] 25))).drew ∧ ((w1.alloc (Obj.cells #[.int .u64 (u : Nat), .int .u64 (v : Nat)] 25))).drew.heap[w.heap.size]? = some (Obj.cells (cw 6 s) 53) ∧ ((w1.alloc (Obj.cells #[.int .u64 (u : Nat), .int .u64 (v : Nat)] 25))).drew.heap[w1.heap.size]? = some (Obj.cells #[.int .u64 (u : Nat), .int .u64 (v : Nat)] 25) ∧ ((w1.alloc (Obj.cells #[.int .u64 (u : Nat), .int .u64 (v : Nat)] 25))).drew.cell? ⟨w.heap.size, 0, none⟩ = some (.int .u64 ((wd s 0 : Nat) : Int)) ∧ ((w1.alloc (Obj.cells #[.int .u64 (u : Nat), .int .u64 (v : Nat)] 25))).drew.cell? ⟨w.heap.size, 1, none⟩ = some (.int .u64 ((wd s 1 : Nat) : Int)) ∧ ((w1.alloc (Obj.cells #[.int .u64 (u : Nat), .int .u64 (v : Nat)] 25))).drew.cell? ⟨w.heap.size, 2, none⟩ = some (.int .u64 ((wd s 2 : Nat) : Int)) ∧ ((w1.alloc (Obj.cells #[.int .u64 (u : Nat), .int .u64 (v : Nat)] 25))).drew.cell? ⟨w.heap.size, 3, none⟩ = some (.int .u64 ((wd s 3 : Nat) : Int)) ∧ ((w1.alloc (Obj.cells #[.int .u64 (u : Nat), .int .u64 (v : Nat)] 25))).drew.cell? ⟨w.heap.size, 4, none⟩ = some (.int .u64 ((wd s 4 : Nat) : Int)) ∧ ((w1.alloc (Obj.cells #[.int .u64 (u : Nat), .int .u64 (v : Nat)] 25))).drew.cell? ⟨w.heap.size, 5, none⟩ = some (.int .u64 ((wd s 5 : Nat) : Int)) ∧ ((w1.alloc (Obj.cells #[.int .u64 (u : Nat), .int .u64 (v : Nat)] 25))).drew.cell? ⟨w1.heap.size, 0, none⟩ = some (.int .u64 (u : Nat)) ∧ ((w1.alloc (Obj.cells #[.int .u64 (u : Nat), .int .u64 (v : Nat)] 25))).drew.cell? ⟨w1.heap.size, 1, none⟩ = some (.int .u64 (v : Nat)) := ⟨B2.drew, Rs_2, Rlow_2, row_cell (Rs_2) 0 (by decide), row_cell (Rs_2) 1 (by decide), row_cell (Rs_2) 2 (by decide), row_cell (Rs_2) 3 (by decide), row_cell (Rs_2) 4 (by decide), row_cell (Rs_2) 5 (by decide), cell7 (Rlow_2) 0 _ rfl, cell7 (Rlow_2) 1 _ rfl⟩
  have rz : ((w1.alloc (Obj.cells #[.int .u64 (u : Nat), .int .u64 (v : Nat)] 25))).drew.heap[w.heap.size + 1]? = some (Obj.cells #[.int .u64 0, .int .u64 0] 25) := Rz_2
  have hq0 := fz (k := 0) rz
  have hq1 := fz (k := 1) rz
  have hc0 := cell7 rz 0 _ rfl
  have hc1 := cell7 rz 1 _ rfl
  go_wp2_with fail
  go_region_held3 (fun W => Below w.heap.size w W ∧ W.heap[w.heap.size]? = some (Obj.cells (cw 6 s) 53) ∧ W.heap[w1.heap.size]? = some (Obj.cells #[.int .u64 (u : Nat), .int .u64 (v : Nat)] 25) ∧ W.cell? ⟨w.heap.size, 0, none⟩ = some (.int .u64 ((wd s 0 : Nat) : Int)) ∧ W.cell? ⟨w.heap.size, 1, none⟩ = some (.int .u64 ((wd s 1 : Nat) : Int)) ∧ W.cell? ⟨w.heap.size, 2, none⟩ = some (.int .u64 ((wd s 2 : Nat) : Int)) ∧ W.cell? ⟨w.heap.size, 3, none⟩ = some (.int .u64 ((wd s 3 : Nat) : Int)) ∧ W.cell? ⟨w.heap.size, 4, none⟩ = some (.int .u64 ((wd s 4 : Nat) : Int)) ∧ W.cell? ⟨w.heap.size, 5, none⟩ = some (.int .u64 ((wd s 5 : Nat) : Int)) ∧ W.cell? ⟨w1.heap.size, 0, none⟩ = some (.int .u64 (u : Nat)) ∧ W.cell? ⟨w1.heap.size, 1, none⟩ = some (.int .u64 (v : Nat))) (first | exact s1 | exact s0 | exact sT.out _ _ _ s1 | exact sT.out _ _ _ s0)
    (first | (go_at_call 25; (first | refine (K4.out _ (fatB TT.out (And.left s1))).mono ?_ | refine (K4.out _ (fatB TT.out (And.left s0))).mono ?_); rintro r wq ⟨rfl, bq⟩; have s1 := (by first | exact sS.out _ _ s1 bq | exact sS.out _ _ s0 bq); have rz := heap_of bq _ _ _ rz; have hq0 := fz (k := 0) rz; have hq1 := fz (k := 1) rz; have hc0 := cell7 rz 0 _ rfl; have hc1 := cell7 rz 1 _ rfl; clear bq) | (go_at_call 80; (first | refine (K5.out _).mono ?_ | refine (K5.out _).mono ?_); rintro r wq ⟨rfl, bq⟩; have s1 := (by first | exact sS.out _ _ s1 bq | exact sS.out _ _ s0 bq); have rz := heap_of bq _ _ _ rz; have hq0 := fz (k := 0) rz; have hq1 := fz (k := 1) rz; have hc0 := cell7 rz 0 _ rfl; have hc1 := cell7 rz 1 _ rfl; clear bq) | fail)
  obtain ⟨E0, E1⟩ := set2_cells rz (.int .u64 (a : Nat)) (.int .u64 (b : Nat))
  have BZ := (by first | exact And.left s1 | exact And.left s0 : Below w.heap.size w _)
  go_wp2
  exact bodyPost_ret (v := .agg #[.int .u64 (a : Nat), .int .u64 (b : Nat)]) (by simp [results, Tryz.results138, go_sem, E0, E1]) rfl ⟨rfl, set2_below BZ (by first | exact Nat.le_refl _ | omega | (have := S2.out; have := Ls_2.out; have := Lz_2.out; omega)) _ _⟩
end Go.Proofs.YtkmlbjlaahcahaaGreatDoor
namespace Go.Proofs.YtkmlbjlaahcahaaGreatDoor
set_option maxRecDepth 100000
open Go.RowKit WMath
set_option linter.unusedSimpArgs false
set_option linter.unusedVariables false

theorem eq6d (d x y : Nat) (hx : x < Q) (hy : y < Q) (w : World) : (Op.equalIn (d + 2) 53 (.agg (cw 6 x)) (.agg (cw 6 y))).run Tryz.prog w = .ok (decide (x = y)) w := by
  obtain ⟨i, hi⟩ : ∃ i, Tryz.prog.info? 23 = some i := by
    have : (Tryz.prog.info? 23).isSome = true := by kernel_rfl
    exact Option.isSome_iff_exists.1 this
  have hc : Tryz.prog.cellsOf 23 = 1 := by kernel_rfl
  rw [run_equalIn_array w (d + 1) (cw 6 x) (cw 6 y) Tryz.underlying53 hi, hc, eqItems6 d x y w (List.range 6) (fun i h => by simpa using h)]
  congr 1
  rw [Bool.eq_iff_iff, List.all_eq_true, decide_eq_true_iff]
  constructor
  · intro h
    obtain ⟨L, hL, hQ⟩ := Q_of
    rw [hQ] at hx hy
    exact wd_ext hx hy (fun k hk => by simpa using h k (by rw [hL] at hk; simpa using hk))
  · rintro rfl i _
    simp
set_option maxRecDepth 100000 in
theorem eqpd (d c s : Nat) (x : Int) (rr c' s' : Nat) (x' : Int) (rr' : Nat) (hs : s < Q) (hs' : s' < Q) (hr : rr < Q) (hr' : rr' < Q) (w : World) :
    (Op.equalIn (d + 3) 55 (.agg (pt c s x rr)) (.agg (pt c' s' x' rr'))).run Tryz.prog w = .ok (decide (c = c') && (decide (s = s') && (decide (x = x') && decide (rr = rr')))) w := by
  have e1 := eq6d d s s' hs hs' w
  have e2 := eq6d d rr rr' hr hr' w
  have q1 : ∀ (c s : Nat) (x : Int) (r : Nat), (part 53 (pt c s x r) 1).run Tryz.prog w = .ok (.agg (cw 6 s)) w := fun c s x r => by kernel_rfl
  have q2 : ∀ (c s : Nat) (x : Int) (r : Nat), (part 53 (pt c s x r) 8).run Tryz.prog w = .ok (.agg (cw 6 r)) w := fun c s x r => by kernel_rfl
  have q3 : ∀ (c s : Nat) (x : Int) (r : Nat), (part 51 (pt c s x r) 0).run Tryz.prog w = .ok (.int .u8 (c : Nat)) w := fun c s x r => by kernel_rfl
  have q4 : ∀ (c s : Nat) (x : Int) (r : Nat), (part 3 (pt c s x r) 7).run Tryz.prog w = .ok (.int .i64 x) w := fun c s x r => by kernel_rfl
  have i1 : (Op.equalIn (d + 2) 51 (.int .u8 (c : Int)) (.int .u8 (c' : Int))).run Tryz.prog w = .ok ((c : Int) == (c' : Int)) w := run_equalIn_int w (d + 1) 51 .u8 .u8 (c : Int) (c' : Int) Tryz.underlying51
  have i2 : (Op.equalIn (d + 2) 3 (.int .i64 x) (.int .i64 x')).run Tryz.prog w = .ok (x == x') w := run_equalIn_int w (d + 1) 3 .i64 .i64 x x' Tryz.underlying3
  have n1 : ("Class" = "_") = False := by simp
  have n2 : ("Sig" = "_") = False := by simp
  have n3 : ("Exp" = "_") = False := by simp
  have n4 : ("Fraction" = "_") = False := by simp
  have st : Tryz.prog.stoodInHeld 55 = false := by kernel_rfl
  have c1 : ((c : Int) == (c' : Int)) = decide (c = c') := by rw [Bool.eq_iff_iff]; simp only [beq_iff_eq, decide_eq_true_eq]; omega
  have c2 : (x == x') = decide (x = x') := by rw [Bool.eq_iff_iff]; simp only [beq_iff_eq, decide_eq_true_eq]
  rw [c1] at i1
  rw [c2] at i2
  unfold Op.equalIn
  simp only [Sem.run_bind, run_underlying Tryz.underlying55, Result.andThen_ok]
  rw [show (Sem.run Tryz.prog program w) = .ok Tryz.prog w from rfl]
  simp only [Result.andThen_ok, st, Bool.false_eq_true, if_false]
  have fo : ∀ (l : List Field) (b : Field → (Option Bool × Unit) → Sem (ForInStep (Option Bool × Unit))), (forIn l.toArray (none, ()) b : Sem (Option Bool × Unit)) = forIn l (none, ()) b := fun l b => by simp
  simp only [fo, List.forIn_cons, List.forIn_nil, ne_eq, n1, n2, n3, n4, not_false_eq_true, if_true]
  obtain ⟨b1, h1⟩ : ∃ b, decide (c = c') = b := ⟨_, rfl⟩
  obtain ⟨b2, h2⟩ : ∃ b, decide (s = s') = b := ⟨_, rfl⟩
  obtain ⟨b3, h3⟩ : ∃ b, decide (x = x') = b := ⟨_, rfl⟩
  obtain ⟨b4, h4⟩ : ∃ b, decide (rr = rr') = b := ⟨_, rfl⟩
  rw [h1] at i1
  rw [h2] at e1
  rw [h3] at i2
  rw [h4] at e2
  rw [h1, h2, h3, h4]
  cases b1
  · simp only [Sem.run_bind, Sem.run_pure, Result.andThen_ok, q3, i1, Bool.not_false, if_true, Bool.false_and]
  cases b2
  · simp only [Sem.run_bind, Sem.run_pure, Result.andThen_ok, q3, i1, q1, e1, Bool.not_false, Bool.not_true, Bool.false_eq_true, if_false, if_true, Bool.false_and, Bool.true_and]
  cases b3
  · simp only [Sem.run_bind, Sem.run_pure, Result.andThen_ok, q3, i1, q1, e1, q4, i2, Bool.not_false, Bool.not_true, Bool.false_eq_true, if_false, if_true, Bool.false_and, Bool.true_and]
  cases b4
  · simp only [Sem.run_bind, Sem.run_pure, Result.andThen_ok, q3, i1, q1, e1, q4, i2, q2, e2, Bool.not_false, Bool.not_true, Bool.false_eq_true, if_false, if_true, Bool.false_and, Bool.true_and]
  · simp only [Sem.run_bind, Sem.run_pure, Result.andThen_ok, q3, i1, q1, e1, q4, i2, q2, e2, Bool.not_false, Bool.not_true, Bool.false_eq_true, if_false, if_true, Bool.false_and, Bool.true_and]
theorem eqp (c s : Nat) (x : Int) (rr c' s' : Nat) (x' : Int) (rr' : Nat) (hs : s < Q) (hs' : s' < Q) (hr : rr < Q) (hr' : rr' < Q) (w : World) :
    (Op.equalIn 10000 55 (.agg (pt c s x rr)) (.agg (pt c' s' x' rr'))).run Tryz.prog w = .ok (decide (c = c') && (decide (s = s') && (decide (x = x') && decide (rr = rr')))) w := eqpd 9997 c s x rr c' s' x' rr' hs hs' hr hr' w
theorem eqgp : Tryz.prog.eqGuardType Tryz.prog.depth 55 = false := by kernel_rfl
end Go.Proofs.YtkmlbjlaahcahaaGreatDoor
