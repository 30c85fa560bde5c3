/-
  What the functions that the statement reaches return: part 9 (K8, K9, KA).
-/
import Derived.Test.YtpgiabmmmpdobaaGreatDoorSr08
namespace Go.Proofs.YtpgiabmmmpdobaaGreatDoor
set_option maxRecDepth 100000
set_option maxHeartbeats 40000000
set_option maxRecDepth 100000
open Go.RowKit WMath
set_option linter.unusedSimpArgs false
set_option linter.unusedVariables false
theorem gen_abacusref07_Fields_9 {X : Act → World → Prop} {R : World → Nat → Prop} {t0 t1 t2 t3 t4 t5 t6 t7 t8 t10 t11 t12 t13 t14 t15 t16 t17 t18 t19 t20 t21 t22 t23 t24 t25 t26 t27 t28 t29 t30 t31 t32 t33 t34 t35 t36 t37 t38 t39 t40 : Value} {d : List Deferred} {W : World} {G : Nat}
  (key : ∀ w5 g, R w5 g → X ⟨#[t0, t1, t2, t3, t4, t5, t6, t7, t8, .pointer (some ⟨g, 0, none⟩), t10, t11, t12, t13, t14, t15, t16, t17, t18, t19, t20, t21, t22, t23, t24, t25, t26, t27, t28, t29, t30, t31, t32, t33, t34, t35, t36, t37, t38, t39, t40], d⟩ w5) (r : R W G) : X ⟨#[t0, t1, t2, t3, t4, t5, t6, t7, t8, .pointer (some ⟨G, 0, none⟩), t10, t11, t12, t13, t14, t15, t16, t17, t18, t19, t20, t21, t22, t23, t24, t25, t26, t27, t28, t29, t30, t31, t32, t33, t34, t35, t36, t37, t38, t39, t40], d⟩ W := key W G r
theorem gen_abacusref07_Fields_10 {X : Act → World → Prop} {R : World → Nat → Prop} {t0 t1 t2 t3 t4 t5 t6 t7 t8 t9 t11 t12 t13 t14 t15 t16 t17 t18 t19 t20 t21 t22 t23 t24 t25 t26 t27 t28 t29 t30 t31 t32 t33 t34 t35 t36 t37 t38 t39 t40 : Value} {d : List Deferred} {W : World} {G : Nat}
  (key : ∀ w5 g, R w5 g → X ⟨#[t0, t1, t2, t3, t4, t5, t6, t7, t8, t9, .pointer (some ⟨g, 0, none⟩), t11, t12, t13, t14, t15, t16, t17, t18, t19, t20, t21, t22, t23, t24, t25, t26, t27, t28, t29, t30, t31, t32, t33, t34, t35, t36, t37, t38, t39, t40], d⟩ w5) (r : R W G) : X ⟨#[t0, t1, t2, t3, t4, t5, t6, t7, t8, t9, .pointer (some ⟨G, 0, none⟩), t11, t12, t13, t14, t15, t16, t17, t18, t19, t20, t21, t22, t23, t24, t25, t26, t27, t28, t29, t30, t31, t32, t33, t34, t35, t36, t37, t38, t39, t40], d⟩ W := key W G r

theorem cnt_of {i : Nat} (h : i < 384) : cnt6 (i : Int) = i := by unfold cnt6; omega
theorem and_i64 (a b : Nat) (ha : a < 9223372036854775808) (hb : b < 9223372036854775808) : bits .and .i64 (a : Int) (b : Int) = ((a &&& b : Nat) : Int) := by
 have hx : a &&& b < 2 ^ 63 := Nat.and_lt_two_pow _ (by omega)
 have h1 : (BitVec.ofInt 64 (a : Int)).toNat = a := by
  rw [BitVec.ofInt_natCast, BitVec.toNat_ofNat]; exact Nat.mod_eq_of_lt (by omega)
 have h2 : (BitVec.ofInt 64 (b : Int)).toNat = b := by
  rw [BitVec.ofInt_natCast, BitVec.toNat_ofNat]; exact Nat.mod_eq_of_lt (by omega)
 show IntKind.i64.wrap ((BitVec.ofInt 64 (a : Int) &&& BitVec.ofInt 64 (b : Int)).toNat : Int) = _
 rw [BitVec.toNat_and, h1, h2, IntKind.wrap_i64]
 omega
theorem rk_fields (f : Int) (hf : Is4 f) (x y n e t : Nat) (neg : Bool) (hx : x < 18446744073709551616) (hy : y < 18446744073709551616) (hn : y + 18446744073709551616 * x = n) (hfit : Fit f n) (h1 : kN f n = neg) (h2 : kE f n = e) (h3 : kT f n = t) (w : World) :
  Calls Tryz.prog 63 #[.int .u8 f, .agg #[.int .u64 x, .int .u64 y]] w fun r w' => r = .returned (.tuple #[.bool neg, .int .i64 (e : Nat), .agg (cw 6 t)]) ∧ Below w.heap.size w w' := by
 have hat := cw_at 6
 have hz := cw6z
 have hff := cw6f
 have hs0 := st0
 have hcs : ∀ x, ((cw 6 x).size = 6) = True := fun x => eq_true (cw_size 6 x)
 have hx6 := ix6
 have f4 := is4_ok hf
 obtain ⟨p1, p2, p3, p4, p5, p6, p7, p8⟩ := pV_lim hf
 have nQ : n < Q := lt_Q7 (k_lt hx hy hn)
 have K1 := box (rwofbits_is x y n hx hy hn)
 have K2 : Box (∀ w, Calls Tryz.prog 106 #[.agg (cw 6 n), .int .i64 (wV f : Nat)] w fun r w' => r = .returned (.bool neg) ∧ Below w.heap.size w w') := box (fun w => by
  have h := rwbit_any n (wV f) (by omega) w
  rw [show n.testBit (wV f) = neg by rw [← h1, Nat.testBit_eq_decide_div_mod_eq]; rfl] at h
  exact h)
 have K3 : Box (∀ w, Calls Tryz.prog 108 #[.int .i64 (pV f : Nat)] w fun r w' => r = .returned (.agg (cw 6 (2 ^ pV f - 1))) ∧ Below w.heap.size w w') := box (fun w => rwmask_is _ _ (by rw [cnt_of (by omega)]) w)
 have K4 : Box (∀ w, Calls Tryz.prog 107 #[.agg (cw 6 n), .agg (cw 6 (2 ^ pV f - 1))] w fun r w' => r = .returned (.agg (cw 6 t)) ∧ Below w.heap.size w w') := box (fun w => rwand_is n _ t nQ (by rw [← h3, Nat.and_two_pow_sub_one_eq_mod]; rfl) w)
 obtain ⟨E, hE⟩ : ∃ E, n / 2 ^ pV f = E := ⟨_, rfl⟩
 obtain ⟨o, ho⟩ : ∃ o, decide (n % 2 ^ pV f ≠ 0) = o := ⟨_, rfl⟩
 have K5 : Box (∀ w, Calls Tryz.prog 109 #[.agg (cw 6 n), .int .i64 (pV f : Nat)] w fun r w' => r = .returned (.tuple #[.agg (cw 6 E), .bool o]) ∧ Below w.heap.size w w') := box (fun w => rwright_is n E _ o nQ (by rw [cnt_of (by omega)]; exact hE) (by rw [cnt_of (by omega)]; exact ho) w)
 have El : E < 65536 := by
  rw [← hE, Nat.div_lt_iff_lt_mul (Nat.two_pow_pos _)]
  unfold Fit at hfit
  have := (fm hf).1
  have o6 := (fm hf).2.2.2.2.2.1
  rw [this] at hfit
  have h5 := Nat.mul_le_mul_right (2 ^ pV f) (show 2 * (oV f + 1) ≤ 65536 by omega)
  rw [Nat.mul_assoc] at h5
  omega
 have wE : wd E 0 = E := by unfold wd; rw [Nat.mul_zero, Nat.pow_zero, Nat.div_one]; omega
 have e1 : IntKind.i64.wrap ((wd E 0 : Nat) : Int) = ((E : Nat) : Int) := by rw [wE, IntKind.wrap_i64]; omega
 have e2 : bits .and .i64 ((E : Nat) : Int) (oV f : Int) = (e : Int) := by
  rw [and_i64 E (oV f) (by omega) (by have := (fm hf).2.2.2.2.2.1; omega), ← h2]
  unfold kE
  rw [hE]
  have : oV f + 1 = 2 ^ (fW f - fP f).toNat := by rcases hf with rfl | rfl | rfl | rfl <;> decide +kernel
  rw [this, show oV f = 2 ^ (fW f - fP f).toNat - 1 by omega, Nat.and_two_pow_sub_one_eq_mod]
 obtain ⟨q, hq⟩ : ∃ q, fW f = q := ⟨_, rfl⟩
 obtain ⟨p, hp⟩ : ∃ q, fP f = q := ⟨_, rfl⟩
 obtain ⟨m, hm⟩ : ∃ q, fE f = q := ⟨_, rfl⟩
 obtain ⟨O, hO⟩ : ∃ q, oV f = q := ⟨_, rfl⟩
 have K6 : Box (∀ w, Calls Tryz.prog 68 #[.int .u8 f] w fun r w' => r = .returned (.int .i64 (O : Nat)) ∧ w' = w) := box (fun w => r_ones f m _ f4.1 hm (by rw [← hO, ← hm]; rcases hf with rfl | rfl | rfl | rfl <;> decide +kernel) w)
 have KW := box (r_width f q f4.1 hq)
 have KP := box (r_precision f p f4.1 hp)
 obtain ⟨a, ha⟩ : ∃ a, wV f = a := ⟨_, rfl⟩
 obtain ⟨b, hb⟩ : ∃ a, pV f = a := ⟨_, rfl⟩
 obtain ⟨M, hM⟩ : ∃ a, 2 ^ pV f - 1 = a := ⟨_, rfl⟩
 rw [hp, hb] at p2
 rw [hq, ha] at p7
 rw [hM] at K3 K4
 rw [hb] at K3 K5
 rw [ha] at K2
 rw [hO] at e2
 clear El wE hfit hf hx hy hn h1 h2 h3 p1 p3 p4 p5 p6 p8 nQ hE ho hq hp hm hO ha hb hM f4
 obtain ⟨Am, An, B0⟩ := kopn2 w (Obj.cells #[.int .u64 x, .int .u64 y] 26) (Obj.cells (cw 6 0) 41)
 go_enter Tryz.func63, Tryz.ntmps63
 go_wp2_with fail
 refine (K1.out _).mono ?_
 rintro r w1 ⟨rfl, b1⟩
 have B1 : Below w.heap.size w w1 := btr7 B0 b1
 obtain ⟨Ab, Ac⟩ := rws2 b1 Am An
 clear b1 B0 Am An
 obtain ⟨Av, Aw⟩ := cell7t Ab
 have Ax := row_cell Ac
 have S2 := box B1.size
 have Ao := ltR Ab
 have Ap := ltR Ac
 have Ad := heap_alloc_last w1 (Obj.cells (cw 6 n) 41)
 have B2 := btr7 B1 (bal7 w1 (Obj.cells (cw 6 n) 41))
 obtain ⟨Aa, Ae⟩ := rws2 (bal7 w1 (Obj.cells (cw 6 n) 41)) Ab Ac
 clear B1 Ab Av Aw Ac Ax
 obtain ⟨Ay, Az⟩ := cell7t Aa
 have AA := row_cell Ae
 have AB := row_cell Ad
 go_wp2_with fail
 obtain ⟨F, hF1, hF2⟩ := below_fun (w1.alloc (Obj.cells (cw 6 n) 41))
 have fb_0 := fun u => cell7 (heap_of (hF1 u) _ _ _ Aa) 0 _ rfl
 have fb_1 := fun u => cell7 (heap_of (hF1 u) _ _ _ Aa) 1 _ rfl
 have fz_0 := fun u => row_cell (heap_of (hF1 u) _ _ _ Ae)
 have fw_0 := fun u => row_cell (heap_of (hF1 u) _ _ _ Ad)
 refine wp_region_below F hF2 (by kernel_rfl) (by kernel_rfl) ?_
 repeat first | go_big_quiet_step (first | (go_at_call 105; exact quietF0 (KW.out _)) | (go_at_call 106; exact quietF hF1 hF2 (K2.out _)) | fail) | quiet_step (first | (go_at_call 105; exact quietF0 (KW.out _)) | (go_at_call 106; exact quietF hF1 hF2 (K2.out _)) | fail)
 refine wpQuiet_nil ?_
 rintro _ ⟨uW, rfl⟩
 have B3 := btr7 B2 (hF1 uW)
 obtain ⟨Af, Ag, Ah⟩ := rws3 (hF1 uW) Aa Ae Ad
 obtain ⟨w3, hw⟩ : ∃ V, F uW = V := ⟨_, rfl⟩
 rw [hw] at B3 Af Ag Ah
 try rw [hw]
 clear hw hF1 hF2 B2 fb_0 fb_1 fz_0 fw_0 Aa Ay Az Ae AA Ad AB
 clear F
 obtain ⟨AC, AD⟩ := cell7t Af
 have AE := row_cell Ag
 have AF := row_cell Ah
 have sS : Box (∀ W W1 : World, (Below w.heap.size w W ∧ W.heap[w.heap.size]? = some (.cells #[.int .u64 x, .int .u64 y] 26) ∧ W.heap[w.heap.size + 1]? = some (.cells (cw 6 0) 41) ∧ W.heap[w1.heap.size]? = some (.cells (cw 6 n) 41)) → Below W.heap.size W W1 → (Below w.heap.size w W1 ∧ W1.heap[w.heap.size]? = some (.cells #[.int .u64 x, .int .u64 y] 26) ∧ W1.heap[w.heap.size + 1]? = some (.cells (cw 6 0) 41) ∧ W1.heap[w1.heap.size]? = some (.cells (cw 6 n) 41))) := box (fun W W1 h b => ⟨btr7 h.1 b, heap_of b _ _ _ h.2.1, heap_of b _ _ _ h.2.2.1, heap_of b _ _ _ h.2.2.2⟩)
 have sL : Box (∀ W : World, (Below w.heap.size w W ∧ W.heap[w.heap.size]? = some (.cells #[.int .u64 x, .int .u64 y] 26) ∧ W.heap[w.heap.size + 1]? = some (.cells (cw 6 0) 41) ∧ W.heap[w1.heap.size]? = some (.cells (cw 6 n) 41)) → (w.heap.size < W.heap.size ∧ w.heap.size + 1 < W.heap.size ∧ w1.heap.size < W.heap.size)) := box (fun W h => ⟨(Array.getElem?_eq_some_iff.1 h.2.1).1, (Array.getElem?_eq_some_iff.1 h.2.2.1).1, (Array.getElem?_eq_some_iff.1 h.2.2.2).1⟩)
 have sT : Box (∀ (W : World) (gN : Nat) (xA : Array Value), (Below w.heap.size w W ∧ W.heap[w.heap.size]? = some (.cells #[.int .u64 x, .int .u64 y] 26) ∧ W.heap[w.heap.size + 1]? = some (.cells (cw 6 0) 41) ∧ W.heap[w1.heap.size]? = some (.cells (cw 6 n) 41)) → (w.heap.size < gN ∧ w.heap.size + 1 < gN ∧ w1.heap.size < gN) → (Below w.heap.size w (W.setRow gN xA) ∧ (W.setRow gN xA).heap[w.heap.size]? = some (.cells #[.int .u64 x, .int .u64 y] 26) ∧ (W.setRow gN xA).heap[w.heap.size + 1]? = some (.cells (cw 6 0) 41) ∧ (W.setRow gN xA).heap[w1.heap.size]? = some (.cells (cw 6 n) 41))) := box (fun W gN xA h l => ⟨bel_set h.1 (show w.heap.size ≤ gN by have := l.1; omega), (setRow_other (by have := l.1; omega)).trans h.2.1, (setRow_other (by have := l.2.1; omega)).trans h.2.2.1, (setRow_other (by have := l.2.2; omega)).trans h.2.2.2⟩)
 have sC : Box (∀ W : World, (Below w.heap.size w W ∧ W.heap[w.heap.size]? = some (.cells #[.int .u64 x, .int .u64 y] 26) ∧ W.heap[w.heap.size + 1]? = some (.cells (cw 6 0) 41) ∧ W.heap[w1.heap.size]? = some (.cells (cw 6 n) 41)) → (Below w.heap.size w W ∧ W.heap[w.heap.size]? = some (.cells #[.int .u64 x, .int .u64 y] 26) ∧ W.heap[w.heap.size + 1]? = some (.cells (cw 6 0) 41) ∧ W.heap[w1.heap.size]? = some (.cells (cw 6 n) 41) ∧ W.cell? ⟨w.heap.size, 0, none⟩ = some (.int .u64 x) ∧ W.cell? ⟨w.heap.size, 1, none⟩ = some (.int .u64 y) ∧ W.cell? ⟨w.heap.size + 1, 0, none⟩ = some (.int .u64 (wd 0 0)) ∧ W.cell? ⟨w.heap.size + 1, 1, none⟩ = some (.int .u64 (wd 0 1)) ∧ W.cell? ⟨w.heap.size + 1, 2, none⟩ = some (.int .u64 (wd 0 2)) ∧ W.cell? ⟨w.heap.size + 1, 3, none⟩ = some (.int .u64 (wd 0 3)) ∧ W.cell? ⟨w.heap.size + 1, 4, none⟩ = some (.int .u64 (wd 0 4)) ∧ W.cell? ⟨w.heap.size + 1, 5, none⟩ = some (.int .u64 (wd 0 5)) ∧ W.cell? ⟨w1.heap.size, 0, none⟩ = some (.int .u64 (wd n 0)) ∧ W.cell? ⟨w1.heap.size, 1, none⟩ = some (.int .u64 (wd n 1)) ∧ W.cell? ⟨w1.heap.size, 2, none⟩ = some (.int .u64 (wd n 2)) ∧ W.cell? ⟨w1.heap.size, 3, none⟩ = some (.int .u64 (wd n 3)) ∧ W.cell? ⟨w1.heap.size, 4, none⟩ = some (.int .u64 (wd n 4)) ∧ W.cell? ⟨w1.heap.size, 5, none⟩ = some (.int .u64 (wd n 5)))) := box (fun W h => ⟨h.1, h.2.1, h.2.2.1, h.2.2.2, cell7 (h.2.1) 0 _ rfl, cell7 (h.2.1) 1 _ rfl, row_cell (h.2.2.1) 0 (by decide), row_cell (h.2.2.1) 1 (by decide), row_cell (h.2.2.1) 2 (by decide), row_cell (h.2.2.1) 3 (by decide), row_cell (h.2.2.1) 4 (by decide), row_cell (h.2.2.1) 5 (by decide), row_cell (h.2.2.2) 0 (by decide), row_cell (h.2.2.2) 1 (by decide), row_cell (h.2.2.2) 2 (by decide), row_cell (h.2.2.2) 3 (by decide), row_cell (h.2.2.2) 4 (by decide), row_cell (h.2.2.2) 5 (by decide)⟩)
 have s0 : Below w.heap.size w (w3).drew ∧ (w3).drew.heap[w.heap.size]? = some (.cells #[.int .u64 x, .int .u64 y] 26) ∧ (w3).drew.heap[w.heap.size + 1]? = some (.cells (cw 6 0) 41) ∧ (w3).drew.heap[w1.heap.size]? = some (.cells (cw 6 n) 41) := ⟨B3.drew, Af, Ag, Ah⟩
 clear B3 Af AC AD Ag AE Ah AF
 go_wp2_with fail
 apply cut7
 ·
  intro key0
  have key := box key0
  clear key0
  go_region_held3 (fun W => Below w.heap.size w W ∧ W.heap[w.heap.size]? = some (.cells #[.int .u64 x, .int .u64 y] 26) ∧ W.heap[w.heap.size + 1]? = some (.cells (cw 6 0) 41) ∧ W.heap[w1.heap.size]? = some (.cells (cw 6 n) 41) ∧ W.cell? ⟨w.heap.size, 0, none⟩ = some (.int .u64 x) ∧ W.cell? ⟨w.heap.size, 1, none⟩ = some (.int .u64 y) ∧ W.cell? ⟨w.heap.size + 1, 0, none⟩ = some (.int .u64 (wd 0 0)) ∧ W.cell? ⟨w.heap.size + 1, 1, none⟩ = some (.int .u64 (wd 0 1)) ∧ W.cell? ⟨w.heap.size + 1, 2, none⟩ = some (.int .u64 (wd 0 2)) ∧ W.cell? ⟨w.heap.size + 1, 3, none⟩ = some (.int .u64 (wd 0 3)) ∧ W.cell? ⟨w.heap.size + 1, 4, none⟩ = some (.int .u64 (wd 0 4)) ∧ W.cell? ⟨w.heap.size + 1, 5, none⟩ = some (.int .u64 (wd 0 5)) ∧ W.cell? ⟨w1.heap.size, 0, none⟩ = some (.int .u64 (wd n 0)) ∧ W.cell? ⟨w1.heap.size, 1, none⟩ = some (.int .u64 (wd n 1)) ∧ W.cell? ⟨w1.heap.size, 2, none⟩ = some (.int .u64 (wd n 2)) ∧ W.cell? ⟨w1.heap.size, 3, none⟩ = some (.int .u64 (wd n 3)) ∧ W.cell? ⟨w1.heap.size, 4, none⟩ = some (.int .u64 (wd n 4)) ∧ W.cell? ⟨w1.heap.size, 5, none⟩ = some (.int .u64 (wd n 5))) (first | exact sC.out _ s1 | exact sC.out _ s0 | exact sC.out _ (sS.out _ _ s1 (bal7 _ _)) | exact sC.out _ (sS.out _ _ s0 (bal7 _ _)) | exact sC.out _ (sT.out _ _ _ s1 hl))
   (first | (go_at_call 66; (first | refine (KP.out _).mono ?_ | refine (KP.out _).mono ?_); rintro r wz ⟨rfl, rfl⟩) | (go_at_call 108; (first | refine (K3.out _).mono ?_ | refine (K3.out _).mono ?_); rintro r wq ⟨rfl, bq⟩; (first | (have hg := heap_of bq _ _ _ (heap_alloc_last _ _); have hl := (by first | exact sL.out _ s1 | exact sL.out _ s0)) | have hg := heap_of bq _ _ _ hg | skip); (try simp only [size_dr, size_al] at hg hl); (first | have hst := st_any _ _ (t) 0 hg | skip); have s2 := (by first | exact sS.out _ _ s1 bq | exact sS.out _ _ s0 bq | exact sS.out _ _ (sS.out _ _ s1 (bal7 _ _)) bq | exact sS.out _ _ (sS.out _ _ s0 (bal7 _ _)) bq); (try clear s1); have s1 := s2; clear s2 bq) | (go_at_call 107; (first | refine (K4.out _).mono ?_ | refine (K4.out _).mono ?_); rintro r wq ⟨rfl, bq⟩; (first | (have hg := heap_of bq _ _ _ (heap_alloc_last _ _); have hl := (by first | exact sL.out _ s1 | exact sL.out _ s0)) | have hg := heap_of bq _ _ _ hg | skip); (try simp only [size_dr, size_al] at hg hl); (first | have hst := st_any _ _ (t) 0 hg | skip); have s2 := (by first | exact sS.out _ _ s1 bq | exact sS.out _ _ s0 bq | exact sS.out _ _ (sS.out _ _ s1 (bal7 _ _)) bq | exact sS.out _ _ (sS.out _ _ s0 (bal7 _ _)) bq); (try clear s1); have s1 := s2; clear s2 bq) | fail)
  all_goals
   refine gen_abacusref07_Fields_9 (R := fun W gN => (Below w.heap.size w W ∧ W.heap[w.heap.size]? = some (.cells #[.int .u64 x, .int .u64 y] 26) ∧ W.heap[w.heap.size + 1]? = some (.cells (cw 6 0) 41) ∧ W.heap[w1.heap.size]? = some (.cells (cw 6 n) 41)) ∧ W.heap[gN]? = some (.cells (cw 6 t) 41) ∧ (w.heap.size < gN ∧ w.heap.size + 1 < gN ∧ w1.heap.size < gN)) key.out ?_
   first
    | exact ⟨sS.out _ _ s1 (bal7 _ _), heap_alloc_last _ _, sL.out _ s1⟩
    | exact ⟨sS.out _ _ s0 (bal7 _ _), heap_alloc_last _ _, sL.out _ s0⟩
    | exact ⟨(sT.out _ _ _ s1 hl), setRow_row hg, hl⟩
 rintro w4 g4 ⟨s1, Ai, l4⟩
 have B4 := And.left s1
 have Aj := s1.2.1
 have Ak := s1.2.2.1
 have Al := s1.2.2.2
 have H4 := box l4
 clear s0 s1 sS sC sL sT l4
 obtain ⟨AG, AH⟩ := cell7t Aj
 have AI := row_cell Ak
 have AJ := row_cell Al
 have AK := row_cell Ai
 have sS : Box (∀ W W1 : World, (Below w.heap.size w W ∧ W.heap[w.heap.size]? = some (.cells #[.int .u64 x, .int .u64 y] 26) ∧ W.heap[w.heap.size + 1]? = some (.cells (cw 6 0) 41) ∧ W.heap[w1.heap.size]? = some (.cells (cw 6 n) 41) ∧ W.heap[g4]? = some (.cells (cw 6 t) 41)) → Below W.heap.size W W1 → (Below w.heap.size w W1 ∧ W1.heap[w.heap.size]? = some (.cells #[.int .u64 x, .int .u64 y] 26) ∧ W1.heap[w.heap.size + 1]? = some (.cells (cw 6 0) 41) ∧ W1.heap[w1.heap.size]? = some (.cells (cw 6 n) 41) ∧ W1.heap[g4]? = some (.cells (cw 6 t) 41))) := box (fun W W1 h b => ⟨btr7 h.1 b, heap_of b _ _ _ h.2.1, heap_of b _ _ _ h.2.2.1, heap_of b _ _ _ h.2.2.2.1, heap_of b _ _ _ h.2.2.2.2⟩)
 have sL : Box (∀ W : World, (Below w.heap.size w W ∧ W.heap[w.heap.size]? = some (.cells #[.int .u64 x, .int .u64 y] 26) ∧ W.heap[w.heap.size + 1]? = some (.cells (cw 6 0) 41) ∧ W.heap[w1.heap.size]? = some (.cells (cw 6 n) 41) ∧ W.heap[g4]? = some (.cells (cw 6 t) 41)) → (w.heap.size < W.heap.size ∧ w.heap.size + 1 < W.heap.size ∧ w1.heap.size < W.heap.size ∧ g4 < W.heap.size)) := box (fun W h => ⟨(Array.getElem?_eq_some_iff.1 h.2.1).1, (Array.getElem?_eq_some_iff.1 h.2.2.1).1, (Array.getElem?_eq_some_iff.1 h.2.2.2.1).1, (Array.getElem?_eq_some_iff.1 h.2.2.2.2).1⟩)
 have sT : Box (∀ (W : World) (gN : Nat) (xA : Array Value), (Below w.heap.size w W ∧ W.heap[w.heap.size]? = some (.cells #[.int .u64 x, .int .u64 y] 26) ∧ W.heap[w.heap.size + 1]? = some (.cells (cw 6 0) 41) ∧ W.heap[w1.heap.size]? = some (.cells (cw 6 n) 41) ∧ W.heap[g4]? = some (.cells (cw 6 t) 41)) → (w.heap.size < gN ∧ w.heap.size + 1 < gN ∧ w1.heap.size < gN ∧ g4 < gN) → (Below w.heap.size w (W.setRow gN xA) ∧ (W.setRow gN xA).heap[w.heap.size]? = some (.cells #[.int .u64 x, .int .u64 y] 26) ∧ (W.setRow gN xA).heap[w.heap.size + 1]? = some (.cells (cw 6 0) 41) ∧ (W.setRow gN xA).heap[w1.heap.size]? = some (.cells (cw 6 n) 41) ∧ (W.setRow gN xA).heap[g4]? = some (.cells (cw 6 t) 41))) := box (fun W gN xA h l => ⟨bel_set h.1 (show w.heap.size ≤ gN by have := l.1; omega), (setRow_other (by have := l.1; omega)).trans h.2.1, (setRow_other (by have := l.2.1; omega)).trans h.2.2.1, (setRow_other (by have := l.2.2.1; omega)).trans h.2.2.2.1, (setRow_other (by have := l.2.2.2; omega)).trans h.2.2.2.2⟩)
 have sC : Box (∀ W : World, (Below w.heap.size w W ∧ W.heap[w.heap.size]? = some (.cells #[.int .u64 x, .int .u64 y] 26) ∧ W.heap[w.heap.size + 1]? = some (.cells (cw 6 0) 41) ∧ W.heap[w1.heap.size]? = some (.cells (cw 6 n) 41) ∧ W.heap[g4]? = some (.cells (cw 6 t) 41)) → (Below w.heap.size w W ∧ W.heap[w.heap.size]? = some (.cells #[.int .u64 x, .int .u64 y] 26) ∧ W.heap[w.heap.size + 1]? = some (.cells (cw 6 0) 41) ∧ W.heap[w1.heap.size]? = some (.cells (cw 6 n) 41) ∧ W.heap[g4]? = some (.cells (cw 6 t) 41) ∧ W.cell? ⟨w.heap.size, 0, none⟩ = some (.int .u64 x) ∧ W.cell? ⟨w.heap.size, 1, none⟩ = some (.int .u64 y) ∧ W.cell? ⟨w.heap.size + 1, 0, none⟩ = some (.int .u64 (wd 0 0)) ∧ W.cell? ⟨w.heap.size + 1, 1, none⟩ = some (.int .u64 (wd 0 1)) ∧ W.cell? ⟨w.heap.size + 1, 2, none⟩ = some (.int .u64 (wd 0 2)) ∧ W.cell? ⟨w.heap.size + 1, 3, none⟩ = some (.int .u64 (wd 0 3)) ∧ W.cell? ⟨w.heap.size + 1, 4, none⟩ = some (.int .u64 (wd 0 4)) ∧ W.cell? ⟨w.heap.size + 1, 5, none⟩ = some (.int .u64 (wd 0 5)) ∧ W.cell? ⟨w1.heap.size, 0, none⟩ = some (.int .u64 (wd n 0)) ∧ W.cell? ⟨w1.heap.size, 1, none⟩ = some (.int .u64 (wd n 1)) ∧ W.cell? ⟨w1.heap.size, 2, none⟩ = some (.int .u64 (wd n 2)) ∧ W.cell? ⟨w1.heap.size, 3, none⟩ = some (.int .u64 (wd n 3)) ∧ W.cell? ⟨w1.heap.size, 4, none⟩ = some (.int .u64 (wd n 4)) ∧ W.cell? ⟨w1.heap.size, 5, none⟩ = some (.int .u64 (wd n 5)) ∧ W.cell? ⟨g4, 0, none⟩ = some (.int .u64 (wd t 0)) ∧ W.cell? ⟨g4, 1, none⟩ = some (.int .u64 (wd t 1)) ∧ W.cell? ⟨g4, 2, none⟩ = some (.int .u64 (wd t 2)) ∧ W.cell? ⟨g4, 3, none⟩ = some (.int .u64 (wd t 3)) ∧ W.cell? ⟨g4, 4, none⟩ = some (.int .u64 (wd t 4)) ∧ W.cell? ⟨g4, 5, none⟩ = some (.int .u64 (wd t 5)))) := box (fun W h => ⟨h.1, h.2.1, h.2.2.1, h.2.2.2.1, h.2.2.2.2, cell7 (h.2.1) 0 _ rfl, cell7 (h.2.1) 1 _ rfl, row_cell (h.2.2.1) 0 (by decide), row_cell (h.2.2.1) 1 (by decide), row_cell (h.2.2.1) 2 (by decide), row_cell (h.2.2.1) 3 (by decide), row_cell (h.2.2.1) 4 (by decide), row_cell (h.2.2.1) 5 (by decide), row_cell (h.2.2.2.1) 0 (by decide), row_cell (h.2.2.2.1) 1 (by decide), row_cell (h.2.2.2.1) 2 (by decide), row_cell (h.2.2.2.1) 3 (by decide), row_cell (h.2.2.2.1) 4 (by decide), row_cell (h.2.2.2.1) 5 (by decide), row_cell (h.2.2.2.2) 0 (by decide), row_cell (h.2.2.2.2) 1 (by decide), row_cell (h.2.2.2.2) 2 (by decide), row_cell (h.2.2.2.2) 3 (by decide), row_cell (h.2.2.2.2) 4 (by decide), row_cell (h.2.2.2.2) 5 (by decide)⟩)
 have s0 : Below w.heap.size w (w4).drew ∧ (w4).drew.heap[w.heap.size]? = some (.cells #[.int .u64 x, .int .u64 y] 26) ∧ (w4).drew.heap[w.heap.size + 1]? = some (.cells (cw 6 0) 41) ∧ (w4).drew.heap[w1.heap.size]? = some (.cells (cw 6 n) 41) ∧ (w4).drew.heap[g4]? = some (.cells (cw 6 t) 41) := ⟨B4.drew, Aj, Ak, Al, Ai⟩
 clear B4 Aj AG AH Ak AI Al AJ Ai AK
 go_wp2_with fail
 apply cut7
 ·
  intro key0
  have key := box key0
  clear key0
  go_region_held3 (fun W => Below w.heap.size w W ∧ W.heap[w.heap.size]? = some (.cells #[.int .u64 x, .int .u64 y] 26) ∧ W.heap[w.heap.size + 1]? = some (.cells (cw 6 0) 41) ∧ W.heap[w1.heap.size]? = some (.cells (cw 6 n) 41) ∧ W.heap[g4]? = some (.cells (cw 6 t) 41) ∧ W.cell? ⟨w.heap.size, 0, none⟩ = some (.int .u64 x) ∧ W.cell? ⟨w.heap.size, 1, none⟩ = some (.int .u64 y) ∧ W.cell? ⟨w.heap.size + 1, 0, none⟩ = some (.int .u64 (wd 0 0)) ∧ W.cell? ⟨w.heap.size + 1, 1, none⟩ = some (.int .u64 (wd 0 1)) ∧ W.cell? ⟨w.heap.size + 1, 2, none⟩ = some (.int .u64 (wd 0 2)) ∧ W.cell? ⟨w.heap.size + 1, 3, none⟩ = some (.int .u64 (wd 0 3)) ∧ W.cell? ⟨w.heap.size + 1, 4, none⟩ = some (.int .u64 (wd 0 4)) ∧ W.cell? ⟨w.heap.size + 1, 5, none⟩ = some (.int .u64 (wd 0 5)) ∧ W.cell? ⟨w1.heap.size, 0, none⟩ = some (.int .u64 (wd n 0)) ∧ W.cell? ⟨w1.heap.size, 1, none⟩ = some (.int .u64 (wd n 1)) ∧ W.cell? ⟨w1.heap.size, 2, none⟩ = some (.int .u64 (wd n 2)) ∧ W.cell? ⟨w1.heap.size, 3, none⟩ = some (.int .u64 (wd n 3)) ∧ W.cell? ⟨w1.heap.size, 4, none⟩ = some (.int .u64 (wd n 4)) ∧ W.cell? ⟨w1.heap.size, 5, none⟩ = some (.int .u64 (wd n 5)) ∧ W.cell? ⟨g4, 0, none⟩ = some (.int .u64 (wd t 0)) ∧ W.cell? ⟨g4, 1, none⟩ = some (.int .u64 (wd t 1)) ∧ W.cell? ⟨g4, 2, none⟩ = some (.int .u64 (wd t 2)) ∧ W.cell? ⟨g4, 3, none⟩ = some (.int .u64 (wd t 3)) ∧ W.cell? ⟨g4, 4, none⟩ = some (.int .u64 (wd t 4)) ∧ W.cell? ⟨g4, 5, none⟩ = some (.int .u64 (wd t 5))) (first | exact sC.out _ s1 | exact sC.out _ s0 | exact sC.out _ (sS.out _ _ s1 (bal7 _ _)) | exact sC.out _ (sS.out _ _ s0 (bal7 _ _)) | exact sC.out _ (sT.out _ _ _ s1 hl))
   (first | (go_at_call 66; (first | refine (KP.out _).mono ?_ | refine (KP.out _).mono ?_); rintro r wz ⟨rfl, rfl⟩) | (go_at_call 109; (first | refine (K5.out _).mono ?_ | refine (K5.out _).mono ?_); rintro r wq ⟨rfl, bq⟩; (first | (have hg := heap_of bq _ _ _ (heap_alloc_last _ _); have hl := (by first | exact sL.out _ s1 | exact sL.out _ s0)) | have hg := heap_of bq _ _ _ hg | skip); (try simp only [size_dr, size_al] at hg hl); (first | have hst := st_any _ _ (E) 0 hg | skip); have s2 := (by first | exact sS.out _ _ s1 bq | exact sS.out _ _ s0 bq | exact sS.out _ _ (sS.out _ _ s1 (bal7 _ _)) bq | exact sS.out _ _ (sS.out _ _ s0 (bal7 _ _)) bq); (try clear s1); have s1 := s2; clear s2 bq) | fail)
  all_goals
   refine gen_abacusref07_Fields_10 (R := fun W gN => (Below w.heap.size w W ∧ W.heap[w.heap.size]? = some (.cells #[.int .u64 x, .int .u64 y] 26) ∧ W.heap[w.heap.size + 1]? = some (.cells (cw 6 0) 41) ∧ W.heap[w1.heap.size]? = some (.cells (cw 6 n) 41) ∧ W.heap[g4]? = some (.cells (cw 6 t) 41)) ∧ W.heap[gN]? = some (.cells (cw 6 E) 41) ∧ (w.heap.size < gN ∧ w.heap.size + 1 < gN ∧ w1.heap.size < gN ∧ g4 < gN)) key.out ?_
   first
    | exact ⟨sS.out _ _ s1 (bal7 _ _), heap_alloc_last _ _, sL.out _ s1⟩
    | exact ⟨sS.out _ _ s0 (bal7 _ _), heap_alloc_last _ _, sL.out _ s0⟩
    | exact ⟨(sT.out _ _ _ s1 hl), setRow_row hg, hl⟩
 rintro w5 g5 ⟨s1, Aq, l5⟩
 have B5 := And.left s1
 have Ar := s1.2.1
 have As := s1.2.2.1
 have At := s1.2.2.2.1
 have Au := s1.2.2.2.2
 have H5 := box l5
 clear s0 s1 sS sC sL sT l5
 obtain ⟨AL, AM⟩ := cell7t Ar
 have AN := row_cell As
 have AO := row_cell At
 have AP := row_cell Au
 have AQ := row_cell Aq
 have sS : Box (∀ W W1 : World, (Below w.heap.size w W ∧ W.heap[w.heap.size]? = some (.cells #[.int .u64 x, .int .u64 y] 26) ∧ W.heap[w1.heap.size]? = some (.cells (cw 6 n) 41) ∧ W.heap[g4]? = some (.cells (cw 6 t) 41) ∧ W.heap[g5]? = some (.cells (cw 6 E) 41)) → Below W.heap.size W W1 → (Below w.heap.size w W1 ∧ W1.heap[w.heap.size]? = some (.cells #[.int .u64 x, .int .u64 y] 26) ∧ W1.heap[w1.heap.size]? = some (.cells (cw 6 n) 41) ∧ W1.heap[g4]? = some (.cells (cw 6 t) 41) ∧ W1.heap[g5]? = some (.cells (cw 6 E) 41))) := box (fun W W1 h b => ⟨btr7 h.1 b, heap_of b _ _ _ h.2.1, heap_of b _ _ _ h.2.2.1, heap_of b _ _ _ h.2.2.2.1, heap_of b _ _ _ h.2.2.2.2⟩)
 have HH := box (And.intro S2.out (And.intro Ao.out (And.intro Ap.out (And.intro H4.out H5.out))))
 have sT : Box (∀ (W : World) (xA : Array Value), (Below w.heap.size w W ∧ W.heap[w.heap.size]? = some (.cells #[.int .u64 x, .int .u64 y] 26) ∧ W.heap[w1.heap.size]? = some (.cells (cw 6 n) 41) ∧ W.heap[g4]? = some (.cells (cw 6 t) 41) ∧ W.heap[g5]? = some (.cells (cw 6 E) 41)) → (Below w.heap.size w (W.setRow (w.heap.size + 1) xA) ∧ (W.setRow (w.heap.size + 1) xA).heap[w.heap.size]? = some (.cells #[.int .u64 x, .int .u64 y] 26) ∧ (W.setRow (w.heap.size + 1) xA).heap[w1.heap.size]? = some (.cells (cw 6 n) 41) ∧ (W.setRow (w.heap.size + 1) xA).heap[g4]? = some (.cells (cw 6 t) 41) ∧ (W.setRow (w.heap.size + 1) xA).heap[g5]? = some (.cells (cw 6 E) 41))) := box (fun W xA h => ⟨bel_set h.1 (show w.heap.size ≤ w.heap.size + 1 by first | exact Nat.le_refl _ | omega | (have := HH.out; omega)), (setRow_other (by first | omega | (have := HH.out; omega))).trans h.2.1, (setRow_other (by first | omega | (have := HH.out; omega))).trans h.2.2.1, (setRow_other (by first | omega | (have := HH.out; omega))).trans h.2.2.2.1, (setRow_other (by first | omega | (have := HH.out; omega))).trans h.2.2.2.2⟩)
 have sC : Box (∀ W : World, (Below w.heap.size w W ∧ W.heap[w.heap.size]? = some (.cells #[.int .u64 x, .int .u64 y] 26) ∧ W.heap[w1.heap.size]? = some (.cells (cw 6 n) 41) ∧ W.heap[g4]? = some (.cells (cw 6 t) 41) ∧ W.heap[g5]? = some (.cells (cw 6 E) 41)) → (Below w.heap.size w W ∧ W.heap[w.heap.size]? = some (.cells #[.int .u64 x, .int .u64 y] 26) ∧ W.heap[w1.heap.size]? = some (.cells (cw 6 n) 41) ∧ W.heap[g4]? = some (.cells (cw 6 t) 41) ∧ W.heap[g5]? = some (.cells (cw 6 E) 41) ∧ W.cell? ⟨w.heap.size, 0, none⟩ = some (.int .u64 x) ∧ W.cell? ⟨w.heap.size, 1, none⟩ = some (.int .u64 y) ∧ W.cell? ⟨w1.heap.size, 0, none⟩ = some (.int .u64 (wd n 0)) ∧ W.cell? ⟨w1.heap.size, 1, none⟩ = some (.int .u64 (wd n 1)) ∧ W.cell? ⟨w1.heap.size, 2, none⟩ = some (.int .u64 (wd n 2)) ∧ W.cell? ⟨w1.heap.size, 3, none⟩ = some (.int .u64 (wd n 3)) ∧ W.cell? ⟨w1.heap.size, 4, none⟩ = some (.int .u64 (wd n 4)) ∧ W.cell? ⟨w1.heap.size, 5, none⟩ = some (.int .u64 (wd n 5)) ∧ W.cell? ⟨g4, 0, none⟩ = some (.int .u64 (wd t 0)) ∧ W.cell? ⟨g4, 1, none⟩ = some (.int .u64 (wd t 1)) ∧ W.cell? ⟨g4, 2, none⟩ = some (.int .u64 (wd t 2)) ∧ W.cell? ⟨g4, 3, none⟩ = some (.int .u64 (wd t 3)) ∧ W.cell? ⟨g4, 4, none⟩ = some (.int .u64 (wd t 4)) ∧ W.cell? ⟨g4, 5, none⟩ = some (.int .u64 (wd t 5)) ∧ W.cell? ⟨g5, 0, none⟩ = some (.int .u64 (wd E 0)) ∧ W.cell? ⟨g5, 1, none⟩ = some (.int .u64 (wd E 1)) ∧ W.cell? ⟨g5, 2, none⟩ = some (.int .u64 (wd E 2)) ∧ W.cell? ⟨g5, 3, none⟩ = some (.int .u64 (wd E 3)) ∧ W.cell? ⟨g5, 4, none⟩ = some (.int .u64 (wd E 4)) ∧ W.cell? ⟨g5, 5, none⟩ = some (.int .u64 (wd E 5)))) := box (fun W h => ⟨h.1, h.2.1, h.2.2.1, h.2.2.2.1, h.2.2.2.2, cell7 (h.2.1) 0 _ rfl, cell7 (h.2.1) 1 _ rfl, row_cell (h.2.2.1) 0 (by decide), row_cell (h.2.2.1) 1 (by decide), row_cell (h.2.2.1) 2 (by decide), row_cell (h.2.2.1) 3 (by decide), row_cell (h.2.2.1) 4 (by decide), row_cell (h.2.2.1) 5 (by decide), row_cell (h.2.2.2.1) 0 (by decide), row_cell (h.2.2.2.1) 1 (by decide), row_cell (h.2.2.2.1) 2 (by decide), row_cell (h.2.2.2.1) 3 (by decide), row_cell (h.2.2.2.1) 4 (by decide), row_cell (h.2.2.2.1) 5 (by decide), row_cell (h.2.2.2.2) 0 (by decide), row_cell (h.2.2.2.2) 1 (by decide), row_cell (h.2.2.2.2) 2 (by decide), row_cell (h.2.2.2.2) 3 (by decide), row_cell (h.2.2.2.2) 4 (by decide), row_cell (h.2.2.2.2) 5 (by decide)⟩)
 have s0 : Below w.heap.size w (w5).drew ∧ (w5).drew.heap[w.heap.size]? = some (.cells #[.int .u64 x, .int .u64 y] 26) ∧ (w5).drew.heap[w1.heap.size]? = some (.cells (cw 6 n) 41) ∧ (w5).drew.heap[g4]? = some (.cells (cw 6 t) 41) ∧ (w5).drew.heap[g5]? = some (.cells (cw 6 E) 41) := ⟨B5.drew, Ar, At, Au, Aq⟩
 have rz : (w5).drew.heap[w.heap.size + 1]? = some (.cells (cw 6 0) 41) := As
 have hst := st_any (w5).drew (w.heap.size + 1) t 0 rz
 go_wp2_with fail
 go_region_held3 (fun W => Below w.heap.size w W ∧ W.heap[w.heap.size]? = some (.cells #[.int .u64 x, .int .u64 y] 26) ∧ W.heap[w1.heap.size]? = some (.cells (cw 6 n) 41) ∧ W.heap[g4]? = some (.cells (cw 6 t) 41) ∧ W.heap[g5]? = some (.cells (cw 6 E) 41) ∧ W.cell? ⟨w.heap.size, 0, none⟩ = some (.int .u64 x) ∧ W.cell? ⟨w.heap.size, 1, none⟩ = some (.int .u64 y) ∧ W.cell? ⟨w1.heap.size, 0, none⟩ = some (.int .u64 (wd n 0)) ∧ W.cell? ⟨w1.heap.size, 1, none⟩ = some (.int .u64 (wd n 1)) ∧ W.cell? ⟨w1.heap.size, 2, none⟩ = some (.int .u64 (wd n 2)) ∧ W.cell? ⟨w1.heap.size, 3, none⟩ = some (.int .u64 (wd n 3)) ∧ W.cell? ⟨w1.heap.size, 4, none⟩ = some (.int .u64 (wd n 4)) ∧ W.cell? ⟨w1.heap.size, 5, none⟩ = some (.int .u64 (wd n 5)) ∧ W.cell? ⟨g4, 0, none⟩ = some (.int .u64 (wd t 0)) ∧ W.cell? ⟨g4, 1, none⟩ = some (.int .u64 (wd t 1)) ∧ W.cell? ⟨g4, 2, none⟩ = some (.int .u64 (wd t 2)) ∧ W.cell? ⟨g4, 3, none⟩ = some (.int .u64 (wd t 3)) ∧ W.cell? ⟨g4, 4, none⟩ = some (.int .u64 (wd t 4)) ∧ W.cell? ⟨g4, 5, none⟩ = some (.int .u64 (wd t 5)) ∧ W.cell? ⟨g5, 0, none⟩ = some (.int .u64 (wd E 0)) ∧ W.cell? ⟨g5, 1, none⟩ = some (.int .u64 (wd E 1)) ∧ W.cell? ⟨g5, 2, none⟩ = some (.int .u64 (wd E 2)) ∧ W.cell? ⟨g5, 3, none⟩ = some (.int .u64 (wd E 3)) ∧ W.cell? ⟨g5, 4, none⟩ = some (.int .u64 (wd E 4)) ∧ W.cell? ⟨g5, 5, none⟩ = some (.int .u64 (wd E 5))) (first | exact sC.out _ s1 | exact sC.out _ s0 | exact sC.out _ (sT.out _ _ s1) | exact sC.out _ (sT.out _ _ s0))
  (first | (go_at_call 68; (first | refine (K6.out _).mono ?_ | refine (K6.out _).mono ?_); rintro r wz ⟨rfl, rfl⟩) | fail)
 have BZ := (by first | exact And.left s1 | exact And.left s0 : Below w.heap.size w _)
 have dz := row_cell (setRow_row (c' := cw 6 t) rz)
 have bz := bel_set (c := cw 6 t) BZ (show w.heap.size ≤ w.heap.size + 1 by first | exact Nat.le_refl _ | omega | (have := S2.out; have := Ao.out; have := Ap.out; have := H4.out; have := H5.out; omega))
 go_wp2
 exact bodyPost_ret (v := .tuple #[.bool neg, .int .i64 (e : Nat), .agg (cw 6 t)]) (by simp [results, Tryz.results63, go_sem, dz, hff]) rfl ⟨rfl, bz⟩
theorem rk_class (f : Int) (hf : Is4 f) (x y n c : Nat) (hx : x < 18446744073709551616) (hy : y < 18446744073709551616) (hn : y + 18446744073709551616 * x = n) (hfit : Fit f n) (hc : kC f n = c) (w : World) :
  Calls Tryz.prog 61 #[.int .u8 f, .agg #[.int .u64 x, .int .u64 y]] w fun r w' => r = .returned (.int .u8 c) ∧ Below w.heap.size w w' := by
 have hat := cw_at 6
 have hz := cw6z
 have hff := cw6f
 have hs0 := st0
 have hcs : ∀ x, ((cw 6 x).size = 6) = True := fun x => eq_true (cw_size 6 x)
 have heq := eq6
 have hg := eqg6
 have hQ := Q_pos
 have f4 := is4_ok hf
 have tl := kT_lt (f := f) n
 have el := kE_le (f := f) n
 obtain ⟨g1, g2, g3, g4, g5, g6, g7⟩ := fm hf
 obtain ⟨p1, p2, p3, p4, p5, p6, p7, p8⟩ := pV_lim hf
 have p9 : IntKind.i64.wrap (fP f - 2) = ((pV f - 1 : Nat) : Int) := by rcases hf with rfl | rfl | rfl | rfl <;> decide +kernel
 obtain ⟨neg, hneg⟩ : ∃ q, kN f n = q := ⟨_, rfl⟩
 obtain ⟨e, he⟩ : ∃ q, kE f n = q := ⟨_, rfl⟩
 obtain ⟨t, ht⟩ : ∃ q, kT f n = q := ⟨_, rfl⟩
 have K1 := box (rk_fields f hf x y n e t neg hx hy hn hfit hneg he ht)
 have tQ : t < Q := by rw [← ht]; exact lt_Q7 (by rw [g1, Nat.add_mul] at g7; omega)
 obtain ⟨o, ho⟩ : ∃ q, oV f = q := ⟨_, rfl⟩
 obtain ⟨m, hm⟩ : ∃ q, fE f = q := ⟨_, rfl⟩
 obtain ⟨p, hp⟩ : ∃ q, fP f = q := ⟨_, rfl⟩
 have K2 : Box (∀ w, Calls Tryz.prog 68 #[.int .u8 f] w fun r w' => r = .returned (.int .i64 (o : Nat)) ∧ w' = w) := box (fun w => r_ones f m _ f4.1 hm (by rw [← ho, ← hm]; rcases hf with rfl | rfl | rfl | rfl <;> decide +kernel) w)
 have KP := box (r_precision f p f4.1 hp)
 obtain ⟨qb, hqb⟩ : ∃ q, decide (2 ^ (pV f - 1) ≤ t) = q := ⟨_, rfl⟩
 have K3 : Box (∀ w, Calls Tryz.prog 106 #[.agg (cw 6 t), .int .i64 ((pV f - 1 : Nat) : Int)] w fun r w' => r = .returned (.bool qb) ∧ Below w.heap.size w w') := box (fun w => by
  have h := rwbit_any t (pV f - 1) (by omega) w
  have e2 : t.testBit (pV f - 1) = qb := by
   rw [← hqb, Nat.testBit_eq_decide_div_mod_eq, decide_eq_decide]
   rw [ht] at tl
   rw [g3] at tl
   have hz := Nat.two_pow_pos (pV f - 1)
   by_cases h : 2 ^ (pV f - 1) ≤ t
   ·
    have : t / 2 ^ (pV f - 1) = 1 := by rw [Nat.div_eq_iff hz]; omega
    rw [this]; simp [h]
   ·
    rw [Nat.div_eq_of_lt (by omega)]; simp; omega
  rw [e2] at h
  exact h)
 unfold kC at hc
 rw [he, ht, hneg, ho] at hc
 have zf : (t = 0 → decide (t = 0) = true) ∧ (t ≠ 0 → decide (t = 0) = false) := ⟨fun h => decide_eq_true h, fun h => decide_eq_false h⟩
 obtain ⟨pm, hpm⟩ : ∃ q, pV f - 1 = q := ⟨_, rfl⟩
 rw [hpm] at K3 p9 hqb hc
 rw [hp] at p9
 clear tl el hf hx hy hn hfit hneg he ht ho hm hp p1 p2 p3 p4 p5 p6 p7 p8 g1 g2 g3 g4 g5 g6 g7 hpm f4
 by_cases c1 : e = o
 ·
  have b1 : ((e : Int) == (o : Int)) = true := by rw [c1]; simp
  rw [if_pos c1] at hc
  by_cases c2 : t = 0
  ·
   rw [if_pos c2] at hc
   subst c2
   cases neg
   ·
    subst hc
    obtain ⟨Ab, B0⟩ := kopn1 w (Obj.cells #[.int .u64 x, .int .u64 y] 26)
    go_enter Tryz.func61, Tryz.ntmps61
    go_wp2_with fail
    refine (K1.out _).mono ?_
    rintro r w1 ⟨rfl, b1⟩
    have B1 : Below w.heap.size w w1 := btr7 B0 b1
    have Aa := heap_of b1 _ _ _ Ab
    clear b1 B0 Ab
    obtain ⟨Ae, Af⟩ := cell7t Aa
    have S2 := box B1.size
    have Aj := ltR Aa
    have Ad := heap_alloc_last w1 (Obj.cells (cw 6 0) 41)
    have B2 := btr7 B1 (bal7 w1 (Obj.cells (cw 6 0) 41))
    have Ac := heap_of (bal7 w1 (Obj.cells (cw 6 0) 41)) _ _ _ Aa
    clear B1 Aa Ae Af
    obtain ⟨Ag, Ah⟩ := cell7t Ac
    have Ai := row_cell Ad
    go_wp2_with fail
    refine (K2.out _).mono ?_
    rintro r w' ⟨rfl, hw'⟩
    obtain rfl := hw'.symm
    go_wp2
    go_ret
    exact ⟨rfl, B2⟩
   ·
    subst hc
    obtain ⟨Ab, B0⟩ := kopn1 w (Obj.cells #[.int .u64 x, .int .u64 y] 26)
    go_enter Tryz.func61, Tryz.ntmps61
    go_wp2_with fail
    refine (K1.out _).mono ?_
    rintro r w1 ⟨rfl, b1⟩
    have B1 : Below w.heap.size w w1 := btr7 B0 b1
    have Aa := heap_of b1 _ _ _ Ab
    clear b1 B0 Ab
    obtain ⟨Ae, Af⟩ := cell7t Aa
    have S2 := box B1.size
    have Aj := ltR Aa
    have Ad := heap_alloc_last w1 (Obj.cells (cw 6 0) 41)
    have B2 := btr7 B1 (bal7 w1 (Obj.cells (cw 6 0) 41))
    have Ac := heap_of (bal7 w1 (Obj.cells (cw 6 0) 41)) _ _ _ Aa
    clear B1 Aa Ae Af
    obtain ⟨Ag, Ah⟩ := cell7t Ac
    have Ai := row_cell Ad
    go_wp2_with fail
    refine (K2.out _).mono ?_
    rintro r w' ⟨rfl, hw'⟩
    obtain rfl := hw'.symm
    go_wp2
    go_ret
    exact ⟨rfl, B2⟩
  ·
   rw [if_neg c2] at hc
   have z1 := zf.2 c2
   cases qb
   ·
    rw [if_neg (of_decide_eq_false hqb)] at hc
    subst hc
    obtain ⟨Ab, B0⟩ := kopn1 w (Obj.cells #[.int .u64 x, .int .u64 y] 26)
    go_enter Tryz.func61, Tryz.ntmps61
    go_wp2_with fail
    refine (K1.out _).mono ?_
    rintro r w1 ⟨rfl, b1⟩
    have B1 : Below w.heap.size w w1 := btr7 B0 b1
    have Aa := heap_of b1 _ _ _ Ab
    clear b1 B0 Ab
    obtain ⟨Ae, Af⟩ := cell7t Aa
    have S2 := box B1.size
    have Aj := ltR Aa
    have Ad := heap_alloc_last w1 (Obj.cells (cw 6 t) 41)
    have B2 := btr7 B1 (bal7 w1 (Obj.cells (cw 6 t) 41))
    have Ac := heap_of (bal7 w1 (Obj.cells (cw 6 t) 41)) _ _ _ Aa
    clear B1 Aa Ae Af
    obtain ⟨Ag, Ah⟩ := cell7t Ac
    have Ai := row_cell Ad
    go_wp2_with fail
    refine (K2.out _).mono ?_
    rintro r w' ⟨rfl, hw'⟩
    obtain rfl := hw'.symm
    go_wp2_with fail
    obtain ⟨F, hF1, hF2⟩ := below_fun (w1.alloc (Obj.cells (cw 6 t) 41))
    have fb_0 := fun u => cell7 (heap_of (hF1 u) _ _ _ Ac) 0 _ rfl
    have fb_1 := fun u => cell7 (heap_of (hF1 u) _ _ _ Ac) 1 _ rfl
    have ft_0 := fun u => row_cell (heap_of (hF1 u) _ _ _ Ad)
    refine wp_region_below F hF2 (by kernel_rfl) (by kernel_rfl) ?_
    repeat first | go_big_quiet_step (first | (go_at_call 66; exact quietF0 (KP.out _)) | (go_at_call 106; exact quietF hF1 hF2 (K3.out _)) | fail) | quiet_step (first | (go_at_call 66; exact quietF0 (KP.out _)) | (go_at_call 106; exact quietF hF1 hF2 (K3.out _)) | fail)
    refine wpQuiet_nil ?_
    rintro _ ⟨uW, rfl⟩
    have B3 := btr7 B2 (hF1 uW)
    obtain ⟨Ak, Al⟩ := rws2 (hF1 uW) Ac Ad
    obtain ⟨w3, hw⟩ : ∃ V, F uW = V := ⟨_, rfl⟩
    rw [hw] at B3 Ak Al
    try rw [hw]
    clear hw hF1 hF2 B2 fb_0 fb_1 ft_0 Ac Ag Ah Ad Ai
    clear F
    obtain ⟨Am, An⟩ := cell7t Ak
    have Ao := row_cell Al
    go_wp2
    go_ret
    exact ⟨rfl, B3⟩
   ·
    rw [if_pos (of_decide_eq_true hqb)] at hc
    subst hc
    obtain ⟨Ab, B0⟩ := kopn1 w (Obj.cells #[.int .u64 x, .int .u64 y] 26)
    go_enter Tryz.func61, Tryz.ntmps61
    go_wp2_with fail
    refine (K1.out _).mono ?_
    rintro r w1 ⟨rfl, b1⟩
    have B1 : Below w.heap.size w w1 := btr7 B0 b1
    have Aa := heap_of b1 _ _ _ Ab
    clear b1 B0 Ab
    obtain ⟨Ae, Af⟩ := cell7t Aa
    have S2 := box B1.size
    have Aj := ltR Aa
    have Ad := heap_alloc_last w1 (Obj.cells (cw 6 t) 41)
    have B2 := btr7 B1 (bal7 w1 (Obj.cells (cw 6 t) 41))
    have Ac := heap_of (bal7 w1 (Obj.cells (cw 6 t) 41)) _ _ _ Aa
    clear B1 Aa Ae Af
    obtain ⟨Ag, Ah⟩ := cell7t Ac
    have Ai := row_cell Ad
    go_wp2_with fail
    refine (K2.out _).mono ?_
    rintro r w' ⟨rfl, hw'⟩
    obtain rfl := hw'.symm
    go_wp2_with fail
    obtain ⟨F, hF1, hF2⟩ := below_fun (w1.alloc (Obj.cells (cw 6 t) 41))
    have fb_0 := fun u => cell7 (heap_of (hF1 u) _ _ _ Ac) 0 _ rfl
    have fb_1 := fun u => cell7 (heap_of (hF1 u) _ _ _ Ac) 1 _ rfl
    have ft_0 := fun u => row_cell (heap_of (hF1 u) _ _ _ Ad)
    refine wp_region_below F hF2 (by kernel_rfl) (by kernel_rfl) ?_
    repeat first | go_big_quiet_step (first | (go_at_call 66; exact quietF0 (KP.out _)) | (go_at_call 106; exact quietF hF1 hF2 (K3.out _)) | fail) | quiet_step (first | (go_at_call 66; exact quietF0 (KP.out _)) | (go_at_call 106; exact quietF hF1 hF2 (K3.out _)) | fail)
    refine wpQuiet_nil ?_
    rintro _ ⟨uW, rfl⟩
    have B3 := btr7 B2 (hF1 uW)
    obtain ⟨Ak, Al⟩ := rws2 (hF1 uW) Ac Ad
    obtain ⟨w3, hw⟩ : ∃ V, F uW = V := ⟨_, rfl⟩
    rw [hw] at B3 Ak Al
    try rw [hw]
    clear hw hF1 hF2 B2 fb_0 fb_1 ft_0 Ac Ag Ah Ad Ai
    clear F
    obtain ⟨Am, An⟩ := cell7t Ak
    have Ao := row_cell Al
    go_wp2
    go_ret
    exact ⟨rfl, B3⟩
 ·
  have b1 : ((e : Int) == (o : Int)) = false := by simp; omega
  rw [if_neg c1] at hc
  by_cases c2 : e = 0
  ·
   subst c2
   rw [if_neg (by simp)] at hc
   by_cases c3 : t = 0
   ·
    subst c3
    rw [if_neg (by simp)] at hc
    cases neg
    ·
     subst hc
     obtain ⟨Ab, B0⟩ := kopn1 w (Obj.cells #[.int .u64 x, .int .u64 y] 26)
     go_enter Tryz.func61, Tryz.ntmps61
     go_wp2_with fail
     refine (K1.out _).mono ?_
     rintro r w1 ⟨rfl, b1⟩
     have B1 : Below w.heap.size w w1 := btr7 B0 b1
     have Aa := heap_of b1 _ _ _ Ab
     clear b1 B0 Ab
     obtain ⟨Ae, Af⟩ := cell7t Aa
     have S2 := box B1.size
     have Aj := ltR Aa
     have Ad := heap_alloc_last w1 (Obj.cells (cw 6 0) 41)
     have B2 := btr7 B1 (bal7 w1 (Obj.cells (cw 6 0) 41))
     have Ac := heap_of (bal7 w1 (Obj.cells (cw 6 0) 41)) _ _ _ Aa
     clear B1 Aa Ae Af
     obtain ⟨Ag, Ah⟩ := cell7t Ac
     have Ai := row_cell Ad
     go_wp2_with fail
     refine (K2.out _).mono ?_
     rintro r w' ⟨rfl, hw'⟩
     obtain rfl := hw'.symm
     go_wp2
     go_ret
     exact ⟨rfl, B2⟩
    ·
     subst hc
     obtain ⟨Ab, B0⟩ := kopn1 w (Obj.cells #[.int .u64 x, .int .u64 y] 26)
     go_enter Tryz.func61, Tryz.ntmps61
     go_wp2_with fail
     refine (K1.out _).mono ?_
     rintro r w1 ⟨rfl, b1⟩
     have B1 : Below w.heap.size w w1 := btr7 B0 b1
     have Aa := heap_of b1 _ _ _ Ab
     clear b1 B0 Ab
     obtain ⟨Ae, Af⟩ := cell7t Aa
     have S2 := box B1.size
     have Aj := ltR Aa
     have Ad := heap_alloc_last w1 (Obj.cells (cw 6 0) 41)
     have B2 := btr7 B1 (bal7 w1 (Obj.cells (cw 6 0) 41))
     have Ac := heap_of (bal7 w1 (Obj.cells (cw 6 0) 41)) _ _ _ Aa
     clear B1 Aa Ae Af
     obtain ⟨Ag, Ah⟩ := cell7t Ac
     have Ai := row_cell Ad
     go_wp2_with fail
     refine (K2.out _).mono ?_
     rintro r w' ⟨rfl, hw'⟩
     obtain rfl := hw'.symm
     go_wp2
     go_ret
     exact ⟨rfl, B2⟩
   ·
    have z1 := zf.2 c3
    rw [if_pos (by simpa using c3)] at hc
    cases neg
    ·
     subst hc
     obtain ⟨Ab, B0⟩ := kopn1 w (Obj.cells #[.int .u64 x, .int .u64 y] 26)
     go_enter Tryz.func61, Tryz.ntmps61
     go_wp2_with fail
     refine (K1.out _).mono ?_
     rintro r w1 ⟨rfl, b1⟩
     have B1 : Below w.heap.size w w1 := btr7 B0 b1
     have Aa := heap_of b1 _ _ _ Ab
     clear b1 B0 Ab
     obtain ⟨Ae, Af⟩ := cell7t Aa
     have S2 := box B1.size
     have Aj := ltR Aa
     have Ad := heap_alloc_last w1 (Obj.cells (cw 6 t) 41)
     have B2 := btr7 B1 (bal7 w1 (Obj.cells (cw 6 t) 41))
     have Ac := heap_of (bal7 w1 (Obj.cells (cw 6 t) 41)) _ _ _ Aa
     clear B1 Aa Ae Af
     obtain ⟨Ag, Ah⟩ := cell7t Ac
     have Ai := row_cell Ad
     go_wp2_with fail
     refine (K2.out _).mono ?_
     rintro r w' ⟨rfl, hw'⟩
     obtain rfl := hw'.symm
     go_wp2
     go_ret
     exact ⟨rfl, B2⟩
    ·
     subst hc
     obtain ⟨Ab, B0⟩ := kopn1 w (Obj.cells #[.int .u64 x, .int .u64 y] 26)
     go_enter Tryz.func61, Tryz.ntmps61
     go_wp2_with fail
     refine (K1.out _).mono ?_
     rintro r w1 ⟨rfl, b1⟩
     have B1 : Below w.heap.size w w1 := btr7 B0 b1
     have Aa := heap_of b1 _ _ _ Ab
     clear b1 B0 Ab
     obtain ⟨Ae, Af⟩ := cell7t Aa
     have S2 := box B1.size
     have Aj := ltR Aa
     have Ad := heap_alloc_last w1 (Obj.cells (cw 6 t) 41)
     have B2 := btr7 B1 (bal7 w1 (Obj.cells (cw 6 t) 41))
     have Ac := heap_of (bal7 w1 (Obj.cells (cw 6 t) 41)) _ _ _ Aa
     clear B1 Aa Ae Af
     obtain ⟨Ag, Ah⟩ := cell7t Ac
     have Ai := row_cell Ad
     go_wp2_with fail
     refine (K2.out _).mono ?_
     rintro r w' ⟨rfl, hw'⟩
     obtain rfl := hw'.symm
     go_wp2
     go_ret
     exact ⟨rfl, B2⟩
  ·
   have b2 : ((e : Int) != 0) = true := by simp; omega
   rw [if_pos (by simpa using c2)] at hc
   cases neg
   ·
    subst hc
    obtain ⟨Ab, B0⟩ := kopn1 w (Obj.cells #[.int .u64 x, .int .u64 y] 26)
    go_enter Tryz.func61, Tryz.ntmps61
    go_wp2_with fail
    refine (K1.out _).mono ?_
    rintro r w1 ⟨rfl, b1⟩
    have B1 : Below w.heap.size w w1 := btr7 B0 b1
    have Aa := heap_of b1 _ _ _ Ab
    clear b1 B0 Ab
    obtain ⟨Ae, Af⟩ := cell7t Aa
    have S2 := box B1.size
    have Aj := ltR Aa
    have Ad := heap_alloc_last w1 (Obj.cells (cw 6 t) 41)
    have B2 := btr7 B1 (bal7 w1 (Obj.cells (cw 6 t) 41))
    have Ac := heap_of (bal7 w1 (Obj.cells (cw 6 t) 41)) _ _ _ Aa
    clear B1 Aa Ae Af
    obtain ⟨Ag, Ah⟩ := cell7t Ac
    have Ai := row_cell Ad
    go_wp2_with fail
    refine (K2.out _).mono ?_
    rintro r w' ⟨rfl, hw'⟩
    obtain rfl := hw'.symm
    go_wp2
    go_ret
    exact ⟨rfl, B2⟩
   ·
    subst hc
    obtain ⟨Ab, B0⟩ := kopn1 w (Obj.cells #[.int .u64 x, .int .u64 y] 26)
    go_enter Tryz.func61, Tryz.ntmps61
    go_wp2_with fail
    refine (K1.out _).mono ?_
    rintro r w1 ⟨rfl, b1⟩
    have B1 : Below w.heap.size w w1 := btr7 B0 b1
    have Aa := heap_of b1 _ _ _ Ab
    clear b1 B0 Ab
    obtain ⟨Ae, Af⟩ := cell7t Aa
    have S2 := box B1.size
    have Aj := ltR Aa
    have Ad := heap_alloc_last w1 (Obj.cells (cw 6 t) 41)
    have B2 := btr7 B1 (bal7 w1 (Obj.cells (cw 6 t) 41))
    have Ac := heap_of (bal7 w1 (Obj.cells (cw 6 t) 41)) _ _ _ Aa
    clear B1 Aa Ae Af
    obtain ⟨Ag, Ah⟩ := cell7t Ac
    have Ai := row_cell Ad
    go_wp2_with fail
    refine (K2.out _).mono ?_
    rintro r w' ⟨rfl, hw'⟩
    obtain rfl := hw'.symm
    go_wp2
    go_ret
    exact ⟨rfl, B2⟩
theorem rk_enc (f : Int) (neg : Bool) (e T v a b : Nat) (hf : Is4 f) (hT : T < 2 ^ pV f) (hev : e ≤ oV f) (hv : enc7 f neg e T = v) (hab : bv7 v = (a, b)) (w : World) :
  Calls Tryz.prog 67 #[.int .u8 f, .bool neg, .int .i64 (e : Nat), .agg (cw 6 T)] w fun r w' => r = .returned (.agg #[.int .u64 a, .int .u64 b]) ∧ Below w.heap.size w w' := by
 have h := r_enc f neg e T v hf (by have := (fm hf).2.2.2.2.2.1; omega) hT hv hev w
 rw [hab] at h
 exact h
theorem rSign_yes (f : Int) (hf : Is4 f) (x y n : Nat) (o : Bool) (hx : x < 18446744073709551616) (hy : y < 18446744073709551616) (hn : y + 18446744073709551616 * x = n) (ho : okB f n = true) (hc : kN f n = o) (w : World) : Calls Tryz.prog 23 #[.int .u8 f, .agg #[.int .u64 x, .int .u64 y]] w fun r w' => r = .returned (.bool o) ∧ Below w.heap.size w w' := by
 have hat := cw_at 6
 have hz := cw6z
 have hff := cw6f
 have hs0 := st0
 have hcs : ∀ x, ((cw 6 x).size = 6) = True := fun x => eq_true (cw_size 6 x)
 have f4 := is4_ok hf
 have fit := (okB_yes f4.1 ho).2
 have K1 := box (rk_fits f x y n true f4.1 hx hy hn ho)
 have K2 := box (rk_fields f hf x y n _ _ o hx hy hn fit hc rfl rfl)
 clear hf hx hy hn ho hc fit
 obtain ⟨Ac, B0⟩ := kopn1 w (Obj.cells #[.int .u64 x, .int .u64 y] 26)
 go_enter Tryz.func23, Tryz.ntmps23
 go_wp2_with fail
 refine (K1.out _).mono ?_
 rintro r w1 ⟨rfl, b1⟩
 have B1 : Below w.heap.size w w1 := btr7 B0 b1
 have Ab := heap_of b1 _ _ _ Ac
 clear b1 B0 Ac
 obtain ⟨Ad, Ae⟩ := cell7t Ab
 go_wp2_with fail
 refine (K2.out _).mono ?_
 rintro r w2 ⟨rfl, b2⟩
 have B2 : Below w.heap.size w w2 := btr7 B1 b2
 have Aa := heap_of b2 _ _ _ Ab
 clear b2 B1 Ab Ad Ae
 obtain ⟨Af, Ag⟩ := cell7t Aa
 have S3 := box B2.size
 have Aj := ltR Aa
 have Ah := heap_alloc_last w2 (Obj.cells (cw 6 (kT f n)) 41)
 have B3 := btr7 B2 (bal7 w2 (Obj.cells (cw 6 (kT f n)) 41))
 have Ai := heap_of (bal7 w2 (Obj.cells (cw 6 (kT f n)) 41)) _ _ _ Aa
 clear B2 Aa Af Ag
 obtain ⟨Ak, Al⟩ := cell7t Ai
 have Am := row_cell Ah
 go_wp2
 go_ret
 exact ⟨rfl, B3⟩
theorem rNaN_is (f : Int) (hf : Is4 f) (x y n c : Nat) (o : Bool) (hx : x < 18446744073709551616) (hy : y < 18446744073709551616) (hn : y + 18446744073709551616 * x = n) (hfit : Fit f n) (hc : kC f n = c) (ho : decide (8 ≤ c) = o) (w : World) : Calls Tryz.prog 21 #[.int .u8 f, .agg #[.int .u64 x, .int .u64 y]] w fun r w' => r = .returned (.bool o) ∧ Below w.heap.size w w' := by
 have K1 := box (rk_class f hf x y n c hx hy hn hfit hc)
 have hd : decide ((8 : Int) ≤ (c : Int)) = o := by rw [← ho, decide_eq_decide]; omega
 clear hf hx hy hn hfit hc ho
 obtain ⟨Aa, B0⟩ := kopn1 w (Obj.cells #[.int .u64 x, .int .u64 y] 26)
 go_enter Tryz.func21, Tryz.ntmps21
 go_wp2_with fail
 refine (K1.out _).mono ?_
 rintro r w1 ⟨rfl, b1⟩
 have B1 : Below w.heap.size w w1 := btr7 B0 b1
 have Ab := heap_of b1 _ _ _ Aa
 clear b1 B0 Aa
 obtain ⟨Ac, Ad⟩ := cell7t Ab
 go_wp2
 go_ret
 exact ⟨rfl, B1⟩
def qt (f : Int) (n : Nat) : Nat := if kC f n = 8 then n + 2 ^ (pV f - 1) else n
end Go.Proofs.YtpgiabmmmpdobaaGreatDoor
