/-
  What the functions that the statement reaches return: part 16 (Q6).
-/
import Derived.Test.YtpgiabmmmpdobaaDoorSq15
namespace Go.Proofs.YtpgiabmmmpdobaaDoor
set_option maxRecDepth 100000
set_option maxHeartbeats 40000000
set_option maxRecDepth 100000
open Go.RowKit WMath XMath
set_option linter.unusedSimpArgs false
set_option linter.unusedVariables false
theorem dlv_okQ {f : Int} (hf : Is4 f) (m : Int) (neg : Bool) (N : Nat) (N0 : N ≠ 0) (T : Int) : Fit f (dlv f m neg T (qW (pV f + 1) N) (qM (pV f + 1) N false)).1 := by
  obtain ⟨ee, t, fl, h1, h2, h2b, h3, h4⟩ := dlv_enc hf (q_ok (f := f) N N0) m neg T (qM (pV f + 1) N false)
  rw [h3]
  exact (enc_k hf neg h1 h2).1
theorem mulQ_yes (f m : Int) (hf : Is4 f) (hm : 0 ≤ m ∧ m ≤ 4) (x1 y1 a x2 y2 b : Nat) (hx1 : x1 < 18446744073709551616) (hy1 : y1 < 18446744073709551616) (ha : y1 + 18446744073709551616 * x1 = a) (hx2 : x2 < 18446744073709551616) (hy2 : y2 < 18446744073709551616) (hb : y2 + 18446744073709551616 * x2 = b)
    (oa : okB f a = true) (ob : okB f b = true) (M : Nat) (fl : Int) (hr : mulR f m a b = (M, fl)) (u v : Nat) (hv : bv7 M = (u, v)) (w : World) (hT : FAt w) :
    Calls Tryd.prog 11 #[.int .u8 f, .int .u8 m, .agg #[.int .u64 (x1 : Nat), .int .u64 (y1 : Nat)], .agg #[.int .u64 (x2 : Nat), .int .u64 (y2 : Nat)]] w fun r w' => r = .returned (.tuple #[.agg #[.int .u64 (u : Nat), .int .u64 (v : Nat)], .int .u8 fl, .int .i64 0]) ∧ Below w.heap.size w w' :=
  mul_mul_yes f m x1 y1 x2 y2 u v 0 0 fl 0 w (kmay2 f m (is4_ok hf).1 (is4_ok hf).2.1 hm.1 x1 y1 a x2 y2 b hx1 hy1 ha hx2 hy2 hb true (by rw [oa, ob, decide_eq_true (show f ≤ 3 ∧ m ≤ 4 from ⟨is4_le hf, hm.2⟩)]; rfl)) (box (fun w hT => ktimes_is f m hf hm x1 y1 a x2 y2 b hx1 hy1 ha hx2 hy2 hb oa ob M fl hr u v hv w hT)) hT
theorem kC_enc {f : Int} (hf : Is4 f) (neg : Bool) : kC f (eInf f neg) = (if neg then 0 else 7) ∧ kC f (eZero f neg) = (if neg then 3 else 4) ∧ Fit f (eInf f neg) ∧ Fit f (eZero f neg) ∧ Fit f (eNaN f) := by
  have p := Nat.two_pow_pos (pV f)
  have n2 := (nm8 hf).2.1
  obtain ⟨i1, i2, i3, i4⟩ := enc_k hf neg (Nat.le_refl (oV f)) p
  obtain ⟨z1, z2, z3, z4⟩ := enc_k hf neg (Nat.zero_le (oV f)) p
  obtain ⟨k1, k2, k3, k4⟩ := enc_k hf false (Nat.le_refl (oV f)) (t := 2 ^ (pV f - 1)) (Nat.pow_lt_pow_right (by decide) (by rcases hf with rfl | rfl | rfl | rfl <;> decide))
  refine ⟨?_, ?_, i1, z1, k1⟩
  · unfold kC eInf
    rw [i2, i3, i4, if_pos rfl, if_pos rfl]
  · unfold kC eZero
    rw [z2, z3, z4, if_neg (by omega), if_neg (by decide), if_neg (by decide)]
theorem sq_all {f : Int} (hf : Is4 f) (m : Int) (a s : Nat) (fa : Fit f a) (h : mulR f m a a = (s, 0)) (hn : s ≠ eNaN f) : Fit f s ∧ SqR f m s (enc7 f false (kE f a) (kT f a)) 0 := by
  have lc := kC_lt f a
  obtain ⟨i1, z1, i2, z2, n2⟩ := kC_enc hf false
  by_cases c : kC f a = 1 ∨ kC f a = 2 ∨ kC f a = 5 ∨ kC f a = 6
  · obtain ⟨q1, q2⟩ := sq_root hf m a s fa c h
    obtain ⟨M, fl, hM⟩ := sqR_some f m s
    obtain ⟨s1, s2, s3, s4⟩ := vX_whole hf s (by omega) (by omega)
    have r := sqR_rts hf m s M fl q1 hM
    rw [kN_pos q1] at s3
    rw [← s3] at r
    obtain ⟨e1, e2⟩ := q2 M fl r
    subst e1 e2
    refine ⟨?_, hM⟩
    have h2 := h
    unfold mulR at h2
    rw [if_neg (by omega), if_neg (by omega), if_neg (by omega), if_neg (by omega), if_neg (by omega)] at h2
    have k := k_parts (f := f) a c
    have := dlv_okQ hf m (kN f a != kN f a) (kS f a * kS f a) (Nat.mul_ne_zero k.2.2.2 k.2.2.2) (kX f a + kX f a + (blen (kS f a * kS f a) : Int) - 1)
    rw [h2] at this
    exact this
  unfold mulR at h
  have nn : (kN f a != kN f a) = false := by cases kN f a <;> rfl
  rw [nn] at h
  by_cases c8 : kC f a = 8
  · rw [if_pos (Or.inl c8)] at h
    injection h with h1 h2
    exact absurd h2 (by decide)
  by_cases c9 : kC f a = 9
  · rw [if_neg (by omega), if_pos (Or.inl c9)] at h
    injection h with h1 h2
    exact absurd h1.symm hn
  have p := Nat.two_pow_pos (pV f)
  by_cases ci : kC f a = 0 ∨ kC f a = 7
  · rw [if_neg (by omega), if_neg (by omega), if_neg (by omega), if_pos (Or.inl ci)] at h
    injection h with h1 h2
    subst h1
    have e : kE f a = oV f ∧ kT f a = 0 := by
      have ci := ci
      unfold kC at ci
      repeat' split at ci
      all_goals simp_all
    refine ⟨i2, ?_⟩
    unfold SqR
    rw [i1, if_neg (by decide), if_neg (by decide), if_pos (by decide), e.1, e.2]
    exact ⟨rfl, rfl⟩
  · rw [if_neg (by omega), if_neg (by omega), if_neg (by omega), if_neg (by omega), if_pos (by omega)] at h
    injection h with h1 h2
    subst h1
    have cz : kC f a = 3 ∨ kC f a = 4 := by omega
    have e : kE f a = 0 ∧ kT f a = 0 := by
      unfold kC at cz
      repeat' split at cz
      all_goals simp_all
    refine ⟨z2, ?_⟩
    unfold SqR
    rw [z1, if_neg (by decide), if_neg (by decide), if_pos (by decide), e.1, e.2]
    exact ⟨rfl, rfl⟩
set_option maxRecDepth 100000 in
set_option maxHeartbeats 8000000 in
theorem ss_err (f m : Int) (x1 y1 u v : Nat)  (w : World)
    (KR : Box (∀ w, FAt w → Calls Tryd.prog 11 #[.int .u8 f, .int .u8 m, .agg #[.int .u64 (x1 : Nat), .int .u64 (y1 : Nat)], .agg #[.int .u64 (x1 : Nat), .int .u64 (y1 : Nat)]] w fun r w' => r = .returned (.tuple #[.agg #[.int .u64 (u : Nat), .int .u64 (v : Nat)], .int .u8 0, .int .i64 2]) ∧ Below w.heap.size w w'))
    (KA : Box (∀ w, FAt w → Calls Tryd.prog 12 #[] w fun r w' => r = .returned (.bool true) ∧ Below w.heap.size w w'))
    (hT : FAt w) : Calls Tryd.prog 4 #[.int .u8 f, .int .u8 m, .agg #[.int .u64 (x1 : Nat), .int .u64 (y1 : Nat)]] w fun r w' => r = .returned (.bool true) ∧ Below w.heap.size w w' := by
  have FF := box hT
  clear hT
  obtain ⟨Ra_0, B0⟩ := opn1 w (Obj.cells #[.int .u64 (x1 : Nat), .int .u64 (y1 : Nat)] 26)
  go_enter Tryd.func4, Tryd.ntmps4
  obtain ⟨ca_0_0, ca_0_1⟩ := cells2s Ra_0
  go_wp2_with fail
  refine (KR.out _ (fatB FF.out B0)).mono ?_
  rintro r w1 ⟨rfl, b1⟩
  have B1 : Below w.heap.size w w1 := btr B0 b1
  have Ra_1 := heap_of b1 _ _ _ Ra_0
  clear b1 B0 Ra_0 ca_0_0 ca_0_1
  obtain ⟨ca_1_0, ca_1_1⟩ := cells2s Ra_1
  have S2 := box B1.size
  have La_2 : Box (w.heap.size < w1.heap.size) := box (Array.getElem?_eq_some_iff.1 Ra_1).1
  have Rs_2 := heap_alloc_last w1 (Obj.cells #[.int .u64 (u : Nat), .int .u64 (v : Nat)] 26)
  have B2 := btr B1 (bal w1 (Obj.cells #[.int .u64 (u : Nat), .int .u64 (v : Nat)] 26))
  have Ra_2 := heap_of (bal w1 (Obj.cells #[.int .u64 (u : Nat), .int .u64 (v : Nat)] 26)) _ _ _ Ra_1
  clear B1 Ra_1 ca_1_0 ca_1_1
  obtain ⟨ca_2_0, ca_2_1⟩ := cells2s Ra_2
  obtain ⟨cs_2_0, cs_2_1⟩ := cells2s Rs_2
  go_wp2_with fail
  obtain ⟨F, hF1, hF2⟩ := below_fun (w1.alloc (Obj.cells #[.int .u64 (u : Nat), .int .u64 (v : Nat)] 26))
  have fa_0 := fun u => cells4 (heap_of (hF1 u) _ _ _ Ra_2) 0 _ rfl
  have fa_1 := fun u => cells4 (heap_of (hF1 u) _ _ _ Ra_2) 1 _ rfl
  have fs_0 := fun u => cells4 (heap_of (hF1 u) _ _ _ Rs_2) 0 _ rfl
  have fs_1 := fun u => cells4 (heap_of (hF1 u) _ _ _ Rs_2) 1 _ rfl
  refine wp_region_below F hF2 (by kernel_rfl) (by kernel_rfl) ?_
  repeat first | go_big_quiet_step (first  | fail) | quiet_step (first  | fail)
  refine wpQuiet_nil ?_
  rintro _ ⟨uW, rfl⟩
  have B3 := btr B2 (hF1 uW)
  have Ra_3 := heap_of (hF1 uW) _ _ _ Ra_2
  have Rs_3 := heap_of (hF1 uW) _ _ _ Rs_2
  obtain ⟨w3, hw⟩ : ∃ V, F uW = V := ⟨_, rfl⟩
  rw [hw] at B3 Ra_3 Rs_3
  try rw [hw]
  clear hw hF1 hF2 B2 fa_0 fa_1 fs_0 fs_1 Ra_2 ca_2_0 ca_2_1 Rs_2 cs_2_0 cs_2_1
  clear F
  obtain ⟨ca_3_0, ca_3_1⟩ := cells2s Ra_3
  obtain ⟨cs_3_0, cs_3_1⟩ := cells2s Rs_3
  go_wp2_with fail
  refine (KA.out _ (fatB FF.out B3)).mono ?_
  rintro r w4 ⟨rfl, b4⟩
  have B4 : Below w.heap.size w w4 := btr B3 b4
  have Ra_4 := heap_of b4 _ _ _ Ra_3
  have Rs_4 := heap_of b4 _ _ _ Rs_3
  clear b4 B3 Ra_3 ca_3_0 ca_3_1 Rs_3 cs_3_0 cs_3_1
  obtain ⟨ca_4_0, ca_4_1⟩ := cells2s Ra_4
  obtain ⟨cs_4_0, cs_4_1⟩ := cells2s Rs_4
  go_wp2
  go_ret
  exact ⟨rfl, B4⟩
set_option maxRecDepth 100000 in
set_option maxHeartbeats 8000000 in
theorem ss_flag (f m : Int) (x1 y1 u v : Nat) (fl : Int) (hfl : (fl != 0) = true) (w : World)
    (KR : Box (∀ w, FAt w → Calls Tryd.prog 11 #[.int .u8 f, .int .u8 m, .agg #[.int .u64 (x1 : Nat), .int .u64 (y1 : Nat)], .agg #[.int .u64 (x1 : Nat), .int .u64 (y1 : Nat)]] w fun r w' => r = .returned (.tuple #[.agg #[.int .u64 (u : Nat), .int .u64 (v : Nat)], .int .u8 fl, .int .i64 0]) ∧ Below w.heap.size w w'))
    (KA : Box (∀ w, FAt w → Calls Tryd.prog 12 #[] w fun r w' => r = .returned (.bool true) ∧ Below w.heap.size w w'))
    (hT : FAt w) : Calls Tryd.prog 4 #[.int .u8 f, .int .u8 m, .agg #[.int .u64 (x1 : Nat), .int .u64 (y1 : Nat)]] w fun r w' => r = .returned (.bool true) ∧ Below w.heap.size w w' := by
  have FF := box hT
  clear hT
  obtain ⟨Ra_0, B0⟩ := opn1 w (Obj.cells #[.int .u64 (x1 : Nat), .int .u64 (y1 : Nat)] 26)
  go_enter Tryd.func4, Tryd.ntmps4
  obtain ⟨ca_0_0, ca_0_1⟩ := cells2s Ra_0
  go_wp2_with fail
  refine (KR.out _ (fatB FF.out B0)).mono ?_
  rintro r w1 ⟨rfl, b1⟩
  have B1 : Below w.heap.size w w1 := btr B0 b1
  have Ra_1 := heap_of b1 _ _ _ Ra_0
  clear b1 B0 Ra_0 ca_0_0 ca_0_1
  obtain ⟨ca_1_0, ca_1_1⟩ := cells2s Ra_1
  have S2 := box B1.size
  have La_2 : Box (w.heap.size < w1.heap.size) := box (Array.getElem?_eq_some_iff.1 Ra_1).1
  have Rs_2 := heap_alloc_last w1 (Obj.cells #[.int .u64 (u : Nat), .int .u64 (v : Nat)] 26)
  have B2 := btr B1 (bal w1 (Obj.cells #[.int .u64 (u : Nat), .int .u64 (v : Nat)] 26))
  have Ra_2 := heap_of (bal w1 (Obj.cells #[.int .u64 (u : Nat), .int .u64 (v : Nat)] 26)) _ _ _ Ra_1
  clear B1 Ra_1 ca_1_0 ca_1_1
  obtain ⟨ca_2_0, ca_2_1⟩ := cells2s Ra_2
  obtain ⟨cs_2_0, cs_2_1⟩ := cells2s Rs_2
  go_wp2_with fail
  obtain ⟨F, hF1, hF2⟩ := below_fun (w1.alloc (Obj.cells #[.int .u64 (u : Nat), .int .u64 (v : Nat)] 26))
  have fa_0 := fun u => cells4 (heap_of (hF1 u) _ _ _ Ra_2) 0 _ rfl
  have fa_1 := fun u => cells4 (heap_of (hF1 u) _ _ _ Ra_2) 1 _ rfl
  have fs_0 := fun u => cells4 (heap_of (hF1 u) _ _ _ Rs_2) 0 _ rfl
  have fs_1 := fun u => cells4 (heap_of (hF1 u) _ _ _ Rs_2) 1 _ rfl
  refine wp_region_below F hF2 (by kernel_rfl) (by kernel_rfl) ?_
  repeat first | go_big_quiet_step (first  | fail) | quiet_step (first  | fail)
  refine wpQuiet_nil ?_
  rintro _ ⟨uW, rfl⟩
  have B3 := btr B2 (hF1 uW)
  have Ra_3 := heap_of (hF1 uW) _ _ _ Ra_2
  have Rs_3 := heap_of (hF1 uW) _ _ _ Rs_2
  obtain ⟨w3, hw⟩ : ∃ V, F uW = V := ⟨_, rfl⟩
  rw [hw] at B3 Ra_3 Rs_3
  try rw [hw]
  clear hw hF1 hF2 B2 fa_0 fa_1 fs_0 fs_1 Ra_2 ca_2_0 ca_2_1 Rs_2 cs_2_0 cs_2_1
  clear F
  obtain ⟨ca_3_0, ca_3_1⟩ := cells2s Ra_3
  obtain ⟨cs_3_0, cs_3_1⟩ := cells2s Rs_3
  go_wp2_with fail
  refine (KA.out _ (fatB FF.out B3)).mono ?_
  rintro r w4 ⟨rfl, b4⟩
  have B4 : Below w.heap.size w w4 := btr B3 b4
  have Ra_4 := heap_of b4 _ _ _ Ra_3
  have Rs_4 := heap_of b4 _ _ _ Rs_3
  clear b4 B3 Ra_3 ca_3_0 ca_3_1 Rs_3 cs_3_0 cs_3_1
  obtain ⟨ca_4_0, ca_4_1⟩ := cells2s Ra_4
  obtain ⟨cs_4_0, cs_4_1⟩ := cells2s Rs_4
  go_wp2
  go_ret
  exact ⟨rfl, B4⟩
set_option maxRecDepth 100000 in
set_option maxHeartbeats 8000000 in
theorem ss_nan (f m : Int) (x1 y1 u v : Nat) (i j : Nat) (he : ebb (u : Nat) (v : Nat) (i : Nat) (j : Nat) = true) (w : World)
    (KR : Box (∀ w, FAt w → Calls Tryd.prog 11 #[.int .u8 f, .int .u8 m, .agg #[.int .u64 (x1 : Nat), .int .u64 (y1 : Nat)], .agg #[.int .u64 (x1 : Nat), .int .u64 (y1 : Nat)]] w fun r w' => r = .returned (.tuple #[.agg #[.int .u64 (u : Nat), .int .u64 (v : Nat)], .int .u8 0, .int .i64 0]) ∧ Below w.heap.size w w'))
    (KN : Box (∀ w, FAt w → Calls Tryd.prog 10 #[.int .u8 f] w fun r w' => r = .returned (.agg #[.int .u64 (i : Nat), .int .u64 (j : Nat)]) ∧ Below w.heap.size w w'))
    (KA : Box (∀ w, FAt w → Calls Tryd.prog 12 #[] w fun r w' => r = .returned (.bool true) ∧ Below w.heap.size w w'))
    (hT : FAt w) : Calls Tryd.prog 4 #[.int .u8 f, .int .u8 m, .agg #[.int .u64 (x1 : Nat), .int .u64 (y1 : Nat)]] w fun r w' => r = .returned (.bool true) ∧ Below w.heap.size w w' := by
  have FF := box hT
  clear hT
  obtain ⟨Ra_0, B0⟩ := opn1 w (Obj.cells #[.int .u64 (x1 : Nat), .int .u64 (y1 : Nat)] 26)
  go_enter Tryd.func4, Tryd.ntmps4
  obtain ⟨ca_0_0, ca_0_1⟩ := cells2s Ra_0
  go_wp2_with fail
  refine (KR.out _ (fatB FF.out B0)).mono ?_
  rintro r w1 ⟨rfl, b1⟩
  have B1 : Below w.heap.size w w1 := btr B0 b1
  have Ra_1 := heap_of b1 _ _ _ Ra_0
  clear b1 B0 Ra_0 ca_0_0 ca_0_1
  obtain ⟨ca_1_0, ca_1_1⟩ := cells2s Ra_1
  have S2 := box B1.size
  have La_2 : Box (w.heap.size < w1.heap.size) := box (Array.getElem?_eq_some_iff.1 Ra_1).1
  have Rs_2 := heap_alloc_last w1 (Obj.cells #[.int .u64 (u : Nat), .int .u64 (v : Nat)] 26)
  have B2 := btr B1 (bal w1 (Obj.cells #[.int .u64 (u : Nat), .int .u64 (v : Nat)] 26))
  have Ra_2 := heap_of (bal w1 (Obj.cells #[.int .u64 (u : Nat), .int .u64 (v : Nat)] 26)) _ _ _ Ra_1
  clear B1 Ra_1 ca_1_0 ca_1_1
  obtain ⟨ca_2_0, ca_2_1⟩ := cells2s Ra_2
  obtain ⟨cs_2_0, cs_2_1⟩ := cells2s Rs_2
  have hE := eqb
  have hes : ∀ a b : Int, ebb a b a b = true := fun a b => by unfold ebb; rw [beq_self_eq_true, beq_self_eq_true]; rfl
  have sS : Box (∀ W W1 : World, (Below w.heap.size w W ∧ W.heap[w.heap.size]? = some (Obj.cells #[.int .u64 (x1 : Nat), .int .u64 (y1 : Nat)] 26) ∧ W.heap[w1.heap.size]? = some (Obj.cells #[.int .u64 (u : Nat), .int .u64 (v : Nat)] 26) ∧ W.cell? ⟨w1.heap.size, 0, none⟩ = some (.int .u64 (u : Nat)) ∧ W.cell? ⟨w1.heap.size, 1, none⟩ = some (.int .u64 (v : Nat))) → Below W.heap.size W W1 → (Below w.heap.size w W1 ∧ W1.heap[w.heap.size]? = some (Obj.cells #[.int .u64 (x1 : Nat), .int .u64 (y1 : Nat)] 26) ∧ W1.heap[w1.heap.size]? = some (Obj.cells #[.int .u64 (u : Nat), .int .u64 (v : Nat)] 26) ∧ W1.cell? ⟨w1.heap.size, 0, none⟩ = some (.int .u64 (u : Nat)) ∧ W1.cell? ⟨w1.heap.size, 1, none⟩ = some (.int .u64 (v : Nat)))) := box (fun W W1 h b => ⟨btr h.1 b, heap_of b _ _ _ h.2.1, heap_of b _ _ _ h.2.2.1, cell7 (heap_of b _ _ _ h.2.2.1) 0 _ rfl, cell7 (heap_of b _ _ _ h.2.2.1) 1 _ rfl⟩)
  have s0 : Below w.heap.size w ((w1.alloc (Obj.cells #[.int .u64 (u : Nat), .int .u64 (v : Nat)] 26))).drew ∧ ((w1.alloc (Obj.cells #[.int .u64 (u : Nat), .int .u64 (v : Nat)] 26))).drew.heap[w.heap.size]? = some (Obj.cells #[.int .u64 (x1 : Nat), .int .u64 (y1 : Nat)] 26) ∧ ((w1.alloc (Obj.cells #[.int .u64 (u : Nat), .int .u64 (v : Nat)] 26))).drew.heap[w1.heap.size]? = some (Obj.cells #[.int .u64 (u : Nat), .int .u64 (v : Nat)] 26) ∧ ((w1.alloc (Obj.cells #[.int .u64 (u : Nat), .int .u64 (v : Nat)] 26))).drew.cell? ⟨w1.heap.size, 0, none⟩ = some (.int .u64 (u : Nat)) ∧ ((w1.alloc (Obj.cells #[.int .u64 (u : Nat), .int .u64 (v : Nat)] 26))).drew.cell? ⟨w1.heap.size, 1, none⟩ = some (.int .u64 (v : Nat)) := ⟨B2.drew, Ra_2, Rs_2, cell7 (Rs_2) 0 _ rfl, cell7 (Rs_2) 1 _ rfl⟩
  go_wp2_with fail
  go_region_held3 (fun W => Below w.heap.size w W ∧ W.heap[w.heap.size]? = some (Obj.cells #[.int .u64 (x1 : Nat), .int .u64 (y1 : Nat)] 26) ∧ W.heap[w1.heap.size]? = some (Obj.cells #[.int .u64 (u : Nat), .int .u64 (v : Nat)] 26) ∧ W.cell? ⟨w1.heap.size, 0, none⟩ = some (.int .u64 (u : Nat)) ∧ W.cell? ⟨w1.heap.size, 1, none⟩ = some (.int .u64 (v : Nat))) (first | exact s1 | exact s0)
    (first | (go_at_call 10; (first | refine (KN.out _ (fatB FF.out (And.left s1))).mono ?_ | refine (KN.out _ (fatB FF.out (And.left s0))).mono ?_); rintro r wq ⟨rfl, bq⟩; (first | have s1 := sS.out _ _ s1 bq | have s1 := sS.out _ _ s0 bq); clear bq) | fail)
  have B3 := (And.left s1)
  have Ra_3 := s1.2.1
  have Rs_3 := s1.2.2.1
  clear s0 s1 sS B2 Ra_2 ca_2_0 ca_2_1 Rs_2 cs_2_0 cs_2_1
  obtain ⟨ca_3_0, ca_3_1⟩ := cells2s Ra_3
  obtain ⟨cs_3_0, cs_3_1⟩ := cells2s Rs_3
  go_wp2_with fail
  refine (KA.out _ (fatB FF.out B3)).mono ?_
  rintro r w4 ⟨rfl, b4⟩
  have B4 : Below w.heap.size w w4 := btr B3 b4
  have Ra_4 := heap_of b4 _ _ _ Ra_3
  have Rs_4 := heap_of b4 _ _ _ Rs_3
  clear b4 B3 Ra_3 ca_3_0 ca_3_1 Rs_3 cs_3_0 cs_3_1
  obtain ⟨ca_4_0, ca_4_1⟩ := cells2s Ra_4
  obtain ⟨cs_4_0, cs_4_1⟩ := cells2s Rs_4
  go_wp2
  go_ret
  exact ⟨rfl, B4⟩
set_option maxRecDepth 100000 in
set_option maxHeartbeats 8000000 in
theorem ss_pos (f m : Int) (x1 y1 u v : Nat) (i j : Nat) (he : ebb (u : Nat) (v : Nat) (i : Nat) (j : Nat) = false)  (w : World)
    (KR : Box (∀ w, FAt w → Calls Tryd.prog 11 #[.int .u8 f, .int .u8 m, .agg #[.int .u64 (x1 : Nat), .int .u64 (y1 : Nat)], .agg #[.int .u64 (x1 : Nat), .int .u64 (y1 : Nat)]] w fun r w' => r = .returned (.tuple #[.agg #[.int .u64 (u : Nat), .int .u64 (v : Nat)], .int .u8 0, .int .i64 0]) ∧ Below w.heap.size w w'))
    (KN : Box (∀ w, FAt w → Calls Tryd.prog 10 #[.int .u8 f] w fun r w' => r = .returned (.agg #[.int .u64 (i : Nat), .int .u64 (j : Nat)]) ∧ Below w.heap.size w w'))
    (KQ : Box (∀ w, FAt w → Calls Tryd.prog 13 #[.int .u8 f, .int .u8 m, .agg #[.int .u64 (u : Nat), .int .u64 (v : Nat)]] w fun r w' => r = .returned (.tuple #[.agg #[.int .u64 (x1 : Nat), .int .u64 (y1 : Nat)], .int .u8 0, .int .i64 0]) ∧ Below w.heap.size w w'))
    (KS : Box (∀ w, FAt w → Calls Tryd.prog 14 #[.int .u8 f, .agg #[.int .u64 (x1 : Nat), .int .u64 (y1 : Nat)]] w fun r w' => r = .returned (.bool false) ∧ Below w.heap.size w w'))
    (KA : Box (∀ w, FAt w → Calls Tryd.prog 12 #[] w fun r w' => r = .returned (.bool true) ∧ Below w.heap.size w w'))
    (hT : FAt w) : Calls Tryd.prog 4 #[.int .u8 f, .int .u8 m, .agg #[.int .u64 (x1 : Nat), .int .u64 (y1 : Nat)]] w fun r w' => r = .returned (.bool true) ∧ Below w.heap.size w w' := by
  have FF := box hT
  clear hT
  obtain ⟨Ra_0, B0⟩ := opn1 w (Obj.cells #[.int .u64 (x1 : Nat), .int .u64 (y1 : Nat)] 26)
  go_enter Tryd.func4, Tryd.ntmps4
  obtain ⟨ca_0_0, ca_0_1⟩ := cells2s Ra_0
  go_wp2_with fail
  refine (KR.out _ (fatB FF.out B0)).mono ?_
  rintro r w1 ⟨rfl, b1⟩
  have B1 : Below w.heap.size w w1 := btr B0 b1
  have Ra_1 := heap_of b1 _ _ _ Ra_0
  clear b1 B0 Ra_0 ca_0_0 ca_0_1
  obtain ⟨ca_1_0, ca_1_1⟩ := cells2s Ra_1
  have S2 := box B1.size
  have La_2 : Box (w.heap.size < w1.heap.size) := box (Array.getElem?_eq_some_iff.1 Ra_1).1
  have Rs_2 := heap_alloc_last w1 (Obj.cells #[.int .u64 (u : Nat), .int .u64 (v : Nat)] 26)
  have B2 := btr B1 (bal w1 (Obj.cells #[.int .u64 (u : Nat), .int .u64 (v : Nat)] 26))
  have Ra_2 := heap_of (bal w1 (Obj.cells #[.int .u64 (u : Nat), .int .u64 (v : Nat)] 26)) _ _ _ Ra_1
  clear B1 Ra_1 ca_1_0 ca_1_1
  obtain ⟨ca_2_0, ca_2_1⟩ := cells2s Ra_2
  obtain ⟨cs_2_0, cs_2_1⟩ := cells2s Rs_2
  have hE := eqb
  have hes : ∀ a b : Int, ebb a b a b = true := fun a b => by unfold ebb; rw [beq_self_eq_true, beq_self_eq_true]; rfl
  have sS : Box (∀ W W1 : World, (Below w.heap.size w W ∧ W.heap[w.heap.size]? = some (Obj.cells #[.int .u64 (x1 : Nat), .int .u64 (y1 : Nat)] 26) ∧ W.heap[w1.heap.size]? = some (Obj.cells #[.int .u64 (u : Nat), .int .u64 (v : Nat)] 26) ∧ W.cell? ⟨w1.heap.size, 0, none⟩ = some (.int .u64 (u : Nat)) ∧ W.cell? ⟨w1.heap.size, 1, none⟩ = some (.int .u64 (v : Nat))) → Below W.heap.size W W1 → (Below w.heap.size w W1 ∧ W1.heap[w.heap.size]? = some (Obj.cells #[.int .u64 (x1 : Nat), .int .u64 (y1 : Nat)] 26) ∧ W1.heap[w1.heap.size]? = some (Obj.cells #[.int .u64 (u : Nat), .int .u64 (v : Nat)] 26) ∧ W1.cell? ⟨w1.heap.size, 0, none⟩ = some (.int .u64 (u : Nat)) ∧ W1.cell? ⟨w1.heap.size, 1, none⟩ = some (.int .u64 (v : Nat)))) := box (fun W W1 h b => ⟨btr h.1 b, heap_of b _ _ _ h.2.1, heap_of b _ _ _ h.2.2.1, cell7 (heap_of b _ _ _ h.2.2.1) 0 _ rfl, cell7 (heap_of b _ _ _ h.2.2.1) 1 _ rfl⟩)
  have s0 : Below w.heap.size w ((w1.alloc (Obj.cells #[.int .u64 (u : Nat), .int .u64 (v : Nat)] 26))).drew ∧ ((w1.alloc (Obj.cells #[.int .u64 (u : Nat), .int .u64 (v : Nat)] 26))).drew.heap[w.heap.size]? = some (Obj.cells #[.int .u64 (x1 : Nat), .int .u64 (y1 : Nat)] 26) ∧ ((w1.alloc (Obj.cells #[.int .u64 (u : Nat), .int .u64 (v : Nat)] 26))).drew.heap[w1.heap.size]? = some (Obj.cells #[.int .u64 (u : Nat), .int .u64 (v : Nat)] 26) ∧ ((w1.alloc (Obj.cells #[.int .u64 (u : Nat), .int .u64 (v : Nat)] 26))).drew.cell? ⟨w1.heap.size, 0, none⟩ = some (.int .u64 (u : Nat)) ∧ ((w1.alloc (Obj.cells #[.int .u64 (u : Nat), .int .u64 (v : Nat)] 26))).drew.cell? ⟨w1.heap.size, 1, none⟩ = some (.int .u64 (v : Nat)) := ⟨B2.drew, Ra_2, Rs_2, cell7 (Rs_2) 0 _ rfl, cell7 (Rs_2) 1 _ rfl⟩
  go_wp2_with fail
  go_region_held3 (fun W => Below w.heap.size w W ∧ W.heap[w.heap.size]? = some (Obj.cells #[.int .u64 (x1 : Nat), .int .u64 (y1 : Nat)] 26) ∧ W.heap[w1.heap.size]? = some (Obj.cells #[.int .u64 (u : Nat), .int .u64 (v : Nat)] 26) ∧ W.cell? ⟨w1.heap.size, 0, none⟩ = some (.int .u64 (u : Nat)) ∧ W.cell? ⟨w1.heap.size, 1, none⟩ = some (.int .u64 (v : Nat))) (first | exact s1 | exact s0)
    (first | (go_at_call 10; (first | refine (KN.out _ (fatB FF.out (And.left s1))).mono ?_ | refine (KN.out _ (fatB FF.out (And.left s0))).mono ?_); rintro r wq ⟨rfl, bq⟩; (first | have s1 := sS.out _ _ s1 bq | have s1 := sS.out _ _ s0 bq); clear bq) | fail)
  have B3 := (And.left s1)
  have Ra_3 := s1.2.1
  have Rs_3 := s1.2.2.1
  clear s0 s1 sS B2 Ra_2 ca_2_0 ca_2_1 Rs_2 cs_2_0 cs_2_1
  obtain ⟨ca_3_0, ca_3_1⟩ := cells2s Ra_3
  obtain ⟨cs_3_0, cs_3_1⟩ := cells2s Rs_3
  go_wp2_with fail
  refine (KQ.out _ (fatB FF.out B3)).mono ?_
  rintro r w4 ⟨rfl, b4⟩
  have B4 : Below w.heap.size w w4 := btr B3 b4
  have Ra_4 := heap_of b4 _ _ _ Ra_3
  have Rs_4 := heap_of b4 _ _ _ Rs_3
  clear b4 B3 Ra_3 ca_3_0 ca_3_1 Rs_3 cs_3_0 cs_3_1
  obtain ⟨ca_4_0, ca_4_1⟩ := cells2s Ra_4
  obtain ⟨cs_4_0, cs_4_1⟩ := cells2s Rs_4
  have S5 := box B4.size
  have La_5 : Box (w.heap.size < w4.heap.size) := box (Array.getElem?_eq_some_iff.1 Ra_4).1
  have Ls_5 : Box (w1.heap.size < w4.heap.size) := box (Array.getElem?_eq_some_iff.1 Rs_4).1
  have Rx_5 := heap_alloc_last w4 (Obj.cells #[.int .u64 (x1 : Nat), .int .u64 (y1 : Nat)] 26)
  have B5 := btr B4 (bal w4 (Obj.cells #[.int .u64 (x1 : Nat), .int .u64 (y1 : Nat)] 26))
  have Ra_5 := heap_of (bal w4 (Obj.cells #[.int .u64 (x1 : Nat), .int .u64 (y1 : Nat)] 26)) _ _ _ Ra_4
  have Rs_5 := heap_of (bal w4 (Obj.cells #[.int .u64 (x1 : Nat), .int .u64 (y1 : Nat)] 26)) _ _ _ Rs_4
  clear B4 Ra_4 ca_4_0 ca_4_1 Rs_4 cs_4_0 cs_4_1
  obtain ⟨ca_5_0, ca_5_1⟩ := cells2s Ra_5
  obtain ⟨cs_5_0, cs_5_1⟩ := cells2s Rs_5
  obtain ⟨cx_5_0, cx_5_1⟩ := cells2s Rx_5
  have ka0 := ca_5_0
  have ka1 := ca_5_1
  have S6 := box B5.size
  have La_6 : Box (w.heap.size < (w4.alloc (Obj.cells #[.int .u64 (x1 : Nat), .int .u64 (y1 : Nat)] 26)).heap.size) := box (Array.getElem?_eq_some_iff.1 Ra_5).1
  have Ls_6 : Box (w1.heap.size < (w4.alloc (Obj.cells #[.int .u64 (x1 : Nat), .int .u64 (y1 : Nat)] 26)).heap.size) := box (Array.getElem?_eq_some_iff.1 Rs_5).1
  have Lx_6 : Box (w4.heap.size < (w4.alloc (Obj.cells #[.int .u64 (x1 : Nat), .int .u64 (y1 : Nat)] 26)).heap.size) := box (Array.getElem?_eq_some_iff.1 Rx_5).1
  have Z6 := box (size_al w4 (Obj.cells #[.int .u64 (x1 : Nat), .int .u64 (y1 : Nat)] 26))
  have Rb_6 : ((w4.alloc (Obj.cells #[.int .u64 (x1 : Nat), .int .u64 (y1 : Nat)] 26)).alloc (Obj.cells #[.int .u64 (x1 : Nat), .int .u64 (y1 : Nat)] 26)).heap[w4.heap.size + 1]? = some (Obj.cells #[.int .u64 (x1 : Nat), .int .u64 (y1 : Nat)] 26) := by have := heap_alloc_last (w4.alloc (Obj.cells #[.int .u64 (x1 : Nat), .int .u64 (y1 : Nat)] 26)) (Obj.cells #[.int .u64 (x1 : Nat), .int .u64 (y1 : Nat)] 26); simpa only [size_al] using this
  have B6 := btr B5 (bal (w4.alloc (Obj.cells #[.int .u64 (x1 : Nat), .int .u64 (y1 : Nat)] 26)) (Obj.cells #[.int .u64 (x1 : Nat), .int .u64 (y1 : Nat)] 26))
  have Ra_6 := heap_of (bal (w4.alloc (Obj.cells #[.int .u64 (x1 : Nat), .int .u64 (y1 : Nat)] 26)) (Obj.cells #[.int .u64 (x1 : Nat), .int .u64 (y1 : Nat)] 26)) _ _ _ Ra_5
  have Rs_6 := heap_of (bal (w4.alloc (Obj.cells #[.int .u64 (x1 : Nat), .int .u64 (y1 : Nat)] 26)) (Obj.cells #[.int .u64 (x1 : Nat), .int .u64 (y1 : Nat)] 26)) _ _ _ Rs_5
  have Rx_6 := heap_of (bal (w4.alloc (Obj.cells #[.int .u64 (x1 : Nat), .int .u64 (y1 : Nat)] 26)) (Obj.cells #[.int .u64 (x1 : Nat), .int .u64 (y1 : Nat)] 26)) _ _ _ Rx_5
  clear B5 Ra_5 ca_5_0 ca_5_1 Rs_5 cs_5_0 cs_5_1 Rx_5 cx_5_0 cx_5_1
  obtain ⟨ca_6_0, ca_6_1⟩ := cells2s Ra_6
  obtain ⟨cs_6_0, cs_6_1⟩ := cells2s Rs_6
  obtain ⟨cx_6_0, cx_6_1⟩ := cells2s Rx_6
  obtain ⟨cb_6_0, cb_6_1⟩ := cells2s Rb_6
  go_wp2_with fail
  refine (KS.out _ (fatB FF.out B6)).mono ?_
  rintro r w7 ⟨rfl, b7⟩
  have B7 : Below w.heap.size w w7 := btr B6 b7
  have Ra_7 := heap_of b7 _ _ _ Ra_6
  have Rs_7 := heap_of b7 _ _ _ Rs_6
  have Rx_7 := heap_of b7 _ _ _ Rx_6
  have Rb_7 := heap_of b7 _ _ _ Rb_6
  clear b7 B6 Ra_6 ca_6_0 ca_6_1 Rs_6 cs_6_0 cs_6_1 Rx_6 cx_6_0 cx_6_1 Rb_6 cb_6_0 cb_6_1
  obtain ⟨ca_7_0, ca_7_1⟩ := cells2s Ra_7
  obtain ⟨cs_7_0, cs_7_1⟩ := cells2s Rs_7
  obtain ⟨cx_7_0, cx_7_1⟩ := cells2s Rx_7
  obtain ⟨cb_7_0, cb_7_1⟩ := cells2s Rb_7
  go_wp2_with fail
  refine (KA.out _ (fatB FF.out B7)).mono ?_
  rintro r w8 ⟨rfl, b8⟩
  have B8 : Below w.heap.size w w8 := btr B7 b8
  have Ra_8 := heap_of b8 _ _ _ Ra_7
  have Rs_8 := heap_of b8 _ _ _ Rs_7
  have Rx_8 := heap_of b8 _ _ _ Rx_7
  have Rb_8 := heap_of b8 _ _ _ Rb_7
  clear b8 B7 Ra_7 ca_7_0 ca_7_1 Rs_7 cs_7_0 cs_7_1 Rx_7 cx_7_0 cx_7_1 Rb_7 cb_7_0 cb_7_1
  obtain ⟨ca_8_0, ca_8_1⟩ := cells2s Ra_8
  obtain ⟨cs_8_0, cs_8_1⟩ := cells2s Rs_8
  obtain ⟨cx_8_0, cx_8_1⟩ := cells2s Rx_8
  obtain ⟨cb_8_0, cb_8_1⟩ := cells2s Rb_8
  go_wp2
  go_ret
  exact ⟨rfl, B8⟩
set_option maxRecDepth 100000 in
set_option maxHeartbeats 8000000 in
theorem ss_neg (f m : Int) (x1 y1 u v : Nat) (i j : Nat) (he : ebb (u : Nat) (v : Nat) (i : Nat) (j : Nat) = false) (p q : Nat) (w : World)
    (KR : Box (∀ w, FAt w → Calls Tryd.prog 11 #[.int .u8 f, .int .u8 m, .agg #[.int .u64 (x1 : Nat), .int .u64 (y1 : Nat)], .agg #[.int .u64 (x1 : Nat), .int .u64 (y1 : Nat)]] w fun r w' => r = .returned (.tuple #[.agg #[.int .u64 (u : Nat), .int .u64 (v : Nat)], .int .u8 0, .int .i64 0]) ∧ Below w.heap.size w w'))
    (KN : Box (∀ w, FAt w → Calls Tryd.prog 10 #[.int .u8 f] w fun r w' => r = .returned (.agg #[.int .u64 (i : Nat), .int .u64 (j : Nat)]) ∧ Below w.heap.size w w'))
    (KQ : Box (∀ w, FAt w → Calls Tryd.prog 13 #[.int .u8 f, .int .u8 m, .agg #[.int .u64 (u : Nat), .int .u64 (v : Nat)]] w fun r w' => r = .returned (.tuple #[.agg #[.int .u64 (p : Nat), .int .u64 (q : Nat)], .int .u8 0, .int .i64 0]) ∧ Below w.heap.size w w'))
    (KS : Box (∀ w, FAt w → Calls Tryd.prog 14 #[.int .u8 f, .agg #[.int .u64 (x1 : Nat), .int .u64 (y1 : Nat)]] w fun r w' => r = .returned (.bool true) ∧ Below w.heap.size w w'))
    (KF : Box (∀ w, FAt w → Calls Tryd.prog 15 #[.int .u8 f, .agg #[.int .u64 (x1 : Nat), .int .u64 (y1 : Nat)]] w fun r w' => r = .returned (.agg #[.int .u64 (p : Nat), .int .u64 (q : Nat)]) ∧ Below w.heap.size w w'))
    (KA : Box (∀ w, FAt w → Calls Tryd.prog 12 #[] w fun r w' => r = .returned (.bool true) ∧ Below w.heap.size w w'))
    (hT : FAt w) : Calls Tryd.prog 4 #[.int .u8 f, .int .u8 m, .agg #[.int .u64 (x1 : Nat), .int .u64 (y1 : Nat)]] w fun r w' => r = .returned (.bool true) ∧ Below w.heap.size w w' := by
  have FF := box hT
  clear hT
  obtain ⟨Ra_0, B0⟩ := opn1 w (Obj.cells #[.int .u64 (x1 : Nat), .int .u64 (y1 : Nat)] 26)
  go_enter Tryd.func4, Tryd.ntmps4
  obtain ⟨ca_0_0, ca_0_1⟩ := cells2s Ra_0
  go_wp2_with fail
  refine (KR.out _ (fatB FF.out B0)).mono ?_
  rintro r w1 ⟨rfl, b1⟩
  have B1 : Below w.heap.size w w1 := btr B0 b1
  have Ra_1 := heap_of b1 _ _ _ Ra_0
  clear b1 B0 Ra_0 ca_0_0 ca_0_1
  obtain ⟨ca_1_0, ca_1_1⟩ := cells2s Ra_1
  have S2 := box B1.size
  have La_2 : Box (w.heap.size < w1.heap.size) := box (Array.getElem?_eq_some_iff.1 Ra_1).1
  have Rs_2 := heap_alloc_last w1 (Obj.cells #[.int .u64 (u : Nat), .int .u64 (v : Nat)] 26)
  have B2 := btr B1 (bal w1 (Obj.cells #[.int .u64 (u : Nat), .int .u64 (v : Nat)] 26))
  have Ra_2 := heap_of (bal w1 (Obj.cells #[.int .u64 (u : Nat), .int .u64 (v : Nat)] 26)) _ _ _ Ra_1
  clear B1 Ra_1 ca_1_0 ca_1_1
  obtain ⟨ca_2_0, ca_2_1⟩ := cells2s Ra_2
  obtain ⟨cs_2_0, cs_2_1⟩ := cells2s Rs_2
  have hE := eqb
  have hes : ∀ a b : Int, ebb a b a b = true := fun a b => by unfold ebb; rw [beq_self_eq_true, beq_self_eq_true]; rfl
  have sS : Box (∀ W W1 : World, (Below w.heap.size w W ∧ W.heap[w.heap.size]? = some (Obj.cells #[.int .u64 (x1 : Nat), .int .u64 (y1 : Nat)] 26) ∧ W.heap[w1.heap.size]? = some (Obj.cells #[.int .u64 (u : Nat), .int .u64 (v : Nat)] 26) ∧ W.cell? ⟨w1.heap.size, 0, none⟩ = some (.int .u64 (u : Nat)) ∧ W.cell? ⟨w1.heap.size, 1, none⟩ = some (.int .u64 (v : Nat))) → Below W.heap.size W W1 → (Below w.heap.size w W1 ∧ W1.heap[w.heap.size]? = some (Obj.cells #[.int .u64 (x1 : Nat), .int .u64 (y1 : Nat)] 26) ∧ W1.heap[w1.heap.size]? = some (Obj.cells #[.int .u64 (u : Nat), .int .u64 (v : Nat)] 26) ∧ W1.cell? ⟨w1.heap.size, 0, none⟩ = some (.int .u64 (u : Nat)) ∧ W1.cell? ⟨w1.heap.size, 1, none⟩ = some (.int .u64 (v : Nat)))) := box (fun W W1 h b => ⟨btr h.1 b, heap_of b _ _ _ h.2.1, heap_of b _ _ _ h.2.2.1, cell7 (heap_of b _ _ _ h.2.2.1) 0 _ rfl, cell7 (heap_of b _ _ _ h.2.2.1) 1 _ rfl⟩)
  have s0 : Below w.heap.size w ((w1.alloc (Obj.cells #[.int .u64 (u : Nat), .int .u64 (v : Nat)] 26))).drew ∧ ((w1.alloc (Obj.cells #[.int .u64 (u : Nat), .int .u64 (v : Nat)] 26))).drew.heap[w.heap.size]? = some (Obj.cells #[.int .u64 (x1 : Nat), .int .u64 (y1 : Nat)] 26) ∧ ((w1.alloc (Obj.cells #[.int .u64 (u : Nat), .int .u64 (v : Nat)] 26))).drew.heap[w1.heap.size]? = some (Obj.cells #[.int .u64 (u : Nat), .int .u64 (v : Nat)] 26) ∧ ((w1.alloc (Obj.cells #[.int .u64 (u : Nat), .int .u64 (v : Nat)] 26))).drew.cell? ⟨w1.heap.size, 0, none⟩ = some (.int .u64 (u : Nat)) ∧ ((w1.alloc (Obj.cells #[.int .u64 (u : Nat), .int .u64 (v : Nat)] 26))).drew.cell? ⟨w1.heap.size, 1, none⟩ = some (.int .u64 (v : Nat)) := ⟨B2.drew, Ra_2, Rs_2, cell7 (Rs_2) 0 _ rfl, cell7 (Rs_2) 1 _ rfl⟩
  go_wp2_with fail
  go_region_held3 (fun W => Below w.heap.size w W ∧ W.heap[w.heap.size]? = some (Obj.cells #[.int .u64 (x1 : Nat), .int .u64 (y1 : Nat)] 26) ∧ W.heap[w1.heap.size]? = some (Obj.cells #[.int .u64 (u : Nat), .int .u64 (v : Nat)] 26) ∧ W.cell? ⟨w1.heap.size, 0, none⟩ = some (.int .u64 (u : Nat)) ∧ W.cell? ⟨w1.heap.size, 1, none⟩ = some (.int .u64 (v : Nat))) (first | exact s1 | exact s0)
    (first | (go_at_call 10; (first | refine (KN.out _ (fatB FF.out (And.left s1))).mono ?_ | refine (KN.out _ (fatB FF.out (And.left s0))).mono ?_); rintro r wq ⟨rfl, bq⟩; (first | have s1 := sS.out _ _ s1 bq | have s1 := sS.out _ _ s0 bq); clear bq) | fail)
  have B3 := (And.left s1)
  have Ra_3 := s1.2.1
  have Rs_3 := s1.2.2.1
  clear s0 s1 sS B2 Ra_2 ca_2_0 ca_2_1 Rs_2 cs_2_0 cs_2_1
  obtain ⟨ca_3_0, ca_3_1⟩ := cells2s Ra_3
  obtain ⟨cs_3_0, cs_3_1⟩ := cells2s Rs_3
  go_wp2_with fail
  refine (KQ.out _ (fatB FF.out B3)).mono ?_
  rintro r w4 ⟨rfl, b4⟩
  have B4 : Below w.heap.size w w4 := btr B3 b4
  have Ra_4 := heap_of b4 _ _ _ Ra_3
  have Rs_4 := heap_of b4 _ _ _ Rs_3
  clear b4 B3 Ra_3 ca_3_0 ca_3_1 Rs_3 cs_3_0 cs_3_1
  obtain ⟨ca_4_0, ca_4_1⟩ := cells2s Ra_4
  obtain ⟨cs_4_0, cs_4_1⟩ := cells2s Rs_4
  have S5 := box B4.size
  have La_5 : Box (w.heap.size < w4.heap.size) := box (Array.getElem?_eq_some_iff.1 Ra_4).1
  have Ls_5 : Box (w1.heap.size < w4.heap.size) := box (Array.getElem?_eq_some_iff.1 Rs_4).1
  have Rx_5 := heap_alloc_last w4 (Obj.cells #[.int .u64 (p : Nat), .int .u64 (q : Nat)] 26)
  have B5 := btr B4 (bal w4 (Obj.cells #[.int .u64 (p : Nat), .int .u64 (q : Nat)] 26))
  have Ra_5 := heap_of (bal w4 (Obj.cells #[.int .u64 (p : Nat), .int .u64 (q : Nat)] 26)) _ _ _ Ra_4
  have Rs_5 := heap_of (bal w4 (Obj.cells #[.int .u64 (p : Nat), .int .u64 (q : Nat)] 26)) _ _ _ Rs_4
  clear B4 Ra_4 ca_4_0 ca_4_1 Rs_4 cs_4_0 cs_4_1
  obtain ⟨ca_5_0, ca_5_1⟩ := cells2s Ra_5
  obtain ⟨cs_5_0, cs_5_1⟩ := cells2s Rs_5
  obtain ⟨cx_5_0, cx_5_1⟩ := cells2s Rx_5
  have ka0 := ca_5_0
  have ka1 := ca_5_1
  have S6 := box B5.size
  have La_6 : Box (w.heap.size < (w4.alloc (Obj.cells #[.int .u64 (p : Nat), .int .u64 (q : Nat)] 26)).heap.size) := box (Array.getElem?_eq_some_iff.1 Ra_5).1
  have Ls_6 : Box (w1.heap.size < (w4.alloc (Obj.cells #[.int .u64 (p : Nat), .int .u64 (q : Nat)] 26)).heap.size) := box (Array.getElem?_eq_some_iff.1 Rs_5).1
  have Lx_6 : Box (w4.heap.size < (w4.alloc (Obj.cells #[.int .u64 (p : Nat), .int .u64 (q : Nat)] 26)).heap.size) := box (Array.getElem?_eq_some_iff.1 Rx_5).1
  have Z6 := box (size_al w4 (Obj.cells #[.int .u64 (p : Nat), .int .u64 (q : Nat)] 26))
  have Rb_6 : ((w4.alloc (Obj.cells #[.int .u64 (p : Nat), .int .u64 (q : Nat)] 26)).alloc (Obj.cells #[.int .u64 (x1 : Nat), .int .u64 (y1 : Nat)] 26)).heap[w4.heap.size + 1]? = some (Obj.cells #[.int .u64 (x1 : Nat), .int .u64 (y1 : Nat)] 26) := by have := heap_alloc_last (w4.alloc (Obj.cells #[.int .u64 (p : Nat), .int .u64 (q : Nat)] 26)) (Obj.cells #[.int .u64 (x1 : Nat), .int .u64 (y1 : Nat)] 26); simpa only [size_al] using this
  have B6 := btr B5 (bal (w4.alloc (Obj.cells #[.int .u64 (p : Nat), .int .u64 (q : Nat)] 26)) (Obj.cells #[.int .u64 (x1 : Nat), .int .u64 (y1 : Nat)] 26))
  have Ra_6 := heap_of (bal (w4.alloc (Obj.cells #[.int .u64 (p : Nat), .int .u64 (q : Nat)] 26)) (Obj.cells #[.int .u64 (x1 : Nat), .int .u64 (y1 : Nat)] 26)) _ _ _ Ra_5
  have Rs_6 := heap_of (bal (w4.alloc (Obj.cells #[.int .u64 (p : Nat), .int .u64 (q : Nat)] 26)) (Obj.cells #[.int .u64 (x1 : Nat), .int .u64 (y1 : Nat)] 26)) _ _ _ Rs_5
  have Rx_6 := heap_of (bal (w4.alloc (Obj.cells #[.int .u64 (p : Nat), .int .u64 (q : Nat)] 26)) (Obj.cells #[.int .u64 (x1 : Nat), .int .u64 (y1 : Nat)] 26)) _ _ _ Rx_5
  clear B5 Ra_5 ca_5_0 ca_5_1 Rs_5 cs_5_0 cs_5_1 Rx_5 cx_5_0 cx_5_1
  obtain ⟨ca_6_0, ca_6_1⟩ := cells2s Ra_6
  obtain ⟨cs_6_0, cs_6_1⟩ := cells2s Rs_6
  obtain ⟨cx_6_0, cx_6_1⟩ := cells2s Rx_6
  obtain ⟨cb_6_0, cb_6_1⟩ := cells2s Rb_6
  go_wp2_with fail
  refine (KS.out _ (fatB FF.out B6)).mono ?_
  rintro r w7 ⟨rfl, b7⟩
  have B7 : Below w.heap.size w w7 := btr B6 b7
  have Ra_7 := heap_of b7 _ _ _ Ra_6
  have Rs_7 := heap_of b7 _ _ _ Rs_6
  have Rx_7 := heap_of b7 _ _ _ Rx_6
  have Rb_7 := heap_of b7 _ _ _ Rb_6
  clear b7 B6 Ra_6 ca_6_0 ca_6_1 Rs_6 cs_6_0 cs_6_1 Rx_6 cx_6_0 cx_6_1 Rb_6 cb_6_0 cb_6_1
  obtain ⟨ca_7_0, ca_7_1⟩ := cells2s Ra_7
  obtain ⟨cs_7_0, cs_7_1⟩ := cells2s Rs_7
  obtain ⟨cx_7_0, cx_7_1⟩ := cells2s Rx_7
  obtain ⟨cb_7_0, cb_7_1⟩ := cells2s Rb_7
  go_wp2_with fail
  refine (KF.out _ (fatB FF.out B7)).mono ?_
  rintro r w8 ⟨rfl, b8⟩
  have B8 : Below w.heap.size w w8 := btr B7 b8
  have Ra_8 := heap_of b8 _ _ _ Ra_7
  have Rs_8 := heap_of b8 _ _ _ Rs_7
  have Rx_8 := heap_of b8 _ _ _ Rx_7
  have Rb_8 := heap_of b8 _ _ _ Rb_7
  clear b8 B7 Ra_7 ca_7_0 ca_7_1 Rs_7 cs_7_0 cs_7_1 Rx_7 cx_7_0 cx_7_1 Rb_7 cb_7_0 cb_7_1
  obtain ⟨ca_8_0, ca_8_1⟩ := cells2s Ra_8
  obtain ⟨cs_8_0, cs_8_1⟩ := cells2s Rs_8
  obtain ⟨cx_8_0, cx_8_1⟩ := cells2s Rx_8
  obtain ⟨cb_8_0, cb_8_1⟩ := cells2s Rb_8
  have q0_9 := fz (k := 0) Rb_8
  have q1_9 := fz (k := 1) Rb_8
  have B9 := set2_below B8 (show w.heap.size ≤ w4.heap.size + 1 by first | exact Nat.le_refl _ | omega | (have := S2.out; have := La_2.out; have := S5.out; have := La_5.out; have := Ls_5.out; have := Z6.out; have := S6.out; have := La_6.out; have := Ls_6.out; have := Lx_6.out; omega)) (.int .u64 (p : Nat)) (.int .u64 (q : Nat))
  have Rb_9 : ((w8.setCell ⟨w4.heap.size + 1, 0, none⟩ (.int .u64 (p : Nat))).setCell ⟨w4.heap.size + 1, 1, none⟩ (.int .u64 (q : Nat))).heap[w4.heap.size + 1]? = some (Obj.cells #[.int .u64 (p : Nat), .int .u64 (q : Nat)] 26) := set2_row Rb_8 _ _
  have Ra_9 : ((w8.setCell ⟨w4.heap.size + 1, 0, none⟩ (.int .u64 (p : Nat))).setCell ⟨w4.heap.size + 1, 1, none⟩ (.int .u64 (q : Nat))).heap[w.heap.size]? = some (Obj.cells #[.int .u64 (x1 : Nat), .int .u64 (y1 : Nat)] 26) := (setCell_other (by first | omega | (have := S2.out; have := La_2.out; have := S5.out; have := La_5.out; have := Ls_5.out; have := Z6.out; have := S6.out; have := La_6.out; have := Ls_6.out; have := Lx_6.out; omega))).trans ((setCell_other (by first | omega | (have := S2.out; have := La_2.out; have := S5.out; have := La_5.out; have := Ls_5.out; have := Z6.out; have := S6.out; have := La_6.out; have := Ls_6.out; have := Lx_6.out; omega))).trans Ra_8)
  have Rs_9 : ((w8.setCell ⟨w4.heap.size + 1, 0, none⟩ (.int .u64 (p : Nat))).setCell ⟨w4.heap.size + 1, 1, none⟩ (.int .u64 (q : Nat))).heap[w1.heap.size]? = some (Obj.cells #[.int .u64 (u : Nat), .int .u64 (v : Nat)] 26) := (setCell_other (by first | omega | (have := S2.out; have := La_2.out; have := S5.out; have := La_5.out; have := Ls_5.out; have := Z6.out; have := S6.out; have := La_6.out; have := Ls_6.out; have := Lx_6.out; omega))).trans ((setCell_other (by first | omega | (have := S2.out; have := La_2.out; have := S5.out; have := La_5.out; have := Ls_5.out; have := Z6.out; have := S6.out; have := La_6.out; have := Ls_6.out; have := Lx_6.out; omega))).trans Rs_8)
  have Rx_9 : ((w8.setCell ⟨w4.heap.size + 1, 0, none⟩ (.int .u64 (p : Nat))).setCell ⟨w4.heap.size + 1, 1, none⟩ (.int .u64 (q : Nat))).heap[w4.heap.size]? = some (Obj.cells #[.int .u64 (p : Nat), .int .u64 (q : Nat)] 26) := (setCell_other (by first | omega | (have := S2.out; have := La_2.out; have := S5.out; have := La_5.out; have := Ls_5.out; have := Z6.out; have := S6.out; have := La_6.out; have := Ls_6.out; have := Lx_6.out; omega))).trans ((setCell_other (by first | omega | (have := S2.out; have := La_2.out; have := S5.out; have := La_5.out; have := Ls_5.out; have := Z6.out; have := S6.out; have := La_6.out; have := Ls_6.out; have := Lx_6.out; omega))).trans Rx_8)
  obtain ⟨ca_9_0, ca_9_1⟩ := cells2s Ra_9
  obtain ⟨cs_9_0, cs_9_1⟩ := cells2s Rs_9
  obtain ⟨cx_9_0, cx_9_1⟩ := cells2s Rx_9
  obtain ⟨cb_9_0, cb_9_1⟩ := cells2s Rb_9
  go_wp2_with fail
  refine (KA.out _ (fatB FF.out B9)).mono ?_
  rintro r w10 ⟨rfl, b10⟩
  have B10 : Below w.heap.size w w10 := btr B9 b10
  have Ra_10 := heap_of b10 _ _ _ Ra_9
  have Rs_10 := heap_of b10 _ _ _ Rs_9
  have Rx_10 := heap_of b10 _ _ _ Rx_9
  have Rb_10 := heap_of b10 _ _ _ Rb_9
  clear b10 B9 Ra_9 ca_9_0 ca_9_1 Rs_9 cs_9_0 cs_9_1 Rx_9 cx_9_0 cx_9_1 Rb_9 cb_9_0 cb_9_1
  obtain ⟨ca_10_0, ca_10_1⟩ := cells2s Ra_10
  obtain ⟨cs_10_0, cs_10_1⟩ := cells2s Rs_10
  obtain ⟨cx_10_0, cx_10_1⟩ := cells2s Rx_10
  obtain ⟨cb_10_0, cb_10_1⟩ := cells2s Rb_10
  go_wp2
  go_ret
  exact ⟨rfl, B10⟩
end Go.Proofs.YtpgiabmmmpdobaaDoor
