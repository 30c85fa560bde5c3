/-
  What the functions that the statement reaches return: part 14 (KH, KU).
-/
import Derived.Test.YtkmlbjlaahcahaaGreatDoorBa13
namespace Go.Proofs.YtkmlbjlaahcahaaGreatDoor
set_option maxRecDepth 100000
open Go.RowKit WMath
set_option linter.unusedSimpArgs false
set_option linter.unusedVariables false
theorem gen_kind_Pack_7 {X : Act → World → Prop} {R : World → Nat → Prop} {t0 t1 t2 t3 t4 t5 t6 t8 t9 t10 t11 t12 t13 t14 t15 t16 t17 t18 t19 t20 t21 t22 t23 t24 t25 t26 t27 t28 : Value} {d : List Deferred} {W : World} {G : Nat}
    (key : ∀ w5 g, R w5 g → X ⟨#[t0, t1, t2, t3, t4, t5, t6, .pointer (some ⟨g, 0, none⟩), t8, t9, t10, t11, t12, t13, t14, t15, t16, t17, t18, t19, t20, t21, t22, t23, t24, t25, t26, t27, t28], d⟩ w5) (r : R W G) : X ⟨#[t0, t1, t2, t3, t4, t5, t6, .pointer (some ⟨G, 0, none⟩), t8, t9, t10, t11, t12, t13, t14, t15, t16, t17, t18, t19, t20, t21, t22, t23, t24, t25, t26, t27, t28], d⟩ W := key W G r

theorem pt_q0 (c s : Nat) (x : Int) (r : Nat) : (pt c s x r)[0]? = some (.int .u8 (c : Nat)) := rfl
theorem pt_q1 (c s : Nat) (x : Int) (r : Nat) : (pt c s x r)[1]? = some (.int .u64 (wd s 0 : Nat)) := rfl
theorem pt_q2 (c s : Nat) (x : Int) (r : Nat) : (pt c s x r)[2]? = some (.int .u64 (wd s 1 : Nat)) := rfl
theorem pt_q3 (c s : Nat) (x : Int) (r : Nat) : (pt c s x r)[3]? = some (.int .u64 (wd s 2 : Nat)) := rfl
theorem pt_q4 (c s : Nat) (x : Int) (r : Nat) : (pt c s x r)[4]? = some (.int .u64 (wd s 3 : Nat)) := rfl
theorem pt_q5 (c s : Nat) (x : Int) (r : Nat) : (pt c s x r)[5]? = some (.int .u64 (wd s 4 : Nat)) := rfl
theorem pt_q6 (c s : Nat) (x : Int) (r : Nat) : (pt c s x r)[6]? = some (.int .u64 (wd s 5 : Nat)) := rfl
theorem pt_q7 (c s : Nat) (x : Int) (r : Nat) : (pt c s x r)[7]? = some (.int .i64 x) := rfl
theorem pt_q8 (c s : Nat) (x : Int) (r : Nat) : (pt c s x r)[8]? = some (.int .u64 (wd r 0 : Nat)) := rfl
theorem pt_q9 (c s : Nat) (x : Int) (r : Nat) : (pt c s x r)[9]? = some (.int .u64 (wd r 1 : Nat)) := rfl
theorem pt_q10 (c s : Nat) (x : Int) (r : Nat) : (pt c s x r)[10]? = some (.int .u64 (wd r 2 : Nat)) := rfl
theorem pt_q11 (c s : Nat) (x : Int) (r : Nat) : (pt c s x r)[11]? = some (.int .u64 (wd r 3 : Nat)) := rfl
theorem pt_q12 (c s : Nat) (x : Int) (r : Nat) : (pt c s x r)[12]? = some (.int .u64 (wd r 4 : Nat)) := rfl
theorem pt_q13 (c s : Nat) (x : Int) (r : Nat) : (pt c s x r)[13]? = some (.int .u64 (wd r 5 : Nat)) := rfl
set_option maxHeartbeats 2000000 in
set_option maxRecDepth 100000 in
theorem kmag_is (f : Int) (hf : Is4 f) (c s rr a b : Nat) (X : Int) (hs : s < Q) (hr : rr < Q) (x1 : -9223372036854775808 ≤ X) (x2 : X ≤ 9223372036854775807) (hv : bv7 (mg f c s X rr) = (a, b)) (w : World) (hT : FAt w) :
    Calls Tryz.prog 78 #[.int .u8 f, .agg (pt c s X rr)] w fun r w' => r = .returned (.agg #[.int .u64 (a : Nat), .int .u64 (b : Nat)]) ∧ Below w.heap.size w w' := by
  have hat := cw_at 6
  have hz := cw6z
  have hff := cw6f
  have hs0 := st0
  have hcs : ∀ x, ((cw 6 x).size = 6) = True := fun x => eq_true (cw_size 6 x)
  have hp1 := ptf
  have hp3 := ptz
  have hp4 := st_p0
  have hp5 : ∀ (c s : Nat) (x : Int) (r : Nat), ((pt c s x r).size = 14) = True := fun _ _ _ _ => eq_true rfl
  have ha0 := pt_at0
  have ha1 := pt_at1
  have ha2 := pt_at2
  have ha3 := pt_at3
  have ha4 := pt_at4
  have ha5 := pt_at5
  have ha6 := pt_at6
  have ha7 := pt_at7
  have ha8 := pt_at8
  have ha9 := pt_at9
  have ha10 := pt_at10
  have ha11 := pt_at11
  have ha12 := pt_at12
  have ha13 := pt_at13
  have hb0 := pt_q0
  have hb1 := pt_q1
  have hb2 := pt_q2
  have hb3 := pt_q3
  have hb4 := pt_q4
  have hb5 := pt_q5
  have hb6 := pt_q6
  have hb7 := pt_q7
  have hb8 := pt_q8
  have hb9 := pt_q9
  have hb10 := pt_q10
  have hb11 := pt_q11
  have hb12 := pt_q12
  have hb13 := pt_q13
  have TT := box hT
  unfold mg at hv
  by_cases c1 : c = 3 ∨ c = 4
  · rw [if_pos c1] at hv
    injection hv with h1 h2
    subst h1 h2
    clear hT hf hs hr x1 x2
    rcases c1 with hc | hc
    · have f3 : ((c : Int) == 3) = true := by rw [hc]; rfl
      clear hc
      obtain ⟨Rp_0, Rz_0, B0⟩ := kopn2 w (Obj.cells (pt c s X rr) 55) (Obj.cells #[.int .u64 0, .int .u64 0] 25)
      go_enter Tryz.func78, Tryz.ntmps78
      clear B0 Rp_0 Rz_0
      go_wp2
      exact bodyPost_ret (v := .agg #[.int .u64 0, .int .u64 0]) (by simp [results, Tryz.results78, go_sem]) rfl ⟨rfl, (((Below.refl _ _).alloc (by first | omega | (simp only [size_al]; omega)) _).alloc (by first | omega | (simp only [size_al]; omega)) _)⟩
    · have f3 : ((c : Int) == 3) = false := by rw [hc]; rfl
      have f4 : ((c : Int) == 4) = true := by rw [hc]; rfl
      clear hc
      obtain ⟨Rp_0, Rz_0, B0⟩ := kopn2 w (Obj.cells (pt c s X rr) 55) (Obj.cells #[.int .u64 0, .int .u64 0] 25)
      go_enter Tryz.func78, Tryz.ntmps78
      clear B0 Rp_0 Rz_0
      go_wp2
      exact bodyPost_ret (v := .agg #[.int .u64 0, .int .u64 0]) (by simp [results, Tryz.results78, go_sem]) rfl ⟨rfl, (((Below.refl _ _).alloc (by first | omega | (simp only [size_al]; omega)) _).alloc (by first | omega | (simp only [size_al]; omega)) _)⟩
  rw [if_neg c1] at hv
  by_cases c2 : c = 1 ∨ c = 2 ∨ c = 5 ∨ c = 6
  · rw [if_pos c2] at hv
    have K1 := box (fun w hT => kfinite_is f hf s a b X hs x1 x2 hv w hT)
    clear hT hf hs hr x1 x2 hv c1
    rcases c2 with hc | hc | hc | hc
    · have f3 : ((c : Int) == 3) = false := by rw [hc]; rfl
      have f4 : ((c : Int) == 4) = false := by rw [hc]; rfl
      have f2 : ((c : Int) == 2) = false := by rw [hc]; rfl
      have f1 : ((c : Int) == 1) = true := by rw [hc]; rfl
      clear hc
      obtain ⟨Rp_0, Rz_0, B0⟩ := kopn2 w (Obj.cells (pt c s X rr) 55) (Obj.cells #[.int .u64 0, .int .u64 0] 25)
      go_enter Tryz.func78, Tryz.ntmps78
      go_wp2_with fail
      refine (K1.out _ (fatB TT.out B0)).mono ?_
      rintro r w1 ⟨rfl, b1⟩
      have B1 : Below w.heap.size w w1 := btr7 B0 b1
      have Rp_1 := heap_of b1 _ _ _ Rp_0
      have Rz_1 := heap_of b1 _ _ _ Rz_0
      clear b1 B0 Rp_0 Rz_0
      obtain ⟨cp_1_0, cp_1_1, cp_1_2, cp_1_3, cp_1_4, cp_1_5, cp_1_6, cp_1_7, cp_1_8, cp_1_9, cp_1_10, cp_1_11, cp_1_12, cp_1_13⟩ := pt_cells Rp_1
      obtain ⟨cz_1_0, cz_1_1⟩ := cell7t Rz_1
      have q0 := fz (k := 0) Rz_1
      have q1 := fz (k := 1) Rz_1
      obtain ⟨E0, E1⟩ := set2_cells Rz_1 (.int .u64 (a : Nat)) (.int .u64 (b : Nat))
      go_wp2
      exact bodyPost_ret (v := .agg #[.int .u64 (a : Nat), .int .u64 (b : Nat)]) (by simp [results, Tryz.results78, go_sem, E0, E1]) rfl ⟨rfl, set2_below B1 (by first | exact Nat.le_refl _ | omega | (skip; omega)) _ _⟩
    · have f3 : ((c : Int) == 3) = false := by rw [hc]; rfl
      have f4 : ((c : Int) == 4) = false := by rw [hc]; rfl
      have f2 : ((c : Int) == 2) = true := by rw [hc]; rfl
      clear hc
      obtain ⟨Rp_0, Rz_0, B0⟩ := kopn2 w (Obj.cells (pt c s X rr) 55) (Obj.cells #[.int .u64 0, .int .u64 0] 25)
      go_enter Tryz.func78, Tryz.ntmps78
      go_wp2_with fail
      refine (K1.out _ (fatB TT.out B0)).mono ?_
      rintro r w1 ⟨rfl, b1⟩
      have B1 : Below w.heap.size w w1 := btr7 B0 b1
      have Rp_1 := heap_of b1 _ _ _ Rp_0
      have Rz_1 := heap_of b1 _ _ _ Rz_0
      clear b1 B0 Rp_0 Rz_0
      obtain ⟨cp_1_0, cp_1_1, cp_1_2, cp_1_3, cp_1_4, cp_1_5, cp_1_6, cp_1_7, cp_1_8, cp_1_9, cp_1_10, cp_1_11, cp_1_12, cp_1_13⟩ := pt_cells Rp_1
      obtain ⟨cz_1_0, cz_1_1⟩ := cell7t Rz_1
      have q0 := fz (k := 0) Rz_1
      have q1 := fz (k := 1) Rz_1
      obtain ⟨E0, E1⟩ := set2_cells Rz_1 (.int .u64 (a : Nat)) (.int .u64 (b : Nat))
      go_wp2
      exact bodyPost_ret (v := .agg #[.int .u64 (a : Nat), .int .u64 (b : Nat)]) (by simp [results, Tryz.results78, go_sem, E0, E1]) rfl ⟨rfl, set2_below B1 (by first | exact Nat.le_refl _ | omega | (skip; omega)) _ _⟩
    · have f3 : ((c : Int) == 3) = false := by rw [hc]; rfl
      have f4 : ((c : Int) == 4) = false := by rw [hc]; rfl
      have f2 : ((c : Int) == 2) = false := by rw [hc]; rfl
      have f1 : ((c : Int) == 1) = false := by rw [hc]; rfl
      have f5 : ((c : Int) == 5) = true := by rw [hc]; rfl
      clear hc
      obtain ⟨Rp_0, Rz_0, B0⟩ := kopn2 w (Obj.cells (pt c s X rr) 55) (Obj.cells #[.int .u64 0, .int .u64 0] 25)
      go_enter Tryz.func78, Tryz.ntmps78
      go_wp2_with fail
      refine (K1.out _ (fatB TT.out B0)).mono ?_
      rintro r w1 ⟨rfl, b1⟩
      have B1 : Below w.heap.size w w1 := btr7 B0 b1
      have Rp_1 := heap_of b1 _ _ _ Rp_0
      have Rz_1 := heap_of b1 _ _ _ Rz_0
      clear b1 B0 Rp_0 Rz_0
      obtain ⟨cp_1_0, cp_1_1, cp_1_2, cp_1_3, cp_1_4, cp_1_5, cp_1_6, cp_1_7, cp_1_8, cp_1_9, cp_1_10, cp_1_11, cp_1_12, cp_1_13⟩ := pt_cells Rp_1
      obtain ⟨cz_1_0, cz_1_1⟩ := cell7t Rz_1
      have q0 := fz (k := 0) Rz_1
      have q1 := fz (k := 1) Rz_1
      obtain ⟨E0, E1⟩ := set2_cells Rz_1 (.int .u64 (a : Nat)) (.int .u64 (b : Nat))
      go_wp2
      exact bodyPost_ret (v := .agg #[.int .u64 (a : Nat), .int .u64 (b : Nat)]) (by simp [results, Tryz.results78, go_sem, E0, E1]) rfl ⟨rfl, set2_below B1 (by first | exact Nat.le_refl _ | omega | (skip; omega)) _ _⟩
    · have f3 : ((c : Int) == 3) = false := by rw [hc]; rfl
      have f4 : ((c : Int) == 4) = false := by rw [hc]; rfl
      have f2 : ((c : Int) == 2) = false := by rw [hc]; rfl
      have f1 : ((c : Int) == 1) = false := by rw [hc]; rfl
      have f5 : ((c : Int) == 5) = false := by rw [hc]; rfl
      have f6 : ((c : Int) == 6) = true := by rw [hc]; rfl
      clear hc
      obtain ⟨Rp_0, Rz_0, B0⟩ := kopn2 w (Obj.cells (pt c s X rr) 55) (Obj.cells #[.int .u64 0, .int .u64 0] 25)
      go_enter Tryz.func78, Tryz.ntmps78
      go_wp2_with fail
      refine (K1.out _ (fatB TT.out B0)).mono ?_
      rintro r w1 ⟨rfl, b1⟩
      have B1 : Below w.heap.size w w1 := btr7 B0 b1
      have Rp_1 := heap_of b1 _ _ _ Rp_0
      have Rz_1 := heap_of b1 _ _ _ Rz_0
      clear b1 B0 Rp_0 Rz_0
      obtain ⟨cp_1_0, cp_1_1, cp_1_2, cp_1_3, cp_1_4, cp_1_5, cp_1_6, cp_1_7, cp_1_8, cp_1_9, cp_1_10, cp_1_11, cp_1_12, cp_1_13⟩ := pt_cells Rp_1
      obtain ⟨cz_1_0, cz_1_1⟩ := cell7t Rz_1
      have q0 := fz (k := 0) Rz_1
      have q1 := fz (k := 1) Rz_1
      obtain ⟨E0, E1⟩ := set2_cells Rz_1 (.int .u64 (a : Nat)) (.int .u64 (b : Nat))
      go_wp2
      exact bodyPost_ret (v := .agg #[.int .u64 (a : Nat), .int .u64 (b : Nat)]) (by simp [results, Tryz.results78, go_sem, E0, E1]) rfl ⟨rfl, set2_below B1 (by first | exact Nat.le_refl _ | omega | (skip; omega)) _ _⟩
  · rw [if_neg c2] at hv
    have K1 := box (fun w hT => kendless_is f hf rr a b hr hv w hT)
    have f3 : ((c : Int) == 3) = false := by simp; omega
    have f4 : ((c : Int) == 4) = false := by simp; omega
    have f2 : ((c : Int) == 2) = false := by simp; omega
    have f1 : ((c : Int) == 1) = false := by simp; omega
    have f5 : ((c : Int) == 5) = false := by simp; omega
    have f6 : ((c : Int) == 6) = false := by simp; omega
    clear hT hf hs hr x1 x2 hv c1 c2
    obtain ⟨Rp_0, Rz_0, B0⟩ := kopn2 w (Obj.cells (pt c s X rr) 55) (Obj.cells #[.int .u64 0, .int .u64 0] 25)
    go_enter Tryz.func78, Tryz.ntmps78
    go_wp2_with fail
    refine (K1.out _ (fatB TT.out B0)).mono ?_
    rintro r w1 ⟨rfl, b1⟩
    have B1 : Below w.heap.size w w1 := btr7 B0 b1
    have Rp_1 := heap_of b1 _ _ _ Rp_0
    have Rz_1 := heap_of b1 _ _ _ Rz_0
    clear b1 B0 Rp_0 Rz_0
    obtain ⟨cp_1_0, cp_1_1, cp_1_2, cp_1_3, cp_1_4, cp_1_5, cp_1_6, cp_1_7, cp_1_8, cp_1_9, cp_1_10, cp_1_11, cp_1_12, cp_1_13⟩ := pt_cells Rp_1
    obtain ⟨cz_1_0, cz_1_1⟩ := cell7t Rz_1
    have q0 := fz (k := 0) Rz_1
    have q1 := fz (k := 1) Rz_1
    obtain ⟨E0, E1⟩ := set2_cells Rz_1 (.int .u64 (a : Nat)) (.int .u64 (b : Nat))
    go_wp2
    exact bodyPost_ret (v := .agg #[.int .u64 (a : Nat), .int .u64 (b : Nat)]) (by simp [results, Tryz.results78, go_sem, E0, E1]) rfl ⟨rfl, set2_below B1 (by first | exact Nat.le_refl _ | omega | (skip; omega)) _ _⟩
theorem mg_lt (f : Int) (c s : Nat) (X : Int) (rr : Nat) : mg f c s X rr < 340282366920938463463374607431768211456 := by
  unfold mg
  split
  · decide
  · split
    · unfold fb; exact Nat.mod_lt _ (by decide)
    · unfold eb; exact Nat.mod_lt _ (by decide)
theorem xor_lt128 (a b : Nat) (ha : a < 340282366920938463463374607431768211456) (hb : b < 340282366920938463463374607431768211456) : a ^^^ b < 340282366920938463463374607431768211456 := by
  have := Nat.xor_lt_two_pow (n := 128) (x := a) (y := b) ha hb
  exact this
theorem gP_lt {f : Int} (hf : Is4 f) (p : Nat × Nat × Int × Nat) : gP f p < 340282366920938463463374607431768211456 := by
  have h := mg_lt f p.1 p.2.1 p.2.2.1 p.2.2.2
  have g7 := (fm hf).2.2.2.2.2.2
  unfold gP sgB
  split
  · exact xor_lt128 _ _ h (by omega)
  · exact h
theorem kS_lt {f : Int} (hf : Is4 f) (n : Nat) : kS f n < Q ∧ kF f n < Q := by
  obtain ⟨g1, g2, g3, g4, g5, g6, g7⟩ := fm hf
  have tl := kT_lt (f := f) n
  rw [g1, Nat.add_mul] at g7
  have := Nat.mul_le_mul_right (2 ^ pV f) g5
  constructor
  · refine lt_Q7 ?_
    unfold kS
    split
    · omega
    · split <;> omega
  · refine lt_Q7 ?_
    unfold kF
    split <;> omega
set_option maxHeartbeats 2000000 in
set_option maxRecDepth 100000 in
theorem kPack_is (f : Int) (hf : Is4 f) (c s rr u v m : Nat) (X e : Int) (hs : s < Q) (hr : rr < Q) (x1 : -9223372036854775808 ≤ X) (x2 : X ≤ 9223372036854775807) (hp : pk f (c, s, X, rr) = (m, e)) (hv : bv7 m = (u, v)) (w : World) (hT : FAt w) :
    Calls Tryz.prog 21 #[.int .u8 f, .agg (pt c s X rr)] w fun r w' => r = .returned (.tuple #[.agg #[.int .u64 (u : Nat), .int .u64 (v : Nat)], .int .i64 e]) ∧ Below w.heap.size w w' := by
  have hat := cw_at 6
  have hz := cw6z
  have hff := cw6f
  have hs0 := st0
  have hcs : ∀ x, ((cw 6 x).size = 6) = True := fun x => eq_true (cw_size 6 x)
  have hp1 := ptf
  have hp3 := ptz
  have hp4 := st_p0
  have hp5 : ∀ (c s : Nat) (x : Int) (r : Nat), ((pt c s x r).size = 14) = True := fun _ _ _ _ => eq_true rfl
  have ha0 := pt_at0
  have ha1 := pt_at1
  have ha2 := pt_at2
  have ha3 := pt_at3
  have ha4 := pt_at4
  have ha5 := pt_at5
  have ha6 := pt_at6
  have ha7 := pt_at7
  have ha8 := pt_at8
  have ha9 := pt_at9
  have ha10 := pt_at10
  have ha11 := pt_at11
  have ha12 := pt_at12
  have ha13 := pt_at13
  have hb0 := pt_q0
  have hb1 := pt_q1
  have hb2 := pt_q2
  have hb3 := pt_q3
  have hb4 := pt_q4
  have hb5 := pt_q5
  have hb6 := pt_q6
  have hb7 := pt_q7
  have hb8 := pt_q8
  have hb9 := pt_q9
  have hb10 := pt_q10
  have hb11 := pt_q11
  have hb12 := pt_q12
  have hb13 := pt_q13
  have heq := eqp
  have hg := eqgp
  have f4 := is4_ok hf
  have K1 := box (s_check_is f 0 f4.1 f4.2.1 f4.2.2.1)
  obtain ⟨a, b, hab⟩ : ∃ a b, bv7 (mg f c s X rr) = (a, b) := ⟨_, _, rfl⟩
  have K2 := box (fun w hT => kmag_is f hf c s rr a b X hs hr x1 x2 hab w hT)
  obtain ⟨a1, b1, ab⟩ := bv_lt (mg_lt f c s X rr) hab
  obtain ⟨g, h, hgh⟩ : ∃ a b, bv7 (gP f (c, s, X, rr)) = (a, b) := ⟨_, _, rfl⟩
  have d3 : decide ((c : Int) ≤ 3) = decide (c ≤ 3) := by rw [decide_eq_decide]; omega
  have K3 := box (fun w hT => ksigned_is f hf a b _ g h (decide ((c : Int) ≤ 3)) a1 b1 ab (by rw [d3]; exact hgh) w hT)
  clear d3
  obtain ⟨g1, h1, gh⟩ := bv_lt (gP_lt hf _) hgh
  have K4 := box (fun w hT => kparts_is f hf g h _ g1 h1 gh w hT)
  obtain ⟨N, hN⟩ : ∃ N, gP f (c, s, X, rr) = N := ⟨_, rfl⟩
  rw [hN] at K4
  obtain ⟨ls, lr⟩ := kS_lt hf N
  obtain ⟨E, hE⟩ : ∃ E, (decide (kC f N = c) && (decide (kS f N = s) && (decide (kX f N = X) && decide (kF f N = rr)))) = E := ⟨_, rfl⟩
  have hpk : (E = true → u = g ∧ v = h ∧ e = 0) ∧ (E = false → u = 0 ∧ v = 0 ∧ e = 80) := by
    unfold pk at hp
    rw [hN] at hp hgh
    constructor
    · intro hE1
      rw [hE1] at hE
      have k : kp f N = (c, s, X, rr) := by
        have := hE
        simp only [Bool.and_eq_true, decide_eq_true_eq] at this
        unfold kp
        rw [this.1, this.2.1, this.2.2.1, this.2.2.2]
      rw [if_pos k] at hp
      injection hp with q1 q2
      rw [← q1, hgh] at hv
      injection hv with q3 q4
      exact ⟨q3.symm, q4.symm, q2.symm⟩
    · intro hE1
      rw [hE1] at hE
      have k : ¬ kp f N = (c, s, X, rr) := by
        intro k
        unfold kp at k
        injection k with k1 k2
        injection k2 with k2 k3
        injection k3 with k3 k4
        rw [k1, k2, k3, k4] at hE
        simp at hE
      rw [if_neg k] at hp
      injection hp with q1 q2
      rw [← q1] at hv
      injection hv with q3 q4
      exact ⟨q3.symm, q4.symm, q2.symm⟩
  obtain ⟨C, hC⟩ : ∃ q, kC f N = q := ⟨_, rfl⟩
  obtain ⟨S, hS⟩ : ∃ q, kS f N = q := ⟨_, rfl⟩
  obtain ⟨Y, hY⟩ : ∃ q, kX f N = q := ⟨_, rfl⟩
  obtain ⟨R, hR⟩ : ∃ q, kF f N = q := ⟨_, rfl⟩
  rw [hC, hS, hY, hR] at K4 hE
  rw [hS] at ls
  rw [hR] at lr
  have TT := box hT
  clear hT hf hp hv hab a1 b1 ab hgh g1 h1 gh hN hC hS hY hR x1 x2 f4
  cases E
  · obtain ⟨rfl, rfl, rfl⟩ := hpk.2 rfl
    clear hpk
    obtain ⟨Rp_0, Rz_0, B0⟩ := kopn2 w (Obj.cells (pt c s X rr) 55) (Obj.cells #[.int .u64 0, .int .u64 0] 25)
    go_enter Tryz.func21, Tryz.ntmps21
    go_wp2_with fail
    refine (K1.out _).mono ?_
    rintro r w' ⟨rfl, hw'⟩
    obtain rfl := hw'.symm
    have sS : Box (∀ W W1 : World, (Below w.heap.size w W ∧ W.heap[w.heap.size]? = some (Obj.cells (pt c s X rr) 55) ∧ W.heap[w.heap.size + 1]? = some (Obj.cells #[.int .u64 0, .int .u64 0] 25) ∧ W.cell? ⟨w.heap.size, 0, none⟩ = some (.int .u8 (c : Nat)) ∧ W.cell? ⟨w.heap.size, 1, none⟩ = some (.int .u64 ((wd s 0 : Nat) : Int)) ∧ W.cell? ⟨w.heap.size, 2, none⟩ = some (.int .u64 ((wd s 1 : Nat) : Int)) ∧ W.cell? ⟨w.heap.size, 3, none⟩ = some (.int .u64 ((wd s 2 : Nat) : Int)) ∧ W.cell? ⟨w.heap.size, 4, none⟩ = some (.int .u64 ((wd s 3 : Nat) : Int)) ∧ W.cell? ⟨w.heap.size, 5, none⟩ = some (.int .u64 ((wd s 4 : Nat) : Int)) ∧ W.cell? ⟨w.heap.size, 6, none⟩ = some (.int .u64 ((wd s 5 : Nat) : Int)) ∧ W.cell? ⟨w.heap.size, 7, none⟩ = some (.int .i64 X) ∧ W.cell? ⟨w.heap.size, 8, none⟩ = some (.int .u64 ((wd rr 0 : Nat) : Int)) ∧ W.cell? ⟨w.heap.size, 9, none⟩ = some (.int .u64 ((wd rr 1 : Nat) : Int)) ∧ W.cell? ⟨w.heap.size, 10, none⟩ = some (.int .u64 ((wd rr 2 : Nat) : Int)) ∧ W.cell? ⟨w.heap.size, 11, none⟩ = some (.int .u64 ((wd rr 3 : Nat) : Int)) ∧ W.cell? ⟨w.heap.size, 12, none⟩ = some (.int .u64 ((wd rr 4 : Nat) : Int)) ∧ W.cell? ⟨w.heap.size, 13, none⟩ = some (.int .u64 ((wd rr 5 : Nat) : Int)) ∧ W.cell? ⟨w.heap.size + 1, 0, none⟩ = some (.int .u64 0) ∧ W.cell? ⟨w.heap.size + 1, 1, none⟩ = some (.int .u64 0)) → Below W.heap.size W W1 → (Below w.heap.size w W1 ∧ W1.heap[w.heap.size]? = some (Obj.cells (pt c s X rr) 55) ∧ W1.heap[w.heap.size + 1]? = some (Obj.cells #[.int .u64 0, .int .u64 0] 25) ∧ W1.cell? ⟨w.heap.size, 0, none⟩ = some (.int .u8 (c : Nat)) ∧ W1.cell? ⟨w.heap.size, 1, none⟩ = some (.int .u64 ((wd s 0 : Nat) : Int)) ∧ W1.cell? ⟨w.heap.size, 2, none⟩ = some (.int .u64 ((wd s 1 : Nat) : Int)) ∧ W1.cell? ⟨w.heap.size, 3, none⟩ = some (.int .u64 ((wd s 2 : Nat) : Int)) ∧ W1.cell? ⟨w.heap.size, 4, none⟩ = some (.int .u64 ((wd s 3 : Nat) : Int)) ∧ W1.cell? ⟨w.heap.size, 5, none⟩ = some (.int .u64 ((wd s 4 : Nat) : Int)) ∧ W1.cell? ⟨w.heap.size, 6, none⟩ = some (.int .u64 ((wd s 5 : Nat) : Int)) ∧ W1.cell? ⟨w.heap.size, 7, none⟩ = some (.int .i64 X) ∧ W1.cell? ⟨w.heap.size, 8, none⟩ = some (.int .u64 ((wd rr 0 : Nat) : Int)) ∧ W1.cell? ⟨w.heap.size, 9, none⟩ = some (.int .u64 ((wd rr 1 : Nat) : Int)) ∧ W1.cell? ⟨w.heap.size, 10, none⟩ = some (.int .u64 ((wd rr 2 : Nat) : Int)) ∧ W1.cell? ⟨w.heap.size, 11, none⟩ = some (.int .u64 ((wd rr 3 : Nat) : Int)) ∧ W1.cell? ⟨w.heap.size, 12, none⟩ = some (.int .u64 ((wd rr 4 : Nat) : Int)) ∧ W1.cell? ⟨w.heap.size, 13, none⟩ = some (.int .u64 ((wd rr 5 : Nat) : Int)) ∧ W1.cell? ⟨w.heap.size + 1, 0, none⟩ = some (.int .u64 0) ∧ W1.cell? ⟨w.heap.size + 1, 1, none⟩ = some (.int .u64 0))) := box (fun W W1 h b => ⟨btr7 h.1 b, heap_of b _ _ _ h.2.1, heap_of b _ _ _ h.2.2.1, cell7 (heap_of b _ _ _ h.2.1) 0 _ rfl, cell7 (heap_of b _ _ _ h.2.1) 1 _ rfl, cell7 (heap_of b _ _ _ h.2.1) 2 _ rfl, cell7 (heap_of b _ _ _ h.2.1) 3 _ rfl, cell7 (heap_of b _ _ _ h.2.1) 4 _ rfl, cell7 (heap_of b _ _ _ h.2.1) 5 _ rfl, cell7 (heap_of b _ _ _ h.2.1) 6 _ rfl, cell7 (heap_of b _ _ _ h.2.1) 7 _ rfl, cell7 (heap_of b _ _ _ h.2.1) 8 _ rfl, cell7 (heap_of b _ _ _ h.2.1) 9 _ rfl, cell7 (heap_of b _ _ _ h.2.1) 10 _ rfl, cell7 (heap_of b _ _ _ h.2.1) 11 _ rfl, cell7 (heap_of b _ _ _ h.2.1) 12 _ rfl, cell7 (heap_of b _ _ _ h.2.1) 13 _ rfl, cell7 (heap_of b _ _ _ h.2.2.1) 0 _ rfl, cell7 (heap_of b _ _ _ h.2.2.1) 1 _ rfl⟩)
    have sL : Box (∀ W : World, (Below w.heap.size w W ∧ W.heap[w.heap.size]? = some (Obj.cells (pt c s X rr) 55) ∧ W.heap[w.heap.size + 1]? = some (Obj.cells #[.int .u64 0, .int .u64 0] 25) ∧ W.cell? ⟨w.heap.size, 0, none⟩ = some (.int .u8 (c : Nat)) ∧ W.cell? ⟨w.heap.size, 1, none⟩ = some (.int .u64 ((wd s 0 : Nat) : Int)) ∧ W.cell? ⟨w.heap.size, 2, none⟩ = some (.int .u64 ((wd s 1 : Nat) : Int)) ∧ W.cell? ⟨w.heap.size, 3, none⟩ = some (.int .u64 ((wd s 2 : Nat) : Int)) ∧ W.cell? ⟨w.heap.size, 4, none⟩ = some (.int .u64 ((wd s 3 : Nat) : Int)) ∧ W.cell? ⟨w.heap.size, 5, none⟩ = some (.int .u64 ((wd s 4 : Nat) : Int)) ∧ W.cell? ⟨w.heap.size, 6, none⟩ = some (.int .u64 ((wd s 5 : Nat) : Int)) ∧ W.cell? ⟨w.heap.size, 7, none⟩ = some (.int .i64 X) ∧ W.cell? ⟨w.heap.size, 8, none⟩ = some (.int .u64 ((wd rr 0 : Nat) : Int)) ∧ W.cell? ⟨w.heap.size, 9, none⟩ = some (.int .u64 ((wd rr 1 : Nat) : Int)) ∧ W.cell? ⟨w.heap.size, 10, none⟩ = some (.int .u64 ((wd rr 2 : Nat) : Int)) ∧ W.cell? ⟨w.heap.size, 11, none⟩ = some (.int .u64 ((wd rr 3 : Nat) : Int)) ∧ W.cell? ⟨w.heap.size, 12, none⟩ = some (.int .u64 ((wd rr 4 : Nat) : Int)) ∧ W.cell? ⟨w.heap.size, 13, none⟩ = some (.int .u64 ((wd rr 5 : Nat) : Int)) ∧ W.cell? ⟨w.heap.size + 1, 0, none⟩ = some (.int .u64 0) ∧ W.cell? ⟨w.heap.size + 1, 1, none⟩ = some (.int .u64 0)) → (w.heap.size < W.heap.size ∧ w.heap.size + 1 < W.heap.size)) := box (fun W h => ⟨(Array.getElem?_eq_some_iff.1 h.2.1).1, (Array.getElem?_eq_some_iff.1 h.2.2.1).1⟩)
    have sT : Box (∀ (W : World) (gN : Nat) (xA xB : Value), (Below w.heap.size w W ∧ W.heap[w.heap.size]? = some (Obj.cells (pt c s X rr) 55) ∧ W.heap[w.heap.size + 1]? = some (Obj.cells #[.int .u64 0, .int .u64 0] 25) ∧ W.cell? ⟨w.heap.size, 0, none⟩ = some (.int .u8 (c : Nat)) ∧ W.cell? ⟨w.heap.size, 1, none⟩ = some (.int .u64 ((wd s 0 : Nat) : Int)) ∧ W.cell? ⟨w.heap.size, 2, none⟩ = some (.int .u64 ((wd s 1 : Nat) : Int)) ∧ W.cell? ⟨w.heap.size, 3, none⟩ = some (.int .u64 ((wd s 2 : Nat) : Int)) ∧ W.cell? ⟨w.heap.size, 4, none⟩ = some (.int .u64 ((wd s 3 : Nat) : Int)) ∧ W.cell? ⟨w.heap.size, 5, none⟩ = some (.int .u64 ((wd s 4 : Nat) : Int)) ∧ W.cell? ⟨w.heap.size, 6, none⟩ = some (.int .u64 ((wd s 5 : Nat) : Int)) ∧ W.cell? ⟨w.heap.size, 7, none⟩ = some (.int .i64 X) ∧ W.cell? ⟨w.heap.size, 8, none⟩ = some (.int .u64 ((wd rr 0 : Nat) : Int)) ∧ W.cell? ⟨w.heap.size, 9, none⟩ = some (.int .u64 ((wd rr 1 : Nat) : Int)) ∧ W.cell? ⟨w.heap.size, 10, none⟩ = some (.int .u64 ((wd rr 2 : Nat) : Int)) ∧ W.cell? ⟨w.heap.size, 11, none⟩ = some (.int .u64 ((wd rr 3 : Nat) : Int)) ∧ W.cell? ⟨w.heap.size, 12, none⟩ = some (.int .u64 ((wd rr 4 : Nat) : Int)) ∧ W.cell? ⟨w.heap.size, 13, none⟩ = some (.int .u64 ((wd rr 5 : Nat) : Int)) ∧ W.cell? ⟨w.heap.size + 1, 0, none⟩ = some (.int .u64 0) ∧ W.cell? ⟨w.heap.size + 1, 1, none⟩ = some (.int .u64 0)) → (w.heap.size < gN ∧ w.heap.size + 1 < gN) → (Below w.heap.size w ((W.setCell ⟨gN, 0, none⟩ xA).setCell ⟨gN, 1, none⟩ xB) ∧ ((W.setCell ⟨gN, 0, none⟩ xA).setCell ⟨gN, 1, none⟩ xB).heap[w.heap.size]? = some (Obj.cells (pt c s X rr) 55) ∧ ((W.setCell ⟨gN, 0, none⟩ xA).setCell ⟨gN, 1, none⟩ xB).heap[w.heap.size + 1]? = some (Obj.cells #[.int .u64 0, .int .u64 0] 25) ∧ ((W.setCell ⟨gN, 0, none⟩ xA).setCell ⟨gN, 1, none⟩ xB).cell? ⟨w.heap.size, 0, none⟩ = some (.int .u8 (c : Nat)) ∧ ((W.setCell ⟨gN, 0, none⟩ xA).setCell ⟨gN, 1, none⟩ xB).cell? ⟨w.heap.size, 1, none⟩ = some (.int .u64 ((wd s 0 : Nat) : Int)) ∧ ((W.setCell ⟨gN, 0, none⟩ xA).setCell ⟨gN, 1, none⟩ xB).cell? ⟨w.heap.size, 2, none⟩ = some (.int .u64 ((wd s 1 : Nat) : Int)) ∧ ((W.setCell ⟨gN, 0, none⟩ xA).setCell ⟨gN, 1, none⟩ xB).cell? ⟨w.heap.size, 3, none⟩ = some (.int .u64 ((wd s 2 : Nat) : Int)) ∧ ((W.setCell ⟨gN, 0, none⟩ xA).setCell ⟨gN, 1, none⟩ xB).cell? ⟨w.heap.size, 4, none⟩ = some (.int .u64 ((wd s 3 : Nat) : Int)) ∧ ((W.setCell ⟨gN, 0, none⟩ xA).setCell ⟨gN, 1, none⟩ xB).cell? ⟨w.heap.size, 5, none⟩ = some (.int .u64 ((wd s 4 : Nat) : Int)) ∧ ((W.setCell ⟨gN, 0, none⟩ xA).setCell ⟨gN, 1, none⟩ xB).cell? ⟨w.heap.size, 6, none⟩ = some (.int .u64 ((wd s 5 : Nat) : Int)) ∧ ((W.setCell ⟨gN, 0, none⟩ xA).setCell ⟨gN, 1, none⟩ xB).cell? ⟨w.heap.size, 7, none⟩ = some (.int .i64 X) ∧ ((W.setCell ⟨gN, 0, none⟩ xA).setCell ⟨gN, 1, none⟩ xB).cell? ⟨w.heap.size, 8, none⟩ = some (.int .u64 ((wd rr 0 : Nat) : Int)) ∧ ((W.setCell ⟨gN, 0, none⟩ xA).setCell ⟨gN, 1, none⟩ xB).cell? ⟨w.heap.size, 9, none⟩ = some (.int .u64 ((wd rr 1 : Nat) : Int)) ∧ ((W.setCell ⟨gN, 0, none⟩ xA).setCell ⟨gN, 1, none⟩ xB).cell? ⟨w.heap.size, 10, none⟩ = some (.int .u64 ((wd rr 2 : Nat) : Int)) ∧ ((W.setCell ⟨gN, 0, none⟩ xA).setCell ⟨gN, 1, none⟩ xB).cell? ⟨w.heap.size, 11, none⟩ = some (.int .u64 ((wd rr 3 : Nat) : Int)) ∧ ((W.setCell ⟨gN, 0, none⟩ xA).setCell ⟨gN, 1, none⟩ xB).cell? ⟨w.heap.size, 12, none⟩ = some (.int .u64 ((wd rr 4 : Nat) : Int)) ∧ ((W.setCell ⟨gN, 0, none⟩ xA).setCell ⟨gN, 1, none⟩ xB).cell? ⟨w.heap.size, 13, none⟩ = some (.int .u64 ((wd rr 5 : Nat) : Int)) ∧ ((W.setCell ⟨gN, 0, none⟩ xA).setCell ⟨gN, 1, none⟩ xB).cell? ⟨w.heap.size + 1, 0, none⟩ = some (.int .u64 0) ∧ ((W.setCell ⟨gN, 0, none⟩ xA).setCell ⟨gN, 1, none⟩ xB).cell? ⟨w.heap.size + 1, 1, none⟩ = some (.int .u64 0))) := box (fun W gN xA xB h l => ⟨set2_below h.1 (show w.heap.size ≤ gN by have := l.1; omega) _ _, (setCell_other (by have := l.1; omega)).trans ((setCell_other (by have := l.1; omega)).trans h.2.1), (setCell_other (by have := l.2; omega)).trans ((setCell_other (by have := l.2; omega)).trans h.2.2.1), cell7 ((setCell_other (by have := l.1; omega)).trans ((setCell_other (by have := l.1; omega)).trans h.2.1)) 0 _ rfl, cell7 ((setCell_other (by have := l.1; omega)).trans ((setCell_other (by have := l.1; omega)).trans h.2.1)) 1 _ rfl, cell7 ((setCell_other (by have := l.1; omega)).trans ((setCell_other (by have := l.1; omega)).trans h.2.1)) 2 _ rfl, cell7 ((setCell_other (by have := l.1; omega)).trans ((setCell_other (by have := l.1; omega)).trans h.2.1)) 3 _ rfl, cell7 ((setCell_other (by have := l.1; omega)).trans ((setCell_other (by have := l.1; omega)).trans h.2.1)) 4 _ rfl, cell7 ((setCell_other (by have := l.1; omega)).trans ((setCell_other (by have := l.1; omega)).trans h.2.1)) 5 _ rfl, cell7 ((setCell_other (by have := l.1; omega)).trans ((setCell_other (by have := l.1; omega)).trans h.2.1)) 6 _ rfl, cell7 ((setCell_other (by have := l.1; omega)).trans ((setCell_other (by have := l.1; omega)).trans h.2.1)) 7 _ rfl, cell7 ((setCell_other (by have := l.1; omega)).trans ((setCell_other (by have := l.1; omega)).trans h.2.1)) 8 _ rfl, cell7 ((setCell_other (by have := l.1; omega)).trans ((setCell_other (by have := l.1; omega)).trans h.2.1)) 9 _ rfl, cell7 ((setCell_other (by have := l.1; omega)).trans ((setCell_other (by have := l.1; omega)).trans h.2.1)) 10 _ rfl, cell7 ((setCell_other (by have := l.1; omega)).trans ((setCell_other (by have := l.1; omega)).trans h.2.1)) 11 _ rfl, cell7 ((setCell_other (by have := l.1; omega)).trans ((setCell_other (by have := l.1; omega)).trans h.2.1)) 12 _ rfl, cell7 ((setCell_other (by have := l.1; omega)).trans ((setCell_other (by have := l.1; omega)).trans h.2.1)) 13 _ rfl, cell7 ((setCell_other (by have := l.2; omega)).trans ((setCell_other (by have := l.2; omega)).trans h.2.2.1)) 0 _ rfl, cell7 ((setCell_other (by have := l.2; omega)).trans ((setCell_other (by have := l.2; omega)).trans h.2.2.1)) 1 _ rfl⟩)
    have s0 : Below w.heap.size w (((w.alloc (Obj.cells (pt c s X rr) 55)).alloc (Obj.cells #[.int .u64 0, .int .u64 0] 25))).drew ∧ (((w.alloc (Obj.cells (pt c s X rr) 55)).alloc (Obj.cells #[.int .u64 0, .int .u64 0] 25))).drew.heap[w.heap.size]? = some (Obj.cells (pt c s X rr) 55) ∧ (((w.alloc (Obj.cells (pt c s X rr) 55)).alloc (Obj.cells #[.int .u64 0, .int .u64 0] 25))).drew.heap[w.heap.size + 1]? = some (Obj.cells #[.int .u64 0, .int .u64 0] 25) ∧ (((w.alloc (Obj.cells (pt c s X rr) 55)).alloc (Obj.cells #[.int .u64 0, .int .u64 0] 25))).drew.cell? ⟨w.heap.size, 0, none⟩ = some (.int .u8 (c : Nat)) ∧ (((w.alloc (Obj.cells (pt c s X rr) 55)).alloc (Obj.cells #[.int .u64 0, .int .u64 0] 25))).drew.cell? ⟨w.heap.size, 1, none⟩ = some (.int .u64 ((wd s 0 : Nat) : Int)) ∧ (((w.alloc (Obj.cells (pt c s X rr) 55)).alloc (Obj.cells #[.int .u64 0, .int .u64 0] 25))).drew.cell? ⟨w.heap.size, 2, none⟩ = some (.int .u64 ((wd s 1 : Nat) : Int)) ∧ (((w.alloc (Obj.cells (pt c s X rr) 55)).alloc (Obj.cells #[.int .u64 0, .int .u64 0] 25))).drew.cell? ⟨w.heap.size, 3, none⟩ = some (.int .u64 ((wd s 2 : Nat) : Int)) ∧ (((w.alloc (Obj.cells (pt c s X rr) 55)).alloc (Obj.cells #[.int .u64 0, .int .u64 0] 25))).drew.cell? ⟨w.heap.size, 4, none⟩ = some (.int .u64 ((wd s 3 : Nat) : Int)) ∧ (((w.alloc (Obj.cells (pt c s X rr) 55)).alloc (Obj.cells #[.int .u64 0, .int .u64 0] 25))).drew.cell? ⟨w.heap.size, 5, none⟩ = some (.int .u64 ((wd s 4 : Nat) : Int)) ∧ (((w.alloc (Obj.cells (pt c s X rr) 55)).alloc (Obj.cells #[.int .u64 0, .int .u64 0] 25))).drew.cell? ⟨w.heap.size, 6, none⟩ = some (.int .u64 ((wd s 5 : Nat) : Int)) ∧ (((w.alloc (Obj.cells (pt c s X rr) 55)).alloc (Obj.cells #[.int .u64 0, .int .u64 0] 25))).drew.cell? ⟨w.heap.size, 7, none⟩ = some (.int .i64 X) ∧ (((w.alloc (Obj.cells (pt c s X rr) 55)).alloc (Obj.cells #[.int .u64 0, .int .u64 0] 25))).drew.cell? ⟨w.heap.size, 8, none⟩ = some (.int .u64 ((wd rr 0 : Nat) : Int)) ∧ (((w.alloc (Obj.cells (pt c s X rr) 55)).alloc (Obj.cells #[.int .u64 0, .int .u64 0] 25))).drew.cell? ⟨w.heap.size, 9, none⟩ = some (.int .u64 ((wd rr 1 : Nat) : Int)) ∧ (((w.alloc (Obj.cells (pt c s X rr) 55)).alloc (Obj.cells #[.int .u64 0, .int .u64 0] 25))).drew.cell? ⟨w.heap.size, 10, none⟩ = some (.int .u64 ((wd rr 2 : Nat) : Int)) ∧ (((w.alloc (Obj.cells (pt c s X rr) 55)).alloc (Obj.cells #[.int .u64 0, .int .u64 0] 25))).drew.cell? ⟨w.heap.size, 11, none⟩ = some (.int .u64 ((wd rr 3 : Nat) : Int)) ∧ (((w.alloc (Obj.cells (pt c s X rr) 55)).alloc (Obj.cells #[.int .u64 0, .int .u64 0] 25))).drew.cell? ⟨w.heap.size, 12, none⟩ = some (.int .u64 ((wd rr 4 : Nat) : Int)) ∧ (((w.alloc (Obj.cells (pt c s X rr) 55)).alloc (Obj.cells #[.int .u64 0, .int .u64 0] 25))).drew.cell? ⟨w.heap.size, 13, none⟩ = some (.int .u64 ((wd rr 5 : Nat) : Int)) ∧ (((w.alloc (Obj.cells (pt c s X rr) 55)).alloc (Obj.cells #[.int .u64 0, .int .u64 0] 25))).drew.cell? ⟨w.heap.size + 1, 0, none⟩ = some (.int .u64 0) ∧ (((w.alloc (Obj.cells (pt c s X rr) 55)).alloc (Obj.cells #[.int .u64 0, .int .u64 0] 25))).drew.cell? ⟨w.heap.size + 1, 1, none⟩ = some (.int .u64 0) := ⟨B0.drew, Rp_0, Rz_0, cell7 (Rp_0) 0 _ rfl, cell7 (Rp_0) 1 _ rfl, cell7 (Rp_0) 2 _ rfl, cell7 (Rp_0) 3 _ rfl, cell7 (Rp_0) 4 _ rfl, cell7 (Rp_0) 5 _ rfl, cell7 (Rp_0) 6 _ rfl, cell7 (Rp_0) 7 _ rfl, cell7 (Rp_0) 8 _ rfl, cell7 (Rp_0) 9 _ rfl, cell7 (Rp_0) 10 _ rfl, cell7 (Rp_0) 11 _ rfl, cell7 (Rp_0) 12 _ rfl, cell7 (Rp_0) 13 _ rfl, cell7 (Rz_0) 0 _ rfl, cell7 (Rz_0) 1 _ rfl⟩
    clear B0 Rp_0 Rz_0
    go_wp2_with fail
    apply cut7
    · intro key0
      have key := box key0
      clear key0
      go_region_held3 (fun W => Below w.heap.size w W ∧ W.heap[w.heap.size]? = some (Obj.cells (pt c s X rr) 55) ∧ W.heap[w.heap.size + 1]? = some (Obj.cells #[.int .u64 0, .int .u64 0] 25) ∧ W.cell? ⟨w.heap.size, 0, none⟩ = some (.int .u8 (c : Nat)) ∧ W.cell? ⟨w.heap.size, 1, none⟩ = some (.int .u64 ((wd s 0 : Nat) : Int)) ∧ W.cell? ⟨w.heap.size, 2, none⟩ = some (.int .u64 ((wd s 1 : Nat) : Int)) ∧ W.cell? ⟨w.heap.size, 3, none⟩ = some (.int .u64 ((wd s 2 : Nat) : Int)) ∧ W.cell? ⟨w.heap.size, 4, none⟩ = some (.int .u64 ((wd s 3 : Nat) : Int)) ∧ W.cell? ⟨w.heap.size, 5, none⟩ = some (.int .u64 ((wd s 4 : Nat) : Int)) ∧ W.cell? ⟨w.heap.size, 6, none⟩ = some (.int .u64 ((wd s 5 : Nat) : Int)) ∧ W.cell? ⟨w.heap.size, 7, none⟩ = some (.int .i64 X) ∧ W.cell? ⟨w.heap.size, 8, none⟩ = some (.int .u64 ((wd rr 0 : Nat) : Int)) ∧ W.cell? ⟨w.heap.size, 9, none⟩ = some (.int .u64 ((wd rr 1 : Nat) : Int)) ∧ W.cell? ⟨w.heap.size, 10, none⟩ = some (.int .u64 ((wd rr 2 : Nat) : Int)) ∧ W.cell? ⟨w.heap.size, 11, none⟩ = some (.int .u64 ((wd rr 3 : Nat) : Int)) ∧ W.cell? ⟨w.heap.size, 12, none⟩ = some (.int .u64 ((wd rr 4 : Nat) : Int)) ∧ W.cell? ⟨w.heap.size, 13, none⟩ = some (.int .u64 ((wd rr 5 : Nat) : Int)) ∧ W.cell? ⟨w.heap.size + 1, 0, none⟩ = some (.int .u64 0) ∧ W.cell? ⟨w.heap.size + 1, 1, none⟩ = some (.int .u64 0)) (first | exact s1 | exact s0 | exact sS.out _ _ s1 (bal7 _ _) | exact sS.out _ _ s0 (bal7 _ _) | exact sT.out _ _ _ _ s1 hl)
        (first | (go_at_call 78; (first | refine (K2.out _ (by first | exact fatB TT.out (And.left s1) | exact fat_al (fatB TT.out (And.left s1)) _)).mono ?_ | refine (K2.out _ (by first | exact fatB TT.out (And.left s0) | exact fat_al (fatB TT.out (And.left s0)) _)).mono ?_); rintro r wq ⟨rfl, bq⟩; (first | (have hg := heap_of bq _ _ _ (heap_alloc_last _ _); have hl := (by first | exact sL.out _ s1 | exact sL.out _ s0)) | have hg := heap_of bq _ _ _ hg | skip); (try simp only [size_dr, size_al] at hg hl); (first | (have hq0 := fz (k := 0) hg; have hq1 := fz (k := 1) hg; have hc0 := cell7 hg 0 _ rfl; have hc1 := cell7 hg 1 _ rfl) | skip); have s2 := (by first | exact sS.out _ _ s1 bq | exact sS.out _ _ s0 bq | exact sS.out _ _ (sS.out _ _ s1 (bal7 _ _)) bq | exact sS.out _ _ (sS.out _ _ s0 (bal7 _ _)) bq); (try clear s1); have s1 := s2; clear s2 bq) | (go_at_call 53; (first | refine (K3.out _ (by first | exact fatB TT.out (And.left s1) | exact fat_al (fatB TT.out (And.left s1)) _)).mono ?_ | refine (K3.out _ (by first | exact fatB TT.out (And.left s0) | exact fat_al (fatB TT.out (And.left s0)) _)).mono ?_); rintro r wq ⟨rfl, bq⟩; (first | (have hg := heap_of bq _ _ _ (heap_alloc_last _ _); have hl := (by first | exact sL.out _ s1 | exact sL.out _ s0)) | have hg := heap_of bq _ _ _ hg | skip); (try simp only [size_dr, size_al] at hg hl); (first | (have hq0 := fz (k := 0) hg; have hq1 := fz (k := 1) hg; have hc0 := cell7 hg 0 _ rfl; have hc1 := cell7 hg 1 _ rfl) | skip); have s2 := (by first | exact sS.out _ _ s1 bq | exact sS.out _ _ s0 bq | exact sS.out _ _ (sS.out _ _ s1 (bal7 _ _)) bq | exact sS.out _ _ (sS.out _ _ s0 (bal7 _ _)) bq); (try clear s1); have s1 := s2; clear s2 bq) | fail)
      all_goals
        refine gen_kind_Pack_7 (R := fun W gN => (Below w.heap.size w W ∧ W.heap[w.heap.size]? = some (Obj.cells (pt c s X rr) 55) ∧ W.heap[w.heap.size + 1]? = some (Obj.cells #[.int .u64 0, .int .u64 0] 25) ∧ W.cell? ⟨w.heap.size, 0, none⟩ = some (.int .u8 (c : Nat)) ∧ W.cell? ⟨w.heap.size, 1, none⟩ = some (.int .u64 ((wd s 0 : Nat) : Int)) ∧ W.cell? ⟨w.heap.size, 2, none⟩ = some (.int .u64 ((wd s 1 : Nat) : Int)) ∧ W.cell? ⟨w.heap.size, 3, none⟩ = some (.int .u64 ((wd s 2 : Nat) : Int)) ∧ W.cell? ⟨w.heap.size, 4, none⟩ = some (.int .u64 ((wd s 3 : Nat) : Int)) ∧ W.cell? ⟨w.heap.size, 5, none⟩ = some (.int .u64 ((wd s 4 : Nat) : Int)) ∧ W.cell? ⟨w.heap.size, 6, none⟩ = some (.int .u64 ((wd s 5 : Nat) : Int)) ∧ W.cell? ⟨w.heap.size, 7, none⟩ = some (.int .i64 X) ∧ W.cell? ⟨w.heap.size, 8, none⟩ = some (.int .u64 ((wd rr 0 : Nat) : Int)) ∧ W.cell? ⟨w.heap.size, 9, none⟩ = some (.int .u64 ((wd rr 1 : Nat) : Int)) ∧ W.cell? ⟨w.heap.size, 10, none⟩ = some (.int .u64 ((wd rr 2 : Nat) : Int)) ∧ W.cell? ⟨w.heap.size, 11, none⟩ = some (.int .u64 ((wd rr 3 : Nat) : Int)) ∧ W.cell? ⟨w.heap.size, 12, none⟩ = some (.int .u64 ((wd rr 4 : Nat) : Int)) ∧ W.cell? ⟨w.heap.size, 13, none⟩ = some (.int .u64 ((wd rr 5 : Nat) : Int)) ∧ W.cell? ⟨w.heap.size + 1, 0, none⟩ = some (.int .u64 0) ∧ W.cell? ⟨w.heap.size + 1, 1, none⟩ = some (.int .u64 0)) ∧ W.heap[gN]? = some (Obj.cells #[.int .u64 (g : Nat), .int .u64 (h : Nat)] 25) ∧ (w.heap.size < gN ∧ w.heap.size + 1 < gN)) key.out ?_
        first
          | exact ⟨sS.out _ _ s1 (bal7 _ _), heap_alloc_last _ _, sL.out _ s1⟩
          | exact ⟨sS.out _ _ s0 (bal7 _ _), heap_alloc_last _ _, sL.out _ s0⟩
          | exact ⟨(sT.out _ _ _ _ s1 hl), set2_row hg _ _, hl⟩
    rintro w1 g1 ⟨s1, Rb_1, l1⟩
    have B1 := And.left s1
    have Rp_1 := s1.2.1
    have Rz_1 := s1.2.2.1
    have H1 := box l1
    clear s0 s1 sS sL sT l1
    obtain ⟨cp_1_0, cp_1_1, cp_1_2, cp_1_3, cp_1_4, cp_1_5, cp_1_6, cp_1_7, cp_1_8, cp_1_9, cp_1_10, cp_1_11, cp_1_12, cp_1_13⟩ := pt_cells Rp_1
    obtain ⟨cz_1_0, cz_1_1⟩ := cell7t Rz_1
    obtain ⟨cb_1_0, cb_1_1⟩ := cell7t Rb_1
    go_wp2_with fail
    obtain ⟨F, hF1, hF2⟩ := below_fun w1
    have fp_0 := fun u => cell7 (heap_of (hF1 u) _ _ _ Rp_1) 0 _ rfl
    have fp_1 := fun u => cell7 (heap_of (hF1 u) _ _ _ Rp_1) 1 _ rfl
    have fp_2 := fun u => cell7 (heap_of (hF1 u) _ _ _ Rp_1) 2 _ rfl
    have fp_3 := fun u => cell7 (heap_of (hF1 u) _ _ _ Rp_1) 3 _ rfl
    have fp_4 := fun u => cell7 (heap_of (hF1 u) _ _ _ Rp_1) 4 _ rfl
    have fp_5 := fun u => cell7 (heap_of (hF1 u) _ _ _ Rp_1) 5 _ rfl
    have fp_6 := fun u => cell7 (heap_of (hF1 u) _ _ _ Rp_1) 6 _ rfl
    have fp_7 := fun u => cell7 (heap_of (hF1 u) _ _ _ Rp_1) 7 _ rfl
    have fp_8 := fun u => cell7 (heap_of (hF1 u) _ _ _ Rp_1) 8 _ rfl
    have fp_9 := fun u => cell7 (heap_of (hF1 u) _ _ _ Rp_1) 9 _ rfl
    have fp_10 := fun u => cell7 (heap_of (hF1 u) _ _ _ Rp_1) 10 _ rfl
    have fp_11 := fun u => cell7 (heap_of (hF1 u) _ _ _ Rp_1) 11 _ rfl
    have fp_12 := fun u => cell7 (heap_of (hF1 u) _ _ _ Rp_1) 12 _ rfl
    have fp_13 := fun u => cell7 (heap_of (hF1 u) _ _ _ Rp_1) 13 _ rfl
    have fz_0 := fun u => cell7 (heap_of (hF1 u) _ _ _ Rz_1) 0 _ rfl
    have fz_1 := fun u => cell7 (heap_of (hF1 u) _ _ _ Rz_1) 1 _ rfl
    have fb_0 := fun u => cell7 (heap_of (hF1 u) _ _ _ Rb_1) 0 _ rfl
    have fb_1 := fun u => cell7 (heap_of (hF1 u) _ _ _ Rb_1) 1 _ rfl
    have TF : Box (∀ u, FAt (F u)) := box (fun u => fatB TT.out (btr7 B1 (hF1 u)))
    refine wp_region_below F hF2 (by kernel_rfl) (by kernel_rfl) ?_
    repeat first | go_big_quiet_step (first | (go_at_call 77; exact quietF hF1 hF2 (K4.out _ (TF.out _))) | fail) | quiet_step (first | (go_at_call 77; exact quietF hF1 hF2 (K4.out _ (TF.out _))) | fail)
    refine wpQuiet_nil ?_
    rintro _ ⟨uW, rfl⟩
    have B2 := btr7 B1 (hF1 uW)
    have Rp_2 := heap_of (hF1 uW) _ _ _ Rp_1
    have Rz_2 := heap_of (hF1 uW) _ _ _ Rz_1
    have Rb_2 := heap_of (hF1 uW) _ _ _ Rb_1
    obtain ⟨w2, hw⟩ : ∃ V, F uW = V := ⟨_, rfl⟩
    rw [hw] at B2 Rp_2 Rz_2 Rb_2
    try rw [hw]
    clear hw hF1 hF2 B1 fp_0 fp_1 fp_2 fp_3 fp_4 fp_5 fp_6 fp_7 fp_8 fp_9 fp_10 fp_11 fp_12 fp_13 fz_0 fz_1 fb_0 fb_1 Rp_1 cp_1_0 cp_1_1 cp_1_2 cp_1_3 cp_1_4 cp_1_5 cp_1_6 cp_1_7 cp_1_8 cp_1_9 cp_1_10 cp_1_11 cp_1_12 cp_1_13 Rz_1 cz_1_0 cz_1_1 Rb_1 cb_1_0 cb_1_1
    clear TF
    clear F
    obtain ⟨cp_2_0, cp_2_1, cp_2_2, cp_2_3, cp_2_4, cp_2_5, cp_2_6, cp_2_7, cp_2_8, cp_2_9, cp_2_10, cp_2_11, cp_2_12, cp_2_13⟩ := pt_cells Rp_2
    obtain ⟨cz_2_0, cz_2_1⟩ := cell7t Rz_2
    obtain ⟨cb_2_0, cb_2_1⟩ := cell7t Rb_2
    have q0 := fz (k := 0) Rz_2
    have q1 := fz (k := 1) Rz_2
    obtain ⟨E0, E1⟩ := set2_cells Rz_2 (.int .u64 0) (.int .u64 0)
    go_wp2
    exact bodyPost_ret (v := .tuple #[.agg #[.int .u64 0, .int .u64 0], .int .i64 80]) (by simp [results, Tryz.results21, go_sem, E0, E1]) rfl ⟨rfl, set2_below B2 (by first | exact Nat.le_refl _ | omega | (have := H1.out; omega)) _ _⟩
  · obtain ⟨rfl, rfl, rfl⟩ := hpk.1 rfl
    clear hpk
    obtain ⟨Rp_0, Rz_0, B0⟩ := kopn2 w (Obj.cells (pt c s X rr) 55) (Obj.cells #[.int .u64 0, .int .u64 0] 25)
    go_enter Tryz.func21, Tryz.ntmps21
    go_wp2_with fail
    refine (K1.out _).mono ?_
    rintro r w' ⟨rfl, hw'⟩
    obtain rfl := hw'.symm
    have sS : Box (∀ W W1 : World, (Below w.heap.size w W ∧ W.heap[w.heap.size]? = some (Obj.cells (pt c s X rr) 55) ∧ W.heap[w.heap.size + 1]? = some (Obj.cells #[.int .u64 0, .int .u64 0] 25) ∧ W.cell? ⟨w.heap.size, 0, none⟩ = some (.int .u8 (c : Nat)) ∧ W.cell? ⟨w.heap.size, 1, none⟩ = some (.int .u64 ((wd s 0 : Nat) : Int)) ∧ W.cell? ⟨w.heap.size, 2, none⟩ = some (.int .u64 ((wd s 1 : Nat) : Int)) ∧ W.cell? ⟨w.heap.size, 3, none⟩ = some (.int .u64 ((wd s 2 : Nat) : Int)) ∧ W.cell? ⟨w.heap.size, 4, none⟩ = some (.int .u64 ((wd s 3 : Nat) : Int)) ∧ W.cell? ⟨w.heap.size, 5, none⟩ = some (.int .u64 ((wd s 4 : Nat) : Int)) ∧ W.cell? ⟨w.heap.size, 6, none⟩ = some (.int .u64 ((wd s 5 : Nat) : Int)) ∧ W.cell? ⟨w.heap.size, 7, none⟩ = some (.int .i64 X) ∧ W.cell? ⟨w.heap.size, 8, none⟩ = some (.int .u64 ((wd rr 0 : Nat) : Int)) ∧ W.cell? ⟨w.heap.size, 9, none⟩ = some (.int .u64 ((wd rr 1 : Nat) : Int)) ∧ W.cell? ⟨w.heap.size, 10, none⟩ = some (.int .u64 ((wd rr 2 : Nat) : Int)) ∧ W.cell? ⟨w.heap.size, 11, none⟩ = some (.int .u64 ((wd rr 3 : Nat) : Int)) ∧ W.cell? ⟨w.heap.size, 12, none⟩ = some (.int .u64 ((wd rr 4 : Nat) : Int)) ∧ W.cell? ⟨w.heap.size, 13, none⟩ = some (.int .u64 ((wd rr 5 : Nat) : Int)) ∧ W.cell? ⟨w.heap.size + 1, 0, none⟩ = some (.int .u64 0) ∧ W.cell? ⟨w.heap.size + 1, 1, none⟩ = some (.int .u64 0)) → Below W.heap.size W W1 → (Below w.heap.size w W1 ∧ W1.heap[w.heap.size]? = some (Obj.cells (pt c s X rr) 55) ∧ W1.heap[w.heap.size + 1]? = some (Obj.cells #[.int .u64 0, .int .u64 0] 25) ∧ W1.cell? ⟨w.heap.size, 0, none⟩ = some (.int .u8 (c : Nat)) ∧ W1.cell? ⟨w.heap.size, 1, none⟩ = some (.int .u64 ((wd s 0 : Nat) : Int)) ∧ W1.cell? ⟨w.heap.size, 2, none⟩ = some (.int .u64 ((wd s 1 : Nat) : Int)) ∧ W1.cell? ⟨w.heap.size, 3, none⟩ = some (.int .u64 ((wd s 2 : Nat) : Int)) ∧ W1.cell? ⟨w.heap.size, 4, none⟩ = some (.int .u64 ((wd s 3 : Nat) : Int)) ∧ W1.cell? ⟨w.heap.size, 5, none⟩ = some (.int .u64 ((wd s 4 : Nat) : Int)) ∧ W1.cell? ⟨w.heap.size, 6, none⟩ = some (.int .u64 ((wd s 5 : Nat) : Int)) ∧ W1.cell? ⟨w.heap.size, 7, none⟩ = some (.int .i64 X) ∧ W1.cell? ⟨w.heap.size, 8, none⟩ = some (.int .u64 ((wd rr 0 : Nat) : Int)) ∧ W1.cell? ⟨w.heap.size, 9, none⟩ = some (.int .u64 ((wd rr 1 : Nat) : Int)) ∧ W1.cell? ⟨w.heap.size, 10, none⟩ = some (.int .u64 ((wd rr 2 : Nat) : Int)) ∧ W1.cell? ⟨w.heap.size, 11, none⟩ = some (.int .u64 ((wd rr 3 : Nat) : Int)) ∧ W1.cell? ⟨w.heap.size, 12, none⟩ = some (.int .u64 ((wd rr 4 : Nat) : Int)) ∧ W1.cell? ⟨w.heap.size, 13, none⟩ = some (.int .u64 ((wd rr 5 : Nat) : Int)) ∧ W1.cell? ⟨w.heap.size + 1, 0, none⟩ = some (.int .u64 0) ∧ W1.cell? ⟨w.heap.size + 1, 1, none⟩ = some (.int .u64 0))) := box (fun W W1 h b => ⟨btr7 h.1 b, heap_of b _ _ _ h.2.1, heap_of b _ _ _ h.2.2.1, cell7 (heap_of b _ _ _ h.2.1) 0 _ rfl, cell7 (heap_of b _ _ _ h.2.1) 1 _ rfl, cell7 (heap_of b _ _ _ h.2.1) 2 _ rfl, cell7 (heap_of b _ _ _ h.2.1) 3 _ rfl, cell7 (heap_of b _ _ _ h.2.1) 4 _ rfl, cell7 (heap_of b _ _ _ h.2.1) 5 _ rfl, cell7 (heap_of b _ _ _ h.2.1) 6 _ rfl, cell7 (heap_of b _ _ _ h.2.1) 7 _ rfl, cell7 (heap_of b _ _ _ h.2.1) 8 _ rfl, cell7 (heap_of b _ _ _ h.2.1) 9 _ rfl, cell7 (heap_of b _ _ _ h.2.1) 10 _ rfl, cell7 (heap_of b _ _ _ h.2.1) 11 _ rfl, cell7 (heap_of b _ _ _ h.2.1) 12 _ rfl, cell7 (heap_of b _ _ _ h.2.1) 13 _ rfl, cell7 (heap_of b _ _ _ h.2.2.1) 0 _ rfl, cell7 (heap_of b _ _ _ h.2.2.1) 1 _ rfl⟩)
    have sL : Box (∀ W : World, (Below w.heap.size w W ∧ W.heap[w.heap.size]? = some (Obj.cells (pt c s X rr) 55) ∧ W.heap[w.heap.size + 1]? = some (Obj.cells #[.int .u64 0, .int .u64 0] 25) ∧ W.cell? ⟨w.heap.size, 0, none⟩ = some (.int .u8 (c : Nat)) ∧ W.cell? ⟨w.heap.size, 1, none⟩ = some (.int .u64 ((wd s 0 : Nat) : Int)) ∧ W.cell? ⟨w.heap.size, 2, none⟩ = some (.int .u64 ((wd s 1 : Nat) : Int)) ∧ W.cell? ⟨w.heap.size, 3, none⟩ = some (.int .u64 ((wd s 2 : Nat) : Int)) ∧ W.cell? ⟨w.heap.size, 4, none⟩ = some (.int .u64 ((wd s 3 : Nat) : Int)) ∧ W.cell? ⟨w.heap.size, 5, none⟩ = some (.int .u64 ((wd s 4 : Nat) : Int)) ∧ W.cell? ⟨w.heap.size, 6, none⟩ = some (.int .u64 ((wd s 5 : Nat) : Int)) ∧ W.cell? ⟨w.heap.size, 7, none⟩ = some (.int .i64 X) ∧ W.cell? ⟨w.heap.size, 8, none⟩ = some (.int .u64 ((wd rr 0 : Nat) : Int)) ∧ W.cell? ⟨w.heap.size, 9, none⟩ = some (.int .u64 ((wd rr 1 : Nat) : Int)) ∧ W.cell? ⟨w.heap.size, 10, none⟩ = some (.int .u64 ((wd rr 2 : Nat) : Int)) ∧ W.cell? ⟨w.heap.size, 11, none⟩ = some (.int .u64 ((wd rr 3 : Nat) : Int)) ∧ W.cell? ⟨w.heap.size, 12, none⟩ = some (.int .u64 ((wd rr 4 : Nat) : Int)) ∧ W.cell? ⟨w.heap.size, 13, none⟩ = some (.int .u64 ((wd rr 5 : Nat) : Int)) ∧ W.cell? ⟨w.heap.size + 1, 0, none⟩ = some (.int .u64 0) ∧ W.cell? ⟨w.heap.size + 1, 1, none⟩ = some (.int .u64 0)) → (w.heap.size < W.heap.size ∧ w.heap.size + 1 < W.heap.size)) := box (fun W h => ⟨(Array.getElem?_eq_some_iff.1 h.2.1).1, (Array.getElem?_eq_some_iff.1 h.2.2.1).1⟩)
    have sT : Box (∀ (W : World) (gN : Nat) (xA xB : Value), (Below w.heap.size w W ∧ W.heap[w.heap.size]? = some (Obj.cells (pt c s X rr) 55) ∧ W.heap[w.heap.size + 1]? = some (Obj.cells #[.int .u64 0, .int .u64 0] 25) ∧ W.cell? ⟨w.heap.size, 0, none⟩ = some (.int .u8 (c : Nat)) ∧ W.cell? ⟨w.heap.size, 1, none⟩ = some (.int .u64 ((wd s 0 : Nat) : Int)) ∧ W.cell? ⟨w.heap.size, 2, none⟩ = some (.int .u64 ((wd s 1 : Nat) : Int)) ∧ W.cell? ⟨w.heap.size, 3, none⟩ = some (.int .u64 ((wd s 2 : Nat) : Int)) ∧ W.cell? ⟨w.heap.size, 4, none⟩ = some (.int .u64 ((wd s 3 : Nat) : Int)) ∧ W.cell? ⟨w.heap.size, 5, none⟩ = some (.int .u64 ((wd s 4 : Nat) : Int)) ∧ W.cell? ⟨w.heap.size, 6, none⟩ = some (.int .u64 ((wd s 5 : Nat) : Int)) ∧ W.cell? ⟨w.heap.size, 7, none⟩ = some (.int .i64 X) ∧ W.cell? ⟨w.heap.size, 8, none⟩ = some (.int .u64 ((wd rr 0 : Nat) : Int)) ∧ W.cell? ⟨w.heap.size, 9, none⟩ = some (.int .u64 ((wd rr 1 : Nat) : Int)) ∧ W.cell? ⟨w.heap.size, 10, none⟩ = some (.int .u64 ((wd rr 2 : Nat) : Int)) ∧ W.cell? ⟨w.heap.size, 11, none⟩ = some (.int .u64 ((wd rr 3 : Nat) : Int)) ∧ W.cell? ⟨w.heap.size, 12, none⟩ = some (.int .u64 ((wd rr 4 : Nat) : Int)) ∧ W.cell? ⟨w.heap.size, 13, none⟩ = some (.int .u64 ((wd rr 5 : Nat) : Int)) ∧ W.cell? ⟨w.heap.size + 1, 0, none⟩ = some (.int .u64 0) ∧ W.cell? ⟨w.heap.size + 1, 1, none⟩ = some (.int .u64 0)) → (w.heap.size < gN ∧ w.heap.size + 1 < gN) → (Below w.heap.size w ((W.setCell ⟨gN, 0, none⟩ xA).setCell ⟨gN, 1, none⟩ xB) ∧ ((W.setCell ⟨gN, 0, none⟩ xA).setCell ⟨gN, 1, none⟩ xB).heap[w.heap.size]? = some (Obj.cells (pt c s X rr) 55) ∧ ((W.setCell ⟨gN, 0, none⟩ xA).setCell ⟨gN, 1, none⟩ xB).heap[w.heap.size + 1]? = some (Obj.cells #[.int .u64 0, .int .u64 0] 25) ∧ ((W.setCell ⟨gN, 0, none⟩ xA).setCell ⟨gN, 1, none⟩ xB).cell? ⟨w.heap.size, 0, none⟩ = some (.int .u8 (c : Nat)) ∧ ((W.setCell ⟨gN, 0, none⟩ xA).setCell ⟨gN, 1, none⟩ xB).cell? ⟨w.heap.size, 1, none⟩ = some (.int .u64 ((wd s 0 : Nat) : Int)) ∧ ((W.setCell ⟨gN, 0, none⟩ xA).setCell ⟨gN, 1, none⟩ xB).cell? ⟨w.heap.size, 2, none⟩ = some (.int .u64 ((wd s 1 : Nat) : Int)) ∧ ((W.setCell ⟨gN, 0, none⟩ xA).setCell ⟨gN, 1, none⟩ xB).cell? ⟨w.heap.size, 3, none⟩ = some (.int .u64 ((wd s 2 : Nat) : Int)) ∧ ((W.setCell ⟨gN, 0, none⟩ xA).setCell ⟨gN, 1, none⟩ xB).cell? ⟨w.heap.size, 4, none⟩ = some (.int .u64 ((wd s 3 : Nat) : Int)) ∧ ((W.setCell ⟨gN, 0, none⟩ xA).setCell ⟨gN, 1, none⟩ xB).cell? ⟨w.heap.size, 5, none⟩ = some (.int .u64 ((wd s 4 : Nat) : Int)) ∧ ((W.setCell ⟨gN, 0, none⟩ xA).setCell ⟨gN, 1, none⟩ xB).cell? ⟨w.heap.size, 6, none⟩ = some (.int .u64 ((wd s 5 : Nat) : Int)) ∧ ((W.setCell ⟨gN, 0, none⟩ xA).setCell ⟨gN, 1, none⟩ xB).cell? ⟨w.heap.size, 7, none⟩ = some (.int .i64 X) ∧ ((W.setCell ⟨gN, 0, none⟩ xA).setCell ⟨gN, 1, none⟩ xB).cell? ⟨w.heap.size, 8, none⟩ = some (.int .u64 ((wd rr 0 : Nat) : Int)) ∧ ((W.setCell ⟨gN, 0, none⟩ xA).setCell ⟨gN, 1, none⟩ xB).cell? ⟨w.heap.size, 9, none⟩ = some (.int .u64 ((wd rr 1 : Nat) : Int)) ∧ ((W.setCell ⟨gN, 0, none⟩ xA).setCell ⟨gN, 1, none⟩ xB).cell? ⟨w.heap.size, 10, none⟩ = some (.int .u64 ((wd rr 2 : Nat) : Int)) ∧ ((W.setCell ⟨gN, 0, none⟩ xA).setCell ⟨gN, 1, none⟩ xB).cell? ⟨w.heap.size, 11, none⟩ = some (.int .u64 ((wd rr 3 : Nat) : Int)) ∧ ((W.setCell ⟨gN, 0, none⟩ xA).setCell ⟨gN, 1, none⟩ xB).cell? ⟨w.heap.size, 12, none⟩ = some (.int .u64 ((wd rr 4 : Nat) : Int)) ∧ ((W.setCell ⟨gN, 0, none⟩ xA).setCell ⟨gN, 1, none⟩ xB).cell? ⟨w.heap.size, 13, none⟩ = some (.int .u64 ((wd rr 5 : Nat) : Int)) ∧ ((W.setCell ⟨gN, 0, none⟩ xA).setCell ⟨gN, 1, none⟩ xB).cell? ⟨w.heap.size + 1, 0, none⟩ = some (.int .u64 0) ∧ ((W.setCell ⟨gN, 0, none⟩ xA).setCell ⟨gN, 1, none⟩ xB).cell? ⟨w.heap.size + 1, 1, none⟩ = some (.int .u64 0))) := box (fun W gN xA xB h l => ⟨set2_below h.1 (show w.heap.size ≤ gN by have := l.1; omega) _ _, (setCell_other (by have := l.1; omega)).trans ((setCell_other (by have := l.1; omega)).trans h.2.1), (setCell_other (by have := l.2; omega)).trans ((setCell_other (by have := l.2; omega)).trans h.2.2.1), cell7 ((setCell_other (by have := l.1; omega)).trans ((setCell_other (by have := l.1; omega)).trans h.2.1)) 0 _ rfl, cell7 ((setCell_other (by have := l.1; omega)).trans ((setCell_other (by have := l.1; omega)).trans h.2.1)) 1 _ rfl, cell7 ((setCell_other (by have := l.1; omega)).trans ((setCell_other (by have := l.1; omega)).trans h.2.1)) 2 _ rfl, cell7 ((setCell_other (by have := l.1; omega)).trans ((setCell_other (by have := l.1; omega)).trans h.2.1)) 3 _ rfl, cell7 ((setCell_other (by have := l.1; omega)).trans ((setCell_other (by have := l.1; omega)).trans h.2.1)) 4 _ rfl, cell7 ((setCell_other (by have := l.1; omega)).trans ((setCell_other (by have := l.1; omega)).trans h.2.1)) 5 _ rfl, cell7 ((setCell_other (by have := l.1; omega)).trans ((setCell_other (by have := l.1; omega)).trans h.2.1)) 6 _ rfl, cell7 ((setCell_other (by have := l.1; omega)).trans ((setCell_other (by have := l.1; omega)).trans h.2.1)) 7 _ rfl, cell7 ((setCell_other (by have := l.1; omega)).trans ((setCell_other (by have := l.1; omega)).trans h.2.1)) 8 _ rfl, cell7 ((setCell_other (by have := l.1; omega)).trans ((setCell_other (by have := l.1; omega)).trans h.2.1)) 9 _ rfl, cell7 ((setCell_other (by have := l.1; omega)).trans ((setCell_other (by have := l.1; omega)).trans h.2.1)) 10 _ rfl, cell7 ((setCell_other (by have := l.1; omega)).trans ((setCell_other (by have := l.1; omega)).trans h.2.1)) 11 _ rfl, cell7 ((setCell_other (by have := l.1; omega)).trans ((setCell_other (by have := l.1; omega)).trans h.2.1)) 12 _ rfl, cell7 ((setCell_other (by have := l.1; omega)).trans ((setCell_other (by have := l.1; omega)).trans h.2.1)) 13 _ rfl, cell7 ((setCell_other (by have := l.2; omega)).trans ((setCell_other (by have := l.2; omega)).trans h.2.2.1)) 0 _ rfl, cell7 ((setCell_other (by have := l.2; omega)).trans ((setCell_other (by have := l.2; omega)).trans h.2.2.1)) 1 _ rfl⟩)
    have s0 : Below w.heap.size w (((w.alloc (Obj.cells (pt c s X rr) 55)).alloc (Obj.cells #[.int .u64 0, .int .u64 0] 25))).drew ∧ (((w.alloc (Obj.cells (pt c s X rr) 55)).alloc (Obj.cells #[.int .u64 0, .int .u64 0] 25))).drew.heap[w.heap.size]? = some (Obj.cells (pt c s X rr) 55) ∧ (((w.alloc (Obj.cells (pt c s X rr) 55)).alloc (Obj.cells #[.int .u64 0, .int .u64 0] 25))).drew.heap[w.heap.size + 1]? = some (Obj.cells #[.int .u64 0, .int .u64 0] 25) ∧ (((w.alloc (Obj.cells (pt c s X rr) 55)).alloc (Obj.cells #[.int .u64 0, .int .u64 0] 25))).drew.cell? ⟨w.heap.size, 0, none⟩ = some (.int .u8 (c : Nat)) ∧ (((w.alloc (Obj.cells (pt c s X rr) 55)).alloc (Obj.cells #[.int .u64 0, .int .u64 0] 25))).drew.cell? ⟨w.heap.size, 1, none⟩ = some (.int .u64 ((wd s 0 : Nat) : Int)) ∧ (((w.alloc (Obj.cells (pt c s X rr) 55)).alloc (Obj.cells #[.int .u64 0, .int .u64 0] 25))).drew.cell? ⟨w.heap.size, 2, none⟩ = some (.int .u64 ((wd s 1 : Nat) : Int)) ∧ (((w.alloc (Obj.cells (pt c s X rr) 55)).alloc (Obj.cells #[.int .u64 0, .int .u64 0] 25))).drew.cell? ⟨w.heap.size, 3, none⟩ = some (.int .u64 ((wd s 2 : Nat) : Int)) ∧ (((w.alloc (Obj.cells (pt c s X rr) 55)).alloc (Obj.cells #[.int .u64 0, .int .u64 0] 25))).drew.cell? ⟨w.heap.size, 4, none⟩ = some (.int .u64 ((wd s 3 : Nat) : Int)) ∧ (((w.alloc (Obj.cells (pt c s X rr) 55)).alloc (Obj.cells #[.int .u64 0, .int .u64 0] 25))).drew.cell? ⟨w.heap.size, 5, none⟩ = some (.int .u64 ((wd s 4 : Nat) : Int)) ∧ (((w.alloc (Obj.cells (pt c s X rr) 55)).alloc (Obj.cells #[.int .u64 0, .int .u64 0] 25))).drew.cell? ⟨w.heap.size, 6, none⟩ = some (.int .u64 ((wd s 5 : Nat) : Int)) ∧ (((w.alloc (Obj.cells (pt c s X rr) 55)).alloc (Obj.cells #[.int .u64 0, .int .u64 0] 25))).drew.cell? ⟨w.heap.size, 7, none⟩ = some (.int .i64 X) ∧ (((w.alloc (Obj.cells (pt c s X rr) 55)).alloc (Obj.cells #[.int .u64 0, .int .u64 0] 25))).drew.cell? ⟨w.heap.size, 8, none⟩ = some (.int .u64 ((wd rr 0 : Nat) : Int)) ∧ (((w.alloc (Obj.cells (pt c s X rr) 55)).alloc (Obj.cells #[.int .u64 0, .int .u64 0] 25))).drew.cell? ⟨w.heap.size, 9, none⟩ = some (.int .u64 ((wd rr 1 : Nat) : Int)) ∧ (((w.alloc (Obj.cells (pt c s X rr) 55)).alloc (Obj.cells #[.int .u64 0, .int .u64 0] 25))).drew.cell? ⟨w.heap.size, 10, none⟩ = some (.int .u64 ((wd rr 2 : Nat) : Int)) ∧ (((w.alloc (Obj.cells (pt c s X rr) 55)).alloc (Obj.cells #[.int .u64 0, .int .u64 0] 25))).drew.cell? ⟨w.heap.size, 11, none⟩ = some (.int .u64 ((wd rr 3 : Nat) : Int)) ∧ (((w.alloc (Obj.cells (pt c s X rr) 55)).alloc (Obj.cells #[.int .u64 0, .int .u64 0] 25))).drew.cell? ⟨w.heap.size, 12, none⟩ = some (.int .u64 ((wd rr 4 : Nat) : Int)) ∧ (((w.alloc (Obj.cells (pt c s X rr) 55)).alloc (Obj.cells #[.int .u64 0, .int .u64 0] 25))).drew.cell? ⟨w.heap.size, 13, none⟩ = some (.int .u64 ((wd rr 5 : Nat) : Int)) ∧ (((w.alloc (Obj.cells (pt c s X rr) 55)).alloc (Obj.cells #[.int .u64 0, .int .u64 0] 25))).drew.cell? ⟨w.heap.size + 1, 0, none⟩ = some (.int .u64 0) ∧ (((w.alloc (Obj.cells (pt c s X rr) 55)).alloc (Obj.cells #[.int .u64 0, .int .u64 0] 25))).drew.cell? ⟨w.heap.size + 1, 1, none⟩ = some (.int .u64 0) := ⟨B0.drew, Rp_0, Rz_0, cell7 (Rp_0) 0 _ rfl, cell7 (Rp_0) 1 _ rfl, cell7 (Rp_0) 2 _ rfl, cell7 (Rp_0) 3 _ rfl, cell7 (Rp_0) 4 _ rfl, cell7 (Rp_0) 5 _ rfl, cell7 (Rp_0) 6 _ rfl, cell7 (Rp_0) 7 _ rfl, cell7 (Rp_0) 8 _ rfl, cell7 (Rp_0) 9 _ rfl, cell7 (Rp_0) 10 _ rfl, cell7 (Rp_0) 11 _ rfl, cell7 (Rp_0) 12 _ rfl, cell7 (Rp_0) 13 _ rfl, cell7 (Rz_0) 0 _ rfl, cell7 (Rz_0) 1 _ rfl⟩
    clear B0 Rp_0 Rz_0
    go_wp2_with fail
    apply cut7
    · intro key0
      have key := box key0
      clear key0
      go_region_held3 (fun W => Below w.heap.size w W ∧ W.heap[w.heap.size]? = some (Obj.cells (pt c s X rr) 55) ∧ W.heap[w.heap.size + 1]? = some (Obj.cells #[.int .u64 0, .int .u64 0] 25) ∧ W.cell? ⟨w.heap.size, 0, none⟩ = some (.int .u8 (c : Nat)) ∧ W.cell? ⟨w.heap.size, 1, none⟩ = some (.int .u64 ((wd s 0 : Nat) : Int)) ∧ W.cell? ⟨w.heap.size, 2, none⟩ = some (.int .u64 ((wd s 1 : Nat) : Int)) ∧ W.cell? ⟨w.heap.size, 3, none⟩ = some (.int .u64 ((wd s 2 : Nat) : Int)) ∧ W.cell? ⟨w.heap.size, 4, none⟩ = some (.int .u64 ((wd s 3 : Nat) : Int)) ∧ W.cell? ⟨w.heap.size, 5, none⟩ = some (.int .u64 ((wd s 4 : Nat) : Int)) ∧ W.cell? ⟨w.heap.size, 6, none⟩ = some (.int .u64 ((wd s 5 : Nat) : Int)) ∧ W.cell? ⟨w.heap.size, 7, none⟩ = some (.int .i64 X) ∧ W.cell? ⟨w.heap.size, 8, none⟩ = some (.int .u64 ((wd rr 0 : Nat) : Int)) ∧ W.cell? ⟨w.heap.size, 9, none⟩ = some (.int .u64 ((wd rr 1 : Nat) : Int)) ∧ W.cell? ⟨w.heap.size, 10, none⟩ = some (.int .u64 ((wd rr 2 : Nat) : Int)) ∧ W.cell? ⟨w.heap.size, 11, none⟩ = some (.int .u64 ((wd rr 3 : Nat) : Int)) ∧ W.cell? ⟨w.heap.size, 12, none⟩ = some (.int .u64 ((wd rr 4 : Nat) : Int)) ∧ W.cell? ⟨w.heap.size, 13, none⟩ = some (.int .u64 ((wd rr 5 : Nat) : Int)) ∧ W.cell? ⟨w.heap.size + 1, 0, none⟩ = some (.int .u64 0) ∧ W.cell? ⟨w.heap.size + 1, 1, none⟩ = some (.int .u64 0)) (first | exact s1 | exact s0 | exact sS.out _ _ s1 (bal7 _ _) | exact sS.out _ _ s0 (bal7 _ _) | exact sT.out _ _ _ _ s1 hl)
        (first | (go_at_call 78; (first | refine (K2.out _ (by first | exact fatB TT.out (And.left s1) | exact fat_al (fatB TT.out (And.left s1)) _)).mono ?_ | refine (K2.out _ (by first | exact fatB TT.out (And.left s0) | exact fat_al (fatB TT.out (And.left s0)) _)).mono ?_); rintro r wq ⟨rfl, bq⟩; (first | (have hg := heap_of bq _ _ _ (heap_alloc_last _ _); have hl := (by first | exact sL.out _ s1 | exact sL.out _ s0)) | have hg := heap_of bq _ _ _ hg | skip); (try simp only [size_dr, size_al] at hg hl); (first | (have hq0 := fz (k := 0) hg; have hq1 := fz (k := 1) hg; have hc0 := cell7 hg 0 _ rfl; have hc1 := cell7 hg 1 _ rfl) | skip); have s2 := (by first | exact sS.out _ _ s1 bq | exact sS.out _ _ s0 bq | exact sS.out _ _ (sS.out _ _ s1 (bal7 _ _)) bq | exact sS.out _ _ (sS.out _ _ s0 (bal7 _ _)) bq); (try clear s1); have s1 := s2; clear s2 bq) | (go_at_call 53; (first | refine (K3.out _ (by first | exact fatB TT.out (And.left s1) | exact fat_al (fatB TT.out (And.left s1)) _)).mono ?_ | refine (K3.out _ (by first | exact fatB TT.out (And.left s0) | exact fat_al (fatB TT.out (And.left s0)) _)).mono ?_); rintro r wq ⟨rfl, bq⟩; (first | (have hg := heap_of bq _ _ _ (heap_alloc_last _ _); have hl := (by first | exact sL.out _ s1 | exact sL.out _ s0)) | have hg := heap_of bq _ _ _ hg | skip); (try simp only [size_dr, size_al] at hg hl); (first | (have hq0 := fz (k := 0) hg; have hq1 := fz (k := 1) hg; have hc0 := cell7 hg 0 _ rfl; have hc1 := cell7 hg 1 _ rfl) | skip); have s2 := (by first | exact sS.out _ _ s1 bq | exact sS.out _ _ s0 bq | exact sS.out _ _ (sS.out _ _ s1 (bal7 _ _)) bq | exact sS.out _ _ (sS.out _ _ s0 (bal7 _ _)) bq); (try clear s1); have s1 := s2; clear s2 bq) | fail)
      all_goals
        refine gen_kind_Pack_7 (R := fun W gN => (Below w.heap.size w W ∧ W.heap[w.heap.size]? = some (Obj.cells (pt c s X rr) 55) ∧ W.heap[w.heap.size + 1]? = some (Obj.cells #[.int .u64 0, .int .u64 0] 25) ∧ W.cell? ⟨w.heap.size, 0, none⟩ = some (.int .u8 (c : Nat)) ∧ W.cell? ⟨w.heap.size, 1, none⟩ = some (.int .u64 ((wd s 0 : Nat) : Int)) ∧ W.cell? ⟨w.heap.size, 2, none⟩ = some (.int .u64 ((wd s 1 : Nat) : Int)) ∧ W.cell? ⟨w.heap.size, 3, none⟩ = some (.int .u64 ((wd s 2 : Nat) : Int)) ∧ W.cell? ⟨w.heap.size, 4, none⟩ = some (.int .u64 ((wd s 3 : Nat) : Int)) ∧ W.cell? ⟨w.heap.size, 5, none⟩ = some (.int .u64 ((wd s 4 : Nat) : Int)) ∧ W.cell? ⟨w.heap.size, 6, none⟩ = some (.int .u64 ((wd s 5 : Nat) : Int)) ∧ W.cell? ⟨w.heap.size, 7, none⟩ = some (.int .i64 X) ∧ W.cell? ⟨w.heap.size, 8, none⟩ = some (.int .u64 ((wd rr 0 : Nat) : Int)) ∧ W.cell? ⟨w.heap.size, 9, none⟩ = some (.int .u64 ((wd rr 1 : Nat) : Int)) ∧ W.cell? ⟨w.heap.size, 10, none⟩ = some (.int .u64 ((wd rr 2 : Nat) : Int)) ∧ W.cell? ⟨w.heap.size, 11, none⟩ = some (.int .u64 ((wd rr 3 : Nat) : Int)) ∧ W.cell? ⟨w.heap.size, 12, none⟩ = some (.int .u64 ((wd rr 4 : Nat) : Int)) ∧ W.cell? ⟨w.heap.size, 13, none⟩ = some (.int .u64 ((wd rr 5 : Nat) : Int)) ∧ W.cell? ⟨w.heap.size + 1, 0, none⟩ = some (.int .u64 0) ∧ W.cell? ⟨w.heap.size + 1, 1, none⟩ = some (.int .u64 0)) ∧ W.heap[gN]? = some (Obj.cells #[.int .u64 (u : Nat), .int .u64 (v : Nat)] 25) ∧ (w.heap.size < gN ∧ w.heap.size + 1 < gN)) key.out ?_
        first
          | exact ⟨sS.out _ _ s1 (bal7 _ _), heap_alloc_last _ _, sL.out _ s1⟩
          | exact ⟨sS.out _ _ s0 (bal7 _ _), heap_alloc_last _ _, sL.out _ s0⟩
          | exact ⟨(sT.out _ _ _ _ s1 hl), set2_row hg _ _, hl⟩
    rintro w1 g1 ⟨s1, Rb_1, l1⟩
    have B1 := And.left s1
    have Rp_1 := s1.2.1
    have Rz_1 := s1.2.2.1
    have H1 := box l1
    clear s0 s1 sS sL sT l1
    obtain ⟨cp_1_0, cp_1_1, cp_1_2, cp_1_3, cp_1_4, cp_1_5, cp_1_6, cp_1_7, cp_1_8, cp_1_9, cp_1_10, cp_1_11, cp_1_12, cp_1_13⟩ := pt_cells Rp_1
    obtain ⟨cz_1_0, cz_1_1⟩ := cell7t Rz_1
    obtain ⟨cb_1_0, cb_1_1⟩ := cell7t Rb_1
    go_wp2_with fail
    obtain ⟨F, hF1, hF2⟩ := below_fun w1
    have fp_0 := fun u => cell7 (heap_of (hF1 u) _ _ _ Rp_1) 0 _ rfl
    have fp_1 := fun u => cell7 (heap_of (hF1 u) _ _ _ Rp_1) 1 _ rfl
    have fp_2 := fun u => cell7 (heap_of (hF1 u) _ _ _ Rp_1) 2 _ rfl
    have fp_3 := fun u => cell7 (heap_of (hF1 u) _ _ _ Rp_1) 3 _ rfl
    have fp_4 := fun u => cell7 (heap_of (hF1 u) _ _ _ Rp_1) 4 _ rfl
    have fp_5 := fun u => cell7 (heap_of (hF1 u) _ _ _ Rp_1) 5 _ rfl
    have fp_6 := fun u => cell7 (heap_of (hF1 u) _ _ _ Rp_1) 6 _ rfl
    have fp_7 := fun u => cell7 (heap_of (hF1 u) _ _ _ Rp_1) 7 _ rfl
    have fp_8 := fun u => cell7 (heap_of (hF1 u) _ _ _ Rp_1) 8 _ rfl
    have fp_9 := fun u => cell7 (heap_of (hF1 u) _ _ _ Rp_1) 9 _ rfl
    have fp_10 := fun u => cell7 (heap_of (hF1 u) _ _ _ Rp_1) 10 _ rfl
    have fp_11 := fun u => cell7 (heap_of (hF1 u) _ _ _ Rp_1) 11 _ rfl
    have fp_12 := fun u => cell7 (heap_of (hF1 u) _ _ _ Rp_1) 12 _ rfl
    have fp_13 := fun u => cell7 (heap_of (hF1 u) _ _ _ Rp_1) 13 _ rfl
    have fz_0 := fun u => cell7 (heap_of (hF1 u) _ _ _ Rz_1) 0 _ rfl
    have fz_1 := fun u => cell7 (heap_of (hF1 u) _ _ _ Rz_1) 1 _ rfl
    have fb_0 := fun u => cell7 (heap_of (hF1 u) _ _ _ Rb_1) 0 _ rfl
    have fb_1 := fun u => cell7 (heap_of (hF1 u) _ _ _ Rb_1) 1 _ rfl
    have TF : Box (∀ u, FAt (F u)) := box (fun u => fatB TT.out (btr7 B1 (hF1 u)))
    refine wp_region_below F hF2 (by kernel_rfl) (by kernel_rfl) ?_
    repeat first | go_big_quiet_step (first | (go_at_call 77; exact quietF hF1 hF2 (K4.out _ (TF.out _))) | fail) | quiet_step (first | (go_at_call 77; exact quietF hF1 hF2 (K4.out _ (TF.out _))) | fail)
    refine wpQuiet_nil ?_
    rintro _ ⟨uW, rfl⟩
    have B2 := btr7 B1 (hF1 uW)
    have Rp_2 := heap_of (hF1 uW) _ _ _ Rp_1
    have Rz_2 := heap_of (hF1 uW) _ _ _ Rz_1
    have Rb_2 := heap_of (hF1 uW) _ _ _ Rb_1
    obtain ⟨w2, hw⟩ : ∃ V, F uW = V := ⟨_, rfl⟩
    rw [hw] at B2 Rp_2 Rz_2 Rb_2
    try rw [hw]
    clear hw hF1 hF2 B1 fp_0 fp_1 fp_2 fp_3 fp_4 fp_5 fp_6 fp_7 fp_8 fp_9 fp_10 fp_11 fp_12 fp_13 fz_0 fz_1 fb_0 fb_1 Rp_1 cp_1_0 cp_1_1 cp_1_2 cp_1_3 cp_1_4 cp_1_5 cp_1_6 cp_1_7 cp_1_8 cp_1_9 cp_1_10 cp_1_11 cp_1_12 cp_1_13 Rz_1 cz_1_0 cz_1_1 Rb_1 cb_1_0 cb_1_1
    clear TF
    clear F
    obtain ⟨cp_2_0, cp_2_1, cp_2_2, cp_2_3, cp_2_4, cp_2_5, cp_2_6, cp_2_7, cp_2_8, cp_2_9, cp_2_10, cp_2_11, cp_2_12, cp_2_13⟩ := pt_cells Rp_2
    obtain ⟨cz_2_0, cz_2_1⟩ := cell7t Rz_2
    obtain ⟨cb_2_0, cb_2_1⟩ := cell7t Rb_2
    have q0 := fz (k := 0) Rz_2
    have q1 := fz (k := 1) Rz_2
    obtain ⟨E0, E1⟩ := set2_cells Rz_2 (.int .u64 (u : Nat)) (.int .u64 (v : Nat))
    go_wp2
    exact bodyPost_ret (v := .tuple #[.agg #[.int .u64 (u : Nat), .int .u64 (v : Nat)], .int .i64 0]) (by simp [results, Tryz.results21, go_sem, E0, E1]) rfl ⟨rfl, set2_below B2 (by first | exact Nat.le_refl _ | omega | (have := H1.out; omega)) _ _⟩
end Go.Proofs.YtkmlbjlaahcahaaGreatDoor
namespace Go.Proofs.YtkmlbjlaahcahaaGreatDoor
set_option maxRecDepth 100000
open Go.RowKit WMath
set_option linter.unusedSimpArgs false
set_option linter.unusedVariables false

theorem em_lim {f : Int} (hf : Is4 f) : IntKind.i64.wrap (1 - fE f - fP f) = 1 - fE f - fP f ∧ IntKind.i64.wrap (1 - fE f - fP f + 1) = lx f ∧ IntKind.i64.wrap (fE f - fP f) = fE f - fP f ∧ IntKind.i64.wrap (fE f - fP f + 1) = fE f - (pV f : Int) ∧ (if fC f = 0 then 1 - fE f else 0) = 1 - fE f ∧ 2 * fE f + 1 = (oV f : Int) ∧ 0 ≤ fE f ∧ fE f ≤ 16383 ∧ fP f = (pV f : Int) + 1 ∧ lx f = 1 - fE f - fP f + 1 ∧ pV f < 128 ∧ -16494 ≤ lx f ∧ lx f ≤ 0 := by
  rcases hf with rfl | rfl | rfl | rfl <;> decide +kernel
end Go.Proofs.YtkmlbjlaahcahaaGreatDoor
