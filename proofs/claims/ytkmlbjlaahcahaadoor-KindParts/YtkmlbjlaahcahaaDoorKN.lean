/-
  The document's Unpack and Pack, whole.
-/
import Derived.Test.YtkmlbjlaahcahaaDoorKM
namespace Go.Proofs.YtkmlbjlaahcahaaDoor
open Go.RowKit WMath
set_option linter.unusedSimpArgs false
set_option linter.unusedVariables false

set_option maxRecDepth 100000 in
set_option maxHeartbeats 2000000 in
theorem rpack_xn (f q X : Int) (c s rr : Nat) (l : Nat) (k : Int) (w : World)
    (KP : Box (∀ w, Calls Tryd.prog 20 #[.int .u8 f] w fun r w' => r = .returned (.int .i64 q) ∧ w' = w))
    (KN : Box (∀ w, Calls Tryd.prog 31 #[.agg (cw 6 rr)] w fun r w' => r = .returned (.int .i64 (l : Nat)) ∧ Below w.heap.size w w')) (h1 : IntKind.i64.wrap (q - 1) = k)
    (hl : decide (k < (l : Int)) = true)
    (hc : c = 8 ∨ c = 9) : Calls Tryd.prog 12 #[.int .u8 f, .agg (pt c s X rr)] w fun r w' => r = .returned (.tuple #[.agg #[.int .u64 0, .int .u64 0], .int .i64 80]) ∧ Below w.heap.size w w' := by
  have hat := cw_at 6
  have hz := cw6z
  have hff := cw6f
  have hs0 := st0
  have hcs : ∀ x, ((cw 6 x).size = 6) = True := fun x => eq_true (cw_size 6 x)
  have hp1 := ptf
  have hp3 := ptz
  have hp4 := st_p0
  have hp5 : ∀ (c s : Nat) (x : Int) (r : Nat), ((pt c s x r).size = 14) = True := fun _ _ _ _ => eq_true rfl
  have heq := eqp
  have hg := eqgp
  have ha0 := pt_at0
  have ha1 := pt_at1
  have ha2 := pt_at2
  have ha3 := pt_at3
  have ha4 := pt_at4
  have ha5 := pt_at5
  have ha6 := pt_at6
  have ha7 := pt_at7
  have ha8 := pt_at8
  have ha9 := pt_at9
  have ha10 := pt_at10
  have ha11 := pt_at11
  have ha12 := pt_at12
  have ha13 := pt_at13
  have hb0 := pt_q0
  have hb1 := pt_q1
  have hb2 := pt_q2
  have hb3 := pt_q3
  have hb4 := pt_q4
  have hb5 := pt_q5
  have hb6 := pt_q6
  have hb7 := pt_q7
  have hb8 := pt_q8
  have hb9 := pt_q9
  have hb10 := pt_q10
  have hb11 := pt_q11
  have hb12 := pt_q12
  have hb13 := pt_q13
  rcases hc with hc | hc
  · have f0 : ((c : Int) == 0) = false := by rw [hc]; rfl
    have f7 : ((c : Int) == 7) = false := by rw [hc]; rfl
    have f3 : ((c : Int) == 3) = false := by rw [hc]; rfl
    have f4 : ((c : Int) == 4) = false := by rw [hc]; rfl
    have f8 : ((c : Int) == 8) = true := by rw [hc]; rfl
    clear hc
    obtain ⟨Rp_0, Rz_0, Rb_0, B0⟩ := kopn3 w (Obj.cells (pt c s X rr) 30) (Obj.cells #[.int .u64 0, .int .u64 0] 25) (Obj.cells #[.int .u64 0, .int .u64 0] 25)
    go_enter Tryd.func12, Tryd.ntmps12
    go_wp2_with fail
    refine (KP.out _).mono ?_
    rintro r w' ⟨rfl, hw'⟩
    obtain rfl := hw'.symm
    go_wp2_with fail
    refine (KN.out _).mono ?_
    rintro r w1 ⟨rfl, b1⟩
    have B1 : Below w.heap.size w w1 := btr7 B0 b1
    have Rp_1 := heap_of b1 _ _ _ Rp_0
    have Rz_1 := heap_of b1 _ _ _ Rz_0
    have Rb_1 := heap_of b1 _ _ _ Rb_0
    clear b1 B0 Rp_0 Rz_0 Rb_0
    obtain ⟨cp_1_0, cp_1_1, cp_1_2, cp_1_3, cp_1_4, cp_1_5, cp_1_6, cp_1_7, cp_1_8, cp_1_9, cp_1_10, cp_1_11, cp_1_12, cp_1_13⟩ := pt_cells Rp_1
    obtain ⟨cz_1_0, cz_1_1⟩ := cell7t Rz_1
    obtain ⟨cb_1_0, cb_1_1⟩ := cell7t Rb_1
    have q0 := fz (k := 0) Rz_1
    have q1 := fz (k := 1) Rz_1
    obtain ⟨E0, E1⟩ := set2_cells Rz_1 (.int .u64 0) (.int .u64 0)
    go_wp2
    exact bodyPost_ret (v := .tuple #[.agg #[.int .u64 0, .int .u64 0], .int .i64 80]) (by simp [results, Tryd.results12, go_sem, E0, E1]) rfl ⟨rfl, set2_below B1 (by first | exact Nat.le_refl _ | omega | (skip; omega)) _ _⟩
  · have f0 : ((c : Int) == 0) = false := by rw [hc]; rfl
    have f7 : ((c : Int) == 7) = false := by rw [hc]; rfl
    have f3 : ((c : Int) == 3) = false := by rw [hc]; rfl
    have f4 : ((c : Int) == 4) = false := by rw [hc]; rfl
    have f8 : ((c : Int) == 8) = false := by rw [hc]; rfl
    have f9 : ((c : Int) == 9) = true := by rw [hc]; rfl
    clear hc
    obtain ⟨Rp_0, Rz_0, Rb_0, B0⟩ := kopn3 w (Obj.cells (pt c s X rr) 30) (Obj.cells #[.int .u64 0, .int .u64 0] 25) (Obj.cells #[.int .u64 0, .int .u64 0] 25)
    go_enter Tryd.func12, Tryd.ntmps12
    go_wp2_with fail
    refine (KP.out _).mono ?_
    rintro r w' ⟨rfl, hw'⟩
    obtain rfl := hw'.symm
    go_wp2_with fail
    refine (KN.out _).mono ?_
    rintro r w1 ⟨rfl, b1⟩
    have B1 : Below w.heap.size w w1 := btr7 B0 b1
    have Rp_1 := heap_of b1 _ _ _ Rp_0
    have Rz_1 := heap_of b1 _ _ _ Rz_0
    have Rb_1 := heap_of b1 _ _ _ Rb_0
    clear b1 B0 Rp_0 Rz_0 Rb_0
    obtain ⟨cp_1_0, cp_1_1, cp_1_2, cp_1_3, cp_1_4, cp_1_5, cp_1_6, cp_1_7, cp_1_8, cp_1_9, cp_1_10, cp_1_11, cp_1_12, cp_1_13⟩ := pt_cells Rp_1
    obtain ⟨cz_1_0, cz_1_1⟩ := cell7t Rz_1
    obtain ⟨cb_1_0, cb_1_1⟩ := cell7t Rb_1
    have q0 := fz (k := 0) Rz_1
    have q1 := fz (k := 1) Rz_1
    obtain ⟨E0, E1⟩ := set2_cells Rz_1 (.int .u64 0) (.int .u64 0)
    go_wp2
    exact bodyPost_ret (v := .tuple #[.agg #[.int .u64 0, .int .u64 0], .int .i64 80]) (by simp [results, Tryd.results12, go_sem, E0, E1]) rfl ⟨rfl, set2_below B1 (by first | exact Nat.le_refl _ | omega | (skip; omega)) _ _⟩
set_option maxRecDepth 100000 in
set_option maxHeartbeats 2000000 in
theorem rpack_xs (f q X : Int) (c s rr : Nat) (l : Nat) (k : Int) (w : World)
    (KP : Box (∀ w, Calls Tryd.prog 20 #[.int .u8 f] w fun r w' => r = .returned (.int .i64 q) ∧ w' = w))
    (KN : Box (∀ w, Calls Tryd.prog 31 #[.agg (cw 6 s)] w fun r w' => r = .returned (.int .i64 (l : Nat)) ∧ Below w.heap.size w w')) (h1 : IntKind.i64.wrap (q - 1) = k)
    (hl : decide (k < (l : Int)) = true)
    (hc : c = 2 ∨ c = 5) : Calls Tryd.prog 12 #[.int .u8 f, .agg (pt c s X rr)] w fun r w' => r = .returned (.tuple #[.agg #[.int .u64 0, .int .u64 0], .int .i64 80]) ∧ Below w.heap.size w w' := by
  have hat := cw_at 6
  have hz := cw6z
  have hff := cw6f
  have hs0 := st0
  have hcs : ∀ x, ((cw 6 x).size = 6) = True := fun x => eq_true (cw_size 6 x)
  have hp1 := ptf
  have hp3 := ptz
  have hp4 := st_p0
  have hp5 : ∀ (c s : Nat) (x : Int) (r : Nat), ((pt c s x r).size = 14) = True := fun _ _ _ _ => eq_true rfl
  have heq := eqp
  have hg := eqgp
  have ha0 := pt_at0
  have ha1 := pt_at1
  have ha2 := pt_at2
  have ha3 := pt_at3
  have ha4 := pt_at4
  have ha5 := pt_at5
  have ha6 := pt_at6
  have ha7 := pt_at7
  have ha8 := pt_at8
  have ha9 := pt_at9
  have ha10 := pt_at10
  have ha11 := pt_at11
  have ha12 := pt_at12
  have ha13 := pt_at13
  have hb0 := pt_q0
  have hb1 := pt_q1
  have hb2 := pt_q2
  have hb3 := pt_q3
  have hb4 := pt_q4
  have hb5 := pt_q5
  have hb6 := pt_q6
  have hb7 := pt_q7
  have hb8 := pt_q8
  have hb9 := pt_q9
  have hb10 := pt_q10
  have hb11 := pt_q11
  have hb12 := pt_q12
  have hb13 := pt_q13
  rcases hc with hc | hc
  · have f0 : ((c : Int) == 0) = false := by rw [hc]; rfl
    have f7 : ((c : Int) == 7) = false := by rw [hc]; rfl
    have f3 : ((c : Int) == 3) = false := by rw [hc]; rfl
    have f4 : ((c : Int) == 4) = false := by rw [hc]; rfl
    have f8 : ((c : Int) == 8) = false := by rw [hc]; rfl
    have f9 : ((c : Int) == 9) = false := by rw [hc]; rfl
    have f2 : ((c : Int) == 2) = true := by rw [hc]; rfl
    clear hc
    obtain ⟨Rp_0, Rz_0, Rb_0, B0⟩ := kopn3 w (Obj.cells (pt c s X rr) 30) (Obj.cells #[.int .u64 0, .int .u64 0] 25) (Obj.cells #[.int .u64 0, .int .u64 0] 25)
    go_enter Tryd.func12, Tryd.ntmps12
    go_wp2_with fail
    refine (KP.out _).mono ?_
    rintro r w' ⟨rfl, hw'⟩
    obtain rfl := hw'.symm
    go_wp2_with fail
    refine (KN.out _).mono ?_
    rintro r w1 ⟨rfl, b1⟩
    have B1 : Below w.heap.size w w1 := btr7 B0 b1
    have Rp_1 := heap_of b1 _ _ _ Rp_0
    have Rz_1 := heap_of b1 _ _ _ Rz_0
    have Rb_1 := heap_of b1 _ _ _ Rb_0
    clear b1 B0 Rp_0 Rz_0 Rb_0
    obtain ⟨cp_1_0, cp_1_1, cp_1_2, cp_1_3, cp_1_4, cp_1_5, cp_1_6, cp_1_7, cp_1_8, cp_1_9, cp_1_10, cp_1_11, cp_1_12, cp_1_13⟩ := pt_cells Rp_1
    obtain ⟨cz_1_0, cz_1_1⟩ := cell7t Rz_1
    obtain ⟨cb_1_0, cb_1_1⟩ := cell7t Rb_1
    have q0 := fz (k := 0) Rz_1
    have q1 := fz (k := 1) Rz_1
    obtain ⟨E0, E1⟩ := set2_cells Rz_1 (.int .u64 0) (.int .u64 0)
    go_wp2
    exact bodyPost_ret (v := .tuple #[.agg #[.int .u64 0, .int .u64 0], .int .i64 80]) (by simp [results, Tryd.results12, go_sem, E0, E1]) rfl ⟨rfl, set2_below B1 (by first | exact Nat.le_refl _ | omega | (skip; omega)) _ _⟩
  · have f0 : ((c : Int) == 0) = false := by rw [hc]; rfl
    have f7 : ((c : Int) == 7) = false := by rw [hc]; rfl
    have f3 : ((c : Int) == 3) = false := by rw [hc]; rfl
    have f4 : ((c : Int) == 4) = false := by rw [hc]; rfl
    have f8 : ((c : Int) == 8) = false := by rw [hc]; rfl
    have f9 : ((c : Int) == 9) = false := by rw [hc]; rfl
    have f2 : ((c : Int) == 2) = false := by rw [hc]; rfl
    have f5 : ((c : Int) == 5) = true := by rw [hc]; rfl
    clear hc
    obtain ⟨Rp_0, Rz_0, Rb_0, B0⟩ := kopn3 w (Obj.cells (pt c s X rr) 30) (Obj.cells #[.int .u64 0, .int .u64 0] 25) (Obj.cells #[.int .u64 0, .int .u64 0] 25)
    go_enter Tryd.func12, Tryd.ntmps12
    go_wp2_with fail
    refine (KP.out _).mono ?_
    rintro r w' ⟨rfl, hw'⟩
    obtain rfl := hw'.symm
    go_wp2_with fail
    refine (KN.out _).mono ?_
    rintro r w1 ⟨rfl, b1⟩
    have B1 : Below w.heap.size w w1 := btr7 B0 b1
    have Rp_1 := heap_of b1 _ _ _ Rp_0
    have Rz_1 := heap_of b1 _ _ _ Rz_0
    have Rb_1 := heap_of b1 _ _ _ Rb_0
    clear b1 B0 Rp_0 Rz_0 Rb_0
    obtain ⟨cp_1_0, cp_1_1, cp_1_2, cp_1_3, cp_1_4, cp_1_5, cp_1_6, cp_1_7, cp_1_8, cp_1_9, cp_1_10, cp_1_11, cp_1_12, cp_1_13⟩ := pt_cells Rp_1
    obtain ⟨cz_1_0, cz_1_1⟩ := cell7t Rz_1
    obtain ⟨cb_1_0, cb_1_1⟩ := cell7t Rb_1
    have q0 := fz (k := 0) Rz_1
    have q1 := fz (k := 1) Rz_1
    obtain ⟨E0, E1⟩ := set2_cells Rz_1 (.int .u64 0) (.int .u64 0)
    go_wp2
    exact bodyPost_ret (v := .tuple #[.agg #[.int .u64 0, .int .u64 0], .int .i64 80]) (by simp [results, Tryd.results12, go_sem, E0, E1]) rfl ⟨rfl, set2_below B1 (by first | exact Nat.le_refl _ | omega | (skip; omega)) _ _⟩
set_option maxRecDepth 100000 in
set_option maxHeartbeats 2000000 in
theorem rpack_xm (f q X : Int) (c s rr : Nat) (l : Nat) (k m M L M2 : Int) (w : World)
    (KP : Box (∀ w, Calls Tryd.prog 20 #[.int .u8 f] w fun r w' => r = .returned (.int .i64 q) ∧ w' = w))
    (KN : Box (∀ w, Calls Tryd.prog 31 #[.agg (cw 6 s)] w fun r w' => r = .returned (.int .i64 (l : Nat)) ∧ Below w.heap.size w w')) (h1 : IntKind.i64.wrap (q - 1) = k)
    (KE : Box (∀ w, Calls Tryd.prog 21 #[.int .u8 f] w fun r w' => r = .returned (.int .i64 m) ∧ w' = w)) (h2 : IntKind.i64.wrap (m - q) = m - q) (h3 : IntKind.i64.wrap (m - q + 1) = L)
    (KX : Box (∀ w, Calls Tryd.prog 25 #[.int .u8 f] w fun r w' => r = .returned (.int .i64 M) ∧ w' = w)) (h4 : IntKind.i64.wrap (M - q) = M - q) (h5 : IntKind.i64.wrap (M - q + 1) = M2)
    (hw : ((l : Int) != q) = true ∨ (((l : Int) != q) = false ∧ decide (X < L) = true) ∨ (((l : Int) != q) = false ∧ decide (X < L) = false ∧ decide (M2 < X) = true))
    (hc : c = 1 ∨ c = 6) : Calls Tryd.prog 12 #[.int .u8 f, .agg (pt c s X rr)] w fun r w' => r = .returned (.tuple #[.agg #[.int .u64 0, .int .u64 0], .int .i64 80]) ∧ Below w.heap.size w w' := by
  have hat := cw_at 6
  have hz := cw6z
  have hff := cw6f
  have hs0 := st0
  have hcs : ∀ x, ((cw 6 x).size = 6) = True := fun x => eq_true (cw_size 6 x)
  have hp1 := ptf
  have hp3 := ptz
  have hp4 := st_p0
  have hp5 : ∀ (c s : Nat) (x : Int) (r : Nat), ((pt c s x r).size = 14) = True := fun _ _ _ _ => eq_true rfl
  have heq := eqp
  have hg := eqgp
  have ha0 := pt_at0
  have ha1 := pt_at1
  have ha2 := pt_at2
  have ha3 := pt_at3
  have ha4 := pt_at4
  have ha5 := pt_at5
  have ha6 := pt_at6
  have ha7 := pt_at7
  have ha8 := pt_at8
  have ha9 := pt_at9
  have ha10 := pt_at10
  have ha11 := pt_at11
  have ha12 := pt_at12
  have ha13 := pt_at13
  have hb0 := pt_q0
  have hb1 := pt_q1
  have hb2 := pt_q2
  have hb3 := pt_q3
  have hb4 := pt_q4
  have hb5 := pt_q5
  have hb6 := pt_q6
  have hb7 := pt_q7
  have hb8 := pt_q8
  have hb9 := pt_q9
  have hb10 := pt_q10
  have hb11 := pt_q11
  have hb12 := pt_q12
  have hb13 := pt_q13
  rcases hc with hc | hc
  · have f0 : ((c : Int) == 0) = false := by rw [hc]; rfl
    have f7 : ((c : Int) == 7) = false := by rw [hc]; rfl
    have f3 : ((c : Int) == 3) = false := by rw [hc]; rfl
    have f4 : ((c : Int) == 4) = false := by rw [hc]; rfl
    have f8 : ((c : Int) == 8) = false := by rw [hc]; rfl
    have f9 : ((c : Int) == 9) = false := by rw [hc]; rfl
    have f2 : ((c : Int) == 2) = false := by rw [hc]; rfl
    have f5 : ((c : Int) == 5) = false := by rw [hc]; rfl
    have f1 : ((c : Int) == 1) = true := by rw [hc]; rfl
    clear hc
    rcases hw with c1 | ⟨c1, c2⟩ | ⟨c1, c2, c3⟩
    · obtain ⟨Rp_0, Rz_0, Rb_0, B0⟩ := kopn3 w (Obj.cells (pt c s X rr) 30) (Obj.cells #[.int .u64 0, .int .u64 0] 25) (Obj.cells #[.int .u64 0, .int .u64 0] 25)
      go_enter Tryd.func12, Tryd.ntmps12
      go_wp2_with fail
      refine (KP.out _).mono ?_
      rintro r w' ⟨rfl, hw'⟩
      obtain rfl := hw'.symm
      go_wp2_with fail
      refine (KE.out _).mono ?_
      rintro r w' ⟨rfl, hw'⟩
      obtain rfl := hw'.symm
      go_wp2_with fail
      obtain ⟨F, hF1, hF2⟩ := below_fun (((w.alloc (Obj.cells (pt c s X rr) 30)).alloc (Obj.cells #[.int .u64 0, .int .u64 0] 25)).alloc (Obj.cells #[.int .u64 0, .int .u64 0] 25))
      have fp_0 := fun u => cell7 (heap_of (hF1 u) _ _ _ Rp_0) 0 _ rfl
      have fp_1 := fun u => cell7 (heap_of (hF1 u) _ _ _ Rp_0) 1 _ rfl
      have fp_2 := fun u => cell7 (heap_of (hF1 u) _ _ _ Rp_0) 2 _ rfl
      have fp_3 := fun u => cell7 (heap_of (hF1 u) _ _ _ Rp_0) 3 _ rfl
      have fp_4 := fun u => cell7 (heap_of (hF1 u) _ _ _ Rp_0) 4 _ rfl
      have fp_5 := fun u => cell7 (heap_of (hF1 u) _ _ _ Rp_0) 5 _ rfl
      have fp_6 := fun u => cell7 (heap_of (hF1 u) _ _ _ Rp_0) 6 _ rfl
      have fp_7 := fun u => cell7 (heap_of (hF1 u) _ _ _ Rp_0) 7 _ rfl
      have fp_8 := fun u => cell7 (heap_of (hF1 u) _ _ _ Rp_0) 8 _ rfl
      have fp_9 := fun u => cell7 (heap_of (hF1 u) _ _ _ Rp_0) 9 _ rfl
      have fp_10 := fun u => cell7 (heap_of (hF1 u) _ _ _ Rp_0) 10 _ rfl
      have fp_11 := fun u => cell7 (heap_of (hF1 u) _ _ _ Rp_0) 11 _ rfl
      have fp_12 := fun u => cell7 (heap_of (hF1 u) _ _ _ Rp_0) 12 _ rfl
      have fp_13 := fun u => cell7 (heap_of (hF1 u) _ _ _ Rp_0) 13 _ rfl
      have fz_0 := fun u => cell7 (heap_of (hF1 u) _ _ _ Rz_0) 0 _ rfl
      have fz_1 := fun u => cell7 (heap_of (hF1 u) _ _ _ Rz_0) 1 _ rfl
      have fb_0 := fun u => cell7 (heap_of (hF1 u) _ _ _ Rb_0) 0 _ rfl
      have fb_1 := fun u => cell7 (heap_of (hF1 u) _ _ _ Rb_0) 1 _ rfl
      refine wp_region_below F hF2 (by kernel_rfl) (by kernel_rfl) ?_
      repeat first | go_big_quiet_step (first | (go_at_call 31; exact quietF hF1 hF2 (KN.out _)) | (go_at_call 25; exact quietF0 (KX.out _)) | fail) | quiet_step (first | (go_at_call 31; exact quietF hF1 hF2 (KN.out _)) | (go_at_call 25; exact quietF0 (KX.out _)) | fail)
      refine wpQuiet_nil ?_
      rintro _ ⟨uW, rfl⟩
      have B1 := btr7 B0 (hF1 uW)
      have Rp_1 := heap_of (hF1 uW) _ _ _ Rp_0
      have Rz_1 := heap_of (hF1 uW) _ _ _ Rz_0
      have Rb_1 := heap_of (hF1 uW) _ _ _ Rb_0
      obtain ⟨w1, hw⟩ : ∃ V, F uW = V := ⟨_, rfl⟩
      rw [hw] at B1 Rp_1 Rz_1 Rb_1
      try rw [hw]
      clear hw hF1 hF2 B0 fp_0 fp_1 fp_2 fp_3 fp_4 fp_5 fp_6 fp_7 fp_8 fp_9 fp_10 fp_11 fp_12 fp_13 fz_0 fz_1 fb_0 fb_1 Rp_0 Rz_0 Rb_0
      clear F
      obtain ⟨cp_1_0, cp_1_1, cp_1_2, cp_1_3, cp_1_4, cp_1_5, cp_1_6, cp_1_7, cp_1_8, cp_1_9, cp_1_10, cp_1_11, cp_1_12, cp_1_13⟩ := pt_cells Rp_1
      obtain ⟨cz_1_0, cz_1_1⟩ := cell7t Rz_1
      obtain ⟨cb_1_0, cb_1_1⟩ := cell7t Rb_1
      have q0 := fz (k := 0) Rz_1
      have q1 := fz (k := 1) Rz_1
      obtain ⟨E0, E1⟩ := set2_cells Rz_1 (.int .u64 0) (.int .u64 0)
      go_wp2
      exact bodyPost_ret (v := .tuple #[.agg #[.int .u64 0, .int .u64 0], .int .i64 80]) (by simp [results, Tryd.results12, go_sem, E0, E1]) rfl ⟨rfl, set2_below B1 (by first | exact Nat.le_refl _ | omega | (skip; omega)) _ _⟩
    · obtain ⟨Rp_0, Rz_0, Rb_0, B0⟩ := kopn3 w (Obj.cells (pt c s X rr) 30) (Obj.cells #[.int .u64 0, .int .u64 0] 25) (Obj.cells #[.int .u64 0, .int .u64 0] 25)
      go_enter Tryd.func12, Tryd.ntmps12
      go_wp2_with fail
      refine (KP.out _).mono ?_
      rintro r w' ⟨rfl, hw'⟩
      obtain rfl := hw'.symm
      go_wp2_with fail
      refine (KE.out _).mono ?_
      rintro r w' ⟨rfl, hw'⟩
      obtain rfl := hw'.symm
      go_wp2_with fail
      obtain ⟨F, hF1, hF2⟩ := below_fun (((w.alloc (Obj.cells (pt c s X rr) 30)).alloc (Obj.cells #[.int .u64 0, .int .u64 0] 25)).alloc (Obj.cells #[.int .u64 0, .int .u64 0] 25))
      have fp_0 := fun u => cell7 (heap_of (hF1 u) _ _ _ Rp_0) 0 _ rfl
      have fp_1 := fun u => cell7 (heap_of (hF1 u) _ _ _ Rp_0) 1 _ rfl
      have fp_2 := fun u => cell7 (heap_of (hF1 u) _ _ _ Rp_0) 2 _ rfl
      have fp_3 := fun u => cell7 (heap_of (hF1 u) _ _ _ Rp_0) 3 _ rfl
      have fp_4 := fun u => cell7 (heap_of (hF1 u) _ _ _ Rp_0) 4 _ rfl
      have fp_5 := fun u => cell7 (heap_of (hF1 u) _ _ _ Rp_0) 5 _ rfl
      have fp_6 := fun u => cell7 (heap_of (hF1 u) _ _ _ Rp_0) 6 _ rfl
      have fp_7 := fun u => cell7 (heap_of (hF1 u) _ _ _ Rp_0) 7 _ rfl
      have fp_8 := fun u => cell7 (heap_of (hF1 u) _ _ _ Rp_0) 8 _ rfl
      have fp_9 := fun u => cell7 (heap_of (hF1 u) _ _ _ Rp_0) 9 _ rfl
      have fp_10 := fun u => cell7 (heap_of (hF1 u) _ _ _ Rp_0) 10 _ rfl
      have fp_11 := fun u => cell7 (heap_of (hF1 u) _ _ _ Rp_0) 11 _ rfl
      have fp_12 := fun u => cell7 (heap_of (hF1 u) _ _ _ Rp_0) 12 _ rfl
      have fp_13 := fun u => cell7 (heap_of (hF1 u) _ _ _ Rp_0) 13 _ rfl
      have fz_0 := fun u => cell7 (heap_of (hF1 u) _ _ _ Rz_0) 0 _ rfl
      have fz_1 := fun u => cell7 (heap_of (hF1 u) _ _ _ Rz_0) 1 _ rfl
      have fb_0 := fun u => cell7 (heap_of (hF1 u) _ _ _ Rb_0) 0 _ rfl
      have fb_1 := fun u => cell7 (heap_of (hF1 u) _ _ _ Rb_0) 1 _ rfl
      refine wp_region_below F hF2 (by kernel_rfl) (by kernel_rfl) ?_
      repeat first | go_big_quiet_step (first | (go_at_call 31; exact quietF hF1 hF2 (KN.out _)) | (go_at_call 25; exact quietF0 (KX.out _)) | fail) | quiet_step (first | (go_at_call 31; exact quietF hF1 hF2 (KN.out _)) | (go_at_call 25; exact quietF0 (KX.out _)) | fail)
      refine wpQuiet_nil ?_
      rintro _ ⟨uW, rfl⟩
      have B1 := btr7 B0 (hF1 uW)
      have Rp_1 := heap_of (hF1 uW) _ _ _ Rp_0
      have Rz_1 := heap_of (hF1 uW) _ _ _ Rz_0
      have Rb_1 := heap_of (hF1 uW) _ _ _ Rb_0
      obtain ⟨w1, hw⟩ : ∃ V, F uW = V := ⟨_, rfl⟩
      rw [hw] at B1 Rp_1 Rz_1 Rb_1
      try rw [hw]
      clear hw hF1 hF2 B0 fp_0 fp_1 fp_2 fp_3 fp_4 fp_5 fp_6 fp_7 fp_8 fp_9 fp_10 fp_11 fp_12 fp_13 fz_0 fz_1 fb_0 fb_1 Rp_0 Rz_0 Rb_0
      clear F
      obtain ⟨cp_1_0, cp_1_1, cp_1_2, cp_1_3, cp_1_4, cp_1_5, cp_1_6, cp_1_7, cp_1_8, cp_1_9, cp_1_10, cp_1_11, cp_1_12, cp_1_13⟩ := pt_cells Rp_1
      obtain ⟨cz_1_0, cz_1_1⟩ := cell7t Rz_1
      obtain ⟨cb_1_0, cb_1_1⟩ := cell7t Rb_1
      have q0 := fz (k := 0) Rz_1
      have q1 := fz (k := 1) Rz_1
      obtain ⟨E0, E1⟩ := set2_cells Rz_1 (.int .u64 0) (.int .u64 0)
      go_wp2
      exact bodyPost_ret (v := .tuple #[.agg #[.int .u64 0, .int .u64 0], .int .i64 80]) (by simp [results, Tryd.results12, go_sem, E0, E1]) rfl ⟨rfl, set2_below B1 (by first | exact Nat.le_refl _ | omega | (skip; omega)) _ _⟩
    · obtain ⟨Rp_0, Rz_0, Rb_0, B0⟩ := kopn3 w (Obj.cells (pt c s X rr) 30) (Obj.cells #[.int .u64 0, .int .u64 0] 25) (Obj.cells #[.int .u64 0, .int .u64 0] 25)
      go_enter Tryd.func12, Tryd.ntmps12
      go_wp2_with fail
      refine (KP.out _).mono ?_
      rintro r w' ⟨rfl, hw'⟩
      obtain rfl := hw'.symm
      go_wp2_with fail
      refine (KE.out _).mono ?_
      rintro r w' ⟨rfl, hw'⟩
      obtain rfl := hw'.symm
      go_wp2_with fail
      obtain ⟨F, hF1, hF2⟩ := below_fun (((w.alloc (Obj.cells (pt c s X rr) 30)).alloc (Obj.cells #[.int .u64 0, .int .u64 0] 25)).alloc (Obj.cells #[.int .u64 0, .int .u64 0] 25))
      have fp_0 := fun u => cell7 (heap_of (hF1 u) _ _ _ Rp_0) 0 _ rfl
      have fp_1 := fun u => cell7 (heap_of (hF1 u) _ _ _ Rp_0) 1 _ rfl
      have fp_2 := fun u => cell7 (heap_of (hF1 u) _ _ _ Rp_0) 2 _ rfl
      have fp_3 := fun u => cell7 (heap_of (hF1 u) _ _ _ Rp_0) 3 _ rfl
      have fp_4 := fun u => cell7 (heap_of (hF1 u) _ _ _ Rp_0) 4 _ rfl
      have fp_5 := fun u => cell7 (heap_of (hF1 u) _ _ _ Rp_0) 5 _ rfl
      have fp_6 := fun u => cell7 (heap_of (hF1 u) _ _ _ Rp_0) 6 _ rfl
      have fp_7 := fun u => cell7 (heap_of (hF1 u) _ _ _ Rp_0) 7 _ rfl
      have fp_8 := fun u => cell7 (heap_of (hF1 u) _ _ _ Rp_0) 8 _ rfl
      have fp_9 := fun u => cell7 (heap_of (hF1 u) _ _ _ Rp_0) 9 _ rfl
      have fp_10 := fun u => cell7 (heap_of (hF1 u) _ _ _ Rp_0) 10 _ rfl
      have fp_11 := fun u => cell7 (heap_of (hF1 u) _ _ _ Rp_0) 11 _ rfl
      have fp_12 := fun u => cell7 (heap_of (hF1 u) _ _ _ Rp_0) 12 _ rfl
      have fp_13 := fun u => cell7 (heap_of (hF1 u) _ _ _ Rp_0) 13 _ rfl
      have fz_0 := fun u => cell7 (heap_of (hF1 u) _ _ _ Rz_0) 0 _ rfl
      have fz_1 := fun u => cell7 (heap_of (hF1 u) _ _ _ Rz_0) 1 _ rfl
      have fb_0 := fun u => cell7 (heap_of (hF1 u) _ _ _ Rb_0) 0 _ rfl
      have fb_1 := fun u => cell7 (heap_of (hF1 u) _ _ _ Rb_0) 1 _ rfl
      refine wp_region_below F hF2 (by kernel_rfl) (by kernel_rfl) ?_
      repeat first | go_big_quiet_step (first | (go_at_call 31; exact quietF hF1 hF2 (KN.out _)) | (go_at_call 25; exact quietF0 (KX.out _)) | fail) | quiet_step (first | (go_at_call 31; exact quietF hF1 hF2 (KN.out _)) | (go_at_call 25; exact quietF0 (KX.out _)) | fail)
      refine wpQuiet_nil ?_
      rintro _ ⟨uW, rfl⟩
      have B1 := btr7 B0 (hF1 uW)
      have Rp_1 := heap_of (hF1 uW) _ _ _ Rp_0
      have Rz_1 := heap_of (hF1 uW) _ _ _ Rz_0
      have Rb_1 := heap_of (hF1 uW) _ _ _ Rb_0
      obtain ⟨w1, hw⟩ : ∃ V, F uW = V := ⟨_, rfl⟩
      rw [hw] at B1 Rp_1 Rz_1 Rb_1
      try rw [hw]
      clear hw hF1 hF2 B0 fp_0 fp_1 fp_2 fp_3 fp_4 fp_5 fp_6 fp_7 fp_8 fp_9 fp_10 fp_11 fp_12 fp_13 fz_0 fz_1 fb_0 fb_1 Rp_0 Rz_0 Rb_0
      clear F
      obtain ⟨cp_1_0, cp_1_1, cp_1_2, cp_1_3, cp_1_4, cp_1_5, cp_1_6, cp_1_7, cp_1_8, cp_1_9, cp_1_10, cp_1_11, cp_1_12, cp_1_13⟩ := pt_cells Rp_1
      obtain ⟨cz_1_0, cz_1_1⟩ := cell7t Rz_1
      obtain ⟨cb_1_0, cb_1_1⟩ := cell7t Rb_1
      have q0 := fz (k := 0) Rz_1
      have q1 := fz (k := 1) Rz_1
      obtain ⟨E0, E1⟩ := set2_cells Rz_1 (.int .u64 0) (.int .u64 0)
      go_wp2
      exact bodyPost_ret (v := .tuple #[.agg #[.int .u64 0, .int .u64 0], .int .i64 80]) (by simp [results, Tryd.results12, go_sem, E0, E1]) rfl ⟨rfl, set2_below B1 (by first | exact Nat.le_refl _ | omega | (skip; omega)) _ _⟩
  · have f0 : ((c : Int) == 0) = false := by rw [hc]; rfl
    have f7 : ((c : Int) == 7) = false := by rw [hc]; rfl
    have f3 : ((c : Int) == 3) = false := by rw [hc]; rfl
    have f4 : ((c : Int) == 4) = false := by rw [hc]; rfl
    have f8 : ((c : Int) == 8) = false := by rw [hc]; rfl
    have f9 : ((c : Int) == 9) = false := by rw [hc]; rfl
    have f2 : ((c : Int) == 2) = false := by rw [hc]; rfl
    have f5 : ((c : Int) == 5) = false := by rw [hc]; rfl
    have f1 : ((c : Int) == 1) = false := by rw [hc]; rfl
    have f6 : ((c : Int) == 6) = true := by rw [hc]; rfl
    clear hc
    rcases hw with c1 | ⟨c1, c2⟩ | ⟨c1, c2, c3⟩
    · obtain ⟨Rp_0, Rz_0, Rb_0, B0⟩ := kopn3 w (Obj.cells (pt c s X rr) 30) (Obj.cells #[.int .u64 0, .int .u64 0] 25) (Obj.cells #[.int .u64 0, .int .u64 0] 25)
      go_enter Tryd.func12, Tryd.ntmps12
      go_wp2_with fail
      refine (KP.out _).mono ?_
      rintro r w' ⟨rfl, hw'⟩
      obtain rfl := hw'.symm
      go_wp2_with fail
      refine (KE.out _).mono ?_
      rintro r w' ⟨rfl, hw'⟩
      obtain rfl := hw'.symm
      go_wp2_with fail
      obtain ⟨F, hF1, hF2⟩ := below_fun (((w.alloc (Obj.cells (pt c s X rr) 30)).alloc (Obj.cells #[.int .u64 0, .int .u64 0] 25)).alloc (Obj.cells #[.int .u64 0, .int .u64 0] 25))
      have fp_0 := fun u => cell7 (heap_of (hF1 u) _ _ _ Rp_0) 0 _ rfl
      have fp_1 := fun u => cell7 (heap_of (hF1 u) _ _ _ Rp_0) 1 _ rfl
      have fp_2 := fun u => cell7 (heap_of (hF1 u) _ _ _ Rp_0) 2 _ rfl
      have fp_3 := fun u => cell7 (heap_of (hF1 u) _ _ _ Rp_0) 3 _ rfl
      have fp_4 := fun u => cell7 (heap_of (hF1 u) _ _ _ Rp_0) 4 _ rfl
      have fp_5 := fun u => cell7 (heap_of (hF1 u) _ _ _ Rp_0) 5 _ rfl
      have fp_6 := fun u => cell7 (heap_of (hF1 u) _ _ _ Rp_0) 6 _ rfl
      have fp_7 := fun u => cell7 (heap_of (hF1 u) _ _ _ Rp_0) 7 _ rfl
      have fp_8 := fun u => cell7 (heap_of (hF1 u) _ _ _ Rp_0) 8 _ rfl
      have fp_9 := fun u => cell7 (heap_of (hF1 u) _ _ _ Rp_0) 9 _ rfl
      have fp_10 := fun u => cell7 (heap_of (hF1 u) _ _ _ Rp_0) 10 _ rfl
      have fp_11 := fun u => cell7 (heap_of (hF1 u) _ _ _ Rp_0) 11 _ rfl
      have fp_12 := fun u => cell7 (heap_of (hF1 u) _ _ _ Rp_0) 12 _ rfl
      have fp_13 := fun u => cell7 (heap_of (hF1 u) _ _ _ Rp_0) 13 _ rfl
      have fz_0 := fun u => cell7 (heap_of (hF1 u) _ _ _ Rz_0) 0 _ rfl
      have fz_1 := fun u => cell7 (heap_of (hF1 u) _ _ _ Rz_0) 1 _ rfl
      have fb_0 := fun u => cell7 (heap_of (hF1 u) _ _ _ Rb_0) 0 _ rfl
      have fb_1 := fun u => cell7 (heap_of (hF1 u) _ _ _ Rb_0) 1 _ rfl
      refine wp_region_below F hF2 (by kernel_rfl) (by kernel_rfl) ?_
      repeat first | go_big_quiet_step (first | (go_at_call 31; exact quietF hF1 hF2 (KN.out _)) | (go_at_call 25; exact quietF0 (KX.out _)) | fail) | quiet_step (first | (go_at_call 31; exact quietF hF1 hF2 (KN.out _)) | (go_at_call 25; exact quietF0 (KX.out _)) | fail)
      refine wpQuiet_nil ?_
      rintro _ ⟨uW, rfl⟩
      have B1 := btr7 B0 (hF1 uW)
      have Rp_1 := heap_of (hF1 uW) _ _ _ Rp_0
      have Rz_1 := heap_of (hF1 uW) _ _ _ Rz_0
      have Rb_1 := heap_of (hF1 uW) _ _ _ Rb_0
      obtain ⟨w1, hw⟩ : ∃ V, F uW = V := ⟨_, rfl⟩
      rw [hw] at B1 Rp_1 Rz_1 Rb_1
      try rw [hw]
      clear hw hF1 hF2 B0 fp_0 fp_1 fp_2 fp_3 fp_4 fp_5 fp_6 fp_7 fp_8 fp_9 fp_10 fp_11 fp_12 fp_13 fz_0 fz_1 fb_0 fb_1 Rp_0 Rz_0 Rb_0
      clear F
      obtain ⟨cp_1_0, cp_1_1, cp_1_2, cp_1_3, cp_1_4, cp_1_5, cp_1_6, cp_1_7, cp_1_8, cp_1_9, cp_1_10, cp_1_11, cp_1_12, cp_1_13⟩ := pt_cells Rp_1
      obtain ⟨cz_1_0, cz_1_1⟩ := cell7t Rz_1
      obtain ⟨cb_1_0, cb_1_1⟩ := cell7t Rb_1
      have q0 := fz (k := 0) Rz_1
      have q1 := fz (k := 1) Rz_1
      obtain ⟨E0, E1⟩ := set2_cells Rz_1 (.int .u64 0) (.int .u64 0)
      go_wp2
      exact bodyPost_ret (v := .tuple #[.agg #[.int .u64 0, .int .u64 0], .int .i64 80]) (by simp [results, Tryd.results12, go_sem, E0, E1]) rfl ⟨rfl, set2_below B1 (by first | exact Nat.le_refl _ | omega | (skip; omega)) _ _⟩
    · obtain ⟨Rp_0, Rz_0, Rb_0, B0⟩ := kopn3 w (Obj.cells (pt c s X rr) 30) (Obj.cells #[.int .u64 0, .int .u64 0] 25) (Obj.cells #[.int .u64 0, .int .u64 0] 25)
      go_enter Tryd.func12, Tryd.ntmps12
      go_wp2_with fail
      refine (KP.out _).mono ?_
      rintro r w' ⟨rfl, hw'⟩
      obtain rfl := hw'.symm
      go_wp2_with fail
      refine (KE.out _).mono ?_
      rintro r w' ⟨rfl, hw'⟩
      obtain rfl := hw'.symm
      go_wp2_with fail
      obtain ⟨F, hF1, hF2⟩ := below_fun (((w.alloc (Obj.cells (pt c s X rr) 30)).alloc (Obj.cells #[.int .u64 0, .int .u64 0] 25)).alloc (Obj.cells #[.int .u64 0, .int .u64 0] 25))
      have fp_0 := fun u => cell7 (heap_of (hF1 u) _ _ _ Rp_0) 0 _ rfl
      have fp_1 := fun u => cell7 (heap_of (hF1 u) _ _ _ Rp_0) 1 _ rfl
      have fp_2 := fun u => cell7 (heap_of (hF1 u) _ _ _ Rp_0) 2 _ rfl
      have fp_3 := fun u => cell7 (heap_of (hF1 u) _ _ _ Rp_0) 3 _ rfl
      have fp_4 := fun u => cell7 (heap_of (hF1 u) _ _ _ Rp_0) 4 _ rfl
      have fp_5 := fun u => cell7 (heap_of (hF1 u) _ _ _ Rp_0) 5 _ rfl
      have fp_6 := fun u => cell7 (heap_of (hF1 u) _ _ _ Rp_0) 6 _ rfl
      have fp_7 := fun u => cell7 (heap_of (hF1 u) _ _ _ Rp_0) 7 _ rfl
      have fp_8 := fun u => cell7 (heap_of (hF1 u) _ _ _ Rp_0) 8 _ rfl
      have fp_9 := fun u => cell7 (heap_of (hF1 u) _ _ _ Rp_0) 9 _ rfl
      have fp_10 := fun u => cell7 (heap_of (hF1 u) _ _ _ Rp_0) 10 _ rfl
      have fp_11 := fun u => cell7 (heap_of (hF1 u) _ _ _ Rp_0) 11 _ rfl
      have fp_12 := fun u => cell7 (heap_of (hF1 u) _ _ _ Rp_0) 12 _ rfl
      have fp_13 := fun u => cell7 (heap_of (hF1 u) _ _ _ Rp_0) 13 _ rfl
      have fz_0 := fun u => cell7 (heap_of (hF1 u) _ _ _ Rz_0) 0 _ rfl
      have fz_1 := fun u => cell7 (heap_of (hF1 u) _ _ _ Rz_0) 1 _ rfl
      have fb_0 := fun u => cell7 (heap_of (hF1 u) _ _ _ Rb_0) 0 _ rfl
      have fb_1 := fun u => cell7 (heap_of (hF1 u) _ _ _ Rb_0) 1 _ rfl
      refine wp_region_below F hF2 (by kernel_rfl) (by kernel_rfl) ?_
      repeat first | go_big_quiet_step (first | (go_at_call 31; exact quietF hF1 hF2 (KN.out _)) | (go_at_call 25; exact quietF0 (KX.out _)) | fail) | quiet_step (first | (go_at_call 31; exact quietF hF1 hF2 (KN.out _)) | (go_at_call 25; exact quietF0 (KX.out _)) | fail)
      refine wpQuiet_nil ?_
      rintro _ ⟨uW, rfl⟩
      have B1 := btr7 B0 (hF1 uW)
      have Rp_1 := heap_of (hF1 uW) _ _ _ Rp_0
      have Rz_1 := heap_of (hF1 uW) _ _ _ Rz_0
      have Rb_1 := heap_of (hF1 uW) _ _ _ Rb_0
      obtain ⟨w1, hw⟩ : ∃ V, F uW = V := ⟨_, rfl⟩
      rw [hw] at B1 Rp_1 Rz_1 Rb_1
      try rw [hw]
      clear hw hF1 hF2 B0 fp_0 fp_1 fp_2 fp_3 fp_4 fp_5 fp_6 fp_7 fp_8 fp_9 fp_10 fp_11 fp_12 fp_13 fz_0 fz_1 fb_0 fb_1 Rp_0 Rz_0 Rb_0
      clear F
      obtain ⟨cp_1_0, cp_1_1, cp_1_2, cp_1_3, cp_1_4, cp_1_5, cp_1_6, cp_1_7, cp_1_8, cp_1_9, cp_1_10, cp_1_11, cp_1_12, cp_1_13⟩ := pt_cells Rp_1
      obtain ⟨cz_1_0, cz_1_1⟩ := cell7t Rz_1
      obtain ⟨cb_1_0, cb_1_1⟩ := cell7t Rb_1
      have q0 := fz (k := 0) Rz_1
      have q1 := fz (k := 1) Rz_1
      obtain ⟨E0, E1⟩ := set2_cells Rz_1 (.int .u64 0) (.int .u64 0)
      go_wp2
      exact bodyPost_ret (v := .tuple #[.agg #[.int .u64 0, .int .u64 0], .int .i64 80]) (by simp [results, Tryd.results12, go_sem, E0, E1]) rfl ⟨rfl, set2_below B1 (by first | exact Nat.le_refl _ | omega | (skip; omega)) _ _⟩
    · obtain ⟨Rp_0, Rz_0, Rb_0, B0⟩ := kopn3 w (Obj.cells (pt c s X rr) 30) (Obj.cells #[.int .u64 0, .int .u64 0] 25) (Obj.cells #[.int .u64 0, .int .u64 0] 25)
      go_enter Tryd.func12, Tryd.ntmps12
      go_wp2_with fail
      refine (KP.out _).mono ?_
      rintro r w' ⟨rfl, hw'⟩
      obtain rfl := hw'.symm
      go_wp2_with fail
      refine (KE.out _).mono ?_
      rintro r w' ⟨rfl, hw'⟩
      obtain rfl := hw'.symm
      go_wp2_with fail
      obtain ⟨F, hF1, hF2⟩ := below_fun (((w.alloc (Obj.cells (pt c s X rr) 30)).alloc (Obj.cells #[.int .u64 0, .int .u64 0] 25)).alloc (Obj.cells #[.int .u64 0, .int .u64 0] 25))
      have fp_0 := fun u => cell7 (heap_of (hF1 u) _ _ _ Rp_0) 0 _ rfl
      have fp_1 := fun u => cell7 (heap_of (hF1 u) _ _ _ Rp_0) 1 _ rfl
      have fp_2 := fun u => cell7 (heap_of (hF1 u) _ _ _ Rp_0) 2 _ rfl
      have fp_3 := fun u => cell7 (heap_of (hF1 u) _ _ _ Rp_0) 3 _ rfl
      have fp_4 := fun u => cell7 (heap_of (hF1 u) _ _ _ Rp_0) 4 _ rfl
      have fp_5 := fun u => cell7 (heap_of (hF1 u) _ _ _ Rp_0) 5 _ rfl
      have fp_6 := fun u => cell7 (heap_of (hF1 u) _ _ _ Rp_0) 6 _ rfl
      have fp_7 := fun u => cell7 (heap_of (hF1 u) _ _ _ Rp_0) 7 _ rfl
      have fp_8 := fun u => cell7 (heap_of (hF1 u) _ _ _ Rp_0) 8 _ rfl
      have fp_9 := fun u => cell7 (heap_of (hF1 u) _ _ _ Rp_0) 9 _ rfl
      have fp_10 := fun u => cell7 (heap_of (hF1 u) _ _ _ Rp_0) 10 _ rfl
      have fp_11 := fun u => cell7 (heap_of (hF1 u) _ _ _ Rp_0) 11 _ rfl
      have fp_12 := fun u => cell7 (heap_of (hF1 u) _ _ _ Rp_0) 12 _ rfl
      have fp_13 := fun u => cell7 (heap_of (hF1 u) _ _ _ Rp_0) 13 _ rfl
      have fz_0 := fun u => cell7 (heap_of (hF1 u) _ _ _ Rz_0) 0 _ rfl
      have fz_1 := fun u => cell7 (heap_of (hF1 u) _ _ _ Rz_0) 1 _ rfl
      have fb_0 := fun u => cell7 (heap_of (hF1 u) _ _ _ Rb_0) 0 _ rfl
      have fb_1 := fun u => cell7 (heap_of (hF1 u) _ _ _ Rb_0) 1 _ rfl
      refine wp_region_below F hF2 (by kernel_rfl) (by kernel_rfl) ?_
      repeat first | go_big_quiet_step (first | (go_at_call 31; exact quietF hF1 hF2 (KN.out _)) | (go_at_call 25; exact quietF0 (KX.out _)) | fail) | quiet_step (first | (go_at_call 31; exact quietF hF1 hF2 (KN.out _)) | (go_at_call 25; exact quietF0 (KX.out _)) | fail)
      refine wpQuiet_nil ?_
      rintro _ ⟨uW, rfl⟩
      have B1 := btr7 B0 (hF1 uW)
      have Rp_1 := heap_of (hF1 uW) _ _ _ Rp_0
      have Rz_1 := heap_of (hF1 uW) _ _ _ Rz_0
      have Rb_1 := heap_of (hF1 uW) _ _ _ Rb_0
      obtain ⟨w1, hw⟩ : ∃ V, F uW = V := ⟨_, rfl⟩
      rw [hw] at B1 Rp_1 Rz_1 Rb_1
      try rw [hw]
      clear hw hF1 hF2 B0 fp_0 fp_1 fp_2 fp_3 fp_4 fp_5 fp_6 fp_7 fp_8 fp_9 fp_10 fp_11 fp_12 fp_13 fz_0 fz_1 fb_0 fb_1 Rp_0 Rz_0 Rb_0
      clear F
      obtain ⟨cp_1_0, cp_1_1, cp_1_2, cp_1_3, cp_1_4, cp_1_5, cp_1_6, cp_1_7, cp_1_8, cp_1_9, cp_1_10, cp_1_11, cp_1_12, cp_1_13⟩ := pt_cells Rp_1
      obtain ⟨cz_1_0, cz_1_1⟩ := cell7t Rz_1
      obtain ⟨cb_1_0, cb_1_1⟩ := cell7t Rb_1
      have q0 := fz (k := 0) Rz_1
      have q1 := fz (k := 1) Rz_1
      obtain ⟨E0, E1⟩ := set2_cells Rz_1 (.int .u64 0) (.int .u64 0)
      go_wp2
      exact bodyPost_ret (v := .tuple #[.agg #[.int .u64 0, .int .u64 0], .int .i64 80]) (by simp [results, Tryd.results12, go_sem, E0, E1]) rfl ⟨rfl, set2_below B1 (by first | exact Nat.le_refl _ | omega | (skip; omega)) _ _⟩
set_option maxRecDepth 100000 in
set_option maxHeartbeats 2000000 in
theorem rpack_xd (f q X : Int) (c s rr : Nat) (w : World)
    (KP : Box (∀ w, Calls Tryd.prog 20 #[.int .u8 f] w fun r w' => r = .returned (.int .i64 q) ∧ w' = w))
    (hc : 10 ≤ c) : Calls Tryd.prog 12 #[.int .u8 f, .agg (pt c s X rr)] w fun r w' => r = .returned (.tuple #[.agg #[.int .u64 0, .int .u64 0], .int .i64 80]) ∧ Below w.heap.size w w' := by
  have hat := cw_at 6
  have hz := cw6z
  have hff := cw6f
  have hs0 := st0
  have hcs : ∀ x, ((cw 6 x).size = 6) = True := fun x => eq_true (cw_size 6 x)
  have hp1 := ptf
  have hp3 := ptz
  have hp4 := st_p0
  have hp5 : ∀ (c s : Nat) (x : Int) (r : Nat), ((pt c s x r).size = 14) = True := fun _ _ _ _ => eq_true rfl
  have heq := eqp
  have hg := eqgp
  have ha0 := pt_at0
  have ha1 := pt_at1
  have ha2 := pt_at2
  have ha3 := pt_at3
  have ha4 := pt_at4
  have ha5 := pt_at5
  have ha6 := pt_at6
  have ha7 := pt_at7
  have ha8 := pt_at8
  have ha9 := pt_at9
  have ha10 := pt_at10
  have ha11 := pt_at11
  have ha12 := pt_at12
  have ha13 := pt_at13
  have hb0 := pt_q0
  have hb1 := pt_q1
  have hb2 := pt_q2
  have hb3 := pt_q3
  have hb4 := pt_q4
  have hb5 := pt_q5
  have hb6 := pt_q6
  have hb7 := pt_q7
  have hb8 := pt_q8
  have hb9 := pt_q9
  have hb10 := pt_q10
  have hb11 := pt_q11
  have hb12 := pt_q12
  have hb13 := pt_q13
  · have f0 : ((c : Int) == 0) = false := by simp; omega
    have f7 : ((c : Int) == 7) = false := by simp; omega
    have f3 : ((c : Int) == 3) = false := by simp; omega
    have f4 : ((c : Int) == 4) = false := by simp; omega
    have f8 : ((c : Int) == 8) = false := by simp; omega
    have f9 : ((c : Int) == 9) = false := by simp; omega
    have f2 : ((c : Int) == 2) = false := by simp; omega
    have f5 : ((c : Int) == 5) = false := by simp; omega
    have f1 : ((c : Int) == 1) = false := by simp; omega
    have f6 : ((c : Int) == 6) = false := by simp; omega
    clear hc
    obtain ⟨Rp_0, Rz_0, Rb_0, B0⟩ := kopn3 w (Obj.cells (pt c s X rr) 30) (Obj.cells #[.int .u64 0, .int .u64 0] 25) (Obj.cells #[.int .u64 0, .int .u64 0] 25)
    go_enter Tryd.func12, Tryd.ntmps12
    go_wp2_with fail
    refine (KP.out _).mono ?_
    rintro r w' ⟨rfl, hw'⟩
    obtain rfl := hw'.symm
    clear B0 Rp_0 Rz_0 Rb_0
    go_wp2
    exact bodyPost_ret (v := .tuple #[.agg #[.int .u64 0, .int .u64 0], .int .i64 80]) (by simp [results, Tryd.results12, go_sem]) rfl ⟨rfl, ((((Below.refl _ _).alloc (by first | omega | (simp only [size_al]; omega)) _).alloc (by first | omega | (simp only [size_al]; omega)) _).alloc (by first | omega | (simp only [size_al]; omega)) _)⟩
end Go.Proofs.YtkmlbjlaahcahaaDoor
