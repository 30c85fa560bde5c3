/-
  What the functions that the statement reaches return: part 5 (KA, E2, G1, G2).
-/
import Derived.Laws.CopyRow
import Derived.Lib.MinMax
import Derived.Deep.RegionHeld3
import Derived.Test.YtaengojkjfgppaaDoorSi04
namespace Go.Proofs.YtaengojkjfgppaaDoor
set_option maxRecDepth 100000
set_option maxHeartbeats 40000000
set_option maxRecDepth 100000
open Go.RowKit WMath
set_option linter.unusedSimpArgs false
set_option linter.unusedVariables false
theorem rk_enc (f : Int) (neg : Bool) (e T v a b : Nat) (hf : Is4 f) (hT : T < 2 ^ pV f) (hev : e ≤ oV f) (hv : enc7 f neg e T = v) (hab : bv7 v = (a, b)) (w : World) :
    Calls Tryd.prog 47 #[.int .u8 f, .bool neg, .int .i64 (e : Nat), .agg (cw 6 T)] w fun r w' => r = .returned (.agg #[.int .u64 (a : Nat), .int .u64 (b : Nat)]) ∧ Below w.heap.size w w' := by
  have h := r_enc f neg e T v hf (by have := (fm hf).2.2.2.2.2.1; omega) hT hv hev w
  rw [hab] at h
  exact h
theorem rSign_yes (f : Int) (hf : Is4 f) (x y n : Nat) (o : Bool) (hx : x < 18446744073709551616) (hy : y < 18446744073709551616) (hn : y + 18446744073709551616 * x = n) (ho : okB f n = true) (hc : kN f n = o) (w : World) : Calls Tryd.prog 11 #[.int .u8 f, .agg #[.int .u64 (x : Nat), .int .u64 (y : Nat)]] w fun r w' => r = .returned (.bool o) ∧ Below w.heap.size w w' := by
  have hat := cw_at 6
  have hz := cw6z
  have hff := cw6f
  have hs0 := st0
  have hcs : ∀ x, ((cw 6 x).size = 6) = True := fun x => eq_true (cw_size 6 x)
  have f4 := is4_ok hf
  have fit := (okB_yes f4.1 ho).2
  have K1 := box (rk_fits f x y n true f4.1 hx hy hn ho)
  have K2 := box (rk_fields f hf x y n _ _ o hx hy hn fit hc rfl rfl)
  clear hf hx hy hn ho hc fit
  obtain ⟨Rb_0, B0⟩ := kopn1 w (Obj.cells #[.int .u64 (x : Nat), .int .u64 (y : Nat)] 25)
  go_enter Tryd.func11, Tryd.ntmps11
  go_wp2_with fail
  refine (K1.out _).mono ?_
  rintro r w1 ⟨rfl, b1⟩
  have B1 : Below w.heap.size w w1 := btr7 B0 b1
  have Rb_1 := heap_of b1 _ _ _ Rb_0
  clear b1 B0 Rb_0
  obtain ⟨cb_1_0, cb_1_1⟩ := cell7t Rb_1
  go_wp2_with fail
  refine (K2.out _).mono ?_
  rintro r w2 ⟨rfl, b2⟩
  have B2 : Below w.heap.size w w2 := btr7 B1 b2
  have Rb_2 := heap_of b2 _ _ _ Rb_1
  clear b2 B1 Rb_1 cb_1_0 cb_1_1
  obtain ⟨cb_2_0, cb_2_1⟩ := cell7t Rb_2
  have S3 := box B2.size
  have Lb_3 : Box (w.heap.size < w2.heap.size) := box (Array.getElem?_eq_some_iff.1 Rb_2).1
  have Rt_3 := heap_alloc_last w2 (Obj.cells (cw 6 (kT f n)) 48)
  have B3 := btr7 B2 (bal7 w2 (Obj.cells (cw 6 (kT f n)) 48))
  have Rb_3 := heap_of (bal7 w2 (Obj.cells (cw 6 (kT f n)) 48)) _ _ _ Rb_2
  clear B2 Rb_2 cb_2_0 cb_2_1
  obtain ⟨cb_3_0, cb_3_1⟩ := cell7t Rb_3
  have ct_3_0 := row_cell Rt_3
  go_wp2
  go_ret
  exact ⟨rfl, B3⟩
theorem flip_k {f : Int} (hf : Is4 f) {n : Nat} (hfit : Fit f n) : sgB f n true = enc7 f (!kN f n) (kE f n) (kT f n) := by
  rw [← flip_enc hf _ (kE_le n) (kT_lt n), k_enc hf hfit]
  rfl
theorem rFlip_yes (f : Int) (hf : Is4 f) (x y n u v : Nat) (hx : x < 18446744073709551616) (hy : y < 18446744073709551616) (hn : y + 18446744073709551616 * x = n) (ho : okB f n = true) (hc : bv7 (sgB f n true) = (u, v)) (w : World) : Calls Tryd.prog 29 #[.int .u8 f, .agg #[.int .u64 (x : Nat), .int .u64 (y : Nat)]] w fun r w' => r = .returned (.agg #[.int .u64 (u : Nat), .int .u64 (v : Nat)]) ∧ Below w.heap.size w w' := by
  have hat := cw_at 6
  have hz := cw6z
  have hff := cw6f
  have hs0 := st0
  have hcs : ∀ x, ((cw 6 x).size = 6) = True := fun x => eq_true (cw_size 6 x)
  have f4 := is4_ok hf
  have fit := (okB_yes f4.1 ho).2
  have K1 := box (rk_fits f x y n true f4.1 hx hy hn ho)
  have tl := kT_lt (f := f) n
  have el := kE_le (f := f) n
  have fk := flip_k hf fit
  obtain ⟨neg, hneg⟩ : ∃ q, kN f n = q := ⟨_, rfl⟩
  obtain ⟨e, he⟩ : ∃ q, kE f n = q := ⟨_, rfl⟩
  obtain ⟨t, ht⟩ : ∃ q, kT f n = q := ⟨_, rfl⟩
  have K2 := box (rk_fields f hf x y n e t neg hx hy hn fit hneg he ht)
  rw [hneg, he, ht] at fk
  rw [he] at el
  rw [ht] at tl
  have K3 := box (rk_enc f (!neg) e t _ u v hf tl el fk.symm hc)
  clear hf hx hy hn ho hc fit fk el tl hneg he ht
  cases neg
  · obtain ⟨Rb_0, Rz_0, B0⟩ := kopn2 w (Obj.cells #[.int .u64 (x : Nat), .int .u64 (y : Nat)] 25) (Obj.cells #[.int .u64 0, .int .u64 0] 25)
    go_enter Tryd.func29, Tryd.ntmps29
    go_wp2_with fail
    refine (K1.out _).mono ?_
    rintro r w1 ⟨rfl, b1⟩
    have B1 : Below w.heap.size w w1 := btr7 B0 b1
    have Rb_1 := heap_of b1 _ _ _ Rb_0
    have Rz_1 := heap_of b1 _ _ _ Rz_0
    clear b1 B0 Rb_0 Rz_0
    obtain ⟨cb_1_0, cb_1_1⟩ := cell7t Rb_1
    obtain ⟨cz_1_0, cz_1_1⟩ := cell7t Rz_1
    go_wp2_with fail
    refine (K2.out _).mono ?_
    rintro r w2 ⟨rfl, b2⟩
    have B2 : Below w.heap.size w w2 := btr7 B1 b2
    have Rb_2 := heap_of b2 _ _ _ Rb_1
    have Rz_2 := heap_of b2 _ _ _ Rz_1
    clear b2 B1 Rb_1 cb_1_0 cb_1_1 Rz_1 cz_1_0 cz_1_1
    obtain ⟨cb_2_0, cb_2_1⟩ := cell7t Rb_2
    obtain ⟨cz_2_0, cz_2_1⟩ := cell7t Rz_2
    have S3 := box B2.size
    have Lb_3 : Box (w.heap.size < w2.heap.size) := box (Array.getElem?_eq_some_iff.1 Rb_2).1
    have Lz_3 : Box (w.heap.size + 1 < w2.heap.size) := box (Array.getElem?_eq_some_iff.1 Rz_2).1
    have Rt_3 := heap_alloc_last w2 (Obj.cells (cw 6 t) 48)
    have B3 := btr7 B2 (bal7 w2 (Obj.cells (cw 6 t) 48))
    have Rb_3 := heap_of (bal7 w2 (Obj.cells (cw 6 t) 48)) _ _ _ Rb_2
    have Rz_3 := heap_of (bal7 w2 (Obj.cells (cw 6 t) 48)) _ _ _ Rz_2
    clear B2 Rb_2 cb_2_0 cb_2_1 Rz_2 cz_2_0 cz_2_1
    obtain ⟨cb_3_0, cb_3_1⟩ := cell7t Rb_3
    obtain ⟨cz_3_0, cz_3_1⟩ := cell7t Rz_3
    have ct_3_0 := row_cell Rt_3
    go_wp2_with fail
    refine (K3.out _).mono ?_
    rintro r w4 ⟨rfl, b4⟩
    have B4 : Below w.heap.size w w4 := btr7 B3 b4
    have Rb_4 := heap_of b4 _ _ _ Rb_3
    have Rz_4 := heap_of b4 _ _ _ Rz_3
    have Rt_4 := heap_of b4 _ _ _ Rt_3
    clear b4 B3 Rb_3 cb_3_0 cb_3_1 Rz_3 cz_3_0 cz_3_1 Rt_3 ct_3_0
    obtain ⟨cb_4_0, cb_4_1⟩ := cell7t Rb_4
    obtain ⟨cz_4_0, cz_4_1⟩ := cell7t Rz_4
    have ct_4_0 := row_cell Rt_4
    have q0 := fz (k := 0) Rz_4
    have q1 := fz (k := 1) Rz_4
    obtain ⟨E0, E1⟩ := set2_cells Rz_4 (.int .u64 (u : Nat)) (.int .u64 (v : Nat))
    go_wp2
    exact bodyPost_ret (v := .agg #[.int .u64 (u : Nat), .int .u64 (v : Nat)]) (by simp [results, Tryd.results29, go_sem, E0, E1]) rfl ⟨rfl, set2_below B4 (by first | exact Nat.le_refl _ | omega | (have := S3.out; have := Lb_3.out; have := Lz_3.out; omega)) _ _⟩
  · obtain ⟨Rb_0, Rz_0, B0⟩ := kopn2 w (Obj.cells #[.int .u64 (x : Nat), .int .u64 (y : Nat)] 25) (Obj.cells #[.int .u64 0, .int .u64 0] 25)
    go_enter Tryd.func29, Tryd.ntmps29
    go_wp2_with fail
    refine (K1.out _).mono ?_
    rintro r w1 ⟨rfl, b1⟩
    have B1 : Below w.heap.size w w1 := btr7 B0 b1
    have Rb_1 := heap_of b1 _ _ _ Rb_0
    have Rz_1 := heap_of b1 _ _ _ Rz_0
    clear b1 B0 Rb_0 Rz_0
    obtain ⟨cb_1_0, cb_1_1⟩ := cell7t Rb_1
    obtain ⟨cz_1_0, cz_1_1⟩ := cell7t Rz_1
    go_wp2_with fail
    refine (K2.out _).mono ?_
    rintro r w2 ⟨rfl, b2⟩
    have B2 : Below w.heap.size w w2 := btr7 B1 b2
    have Rb_2 := heap_of b2 _ _ _ Rb_1
    have Rz_2 := heap_of b2 _ _ _ Rz_1
    clear b2 B1 Rb_1 cb_1_0 cb_1_1 Rz_1 cz_1_0 cz_1_1
    obtain ⟨cb_2_0, cb_2_1⟩ := cell7t Rb_2
    obtain ⟨cz_2_0, cz_2_1⟩ := cell7t Rz_2
    have S3 := box B2.size
    have Lb_3 : Box (w.heap.size < w2.heap.size) := box (Array.getElem?_eq_some_iff.1 Rb_2).1
    have Lz_3 : Box (w.heap.size + 1 < w2.heap.size) := box (Array.getElem?_eq_some_iff.1 Rz_2).1
    have Rt_3 := heap_alloc_last w2 (Obj.cells (cw 6 t) 48)
    have B3 := btr7 B2 (bal7 w2 (Obj.cells (cw 6 t) 48))
    have Rb_3 := heap_of (bal7 w2 (Obj.cells (cw 6 t) 48)) _ _ _ Rb_2
    have Rz_3 := heap_of (bal7 w2 (Obj.cells (cw 6 t) 48)) _ _ _ Rz_2
    clear B2 Rb_2 cb_2_0 cb_2_1 Rz_2 cz_2_0 cz_2_1
    obtain ⟨cb_3_0, cb_3_1⟩ := cell7t Rb_3
    obtain ⟨cz_3_0, cz_3_1⟩ := cell7t Rz_3
    have ct_3_0 := row_cell Rt_3
    go_wp2_with fail
    refine (K3.out _).mono ?_
    rintro r w4 ⟨rfl, b4⟩
    have B4 : Below w.heap.size w w4 := btr7 B3 b4
    have Rb_4 := heap_of b4 _ _ _ Rb_3
    have Rz_4 := heap_of b4 _ _ _ Rz_3
    have Rt_4 := heap_of b4 _ _ _ Rt_3
    clear b4 B3 Rb_3 cb_3_0 cb_3_1 Rz_3 cz_3_0 cz_3_1 Rt_3 ct_3_0
    obtain ⟨cb_4_0, cb_4_1⟩ := cell7t Rb_4
    obtain ⟨cz_4_0, cz_4_1⟩ := cell7t Rz_4
    have ct_4_0 := row_cell Rt_4
    have q0 := fz (k := 0) Rz_4
    have q1 := fz (k := 1) Rz_4
    obtain ⟨E0, E1⟩ := set2_cells Rz_4 (.int .u64 (u : Nat)) (.int .u64 (v : Nat))
    go_wp2
    exact bodyPost_ret (v := .agg #[.int .u64 (u : Nat), .int .u64 (v : Nat)]) (by simp [results, Tryd.results29, go_sem, E0, E1]) rfl ⟨rfl, set2_below B4 (by first | exact Nat.le_refl _ | omega | (have := S3.out; have := Lb_3.out; have := Lz_3.out; omega)) _ _⟩
def ebb (a b c d : Int) : Bool := (a == c) && (b == d)
theorem eqb (a b c d : Int) (w : World) :
    (Op.equalIn 10000 25 (.agg #[.int .u64 a, .int .u64 b]) (.agg #[.int .u64 c, .int .u64 d])).run Tryd.prog w = .ok (ebb a b c d) w := by
  have q1 : ∀ (a b : Int), (part 23 #[.int .u64 a, .int .u64 b] 0).run Tryd.prog w = .ok (.int .u64 a) w := fun a b => by kernel_rfl
  have q2 : ∀ (a b : Int), (part 23 #[.int .u64 a, .int .u64 b] 1).run Tryd.prog w = .ok (.int .u64 b) w := fun a b => by kernel_rfl
  have i1 : (Op.equalIn 9999 23 (.int .u64 a) (.int .u64 c)).run Tryd.prog w = .ok (a == c) w := run_equalIn_int w 9998 23 .u64 .u64 a c Tryd.underlying23
  have i2 : (Op.equalIn 9999 23 (.int .u64 b) (.int .u64 d)).run Tryd.prog w = .ok (b == d) w := run_equalIn_int w 9998 23 .u64 .u64 b d Tryd.underlying23
  have n1 : ("Hi" = "_") = False := by simp
  have n2 : ("Lo" = "_") = False := by simp
  have st : Tryd.prog.stoodInHeld 25 = false := by kernel_rfl
  rw [show (10000 : Nat) = 9999 + 1 from rfl]
  unfold Op.equalIn
  simp only [Sem.run_bind, run_underlying Tryd.underlying25, Result.andThen_ok]
  rw [show (Sem.run Tryd.prog program w) = .ok Tryd.prog w from rfl]
  simp only [Result.andThen_ok, st, Bool.false_eq_true, if_false]
  have fo : ∀ (l : List Field) (b : Field → (Option Bool × Unit) → Sem (ForInStep (Option Bool × Unit))), (forIn l.toArray (none, ()) b : Sem (Option Bool × Unit)) = forIn l (none, ()) b := fun l b => by simp
  simp only [fo, List.forIn_cons, List.forIn_nil, ne_eq, n1, n2, not_false_eq_true, if_true]
  unfold ebb
  obtain ⟨b1, h1⟩ : ∃ x, (a == c) = x := ⟨_, rfl⟩
  obtain ⟨b2, h2⟩ : ∃ x, (b == d) = x := ⟨_, rfl⟩
  rw [h1] at i1
  rw [h2] at i2
  rw [h1, h2]
  cases b1
  · simp only [Sem.run_bind, Sem.run_pure, Result.andThen_ok, q1, i1, Bool.not_false, if_true, Bool.false_and]
  cases b2
  · simp only [Sem.run_bind, Sem.run_pure, Result.andThen_ok, q1, i1, q2, i2, Bool.not_false, Bool.not_true, Bool.false_eq_true, if_false, if_true, Bool.false_and, Bool.true_and]
  · simp only [Sem.run_bind, Sem.run_pure, Result.andThen_ok, q1, i1, q2, i2, Bool.not_false, Bool.not_true, Bool.false_eq_true, if_false, if_true, Bool.false_and, Bool.true_and]
def wiB (f : Int) (n : Nat) (neg : Bool) : Nat := sgB f n (kN f n != neg)
end Go.Proofs.YtaengojkjfgppaaDoor
namespace Go.Proofs.YtaengojkjfgppaaDoor
set_option maxRecDepth 100000
set_option maxHeartbeats 40000000
set_option maxRecDepth 100000
open Go.RowKit WMath
set_option linter.unusedSimpArgs false
set_option linter.unusedVariables false
set_option maxRecDepth 100000 in
set_option maxHeartbeats 8000000 in
theorem rwi_10 (f : Int) (x1 y1 u v : Nat) (w : World) (KS : Box (∀ w, Calls Tryd.prog 11 #[.int .u8 f, .agg #[.int .u64 (x1 : Nat), .int .u64 (y1 : Nat)]] w fun r w' => r = .returned (.bool true) ∧ Below w.heap.size w w')) (KF : Box (∀ w, Calls Tryd.prog 29 #[.int .u8 f, .agg #[.int .u64 (x1 : Nat), .int .u64 (y1 : Nat)]] w fun r w' => r = .returned (.agg #[.int .u64 (u : Nat), .int .u64 (v : Nat)]) ∧ Below w.heap.size w w')) : Calls Tryd.prog 12 #[.int .u8 f, .agg #[.int .u64 (x1 : Nat), .int .u64 (y1 : Nat)], .bool false] w fun r w' => r = .returned (.agg #[.int .u64 (u : Nat), .int .u64 (v : Nat)]) ∧ Below w.heap.size w w' := by
  obtain ⟨Ra_0, Rz_0, B0⟩ := opn2 w (Obj.cells #[.int .u64 (x1 : Nat), .int .u64 (y1 : Nat)] 25) (Obj.cells #[.int .u64 0, .int .u64 0] 25)
  go_enter Tryd.func12, Tryd.ntmps12
  obtain ⟨ca_0_0, ca_0_1⟩ := cells2s Ra_0
  go_wp2_with fail
  refine (KS.out _).mono ?_
  rintro r w1 ⟨rfl, b1⟩
  have B1 : Below w.heap.size w w1 := btr B0 b1
  have Ra_1 := heap_of b1 _ _ _ Ra_0
  have Rz_1 := heap_of b1 _ _ _ Rz_0
  clear b1 B0 Ra_0 ca_0_0 ca_0_1 Rz_0
  obtain ⟨ca_1_0, ca_1_1⟩ := cells2s Ra_1
  go_wp2_with fail
  refine (KF.out _).mono ?_
  rintro r w2 ⟨rfl, b2⟩
  have B2 : Below w.heap.size w w2 := btr B1 b2
  have Ra_2 := heap_of b2 _ _ _ Ra_1
  have Rz_2 := heap_of b2 _ _ _ Rz_1
  clear b2 B1 Ra_1 ca_1_0 ca_1_1 Rz_1
  obtain ⟨ca_2_0, ca_2_1⟩ := cells2s Ra_2
  obtain ⟨cz_2_0, cz_2_1⟩ := cells2s Rz_2
  have q0 := fz (k := 0) Rz_2
  have q1 := fz (k := 1) Rz_2
  obtain ⟨E0, E1⟩ := set2_cells Rz_2 (.int .u64 (u : Nat)) (.int .u64 (v : Nat))
  go_wp2
  exact bodyPost_ret (v := .agg #[.int .u64 (u : Nat), .int .u64 (v : Nat)]) (by simp [results, Tryd.results12, go_sem, E0, E1]) rfl ⟨rfl, set2_below B2 (by first | exact Nat.le_refl _ | omega | (skip; omega)) _ _⟩
set_option maxRecDepth 100000 in
set_option maxHeartbeats 8000000 in
theorem rwi_01 (f : Int) (x1 y1 u v : Nat) (w : World) (KS : Box (∀ w, Calls Tryd.prog 11 #[.int .u8 f, .agg #[.int .u64 (x1 : Nat), .int .u64 (y1 : Nat)]] w fun r w' => r = .returned (.bool false) ∧ Below w.heap.size w w')) (KF : Box (∀ w, Calls Tryd.prog 29 #[.int .u8 f, .agg #[.int .u64 (x1 : Nat), .int .u64 (y1 : Nat)]] w fun r w' => r = .returned (.agg #[.int .u64 (u : Nat), .int .u64 (v : Nat)]) ∧ Below w.heap.size w w')) : Calls Tryd.prog 12 #[.int .u8 f, .agg #[.int .u64 (x1 : Nat), .int .u64 (y1 : Nat)], .bool true] w fun r w' => r = .returned (.agg #[.int .u64 (u : Nat), .int .u64 (v : Nat)]) ∧ Below w.heap.size w w' := by
  obtain ⟨Ra_0, Rz_0, B0⟩ := opn2 w (Obj.cells #[.int .u64 (x1 : Nat), .int .u64 (y1 : Nat)] 25) (Obj.cells #[.int .u64 0, .int .u64 0] 25)
  go_enter Tryd.func12, Tryd.ntmps12
  obtain ⟨ca_0_0, ca_0_1⟩ := cells2s Ra_0
  go_wp2_with fail
  refine (KS.out _).mono ?_
  rintro r w1 ⟨rfl, b1⟩
  have B1 : Below w.heap.size w w1 := btr B0 b1
  have Ra_1 := heap_of b1 _ _ _ Ra_0
  have Rz_1 := heap_of b1 _ _ _ Rz_0
  clear b1 B0 Ra_0 ca_0_0 ca_0_1 Rz_0
  obtain ⟨ca_1_0, ca_1_1⟩ := cells2s Ra_1
  go_wp2_with fail
  refine (KF.out _).mono ?_
  rintro r w2 ⟨rfl, b2⟩
  have B2 : Below w.heap.size w w2 := btr B1 b2
  have Ra_2 := heap_of b2 _ _ _ Ra_1
  have Rz_2 := heap_of b2 _ _ _ Rz_1
  clear b2 B1 Ra_1 ca_1_0 ca_1_1 Rz_1
  obtain ⟨ca_2_0, ca_2_1⟩ := cells2s Ra_2
  obtain ⟨cz_2_0, cz_2_1⟩ := cells2s Rz_2
  have q0 := fz (k := 0) Rz_2
  have q1 := fz (k := 1) Rz_2
  obtain ⟨E0, E1⟩ := set2_cells Rz_2 (.int .u64 (u : Nat)) (.int .u64 (v : Nat))
  go_wp2
  exact bodyPost_ret (v := .agg #[.int .u64 (u : Nat), .int .u64 (v : Nat)]) (by simp [results, Tryd.results12, go_sem, E0, E1]) rfl ⟨rfl, set2_below B2 (by first | exact Nat.le_refl _ | omega | (skip; omega)) _ _⟩
set_option maxRecDepth 100000 in
set_option maxHeartbeats 8000000 in
theorem rwi_11 (f : Int) (x1 y1 u v : Nat) (w : World) (KS : Box (∀ w, Calls Tryd.prog 11 #[.int .u8 f, .agg #[.int .u64 (x1 : Nat), .int .u64 (y1 : Nat)]] w fun r w' => r = .returned (.bool true) ∧ Below w.heap.size w w'))  : Calls Tryd.prog 12 #[.int .u8 f, .agg #[.int .u64 (x1 : Nat), .int .u64 (y1 : Nat)], .bool true] w fun r w' => r = .returned (.agg #[.int .u64 (x1 : Nat), .int .u64 (y1 : Nat)]) ∧ Below w.heap.size w w' := by
  obtain ⟨Ra_0, Rz_0, B0⟩ := opn2 w (Obj.cells #[.int .u64 (x1 : Nat), .int .u64 (y1 : Nat)] 25) (Obj.cells #[.int .u64 0, .int .u64 0] 25)
  go_enter Tryd.func12, Tryd.ntmps12
  obtain ⟨ca_0_0, ca_0_1⟩ := cells2s Ra_0
  go_wp2_with fail
  refine (KS.out _).mono ?_
  rintro r w1 ⟨rfl, b1⟩
  have B1 : Below w.heap.size w w1 := btr B0 b1
  have Ra_1 := heap_of b1 _ _ _ Ra_0
  have Rz_1 := heap_of b1 _ _ _ Rz_0
  clear b1 B0 Ra_0 ca_0_0 ca_0_1 Rz_0
  obtain ⟨ca_1_0, ca_1_1⟩ := cells2s Ra_1
  obtain ⟨cz_1_0, cz_1_1⟩ := cells2s Rz_1
  have q0 := fz (k := 0) Rz_1
  have q1 := fz (k := 1) Rz_1
  obtain ⟨E0, E1⟩ := set2_cells Rz_1 (.int .u64 (x1 : Nat)) (.int .u64 (y1 : Nat))
  go_wp2
  exact bodyPost_ret (v := .agg #[.int .u64 (x1 : Nat), .int .u64 (y1 : Nat)]) (by simp [results, Tryd.results12, go_sem, E0, E1]) rfl ⟨rfl, set2_below B1 (by first | exact Nat.le_refl _ | omega | (skip; omega)) _ _⟩
set_option maxRecDepth 100000 in
set_option maxHeartbeats 8000000 in
theorem rwi_00 (f : Int) (x1 y1 u v : Nat) (w : World) (KS : Box (∀ w, Calls Tryd.prog 11 #[.int .u8 f, .agg #[.int .u64 (x1 : Nat), .int .u64 (y1 : Nat)]] w fun r w' => r = .returned (.bool false) ∧ Below w.heap.size w w'))  : Calls Tryd.prog 12 #[.int .u8 f, .agg #[.int .u64 (x1 : Nat), .int .u64 (y1 : Nat)], .bool false] w fun r w' => r = .returned (.agg #[.int .u64 (x1 : Nat), .int .u64 (y1 : Nat)]) ∧ Below w.heap.size w w' := by
  obtain ⟨Ra_0, Rz_0, B0⟩ := opn2 w (Obj.cells #[.int .u64 (x1 : Nat), .int .u64 (y1 : Nat)] 25) (Obj.cells #[.int .u64 0, .int .u64 0] 25)
  go_enter Tryd.func12, Tryd.ntmps12
  obtain ⟨ca_0_0, ca_0_1⟩ := cells2s Ra_0
  go_wp2_with fail
  refine (KS.out _).mono ?_
  rintro r w1 ⟨rfl, b1⟩
  have B1 : Below w.heap.size w w1 := btr B0 b1
  have Ra_1 := heap_of b1 _ _ _ Ra_0
  have Rz_1 := heap_of b1 _ _ _ Rz_0
  clear b1 B0 Ra_0 ca_0_0 ca_0_1 Rz_0
  obtain ⟨ca_1_0, ca_1_1⟩ := cells2s Ra_1
  obtain ⟨cz_1_0, cz_1_1⟩ := cells2s Rz_1
  have q0 := fz (k := 0) Rz_1
  have q1 := fz (k := 1) Rz_1
  obtain ⟨E0, E1⟩ := set2_cells Rz_1 (.int .u64 (x1 : Nat)) (.int .u64 (y1 : Nat))
  go_wp2
  exact bodyPost_ret (v := .agg #[.int .u64 (x1 : Nat), .int .u64 (y1 : Nat)]) (by simp [results, Tryd.results12, go_sem, E0, E1]) rfl ⟨rfl, set2_below B1 (by first | exact Nat.le_refl _ | omega | (skip; omega)) _ _⟩
theorem rwith_is (f : Int) (hf : Is4 f) (x1 y1 a : Nat) (hx1 : x1 < 18446744073709551616) (hy1 : y1 < 18446744073709551616) (ha : y1 + 18446744073709551616 * x1 = a) (oa : okB f a = true) (neg : Bool) (u v : Nat) (hu : bv7 (wiB f a neg) = (u, v)) (w : World) : Calls Tryd.prog 12 #[.int .u8 f, .agg #[.int .u64 (x1 : Nat), .int .u64 (y1 : Nat)], .bool neg] w fun r w' => r = .returned (.agg #[.int .u64 (u : Nat), .int .u64 (v : Nat)]) ∧ Below w.heap.size w w' := by
  have KS : ∀ o, kN f a = o → Box (∀ w, Calls Tryd.prog 11 #[.int .u8 f, .agg #[.int .u64 (x1 : Nat), .int .u64 (y1 : Nat)]] w fun r w' => r = .returned (.bool o) ∧ Below w.heap.size w w') := fun o h => box (fun w => rSign_yes f hf x1 y1 a o hx1 hy1 ha oa h w)
  have KF : ∀ u v, bv7 (sgB f a true) = (u, v) → Box (∀ w, Calls Tryd.prog 29 #[.int .u8 f, .agg #[.int .u64 (x1 : Nat), .int .u64 (y1 : Nat)]] w fun r w' => r = .returned (.agg #[.int .u64 (u : Nat), .int .u64 (v : Nat)]) ∧ Below w.heap.size w w') := fun u v h => box (fun w => rFlip_yes f hf x1 y1 a u v hx1 hy1 ha oa h w)
  have e : bv7 a = (x1, y1) := by
    unfold bv7
    rw [show a / 18446744073709551616 = x1 by omega, show a % 18446744073709551616 = y1 by omega]
  unfold wiB at hu
  cases h : kN f a <;> cases neg <;> rw [h] at hu
  · have hu : bv7 a = (u, v) := hu
    rw [e] at hu
    cases hu
    exact rwi_00 f x1 y1 0 0 w (KS false h)
  · exact rwi_01 f x1 y1 u v w (KS false h) (KF u v hu)
  · exact rwi_10 f x1 y1 u v w (KS true h) (KF u v hu)
  · have hu : bv7 a = (u, v) := hu
    rw [e] at hu
    cases hu
    exact rwi_11 f x1 y1 0 0 w (KS true h)
end Go.Proofs.YtaengojkjfgppaaDoor
