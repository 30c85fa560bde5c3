/-
  What the functions that the statement reaches return: part 9 (GQ, O6, NA).
-/
import Derived.Test.YtlpelcfaakfmiaaDoorTw08
namespace Go.Proofs.YtlpelcfaakfmiaaDoor
set_option maxRecDepth 100000
set_option maxHeartbeats 40000000
set_option maxRecDepth 100000
open Go.RowKit WMath XMath
set_option linter.unusedSimpArgs false
set_option linter.unusedVariables false
theorem whX_lim (f m : Int) (n : Nat) (o : Bool) (N : Nat) (ex : Bool) (e : Int) (h : whX f m n = ((o, N), (ex, e))) : N < Q ∧ IntKind.i64.wrap e = e ∧ (e = 0 ∨ e = 80 ∨ e = 4) := by
  obtain ⟨Z, hZ, eQ⟩ := Qq384
  unfold whX at h
  split at h
  · cases h; exact ⟨Q_pos, by decide, Or.inr (Or.inl rfl)⟩
  · split at h
    · cases h; exact ⟨Q_pos, by decide, Or.inr (Or.inr rfl)⟩
    · rename_i c
      cases h
      refine ⟨?_, by decide, Or.inl rfl⟩
      rw [eQ]
      exact (blen_iff _ Z).1 (by omega)
theorem tiX_fl (k f m : Int) (n : Nat) : (tiX k f m n).2 = 16 ∨ (tiX k f m n).2 = 0 ∨ (tiX k f m n).2 = 1 := by
  unfold tiX tiC
  repeat' split
  all_goals simp
theorem whole_all (f m n : Int) (h0 : 0 ≤ f) (n0 : 0 ≤ n) (x1 y1 a : Nat) (hx : x1 < 18446744073709551616) (hy : y1 < 18446744073709551616) (hn : y1 + 18446744073709551616 * x1 = a)
    (CW : (okB f a = true → m ≤ 4 → ∀ (t : Nat) (fl : Int), tiX 0 f m a = (t, fl) → Box (∀ w, FAt w → Calls Tryd.prog 4 #[.int .u8 0, .int .u8 f, .int .u8 m, .agg #[.int .u64 (x1 : Nat), .int .u64 (y1 : Nat)]] w fun r w' => r = .returned (.tuple #[.int .u64 (t : Nat), .int .u8 fl, .int .i64 0]) ∧ Below w.heap.size w w'))) (CL : (okB f a = true → m ≤ 4 → ∀ (t : Nat) (fl : Int), tiX 2 f m a = (t, fl) → Box (∀ w, FAt w → Calls Tryd.prog 4 #[.int .u8 2, .int .u8 f, .int .u8 m, .agg #[.int .u64 (x1 : Nat), .int .u64 (y1 : Nat)]] w fun r w' => r = .returned (.tuple #[.int .u64 (t : Nat), .int .u8 fl, .int .i64 0]) ∧ Below w.heap.size w w'))) (CU : (okB f a = true → m ≤ 4 → ∀ (t : Nat) (fl : Int), tiX 3 f m a = (t, fl) → Box (∀ w, FAt w → Calls Tryd.prog 4 #[.int .u8 3, .int .u8 f, .int .u8 m, .agg #[.int .u64 (x1 : Nat), .int .u64 (y1 : Nat)]] w fun r w' => r = .returned (.tuple #[.int .u64 (t : Nat), .int .u8 fl, .int .i64 0]) ∧ Below w.heap.size w w'))) (CN : (okB f a = true → n ≤ 4 → ∀ (t : Nat) (fl : Int), tiX 0 f n a = (t, fl) → Box (∀ w, FAt w → Calls Tryd.prog 4 #[.int .u8 0, .int .u8 f, .int .u8 n, .agg #[.int .u64 (x1 : Nat), .int .u64 (y1 : Nat)]] w fun r w' => r = .returned (.tuple #[.int .u64 (t : Nat), .int .u8 fl, .int .i64 0]) ∧ Below w.heap.size w w')))
    (C0 : ¬ (okB f a = true ∧ m ≤ 4) → Box (∀ w, FAt w → Calls Tryd.prog 4 #[.int .u8 0, .int .u8 f, .int .u8 m, .agg #[.int .u64 (x1 : Nat), .int .u64 (y1 : Nat)]] w fun r w' => r = .returned (.tuple #[.int .u64 0, .int .u8 0, .int .i64 2]) ∧ Below w.heap.size w w') ∧ Box (∀ w, FAt w → Calls Tryd.prog 4 #[.int .u8 2, .int .u8 f, .int .u8 m, .agg #[.int .u64 (x1 : Nat), .int .u64 (y1 : Nat)]] w fun r w' => r = .returned (.tuple #[.int .u64 0, .int .u8 0, .int .i64 2]) ∧ Below w.heap.size w w')) (W1 : okB f a = true → m ≤ 4 → ∀ (o : Bool) (N : Nat) (ex : Bool) (e : Int), whX f m a = ((o, N), (ex, e)) → Box (∀ w, FAt w → Calls Tryd.prog 7 #[.int .u8 f, .int .u8 m, .agg #[.int .u64 (x1 : Nat), .int .u64 (y1 : Nat)]] w fun r w' => r = .returned (.tuple #[.bool o, .agg (cw 6 N), .bool ex, .int .i64 e]) ∧ Below w.heap.size w w')) (W0 : ¬ (okB f a = true ∧ m ≤ 4) → Box (∀ w, FAt w → Calls Tryd.prog 7 #[.int .u8 f, .int .u8 m, .agg #[.int .u64 (x1 : Nat), .int .u64 (y1 : Nat)]] w fun r w' => r = .returned (.tuple #[.bool false, .agg (cw 6 0), .bool false, .int .i64 2]) ∧ Below w.heap.size w w'))
    (KA : Box (∀ w, FAt w → Calls Tryd.prog 6 #[] w fun r w' => r = .returned (.bool true) ∧ Below w.heap.size w w')) (w : World) (hT : FAt w) : Calls Tryd.prog 3 #[.int .u8 f, .int .u8 m, .int .u8 n, .agg #[.int .u64 (x1 : Nat), .int .u64 (y1 : Nat)]] w fun r w' => r = .returned (.bool true) ∧ Below w.heap.size w w' := by
  by_cases c : okB f a = true ∧ m ≤ 4
  case neg => exact tw_e f m n x1 y1 0 0 0 0 w (C0 c).1 (C0 c).2 KA hT
  obtain ⟨oa, m4⟩ := c
  obtain ⟨x, fl, e0⟩ : ∃ t fl, tiX 0 f m a = (t, fl) := ⟨_, _, rfl⟩
  obtain ⟨y, gl, e2⟩ : ∃ t fl, tiX 2 f m a = (t, fl) := ⟨_, _, rfl⟩
  have K1 := CW oa m4 x fl e0
  have K2 := CL oa m4 y gl e2
  have KM := box (fun w => bel_so (s_checkMode n w))
  by_cases n4 : n ≤ 4
  case neg =>
    rw [if_neg n4] at KM
    exact tw_m f m n x1 y1 _ _ fl gl w K1 K2 KM KA hT
  have M := KM
  rw [if_pos n4] at M
  clear KM
  obtain ⟨o, N, ex, e, hw⟩ : ∃ o N ex e, whX f m a = ((o, N), (ex, e)) := ⟨_, _, _, _, rfl⟩
  obtain ⟨q1, q2, q3⟩ := whX_lim f m a o N ex e hw
  have W := W1 oa m4 o N ex e hw
  have F := tiX_fl 0 f m a
  rw [e0] at F
  have same : fl ≠ 16 → y = x ∧ gl = fl := by
    intro q
    have := tiX_WL (f := f) (m := m) (n := a) (by rw [e0]; exact q)
    rw [e0, e2] at this
    cases this
    exact ⟨rfl, rfl⟩
  have again : fl = 0 → Box (∀ w, FAt w → Calls Tryd.prog 4 #[.int .u8 0, .int .u8 f, .int .u8 n, .agg #[.int .u64 (x1 : Nat), .int .u64 (y1 : Nat)]] w fun r w' => r = .returned (.tuple #[.int .u64 (x : Nat), .int .u8 0, .int .i64 0]) ∧ Below w.heap.size w w') := by
    intro q
    refine CN oa n4 x 0 ?_
    rw [tiX_ex (k := 0) (f := f) (m := m) (n := a) (by rw [e0]; exact q), e0, q]
  have zero : e = 0 → N = 0 → o = false ∧ ∃ j : Int, (j = 0 ∨ j = 1) ∧ Box (∀ w, FAt w → Calls Tryd.prog 4 #[.int .u8 3, .int .u8 f, .int .u8 m, .agg #[.int .u64 (x1 : Nat), .int .u64 (y1 : Nat)]] w fun r w' => r = .returned (.tuple #[.int .u64 ((0 : Nat) : Int), .int .u8 j, .int .i64 0]) ∧ Below w.heap.size w w') := by
    intro z1 z2
    unfold whX at hw
    by_cases fin : 0 < kC f a ∧ kC f a < 7
    · rw [if_neg (fun q => q fin)] at hw
      split at hw
      · cases hw; exact absurd z1 (by decide)
      · injection hw with h1 h2
        injection h1 with h3 h4
        have tz := tiX_zero (m := m) fin.1 fin.2 (h4.trans z2)
        refine ⟨by rw [← h3, h4, z2]; simp, _, ?_, CU oa m4 0 _ tz⟩
        cases (tiR f m a).2 <;> simp
    · rw [if_pos fin] at hw
      cases hw
      exact absurd z1 (by decide)
  rcases F with F | F | F
  · have F : fl = 16 := F
    subst F
    by_cases z1 : e = 0
    · subst z1
      by_cases z2 : N = 0
      · obtain ⟨z3, j, z4, K4⟩ := zero rfl z2
        subst z2
        subst z3
        rcases z4 with rfl | rfl
        · exact tw_iz0 f m n x1 y1 _ _ _ ex w K1 K2 M W K4 KA hT
        · exact tw_iz1 f m n x1 y1 _ _ _ ex w K1 K2 M W K4 KA hT
      · exact tw_in f m n x1 y1 _ _ _ o ex N (decide_eq_false z2) q1 w K1 K2 M W KA hT
    · exact tw_ie f m n x1 y1 _ _ _ o ex N e (beq_eq_false_iff_ne.2 z1) w K1 K2 M W KA hT
  · have F : fl = 0 := F
    have K3 := again F
    obtain ⟨rfl, rfl⟩ := same (by omega)
    subst F
    by_cases z1 : e = 0
    · subst z1
      by_cases z2 : N = 0
      · obtain ⟨z3, j, z4, K4⟩ := zero rfl z2
        subst z2
        subst z3
        rcases z4 with rfl | rfl
        · exact tw_0z0 f m n x1 y1 _ 0 0 ex w K1 K2 M K3 W K4 KA hT
        · exact tw_0z1 f m n x1 y1 _ 0 0 ex w K1 K2 M K3 W K4 KA hT
      · exact tw_0n f m n x1 y1 _ 0 0 o ex N (decide_eq_false z2) q1 w K1 K2 M K3 W KA hT
    · exact tw_0e f m n x1 y1 _ 0 0 o ex N e (beq_eq_false_iff_ne.2 z1) w K1 K2 M K3 W KA hT
  · have F : fl = 1 := F
    obtain ⟨rfl, rfl⟩ := same (by omega)
    subst F
    by_cases z1 : e = 0
    · subst z1
      by_cases z2 : N = 0
      · obtain ⟨z3, j, z4, K4⟩ := zero rfl z2
        subst z2
        subst z3
        rcases z4 with rfl | rfl
        · exact tw_1z0 f m n x1 y1 _ 0 0 ex w K1 K2 M W K4 KA hT
        · exact tw_1z1 f m n x1 y1 _ 0 0 ex w K1 K2 M W K4 KA hT
      · exact tw_1n f m n x1 y1 _ 0 0 o ex N (decide_eq_false z2) q1 w K1 K2 M W KA hT
    · exact tw_1e f m n x1 y1 _ 0 0 o ex N e (beq_eq_false_iff_ne.2 z1) w K1 K2 M W KA hT
end Go.Proofs.YtlpelcfaakfmiaaDoor
namespace Go.Proofs.YtlpelcfaakfmiaaDoor
set_option maxRecDepth 100000
set_option maxHeartbeats 40000000
set_option maxRecDepth 100000
open Go.RowKit WMath
set_option linter.unusedSimpArgs false
set_option linter.unusedVariables false
theorem one_row (x1 y1 : Nat) (T : TypeId) (g : Nat) (w : World) (hg : w.heap.size = g) : (w.alloc (.cells #[.int .u64 (x1 : Nat), .int .u64 (y1 : Nat)] T)).heap[g]? = some (.cells (bls [(x1, y1)]) T) := by
  rw [← hg]
  exact heap_alloc_last _ _
theorem one_lim {x1 y1 : Nat} (hx1 : x1 < 18446744073709551616) (hy1 : y1 < 18446744073709551616) : Box (∀ p ∈ [(x1, y1)], p.1 < 18446744073709551616 ∧ p.2 < 18446744073709551616) := box (fun p hp => by
  rcases List.mem_cons.1 hp with rfl | h
  · exact ⟨hx1, hy1⟩
  · exact absurd h List.not_mem_nil)
theorem kmay1 (f m : Int) (h0 : 0 ≤ f) (h1 : f ≤ 255) (m0 : 0 ≤ m) (x1 y1 a : Nat) (hx1 : x1 < 18446744073709551616) (hy1 : y1 < 18446744073709551616) (ha : y1 + 18446744073709551616 * x1 = a) (o : Bool) (ho : (decide (f ≤ 3 ∧ m ≤ 4) && okB f a) = o) :
    Box (∀ (T : TypeId) (g : Nat) (w : World), w.heap.size = g → FAt w → Calls Tryd.prog 14 #[.int .u8 f, .int .u8 m, .slice (some ⟨g, 0, none⟩) 1 1] (w.alloc (.cells #[.int .u64 (x1 : Nat), .int .u64 (y1 : Nat)] T)) fun r w' => r = .returned (.bool o) ∧ Below w.heap.size w w') := by
  refine box (fun T g w hg hT => ?_)
  have B := (bal w (.cells #[.int .u64 (x1 : Nat), .int .u64 (y1 : Nat)] T))
  have row := one_row x1 y1 T g w hg
  have hT2 := fatB hT B
  by_cases cc : f ≤ 3 ∧ m ≤ 4
  · have hf := is4_of h0 cc.1
    obtain ⟨u, v, hv⟩ : ∃ u v, bv7 (eZero f false) = (u, v) := ⟨_, _, rfl⟩
    have KP : Box (∀ w, FAt w → Calls Tryd.prog 26 #[.int .u8 f, .int .u8 m, .agg (rg false 0 0 false)] w fun r w' => r = .returned (.tuple #[.agg #[.int .u64 (u : Nat), .int .u64 (v : Nat)], .int .u8 0, .int .i64 0]) ∧ Below w.heap.size w w') := box (fun w hT => kPack_zero f m hf ⟨m0, cc.2⟩ false 0 (by decide) (by decide) u v hv w hT)
    refine (op_may f m hf [(x1, y1)] 1 g 1 T _ rfl (by decide) (one_lim hx1 hy1) row u v 0 KP o ?_ hT2).mono fun _ _ ⟨q1, q2⟩ => ⟨q1, btr B q2⟩
    rw [← ho, decide_eq_true cc]
    show (okP f (x1, y1) && true) = _
    unfold okP
    rw [ha, Bool.and_true, Bool.true_and]
  · have e : o = false := by rw [← ho, decide_eq_false cc]; rfl
    subst e
    exact (op_may_no f m 0 0 0 2 _ rfl _ (box (fun w hT => kPack_no f m h0 h1 false 0 Q_pos 0 false (fun q => cc ⟨q.1, q.2.1⟩) w hT)) hT2).mono fun _ _ ⟨q1, q2⟩ => ⟨q1, btr B q2⟩
theorem pq_kind (k : Int) (hk : IntKind.i64.wrap k = k) (o : Bool) (ho : decide (k < 4) = o) (w : World) : Calls Tryd.prog 8 #[.int .u8 k] w fun r w' => r = .returned (.bool o) ∧ Below w.heap.size w w' := by
  have B0 : Below w.heap.size w w := (Below.refl _ _)
  go_enter Tryd.func8, Tryd.ntmps8
  go_wp2
  go_ret
  exact ⟨rfl, B0⟩
theorem pq_fin (c : Nat) (o : Bool) (ho : decide (0 < c ∧ c < 7) = o) (w : World) : Calls Tryd.prog 16 #[.int .u8 (c : Nat)] w fun r w' => r = .returned (.bool o) ∧ Below w.heap.size w w' := by
  by_cases c0 : 0 < c
  · have d0 : decide ((0 : Int) < (c : Int)) = true := decide_eq_true (by omega)
    have d7 : decide ((c : Int) < 7) = o := by
      rw [← ho]
      exact decide_eq_decide.2 (by omega)
    clear ho
    have B0 : Below w.heap.size w w := (Below.refl _ _)
    go_enter Tryd.func16, Tryd.ntmps16
    go_wp2
    go_ret
    exact ⟨rfl, B0⟩
  · have d0 : decide ((0 : Int) < (c : Int)) = false := decide_eq_false (by omega)
    rw [decide_eq_false (by omega)] at ho
    subst ho
    have B0 : Below w.heap.size w w := (Below.refl _ _)
    go_enter Tryd.func16, Tryd.ntmps16
    go_wp2
    go_ret
    exact ⟨rfl, B0⟩
set_option maxRecDepth 100000 in
set_option maxHeartbeats 8000000 in
theorem pq_below (f : Int) (x1 y1 c : Nat) (o : Bool) (ho : decide ((c : Int) ≤ 3) = o) (w : World) (KC : Box (∀ w, FAt w → Calls Tryd.prog 25 #[.int .u8 f, .agg #[.int .u64 (x1 : Nat), .int .u64 (y1 : Nat)]] w fun r w' => r = .returned (.tuple #[.int .u8 (c : Nat), .int .i64 0]) ∧ Below w.heap.size w w')) (hT : FAt w) : Calls Tryd.prog 12 #[.int .u8 f, .agg #[.int .u64 (x1 : Nat), .int .u64 (y1 : Nat)]] w fun r w' => r = .returned (.bool o) ∧ Below w.heap.size w w' := by
  have FF := box hT
  clear hT
  obtain ⟨Ra_0, B0⟩ := opn1 w (Obj.cells #[.int .u64 (x1 : Nat), .int .u64 (y1 : Nat)] 26)
  go_enter Tryd.func12, Tryd.ntmps12
  obtain ⟨ca_0_0, ca_0_1⟩ := cells2s Ra_0
  go_wp2_with fail
  refine (KC.out _ (fatB FF.out B0)).mono ?_
  rintro r w1 ⟨rfl, b1⟩
  have B1 : Below w.heap.size w w1 := btr B0 b1
  have Ra_1 := heap_of b1 _ _ _ Ra_0
  clear b1 B0 Ra_0 ca_0_0 ca_0_1
  obtain ⟨ca_1_0, ca_1_1⟩ := cells2s Ra_1
  go_wp2
  go_ret
  exact ⟨rfl, B1⟩
set_option maxRecDepth 100000 in
set_option maxHeartbeats 8000000 in
theorem pq_reach00 (w : World) (hT : FAt w) : Calls Tryd.prog 10 #[.int .u8 0, .bool true] w fun r w' => r = .returned (.agg (cw 6 2147483648)) ∧ Below w.heap.size w w' := by
  have hat := cw_at 6
  have hz := cw6z
  have hff := cw6f
  have hs0 := st0
  have hcs : ∀ x, ((cw 6 x).size = 6) = True := fun x => eq_true (cw_size 6 x)
  obtain ⟨Rz_0, B0⟩ := opn1 w (Obj.cells (cw 6 0) 35)
  go_enter Tryd.func10, Tryd.ntmps10
  have T2 := fatB hT B0
  have c0 := fat_x T2 0 0 0 (.int .u64 2147483648) rfl
  have c1 := fat_x T2 1 0 1 (.int .u64 0) rfl
  have c2 := fat_x T2 2 0 2 (.int .u64 0) rfl
  have c3 := fat_x T2 3 0 3 (.int .u64 0) rfl
  have c4 := fat_x T2 4 0 4 (.int .u64 0) rfl
  have c5 := fat_x T2 5 0 5 (.int .u64 0) rfl
  have hl : #[Value.int .u64 2147483648, Value.int .u64 0, Value.int .u64 0, Value.int .u64 0, Value.int .u64 0, Value.int .u64 0] = cw 6 2147483648 := by kernel_rfl
  clear T2 hT
  have dz := row_cell (heap_alloc_last w (.cells (cw 6 2147483648) 35))
  go_wp2
  exact bodyPost_ret (v := .agg (cw 6 2147483648)) (by simp [results, Tryd.results10, go_sem, dz, hff]) rfl ⟨rfl, bal w _⟩
set_option maxRecDepth 100000 in
set_option maxHeartbeats 8000000 in
theorem pq_reach01 (w : World) (hT : FAt w) : Calls Tryd.prog 10 #[.int .u8 1, .bool true] w fun r w' => r = .returned (.agg (cw 6 0)) ∧ Below w.heap.size w w' := by
  have hat := cw_at 6
  have hz := cw6z
  have hff := cw6f
  have hs0 := st0
  have hcs : ∀ x, ((cw 6 x).size = 6) = True := fun x => eq_true (cw_size 6 x)
  obtain ⟨Rz_0, B0⟩ := opn1 w (Obj.cells (cw 6 0) 35)
  go_enter Tryd.func10, Tryd.ntmps10
  have T2 := fatB hT B0
  have c0 := fat_x T2 6 0 6 (.int .u64 0) rfl
  have c1 := fat_x T2 7 0 7 (.int .u64 0) rfl
  have c2 := fat_x T2 8 0 8 (.int .u64 0) rfl
  have c3 := fat_x T2 9 0 9 (.int .u64 0) rfl
  have c4 := fat_x T2 10 0 10 (.int .u64 0) rfl
  have c5 := fat_x T2 11 0 11 (.int .u64 0) rfl
  have hl : #[Value.int .u64 0, Value.int .u64 0, Value.int .u64 0, Value.int .u64 0, Value.int .u64 0, Value.int .u64 0] = cw 6 0 := by kernel_rfl
  clear T2 hT
  have dz := row_cell (heap_alloc_last w (.cells (cw 6 0) 35))
  go_wp2
  exact bodyPost_ret (v := .agg (cw 6 0)) (by simp [results, Tryd.results10, go_sem, dz, hff]) rfl ⟨rfl, bal w _⟩
set_option maxRecDepth 100000 in
set_option maxHeartbeats 8000000 in
theorem pq_reach02 (w : World) (hT : FAt w) : Calls Tryd.prog 10 #[.int .u8 2, .bool true] w fun r w' => r = .returned (.agg (cw 6 9223372036854775808)) ∧ Below w.heap.size w w' := by
  have hat := cw_at 6
  have hz := cw6z
  have hff := cw6f
  have hs0 := st0
  have hcs : ∀ x, ((cw 6 x).size = 6) = True := fun x => eq_true (cw_size 6 x)
  obtain ⟨Rz_0, B0⟩ := opn1 w (Obj.cells (cw 6 0) 35)
  go_enter Tryd.func10, Tryd.ntmps10
  have T2 := fatB hT B0
  have c0 := fat_x T2 12 0 12 (.int .u64 9223372036854775808) rfl
  have c1 := fat_x T2 13 0 13 (.int .u64 0) rfl
  have c2 := fat_x T2 14 0 14 (.int .u64 0) rfl
  have c3 := fat_x T2 15 0 15 (.int .u64 0) rfl
  have c4 := fat_x T2 16 0 16 (.int .u64 0) rfl
  have c5 := fat_x T2 17 0 17 (.int .u64 0) rfl
  have hl : #[Value.int .u64 9223372036854775808, Value.int .u64 0, Value.int .u64 0, Value.int .u64 0, Value.int .u64 0, Value.int .u64 0] = cw 6 9223372036854775808 := by kernel_rfl
  clear T2 hT
  have dz := row_cell (heap_alloc_last w (.cells (cw 6 9223372036854775808) 35))
  go_wp2
  exact bodyPost_ret (v := .agg (cw 6 9223372036854775808)) (by simp [results, Tryd.results10, go_sem, dz, hff]) rfl ⟨rfl, bal w _⟩
set_option maxRecDepth 100000 in
set_option maxHeartbeats 8000000 in
theorem pq_reach03 (w : World) (hT : FAt w) : Calls Tryd.prog 10 #[.int .u8 3, .bool true] w fun r w' => r = .returned (.agg (cw 6 0)) ∧ Below w.heap.size w w' := by
  have hat := cw_at 6
  have hz := cw6z
  have hff := cw6f
  have hs0 := st0
  have hcs : ∀ x, ((cw 6 x).size = 6) = True := fun x => eq_true (cw_size 6 x)
  obtain ⟨Rz_0, B0⟩ := opn1 w (Obj.cells (cw 6 0) 35)
  go_enter Tryd.func10, Tryd.ntmps10
  have T2 := fatB hT B0
  have c0 := fat_x T2 18 0 18 (.int .u64 0) rfl
  have c1 := fat_x T2 19 0 19 (.int .u64 0) rfl
  have c2 := fat_x T2 20 0 20 (.int .u64 0) rfl
  have c3 := fat_x T2 21 0 21 (.int .u64 0) rfl
  have c4 := fat_x T2 22 0 22 (.int .u64 0) rfl
  have c5 := fat_x T2 23 0 23 (.int .u64 0) rfl
  have hl : #[Value.int .u64 0, Value.int .u64 0, Value.int .u64 0, Value.int .u64 0, Value.int .u64 0, Value.int .u64 0] = cw 6 0 := by kernel_rfl
  clear T2 hT
  have dz := row_cell (heap_alloc_last w (.cells (cw 6 0) 35))
  go_wp2
  exact bodyPost_ret (v := .agg (cw 6 0)) (by simp [results, Tryd.results10, go_sem, dz, hff]) rfl ⟨rfl, bal w _⟩
set_option maxRecDepth 100000 in
set_option maxHeartbeats 8000000 in
theorem pq_reach10 (w : World) (hT : FAt w) : Calls Tryd.prog 10 #[.int .u8 0, .bool false] w fun r w' => r = .returned (.agg (cw 6 2147483647)) ∧ Below w.heap.size w w' := by
  have hat := cw_at 6
  have hz := cw6z
  have hff := cw6f
  have hs0 := st0
  have hcs : ∀ x, ((cw 6 x).size = 6) = True := fun x => eq_true (cw_size 6 x)
  obtain ⟨Rz_0, B0⟩ := opn1 w (Obj.cells (cw 6 0) 35)
  go_enter Tryd.func10, Tryd.ntmps10
  have T2 := fatB hT B0
  have c0 := fat_x T2 24 1 0 (.int .u64 2147483647) rfl
  have c1 := fat_x T2 25 1 1 (.int .u64 0) rfl
  have c2 := fat_x T2 26 1 2 (.int .u64 0) rfl
  have c3 := fat_x T2 27 1 3 (.int .u64 0) rfl
  have c4 := fat_x T2 28 1 4 (.int .u64 0) rfl
  have c5 := fat_x T2 29 1 5 (.int .u64 0) rfl
  have hl : #[Value.int .u64 2147483647, Value.int .u64 0, Value.int .u64 0, Value.int .u64 0, Value.int .u64 0, Value.int .u64 0] = cw 6 2147483647 := by kernel_rfl
  clear T2 hT
  have dz := row_cell (heap_alloc_last w (.cells (cw 6 2147483647) 35))
  go_wp2
  exact bodyPost_ret (v := .agg (cw 6 2147483647)) (by simp [results, Tryd.results10, go_sem, dz, hff]) rfl ⟨rfl, bal w _⟩
set_option maxRecDepth 100000 in
set_option maxHeartbeats 8000000 in
theorem pq_reach11 (w : World) (hT : FAt w) : Calls Tryd.prog 10 #[.int .u8 1, .bool false] w fun r w' => r = .returned (.agg (cw 6 4294967295)) ∧ Below w.heap.size w w' := by
  have hat := cw_at 6
  have hz := cw6z
  have hff := cw6f
  have hs0 := st0
  have hcs : ∀ x, ((cw 6 x).size = 6) = True := fun x => eq_true (cw_size 6 x)
  obtain ⟨Rz_0, B0⟩ := opn1 w (Obj.cells (cw 6 0) 35)
  go_enter Tryd.func10, Tryd.ntmps10
  have T2 := fatB hT B0
  have c0 := fat_x T2 30 1 6 (.int .u64 4294967295) rfl
  have c1 := fat_x T2 31 1 7 (.int .u64 0) rfl
  have c2 := fat_x T2 32 1 8 (.int .u64 0) rfl
  have c3 := fat_x T2 33 1 9 (.int .u64 0) rfl
  have c4 := fat_x T2 34 1 10 (.int .u64 0) rfl
  have c5 := fat_x T2 35 1 11 (.int .u64 0) rfl
  have hl : #[Value.int .u64 4294967295, Value.int .u64 0, Value.int .u64 0, Value.int .u64 0, Value.int .u64 0, Value.int .u64 0] = cw 6 4294967295 := by kernel_rfl
  clear T2 hT
  have dz := row_cell (heap_alloc_last w (.cells (cw 6 4294967295) 35))
  go_wp2
  exact bodyPost_ret (v := .agg (cw 6 4294967295)) (by simp [results, Tryd.results10, go_sem, dz, hff]) rfl ⟨rfl, bal w _⟩
set_option maxRecDepth 100000 in
set_option maxHeartbeats 8000000 in
theorem pq_reach12 (w : World) (hT : FAt w) : Calls Tryd.prog 10 #[.int .u8 2, .bool false] w fun r w' => r = .returned (.agg (cw 6 9223372036854775807)) ∧ Below w.heap.size w w' := by
  have hat := cw_at 6
  have hz := cw6z
  have hff := cw6f
  have hs0 := st0
  have hcs : ∀ x, ((cw 6 x).size = 6) = True := fun x => eq_true (cw_size 6 x)
  obtain ⟨Rz_0, B0⟩ := opn1 w (Obj.cells (cw 6 0) 35)
  go_enter Tryd.func10, Tryd.ntmps10
  have T2 := fatB hT B0
  have c0 := fat_x T2 36 1 12 (.int .u64 9223372036854775807) rfl
  have c1 := fat_x T2 37 1 13 (.int .u64 0) rfl
  have c2 := fat_x T2 38 1 14 (.int .u64 0) rfl
  have c3 := fat_x T2 39 1 15 (.int .u64 0) rfl
  have c4 := fat_x T2 40 1 16 (.int .u64 0) rfl
  have c5 := fat_x T2 41 1 17 (.int .u64 0) rfl
  have hl : #[Value.int .u64 9223372036854775807, Value.int .u64 0, Value.int .u64 0, Value.int .u64 0, Value.int .u64 0, Value.int .u64 0] = cw 6 9223372036854775807 := by kernel_rfl
  clear T2 hT
  have dz := row_cell (heap_alloc_last w (.cells (cw 6 9223372036854775807) 35))
  go_wp2
  exact bodyPost_ret (v := .agg (cw 6 9223372036854775807)) (by simp [results, Tryd.results10, go_sem, dz, hff]) rfl ⟨rfl, bal w _⟩
set_option maxRecDepth 100000 in
set_option maxHeartbeats 8000000 in
theorem pq_reach13 (w : World) (hT : FAt w) : Calls Tryd.prog 10 #[.int .u8 3, .bool false] w fun r w' => r = .returned (.agg (cw 6 18446744073709551615)) ∧ Below w.heap.size w w' := by
  have hat := cw_at 6
  have hz := cw6z
  have hff := cw6f
  have hs0 := st0
  have hcs : ∀ x, ((cw 6 x).size = 6) = True := fun x => eq_true (cw_size 6 x)
  obtain ⟨Rz_0, B0⟩ := opn1 w (Obj.cells (cw 6 0) 35)
  go_enter Tryd.func10, Tryd.ntmps10
  have T2 := fatB hT B0
  have c0 := fat_x T2 42 1 18 (.int .u64 18446744073709551615) rfl
  have c1 := fat_x T2 43 1 19 (.int .u64 0) rfl
  have c2 := fat_x T2 44 1 20 (.int .u64 0) rfl
  have c3 := fat_x T2 45 1 21 (.int .u64 0) rfl
  have c4 := fat_x T2 46 1 22 (.int .u64 0) rfl
  have c5 := fat_x T2 47 1 23 (.int .u64 0) rfl
  have hl : #[Value.int .u64 18446744073709551615, Value.int .u64 0, Value.int .u64 0, Value.int .u64 0, Value.int .u64 0, Value.int .u64 0] = cw 6 18446744073709551615 := by kernel_rfl
  clear T2 hT
  have dz := row_cell (heap_alloc_last w (.cells (cw 6 18446744073709551615) 35))
  go_wp2
  exact bodyPost_ret (v := .agg (cw 6 18446744073709551615)) (by simp [results, Tryd.results10, go_sem, dz, hff]) rfl ⟨rfl, bal w _⟩
set_option maxRecDepth 100000 in
set_option maxHeartbeats 8000000 in
theorem pq_reg_s_true (k n v : Int) (hk : (k == 0) = true ∨ ((k == 0) = false ∧ (k == 1) = true)) (hr : IntKind.u64.wrap (wrap64 (wrap32 (wrap64 (-wrap64 n) % 4294967296))) = v) (w : World) : Calls Tryd.prog 13 #[.int .u8 k, .bool true, .int .u64 n] w fun r w' => r = .returned (.int .u64 v) ∧ Below w.heap.size w w' := by
  subst hr
  rcases hk with hk | ⟨hk, hk2⟩
  · have B0 : Below w.heap.size w w := (Below.refl _ _)
    go_enter Tryd.func13, Tryd.ntmps13
    go_wp2
    go_ret
    exact ⟨rfl, B0⟩
  · have B0 : Below w.heap.size w w := (Below.refl _ _)
    go_enter Tryd.func13, Tryd.ntmps13
    go_wp2
    go_ret
    exact ⟨rfl, B0⟩
set_option maxRecDepth 100000 in
set_option maxHeartbeats 8000000 in
theorem pq_reg_s_false (k n v : Int) (hk : (k == 0) = true ∨ ((k == 0) = false ∧ (k == 1) = true)) (hr : IntKind.u64.wrap (wrap64 (wrap32 (wrap64 n % 4294967296))) = v) (w : World) : Calls Tryd.prog 13 #[.int .u8 k, .bool false, .int .u64 n] w fun r w' => r = .returned (.int .u64 v) ∧ Below w.heap.size w w' := by
  subst hr
  rcases hk with hk | ⟨hk, hk2⟩
  · have B0 : Below w.heap.size w w := (Below.refl _ _)
    go_enter Tryd.func13, Tryd.ntmps13
    go_wp2
    go_ret
    exact ⟨rfl, B0⟩
  · have B0 : Below w.heap.size w w := (Below.refl _ _)
    go_enter Tryd.func13, Tryd.ntmps13
    go_wp2
    go_ret
    exact ⟨rfl, B0⟩
set_option maxRecDepth 100000 in
set_option maxHeartbeats 8000000 in
theorem pq_reg_l_true (k n v : Int) (hk : (k == 0) = false ∧ (k == 1) = false) (hr : IntKind.u64.wrap (wrap64 (-wrap64 n)) = v) (w : World) : Calls Tryd.prog 13 #[.int .u8 k, .bool true, .int .u64 n] w fun r w' => r = .returned (.int .u64 v) ∧ Below w.heap.size w w' := by
  subst hr
  obtain ⟨hk, hk2⟩ := hk
  have B0 : Below w.heap.size w w := (Below.refl _ _)
  go_enter Tryd.func13, Tryd.ntmps13
  go_wp2
  go_ret
  exact ⟨rfl, B0⟩
set_option maxRecDepth 100000 in
set_option maxHeartbeats 8000000 in
theorem pq_reg_l_false (k n v : Int) (hk : (k == 0) = false ∧ (k == 1) = false) (hr : IntKind.u64.wrap (wrap64 n) = v) (w : World) : Calls Tryd.prog 13 #[.int .u8 k, .bool false, .int .u64 n] w fun r w' => r = .returned (.int .u64 v) ∧ Below w.heap.size w w' := by
  subst hr
  obtain ⟨hk, hk2⟩ := hk
  have B0 : Below w.heap.size w w := (Below.refl _ _)
  go_enter Tryd.func13, Tryd.ntmps13
  go_wp2
  go_ret
  exact ⟨rfl, B0⟩
set_option maxRecDepth 100000 in
set_option maxHeartbeats 8000000 in
theorem pq_end (k : Int) (neg : Bool) (T : Nat) (v : Int) (w : World) (KR : Box (∀ w, FAt w → Calls Tryd.prog 10 #[.int .u8 k, .bool neg] w fun r w' => r = .returned (.agg (cw 6 T)) ∧ Below w.heap.size w w')) (KI : Box (∀ w, Calls Tryd.prog 13 #[.int .u8 k, .bool neg, .int .u64 ((wd T 0 : Nat) : Int)] w fun r w' => r = .returned (.int .u64 v) ∧ Below w.heap.size w w')) (hT : FAt w) : Calls Tryd.prog 11 #[.int .u8 k, .bool neg] w fun r w' => r = .returned (.int .u64 v) ∧ Below w.heap.size w w' := by
  have FF := box hT
  clear hT
  have hat := cw_at 6
  have hz := cw6z
  have hff := cw6f
  have hs0 := st0
  have hcs : ∀ x, ((cw 6 x).size = 6) = True := fun x => eq_true (cw_size 6 x)
  have hx0 : ∀ (n : Nat) (w : World), (Instr.index 35 (.agg (cw 6 n)) (.int .i64 0)).run Tryd.prog w = .ok (.int .u64 ((wd n 0 : Nat) : Int)) w := fun n w => ix6 n 0 w (by decide)
  have B0 : Below w.heap.size w w := (Below.refl _ _)
  go_enter Tryd.func11, Tryd.ntmps11
  go_wp2_with fail
  refine (KR.out _ (fatB FF.out B0)).mono ?_
  rintro r w1 ⟨rfl, b1⟩
  have B1 : Below w.heap.size w w1 := btr B0 b1
  clear b1 B0 
  go_wp2_with fail
  refine (KI.out _).mono ?_
  rintro r w2 ⟨rfl, b2⟩
  have B2 : Below w.heap.size w w2 := btr B1 b2
  clear b2 B1 
  go_wp2
  go_ret
  exact ⟨rfl, B2⟩
end Go.Proofs.YtlpelcfaakfmiaaDoor
