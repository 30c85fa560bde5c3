/-
  What the functions that the statement reaches return: part 5 (K7, KA, KB).
-/
import Derived.Laws.CopyRow
import Derived.Test.YtdjlfhcalccajaaDoorWb04
namespace Go.Proofs.YtdjlfhcalccajaaDoor
set_option maxRecDepth 100000
set_option maxHeartbeats 40000000
set_option maxRecDepth 100000
open Go.RowKit WMath
set_option linter.unusedSimpArgs false
set_option linter.unusedVariables false
theorem bv_lt {n u v : Nat} (hn : n < 340282366920938463463374607431768211456) (h : bv7 n = (u, v)) : u < 18446744073709551616 ∧ v < 18446744073709551616 ∧ v + 18446744073709551616 * u = n := by
  unfold bv7 at h
  injection h with h1 h2
  omega
theorem kclass_is (f : Int) (hf : Is4 f) (x y n c : Nat) (hx : x < 18446744073709551616) (hy : y < 18446744073709551616) (hn : y + 18446744073709551616 * x = n) (hc : kC f n = c) (w : World) (hT : FAt w) : Calls Tryd.prog 21 #[.int .u8 f, .agg #[.int .u64 (x : Nat), .int .u64 (y : Nat)]] w fun r w' => r = .returned (.int .u8 (c : Nat)) ∧ Below w.heap.size w w' := by
  obtain ⟨u, v, huv⟩ : ∃ u v, bv7 (kT f n) = (u, v) := ⟨_, _, rfl⟩
  obtain ⟨i, j, hij⟩ : ∃ u v, bv7 (eInf f false) = (u, v) := ⟨_, _, rfl⟩
  obtain ⟨f1, f2, f3, f4, f5, f6, f7⟩ := fm hf
  have tl := kT_lt (f := f) n
  have tn : kT f n < 340282366920938463463374607431768211456 := by rw [f1, Nat.add_mul] at f7; omega
  obtain ⟨u1, v1, t1⟩ := bv_lt tn huv
  obtain ⟨i1, j1, e1⟩ := bv_lt (einf_k hf).2 hij
  obtain ⟨_, _, _, p4, _⟩ := pV_lim hf
  have p1 : IntKind.u64.wrap ((pV f : Int) - 1) = ((pV f - 1 : Nat) : Int) := by rcases hf with rfl | rfl | rfl | rfl <;> decide +kernel
  refine kclass_walk f x y (kE f n) (oV f) (pV f) u v i j (decide (2 ^ (pV f - 1) ≤ kT f n)) (kN f n) _ w
    (box (fun w hT => kfield_is f hf x y n _ hx hy hn rfl w hT)) (box (fun w hT => kfraction_is f hf x y n u v hx hy hn huv w hT)) (box (fun w hT => sk_inf f false hf i j hij w hT))
    (box (fun w hT => kfield_is f hf i j _ _ i1 j1 e1 (einf_k hf).1 w hT)) (box (fun w hT => kfw f hf _ rfl w hT)) (box (fun w _ => kbit_is u v _ (pV f - 1) _ u1 v1 t1 (by omega) (quiet_of hf _ tl) w))
    (box (fun w hT => ksign_is f hf x y n _ hx hy hn rfl w hT)) p1 ?_ hT
  have z1 : (kT f n = 0 → u = 0 ∧ v = 0) ∧ (kT f n ≠ 0 → (((u : Int) == 0) = false ∨ (u = 0 ∧ ((v : Int) == 0) = false))) := by
    refine ⟨fun h => by omega, fun h => ?_⟩
    by_cases hu : u = 0
    · refine Or.inr ⟨hu, ?_⟩; simp; omega
    · refine Or.inl ?_; simp; omega
  subst hc
  unfold kC
  by_cases c1 : kE f n = oV f
  · have b1 : ((kE f n : Int) == (oV f : Int)) = true := by rw [c1]; simp
    rw [if_pos c1]
    by_cases c2 : kT f n = 0
    · rw [if_pos c2]
      refine Or.inr (Or.inr (Or.inl ⟨b1, ?_, (z1.1 c2).1, (z1.1 c2).2, ?_⟩))
      · rw [c2]; exact decide_eq_false (by omega)
      · cases kN f n <;> rfl
    · rw [if_neg c2]
      by_cases c3 : 2 ^ (pV f - 1) ≤ kT f n
      · rw [if_pos c3]
        exact Or.inl ⟨b1, decide_eq_true c3, rfl⟩
      · rw [if_neg c3]
        exact Or.inr (Or.inl ⟨b1, decide_eq_false c3, z1.2 c2, rfl⟩)
  · have b1 : ((kE f n : Int) == (oV f : Int)) = false := by simp; omega
    rw [if_neg c1]
    by_cases c2 : kE f n = 0
    · have b2 : ((kE f n : Int) != 0) = false := by rw [c2]; rfl
      rw [if_neg (by simpa using c2)]
      by_cases c3 : kT f n = 0
      · rw [if_neg (by simpa using c3)]
        refine Or.inr (Or.inr (Or.inr (Or.inr (Or.inr ⟨b1, b2, (z1.1 c3).1, (z1.1 c3).2, ?_⟩))))
        cases kN f n <;> rfl
      · rw [if_pos (by simpa using c3)]
        refine Or.inr (Or.inr (Or.inr (Or.inr (Or.inl ⟨b1, b2, z1.2 c3, ?_⟩))))
        cases kN f n <;> rfl
    · have b2 : ((kE f n : Int) != 0) = true := by simp; omega
      rw [if_pos (by simpa using c2)]
      refine Or.inr (Or.inr (Or.inr (Or.inl ⟨b1, b2, ?_⟩)))
      cases kN f n <;> rfl

theorem fit_iff {f : Int} (hf : Is4 f) (n : Nat) : ((blen n : Nat) : Int) ≤ fW f ↔ Fit f n := by
  have h := blen_iff n (wV f + 1)
  have e : fW f = ((wV f + 1 : Nat) : Int) := by rcases hf with rfl | rfl | rfl | rfl <;> decide +kernel
  unfold Fit
  rw [e, Nat.pow_succ, Nat.mul_comm] at *
  omega
def okB (f : Int) (n : Nat) : Bool := decide (f ≤ 3 ∧ n < 2 * 2 ^ wV f)
theorem okB_fits (f : Int) (h0 : 0 ≤ f) (x y n : Nat) (hn : y + 18446744073709551616 * x = n) : fitsB f (x, y) = okB f n := by
  unfold fitsB okB
  simp only []
  rw [hn]
  by_cases h : f ≤ 3
  · have k := fit_iff (is4_of h0 h) n
    by_cases h2 : Fit f n
    · rw [decide_eq_true h, decide_eq_true (k.2 h2), decide_eq_true ⟨h, h2⟩]; rfl
    · rw [decide_eq_false (fun a => h2 (k.1 a)), Bool.and_false]
      exact (decide_eq_false (fun a : f ≤ 3 ∧ n < 2 * 2 ^ wV f => h2 a.2)).symm
  · rw [decide_eq_false h, Bool.false_and]
    exact (decide_eq_false (fun a : f ≤ 3 ∧ n < 2 * 2 ^ wV f => h a.1)).symm
theorem sk_fits (f : Int) (x y n : Nat) (o : Bool) (h0 : 0 ≤ f) (h1 : f ≤ 255) (hx : x < 18446744073709551616) (hy : y < 18446744073709551616) (hn : y + 18446744073709551616 * x = n) (ho : okB f n = o) (w : World) (hT : FAt w) : Calls Tryd.prog 20 #[.int .u8 f, .agg #[.int .u64 (x : Nat), .int .u64 (y : Nat)]] w fun r w' => r = .returned (.bool o) ∧ Below w.heap.size w w' :=
  s_fits_is f (x, y) o h0 h1 hx hy (by rw [okB_fits f h0 x y n hn, ho]) w hT
theorem okB_yes {f : Int} {n : Nat} (h0 : 0 ≤ f) (h : okB f n = true) : Is4 f ∧ Fit f n := by
  have := of_decide_eq_true h
  exact ⟨is4_of h0 this.1, this.2⟩

theorem kClass_yes (f : Int) (hf : Is4 f) (x y n c : Nat) (hx : x < 18446744073709551616) (hy : y < 18446744073709551616) (hn : y + 18446744073709551616 * x = n) (ho : okB f n = true) (hc : kC f n = c) (w : World) (hT : FAt w) : Calls Tryd.prog 7 #[.int .u8 f, .agg #[.int .u64 (x : Nat), .int .u64 (y : Nat)]] w fun r w' => r = .returned (.tuple #[.int .u8 (c : Nat), .int .i64 0]) ∧ Below w.heap.size w w' := by
  have f4 := is4_ok hf
  have K1 := box (sk_fits f x y n true f4.1 f4.2.1 hx hy hn ho)
  have K2 := box (kclass_is f hf x y n c hx hy hn hc)
  have TT := box hT
  clear hT hf hx hy hn ho hc
  obtain ⟨Rb_0, B0⟩ := kopn1 w (Obj.cells #[.int .u64 (x : Nat), .int .u64 (y : Nat)] 26)
  go_enter Tryd.func7, Tryd.ntmps7
  go_wp2_with fail
  refine (K1.out _ (fatB TT.out B0)).mono ?_
  rintro r w1 ⟨rfl, b1⟩
  have B1 : Below w.heap.size w w1 := btr7 B0 b1
  have Rb_1 := heap_of b1 _ _ _ Rb_0
  clear b1 B0 Rb_0
  obtain ⟨cb_1_0, cb_1_1⟩ := cell7t Rb_1
  go_wp2_with fail
  refine (K2.out _ (fatB TT.out B1)).mono ?_
  rintro r w2 ⟨rfl, b2⟩
  have B2 : Below w.heap.size w w2 := btr7 B1 b2
  have Rb_2 := heap_of b2 _ _ _ Rb_1
  clear b2 B1 Rb_1 cb_1_0 cb_1_1
  obtain ⟨cb_2_0, cb_2_1⟩ := cell7t Rb_2
  go_wp2
  go_ret2
  exact ⟨rfl, B2⟩
theorem kSign_yes (f : Int) (hf : Is4 f) (x y n : Nat) (o : Bool) (hx : x < 18446744073709551616) (hy : y < 18446744073709551616) (hn : y + 18446744073709551616 * x = n) (ho : okB f n = true) (hc : kN f n = o) (w : World) (hT : FAt w) : Calls Tryd.prog 13 #[.int .u8 f, .agg #[.int .u64 (x : Nat), .int .u64 (y : Nat)]] w fun r w' => r = .returned (.bool o) ∧ Below w.heap.size w w' := by
  have f4 := is4_ok hf
  have K1 := box (sk_fits f x y n true f4.1 f4.2.1 hx hy hn ho)
  have K2 := box (ksign_is f hf x y n o hx hy hn hc)
  have TT := box hT
  clear hT hf hx hy hn ho hc
  obtain ⟨Rb_0, B0⟩ := kopn1 w (Obj.cells #[.int .u64 (x : Nat), .int .u64 (y : Nat)] 26)
  go_enter Tryd.func13, Tryd.ntmps13
  go_wp2_with fail
  refine (K1.out _ (fatB TT.out B0)).mono ?_
  rintro r w1 ⟨rfl, b1⟩
  have B1 : Below w.heap.size w w1 := btr7 B0 b1
  have Rb_1 := heap_of b1 _ _ _ Rb_0
  clear b1 B0 Rb_0
  obtain ⟨cb_1_0, cb_1_1⟩ := cell7t Rb_1
  go_wp2_with fail
  refine (K2.out _ (fatB TT.out B1)).mono ?_
  rintro r w2 ⟨rfl, b2⟩
  have B2 : Below w.heap.size w w2 := btr7 B1 b2
  have Rb_2 := heap_of b2 _ _ _ Rb_1
  clear b2 B1 Rb_1 cb_1_0 cb_1_1
  obtain ⟨cb_2_0, cb_2_1⟩ := cell7t Rb_2
  go_wp2
  go_ret
  exact ⟨rfl, B2⟩
theorem kQuiet_same (f : Int) (hf : Is4 f) (x y n c : Nat) (hx : x < 18446744073709551616) (hy : y < 18446744073709551616) (hn : y + 18446744073709551616 * x = n) (ho : okB f n = true) (hc : kC f n = c) (hne : c ≠ 8) (w : World) (hT : FAt w) : Calls Tryd.prog 30 #[.int .u8 f, .agg #[.int .u64 (x : Nat), .int .u64 (y : Nat)]] w fun r w' => r = .returned (.agg #[.int .u64 (x : Nat), .int .u64 (y : Nat)]) ∧ Below w.heap.size w w' := by
  have f4 := is4_ok hf
  have K1 := box (sk_fits f x y n true f4.1 f4.2.1 hx hy hn ho)
  have K2 := box (kclass_is f hf x y n c hx hy hn hc)
  have TT := box hT
  have hd : ((c : Int) == 8) = false := by simp; omega
  clear hT hf hx hy hn ho hc hne
  obtain ⟨Rb_0, Rz_0, B0⟩ := kopn2 w (Obj.cells #[.int .u64 (x : Nat), .int .u64 (y : Nat)] 26) (Obj.cells #[.int .u64 0, .int .u64 0] 26)
  go_enter Tryd.func30, Tryd.ntmps30
  go_wp2_with fail
  refine (K1.out _ (fatB TT.out B0)).mono ?_
  rintro r w1 ⟨rfl, b1⟩
  have B1 : Below w.heap.size w w1 := btr7 B0 b1
  have Rb_1 := heap_of b1 _ _ _ Rb_0
  have Rz_1 := heap_of b1 _ _ _ Rz_0
  clear b1 B0 Rb_0 Rz_0
  obtain ⟨cb_1_0, cb_1_1⟩ := cell7t Rb_1
  obtain ⟨cz_1_0, cz_1_1⟩ := cell7t Rz_1
  go_wp2_with fail
  refine (K2.out _ (fatB TT.out B1)).mono ?_
  rintro r w2 ⟨rfl, b2⟩
  have B2 : Below w.heap.size w w2 := btr7 B1 b2
  have Rb_2 := heap_of b2 _ _ _ Rb_1
  have Rz_2 := heap_of b2 _ _ _ Rz_1
  clear b2 B1 Rb_1 cb_1_0 cb_1_1 Rz_1 cz_1_0 cz_1_1
  obtain ⟨cb_2_0, cb_2_1⟩ := cell7t Rb_2
  obtain ⟨cz_2_0, cz_2_1⟩ := cell7t Rz_2
  have q0 := fz (k := 0) Rz_2
  have q1 := fz (k := 1) Rz_2
  obtain ⟨E0, E1⟩ := set2_cells Rz_2 (.int .u64 (x : Nat)) (.int .u64 (y : Nat))
  go_wp2
  exact bodyPost_ret (v := .agg #[.int .u64 (x : Nat), .int .u64 (y : Nat)]) (by simp [results, Tryd.results30, go_sem, E0, E1]) rfl ⟨rfl, set2_below B2 (by first | exact Nat.le_refl _ | omega | (skip; omega)) _ _⟩
theorem kQuiet_set (f : Int) (hf : Is4 f) (x y n u v : Nat) (hx : x < 18446744073709551616) (hy : y < 18446744073709551616) (hn : y + 18446744073709551616 * x = n) (ho : okB f n = true) (hc : kC f n = 8) (hv : bv7 ((n + 2 ^ (pV f - 1)) % 340282366920938463463374607431768211456) = (u, v)) (w : World) (hT : FAt w) : Calls Tryd.prog 30 #[.int .u8 f, .agg #[.int .u64 (x : Nat), .int .u64 (y : Nat)]] w fun r w' => r = .returned (.agg #[.int .u64 (u : Nat), .int .u64 (v : Nat)]) ∧ Below w.heap.size w w' := by
  have f4 := is4_ok hf
  have K1 := box (sk_fits f x y n true f4.1 f4.2.1 hx hy hn ho)
  have K2 := box (kclass_is f hf x y n 8 hx hy hn hc)
  obtain ⟨_, _, _, p4, _⟩ := pV_lim hf
  have p1 : IntKind.u64.wrap ((pV f : Int) - 1) = ((pV f - 1 : Nat) : Int) := by rcases hf with rfl | rfl | rfl | rfl <;> decide +kernel
  obtain ⟨a, b, hab⟩ : ∃ a b, bv7 (plG 1 (pV f - 1)) = (a, b) := ⟨_, _, rfl⟩
  have pg : plG 1 (pV f - 1) = 2 ^ (pV f - 1) ∧ 2 ^ (pV f - 1) < 340282366920938463463374607431768211456 := by rcases hf with rfl | rfl | rfl | rfl <;> decide +kernel
  have K3 : Box (∀ w, Calls Tryd.prog 59 #[.int .u64 1, .int .u64 ((pV f - 1 : Nat) : Int)] w fun r w' => r = .returned (.agg #[.int .u64 (a : Nat), .int .u64 (b : Nat)]) ∧ Below w.heap.size w w') := box (kplaced_is 1 (pV f - 1) a b (by decide) (by omega) hab)
  rw [pg.1] at hab
  obtain ⟨a1, b1, ab⟩ := bv_lt pg.2 hab
  have K4 := box (kplus_is x y a b n _ u v hx hy hn a1 b1 ab hv)
  have K5 := box (kfw f hf (pV f) rfl)
  obtain ⟨p, hp⟩ : ∃ p, pV f = p := ⟨_, rfl⟩
  rw [hp] at p1 K3 K5
  have TT := box hT
  clear hT hf hx hy hn ho hc hv hab pg a1 b1 ab p4 hp
  obtain ⟨Rb_0, Rz_0, B0⟩ := kopn2 w (Obj.cells #[.int .u64 (x : Nat), .int .u64 (y : Nat)] 26) (Obj.cells #[.int .u64 0, .int .u64 0] 26)
  go_enter Tryd.func30, Tryd.ntmps30
  go_wp2_with fail
  refine (K1.out _ (fatB TT.out B0)).mono ?_
  rintro r w1 ⟨rfl, b1⟩
  have B1 : Below w.heap.size w w1 := btr7 B0 b1
  have Rb_1 := heap_of b1 _ _ _ Rb_0
  have Rz_1 := heap_of b1 _ _ _ Rz_0
  clear b1 B0 Rb_0 Rz_0
  obtain ⟨cb_1_0, cb_1_1⟩ := cell7t Rb_1
  obtain ⟨cz_1_0, cz_1_1⟩ := cell7t Rz_1
  go_wp2_with fail
  refine (K2.out _ (fatB TT.out B1)).mono ?_
  rintro r w2 ⟨rfl, b2⟩
  have B2 : Below w.heap.size w w2 := btr7 B1 b2
  have Rb_2 := heap_of b2 _ _ _ Rb_1
  have Rz_2 := heap_of b2 _ _ _ Rz_1
  clear b2 B1 Rb_1 cb_1_0 cb_1_1 Rz_1 cz_1_0 cz_1_1
  obtain ⟨cb_2_0, cb_2_1⟩ := cell7t Rb_2
  obtain ⟨cz_2_0, cz_2_1⟩ := cell7t Rz_2
  have sS : Box (∀ W W1 : World, (Below w.heap.size w W ∧ W.heap[w.heap.size]? = some (Obj.cells #[.int .u64 (x : Nat), .int .u64 (y : Nat)] 26) ∧ W.cell? ⟨w.heap.size, 0, none⟩ = some (.int .u64 (x : Nat)) ∧ W.cell? ⟨w.heap.size, 1, none⟩ = some (.int .u64 (y : Nat))) → Below W.heap.size W W1 → (Below w.heap.size w W1 ∧ W1.heap[w.heap.size]? = some (Obj.cells #[.int .u64 (x : Nat), .int .u64 (y : Nat)] 26) ∧ W1.cell? ⟨w.heap.size, 0, none⟩ = some (.int .u64 (x : Nat)) ∧ W1.cell? ⟨w.heap.size, 1, none⟩ = some (.int .u64 (y : Nat)))) := box (fun W W1 h b => ⟨btr7 h.1 b, heap_of b _ _ _ h.2.1, cell7 (heap_of b _ _ _ h.2.1) 0 _ rfl, cell7 (heap_of b _ _ _ h.2.1) 1 _ rfl⟩)
  have sT : Box (∀ (W : World) (xA xB : Value), (Below w.heap.size w W ∧ W.heap[w.heap.size]? = some (Obj.cells #[.int .u64 (x : Nat), .int .u64 (y : Nat)] 26) ∧ W.cell? ⟨w.heap.size, 0, none⟩ = some (.int .u64 (x : Nat)) ∧ W.cell? ⟨w.heap.size, 1, none⟩ = some (.int .u64 (y : Nat))) → (Below w.heap.size w ((W.setCell ⟨w.heap.size + 1, 0, none⟩ xA).setCell ⟨w.heap.size + 1, 1, none⟩ xB) ∧ ((W.setCell ⟨w.heap.size + 1, 0, none⟩ xA).setCell ⟨w.heap.size + 1, 1, none⟩ xB).heap[w.heap.size]? = some (Obj.cells #[.int .u64 (x : Nat), .int .u64 (y : Nat)] 26) ∧ ((W.setCell ⟨w.heap.size + 1, 0, none⟩ xA).setCell ⟨w.heap.size + 1, 1, none⟩ xB).cell? ⟨w.heap.size, 0, none⟩ = some (.int .u64 (x : Nat)) ∧ ((W.setCell ⟨w.heap.size + 1, 0, none⟩ xA).setCell ⟨w.heap.size + 1, 1, none⟩ xB).cell? ⟨w.heap.size, 1, none⟩ = some (.int .u64 (y : Nat)))) := box (fun W xA xB h => ⟨set2_below h.1 (by first | exact Nat.le_refl _ | omega | (skip; omega)) xA xB, ((setCell_other (by first | omega | (skip; omega))).trans ((setCell_other (by first | omega | (skip; omega))).trans h.2.1)), cell7 (((setCell_other (by first | omega | (skip; omega))).trans ((setCell_other (by first | omega | (skip; omega))).trans h.2.1))) 0 _ rfl, cell7 (((setCell_other (by first | omega | (skip; omega))).trans ((setCell_other (by first | omega | (skip; omega))).trans h.2.1))) 1 _ rfl⟩)
  have s0 : Below w.heap.size w (w2).drew ∧ (w2).drew.heap[w.heap.size]? = some (Obj.cells #[.int .u64 (x : Nat), .int .u64 (y : Nat)] 26) ∧ (w2).drew.cell? ⟨w.heap.size, 0, none⟩ = some (.int .u64 (x : Nat)) ∧ (w2).drew.cell? ⟨w.heap.size, 1, none⟩ = some (.int .u64 (y : Nat)) := ⟨B2.drew, Rb_2, cell7 (Rb_2) 0 _ rfl, cell7 (Rb_2) 1 _ rfl⟩
  have rz : (w2).drew.heap[w.heap.size + 1]? = some (Obj.cells #[.int .u64 0, .int .u64 0] 26) := Rz_2
  have hq0 := fz (k := 0) rz
  have hq1 := fz (k := 1) rz
  have hc0 := cell7 rz 0 _ rfl
  have hc1 := cell7 rz 1 _ rfl
  go_wp2_with fail
  go_region_held3 (fun W => Below w.heap.size w W ∧ W.heap[w.heap.size]? = some (Obj.cells #[.int .u64 (x : Nat), .int .u64 (y : Nat)] 26) ∧ W.cell? ⟨w.heap.size, 0, none⟩ = some (.int .u64 (x : Nat)) ∧ W.cell? ⟨w.heap.size, 1, none⟩ = some (.int .u64 (y : Nat))) (first | exact s1 | exact s0 | exact sT.out _ _ _ s1 | exact sT.out _ _ _ s0)
    (first | (go_at_call 49; (first | refine (K5.out _ (fatB TT.out (And.left s1))).mono ?_ | refine (K5.out _ (fatB TT.out (And.left s0))).mono ?_); rintro r wq ⟨rfl, bq⟩; have s1 := (by first | exact sS.out _ _ s1 bq | exact sS.out _ _ s0 bq); have rz := heap_of bq _ _ _ rz; have hq0 := fz (k := 0) rz; have hc0 := cell7 rz 0 _ rfl; have hq1 := fz (k := 1) rz; have hc1 := cell7 rz 1 _ rfl; clear bq) | (go_at_call 59; (first | refine (K3.out _).mono ?_ | refine (K3.out _).mono ?_); rintro r wq ⟨rfl, bq⟩; have s1 := (by first | exact sS.out _ _ s1 bq | exact sS.out _ _ s0 bq); have rz := heap_of bq _ _ _ rz; have hq0 := fz (k := 0) rz; have hc0 := cell7 rz 0 _ rfl; have hq1 := fz (k := 1) rz; have hc1 := cell7 rz 1 _ rfl; clear bq) | (go_at_call 58; (first | refine (K4.out _).mono ?_ | refine (K4.out _).mono ?_); rintro r wq ⟨rfl, bq⟩; have s1 := (by first | exact sS.out _ _ s1 bq | exact sS.out _ _ s0 bq); have rz := heap_of bq _ _ _ rz; have hq0 := fz (k := 0) rz; have hc0 := cell7 rz 0 _ rfl; have hq1 := fz (k := 1) rz; have hc1 := cell7 rz 1 _ rfl; clear bq) | fail)
  obtain ⟨E0, E1⟩ := set2_cells rz (.int .u64 (u : Nat)) (.int .u64 (v : Nat))
  have BZ := (by first | exact And.left s1 | exact And.left s0 : Below w.heap.size w _)
  go_wp2
  exact bodyPost_ret (v := .agg #[.int .u64 (u : Nat), .int .u64 (v : Nat)]) (by simp [results, Tryd.results30, go_sem, E0, E1]) rfl ⟨rfl, set2_below BZ (by first | exact Nat.le_refl _ | omega | (skip; omega)) _ _⟩

def qt (f : Int) (n : Nat) : Nat := if kC f n = 8 then n + 2 ^ (pV f - 1) else n
theorem or_bit_lt (t k : Nat) (h : t < 2 ^ k) : t ||| 2 ^ k = t + 2 ^ k := by
  have e := Nat.two_pow_add_eq_or_of_lt h 1
  rw [Nat.mul_one] at e
  rw [Nat.or_comm, ← e, Nat.add_comm]
theorem or_bit_ge (t k : Nat) (h : 2 ^ k ≤ t) (h2 : t < 2 * 2 ^ k) : t ||| 2 ^ k = t := by
  obtain ⟨s, rfl⟩ : ∃ s, t = s + 2 ^ k := ⟨t - 2 ^ k, by omega⟩
  rw [← or_bit_lt s k (by omega), Nat.or_assoc, Nat.or_self]
theorem qt_is {f : Int} (hf : Is4 f) {n : Nat} (hfit : Fit f n) (hc : 8 ≤ kC f n) : enc7 f (kN f n) (kE f n) (kT f n ||| 2 ^ (pV f - 1)) = qt f n ∧ kT f n ||| 2 ^ (pV f - 1) < 2 ^ pV f := by
  obtain ⟨g1, g2, g3, g4, g5, g6, g7⟩ := fm hf
  have tl := kT_lt (f := f) n
  have e := k_enc hf hfit
  by_cases h : 2 ^ (pV f - 1) ≤ kT f n
  · have h9 : kC f n ≠ 8 := by
      unfold kC at hc ⊢
      repeat' split at hc <;> first | omega | skip
      all_goals (try split) <;> omega
    rw [or_bit_ge _ _ h (by omega)]
    unfold qt
    rw [if_neg h9]
    exact ⟨e, tl⟩
  · have h9 : kC f n = 8 := by
      unfold kC at hc ⊢
      repeat' split at hc <;> first | omega | skip
      all_goals first | contradiction | simp_all
    rw [or_bit_lt _ _ (by omega)]
    unfold qt
    rw [if_pos h9]
    refine ⟨?_, by omega⟩
    conv => rhs; rw [← e]
    unfold enc7
    omega

def pt (c s : Nat) (x : Int) (r : Nat) : Array Value := #[.int .u8 (c : Nat), .int .u64 (wd s 0 : Nat), .int .u64 (wd s 1 : Nat), .int .u64 (wd s 2 : Nat), .int .u64 (wd s 3 : Nat), .int .u64 (wd s 4 : Nat), .int .u64 (wd s 5 : Nat), .int .i64 x, .int .u64 (wd r 0 : Nat), .int .u64 (wd r 1 : Nat), .int .u64 (wd r 2 : Nat), .int .u64 (wd r 3 : Nat), .int .u64 (wd r 4 : Nat), .int .u64 (wd r 5 : Nat)]
theorem ptf (c s : Nat) (x : Int) (r : Nat) : #[Value.int .u8 (c : Nat), .int .u64 (wd s 0 : Nat), .int .u64 (wd s 1 : Nat), .int .u64 (wd s 2 : Nat), .int .u64 (wd s 3 : Nat), .int .u64 (wd s 4 : Nat), .int .u64 (wd s 5 : Nat), .int .i64 x, .int .u64 (wd r 0 : Nat), .int .u64 (wd r 1 : Nat), .int .u64 (wd r 2 : Nat), .int .u64 (wd r 3 : Nat), .int .u64 (wd r 4 : Nat), .int .u64 (wd r 5 : Nat)] = pt c s x r := rfl
theorem ptc (c : Nat) : #[Value.int .u8 (c : Nat), .int .u64 0, .int .u64 0, .int .u64 0, .int .u64 0, .int .u64 0, .int .u64 0, .int .i64 0, .int .u64 0, .int .u64 0, .int .u64 0, .int .u64 0, .int .u64 0, .int .u64 0] = pt c 0 0 0 := by unfold pt; simp [wd_zero]
theorem ptz : #[Value.int .u8 0, .int .u64 0, .int .u64 0, .int .u64 0, .int .u64 0, .int .u64 0, .int .u64 0, .int .i64 0, .int .u64 0, .int .u64 0, .int .u64 0, .int .u64 0, .int .u64 0, .int .u64 0] = pt 0 0 0 0 := by unfold pt; simp [wd_zero]
theorem pt_set (c s : Nat) (x : Int) (r c' : Nat) : (pt c s x r).setIfInBounds 0 (.int .u8 (c' : Nat)) = pt c' s x r := rfl
theorem pt_setl (c s : Nat) (x : Int) (r c' : Nat) : (pt c s x r).toList.set 0 (.int .u8 (c' : Nat)) = (pt c' s x r).toList := rfl
theorem pt_size (c s : Nat) (x : Int) (r : Nat) : (pt c s x r).size = 14 := rfl
theorem cw_one (n : Nat) : ∀ v ∈ (cw 6 n).toList, v.oneCell' = true := fun v hv => (Array.all_eq_true_iff_forall_mem.1 (cw_oneCell 6 n)) v (by simpa using hv)
theorem pt_one (c s : Nat) (x : Int) (r : Nat) : ∀ v ∈ (pt c s x r).toList, v.oneCell' = true := by
  intro v hv
  simp only [pt, List.mem_cons, List.not_mem_nil, or_false] at hv
  rcases hv with rfl | rfl | rfl | rfl | rfl | rfl | rfl | rfl | rfl | rfl | rfl | rfl | rfl | rfl <;> rfl
theorem st_p (w : World) (b c s : Nat) (x : Int) (r c0 s0 : Nat) (x0 : Int) (r0 : Nat) (h : w.heap[b]? = some (.cells (pt c0 s0 x0 r0) 44)) :
    (storeCells ⟨b, 0, none⟩ (pt c s x r).toList 0).run Tryd.prog w = .ok () (w.setRow b (pt c s x r)) :=
  run_storeCells_at (P := Tryd.prog) b 0 44 (pt c s x r).toList 0 (pt c0 s0 x0 r0) w h (by simp only [Array.length_toList, pt_size]; omega) (pt_one c s x r)
theorem st_p0 (w : World) (b c s : Nat) (x : Int) (r c0 s0 : Nat) (x0 : Int) (r0 : Nat) (hb : b = w.heap.size) :
    (storeCells ⟨b, 0, none⟩ (pt c s x r).toList 0).run Tryd.prog (w.alloc (.cells (pt c0 s0 x0 r0) 44)) = .ok () (w.alloc (.cells (pt c s x r) 44)) := by
  subst hb
  rw [st_p _ _ c s x r c0 s0 x0 r0 (heap_alloc_last w _), World.setRow_alloc_new]
theorem st_p8 (w : World) (b c s : Nat) (x : Int) (r t : Nat) (h : w.heap[b]? = some (.cells (pt c s x r) 44)) :
    (storeCells ⟨b, 8, none⟩ (cw 6 t).toList 0).run Tryd.prog w = .ok () (w.setRow b (pt c s x t)) :=
  run_storeCells_at (P := Tryd.prog) b 8 44 (cw 6 t).toList 0 (pt c s x r) w h (by simp only [Array.length_toList, pt_size, cw_size]; omega) (cw_one t)
theorem st_p1 (w : World) (b c s : Nat) (x : Int) (r t : Nat) (h : w.heap[b]? = some (.cells (pt c s x r) 44)) :
    (storeCells ⟨b, 1, none⟩ (cw 6 t).toList 0).run Tryd.prog w = .ok () (w.setRow b (pt c t x r)) :=
  run_storeCells_at (P := Tryd.prog) b 1 44 (cw 6 t).toList 0 (pt c s x r) w h (by simp only [Array.length_toList, pt_size, cw_size]; omega) (cw_one t)
theorem pt_cells {w : World} {g : Nat} {T : TypeId} {c s : Nat} {x : Int} {r : Nat} (R : w.heap[g]? = some (.cells (pt c s x r) T)) : w.cell? ⟨g, 0, none⟩ = some (.int .u8 (c : Nat)) ∧ w.cell? ⟨g, 1, none⟩ = some (.int .u64 (wd s 0 : Nat)) ∧ w.cell? ⟨g, 2, none⟩ = some (.int .u64 (wd s 1 : Nat)) ∧ w.cell? ⟨g, 3, none⟩ = some (.int .u64 (wd s 2 : Nat)) ∧ w.cell? ⟨g, 4, none⟩ = some (.int .u64 (wd s 3 : Nat)) ∧ w.cell? ⟨g, 5, none⟩ = some (.int .u64 (wd s 4 : Nat)) ∧ w.cell? ⟨g, 6, none⟩ = some (.int .u64 (wd s 5 : Nat)) ∧ w.cell? ⟨g, 7, none⟩ = some (.int .i64 x) ∧ w.cell? ⟨g, 8, none⟩ = some (.int .u64 (wd r 0 : Nat)) ∧ w.cell? ⟨g, 9, none⟩ = some (.int .u64 (wd r 1 : Nat)) ∧ w.cell? ⟨g, 10, none⟩ = some (.int .u64 (wd r 2 : Nat)) ∧ w.cell? ⟨g, 11, none⟩ = some (.int .u64 (wd r 3 : Nat)) ∧ w.cell? ⟨g, 12, none⟩ = some (.int .u64 (wd r 4 : Nat)) ∧ w.cell? ⟨g, 13, none⟩ = some (.int .u64 (wd r 5 : Nat)) :=
  ⟨cell7 R 0 _ rfl, cell7 R 1 _ rfl, cell7 R 2 _ rfl, cell7 R 3 _ rfl, cell7 R 4 _ rfl, cell7 R 5 _ rfl, cell7 R 6 _ rfl, cell7 R 7 _ rfl, cell7 R 8 _ rfl, cell7 R 9 _ rfl, cell7 R 10 _ rfl, cell7 R 11 _ rfl, cell7 R 12 _ rfl, cell7 R 13 _ rfl⟩
theorem pt_at0 (c s : Nat) (x : Int) (r : Nat) (h : 0 < (pt c s x r).size) : (pt c s x r)[0]'h = .int .u8 (c : Nat) := rfl
theorem pt_at1 (c s : Nat) (x : Int) (r : Nat) (h : 1 < (pt c s x r).size) : (pt c s x r)[1]'h = .int .u64 (wd s 0 : Nat) := rfl
theorem pt_at2 (c s : Nat) (x : Int) (r : Nat) (h : 2 < (pt c s x r).size) : (pt c s x r)[2]'h = .int .u64 (wd s 1 : Nat) := rfl
theorem pt_at3 (c s : Nat) (x : Int) (r : Nat) (h : 3 < (pt c s x r).size) : (pt c s x r)[3]'h = .int .u64 (wd s 2 : Nat) := rfl
theorem pt_at4 (c s : Nat) (x : Int) (r : Nat) (h : 4 < (pt c s x r).size) : (pt c s x r)[4]'h = .int .u64 (wd s 3 : Nat) := rfl
theorem pt_at5 (c s : Nat) (x : Int) (r : Nat) (h : 5 < (pt c s x r).size) : (pt c s x r)[5]'h = .int .u64 (wd s 4 : Nat) := rfl
theorem pt_at6 (c s : Nat) (x : Int) (r : Nat) (h : 6 < (pt c s x r).size) : (pt c s x r)[6]'h = .int .u64 (wd s 5 : Nat) := rfl
theorem pt_at7 (c s : Nat) (x : Int) (r : Nat) (h : 7 < (pt c s x r).size) : (pt c s x r)[7]'h = .int .i64 x := rfl
theorem pt_at8 (c s : Nat) (x : Int) (r : Nat) (h : 8 < (pt c s x r).size) : (pt c s x r)[8]'h = .int .u64 (wd r 0 : Nat) := rfl
theorem pt_at9 (c s : Nat) (x : Int) (r : Nat) (h : 9 < (pt c s x r).size) : (pt c s x r)[9]'h = .int .u64 (wd r 1 : Nat) := rfl
theorem pt_at10 (c s : Nat) (x : Int) (r : Nat) (h : 10 < (pt c s x r).size) : (pt c s x r)[10]'h = .int .u64 (wd r 2 : Nat) := rfl
theorem pt_at11 (c s : Nat) (x : Int) (r : Nat) (h : 11 < (pt c s x r).size) : (pt c s x r)[11]'h = .int .u64 (wd r 3 : Nat) := rfl
theorem pt_at12 (c s : Nat) (x : Int) (r : Nat) (h : 12 < (pt c s x r).size) : (pt c s x r)[12]'h = .int .u64 (wd r 4 : Nat) := rfl
theorem pt_at13 (c s : Nat) (x : Int) (r : Nat) (h : 13 < (pt c s x r).size) : (pt c s x r)[13]'h = .int .u64 (wd r 5 : Nat) := rfl
set_option maxRecDepth 100000 in
set_option maxHeartbeats 2000000 in
theorem kparts_nan (f : Int) (x y c u v t : Nat) (w : World)
    (KC : Box (∀ w, FAt w → Calls Tryd.prog 21 #[.int .u8 f, .agg #[.int .u64 (x : Nat), .int .u64 (y : Nat)]] w fun r w' => r = .returned (.int .u8 (c : Nat)) ∧ Below w.heap.size w w'))
    (KF : Box (∀ w, FAt w → Calls Tryd.prog 46 #[.int .u8 f, .agg #[.int .u64 (x : Nat), .int .u64 (y : Nat)]] w fun r w' => r = .returned (.agg #[.int .u64 (u : Nat), .int .u64 (v : Nat)]) ∧ Below w.heap.size w w'))
    (KO : Box (∀ w, Calls Tryd.prog 53 #[.agg #[.int .u64 (u : Nat), .int .u64 (v : Nat)]] w fun r w' => r = .returned (.agg (cw 6 t)) ∧ Below w.heap.size w w'))
    (hc : c = 8 ∨ c = 9) (hT : FAt w) : Calls Tryd.prog 28 #[.int .u8 f, .agg #[.int .u64 (x : Nat), .int .u64 (y : Nat)]] w fun r w' => r = .returned (.agg (pt c 0 0 t)) ∧ Below w.heap.size w w' := by
  have hat := cw_at 6
  have hz := cw6z
  have hff := cw6f
  have hs0 := st0
  have hcs : ∀ x, ((cw 6 x).size = 6) = True := fun x => eq_true (cw_size 6 x)
  have hp1 := ptf
  have hp2 := ptc
  have hp3 := ptz
  have hp4 := st_p0
  have hp6 := pt_set
  have hp7 := pt_setl
  have hp5 : ∀ (c s : Nat) (x : Int) (r : Nat), ((pt c s x r).size = 14) = True := fun _ _ _ _ => eq_true rfl
  have ha0 := pt_at0
  have ha1 := pt_at1
  have ha2 := pt_at2
  have ha3 := pt_at3
  have ha4 := pt_at4
  have ha5 := pt_at5
  have ha6 := pt_at6
  have ha7 := pt_at7
  have ha8 := pt_at8
  have ha9 := pt_at9
  have ha10 := pt_at10
  have ha11 := pt_at11
  have ha12 := pt_at12
  have ha13 := pt_at13
  have TT := box hT
  clear hT
  rcases hc with hc | hc
  · have f8 : ((c : Int) == 8) = true := by rw [hc]; rfl
    clear hc
    obtain ⟨Rb_0, Rz_0, B0⟩ := kopn2 w (Obj.cells #[.int .u64 (x : Nat), .int .u64 (y : Nat)] 26) (Obj.cells (pt 0 0 0 0) 44)
    go_enter Tryd.func28, Tryd.ntmps28
    go_wp2_with fail
    refine (KC.out _ (fatB TT.out B0)).mono ?_
    rintro r w1 ⟨rfl, b1⟩
    have B1 : Below w.heap.size w w1 := btr7 B0 b1
    have Rb_1 := heap_of b1 _ _ _ Rb_0
    have Rz_1 := heap_of b1 _ _ _ Rz_0
    clear b1 B0 Rb_0 Rz_0
    obtain ⟨cb_1_0, cb_1_1⟩ := cell7t Rb_1
    obtain ⟨cz_1_0, cz_1_1, cz_1_2, cz_1_3, cz_1_4, cz_1_5, cz_1_6, cz_1_7, cz_1_8, cz_1_9, cz_1_10, cz_1_11, cz_1_12, cz_1_13⟩ := pt_cells Rz_1
    have S2 := box B1.size
    have Lb_2 : Box (w.heap.size < w1.heap.size) := box (Array.getElem?_eq_some_iff.1 Rb_1).1
    have Lz_2 : Box (w.heap.size + 1 < w1.heap.size) := box (Array.getElem?_eq_some_iff.1 Rz_1).1
    have Rp_2 := heap_alloc_last w1 (Obj.cells (pt c 0 0 0) 44)
    have B2 := btr7 B1 (bal7 w1 (Obj.cells (pt c 0 0 0) 44))
    have Rb_2 := heap_of (bal7 w1 (Obj.cells (pt c 0 0 0) 44)) _ _ _ Rb_1
    have Rz_2 := heap_of (bal7 w1 (Obj.cells (pt c 0 0 0) 44)) _ _ _ Rz_1
    clear B1 Rb_1 cb_1_0 cb_1_1 Rz_1 cz_1_0 cz_1_1 cz_1_2 cz_1_3 cz_1_4 cz_1_5 cz_1_6 cz_1_7 cz_1_8 cz_1_9 cz_1_10 cz_1_11 cz_1_12 cz_1_13
    obtain ⟨cb_2_0, cb_2_1⟩ := cell7t Rb_2
    obtain ⟨cz_2_0, cz_2_1, cz_2_2, cz_2_3, cz_2_4, cz_2_5, cz_2_6, cz_2_7, cz_2_8, cz_2_9, cz_2_10, cz_2_11, cz_2_12, cz_2_13⟩ := pt_cells Rz_2
    obtain ⟨cp_2_0, cp_2_1, cp_2_2, cp_2_3, cp_2_4, cp_2_5, cp_2_6, cp_2_7, cp_2_8, cp_2_9, cp_2_10, cp_2_11, cp_2_12, cp_2_13⟩ := pt_cells Rp_2
    go_wp2_with fail
    refine (KF.out _ (fatB TT.out B2)).mono ?_
    rintro r w3 ⟨rfl, b3⟩
    have B3 : Below w.heap.size w w3 := btr7 B2 b3
    have Rb_3 := heap_of b3 _ _ _ Rb_2
    have Rz_3 := heap_of b3 _ _ _ Rz_2
    have Rp_3 := heap_of b3 _ _ _ Rp_2
    clear b3 B2 Rb_2 cb_2_0 cb_2_1 Rz_2 cz_2_0 cz_2_1 cz_2_2 cz_2_3 cz_2_4 cz_2_5 cz_2_6 cz_2_7 cz_2_8 cz_2_9 cz_2_10 cz_2_11 cz_2_12 cz_2_13 Rp_2 cp_2_0 cp_2_1 cp_2_2 cp_2_3 cp_2_4 cp_2_5 cp_2_6 cp_2_7 cp_2_8 cp_2_9 cp_2_10 cp_2_11 cp_2_12 cp_2_13
    obtain ⟨cb_3_0, cb_3_1⟩ := cell7t Rb_3
    obtain ⟨cz_3_0, cz_3_1, cz_3_2, cz_3_3, cz_3_4, cz_3_5, cz_3_6, cz_3_7, cz_3_8, cz_3_9, cz_3_10, cz_3_11, cz_3_12, cz_3_13⟩ := pt_cells Rz_3
    obtain ⟨cp_3_0, cp_3_1, cp_3_2, cp_3_3, cp_3_4, cp_3_5, cp_3_6, cp_3_7, cp_3_8, cp_3_9, cp_3_10, cp_3_11, cp_3_12, cp_3_13⟩ := pt_cells Rp_3
    go_wp2_with fail
    refine (KO.out _).mono ?_
    rintro r w4 ⟨rfl, b4⟩
    have B4 : Below w.heap.size w w4 := btr7 B3 b4
    have Rb_4 := heap_of b4 _ _ _ Rb_3
    have Rz_4 := heap_of b4 _ _ _ Rz_3
    have Rp_4 := heap_of b4 _ _ _ Rp_3
    clear b4 B3 Rb_3 cb_3_0 cb_3_1 Rz_3 cz_3_0 cz_3_1 cz_3_2 cz_3_3 cz_3_4 cz_3_5 cz_3_6 cz_3_7 cz_3_8 cz_3_9 cz_3_10 cz_3_11 cz_3_12 cz_3_13 Rp_3 cp_3_0 cp_3_1 cp_3_2 cp_3_3 cp_3_4 cp_3_5 cp_3_6 cp_3_7 cp_3_8 cp_3_9 cp_3_10 cp_3_11 cp_3_12 cp_3_13
    obtain ⟨cb_4_0, cb_4_1⟩ := cell7t Rb_4
    obtain ⟨cz_4_0, cz_4_1, cz_4_2, cz_4_3, cz_4_4, cz_4_5, cz_4_6, cz_4_7, cz_4_8, cz_4_9, cz_4_10, cz_4_11, cz_4_12, cz_4_13⟩ := pt_cells Rz_4
    obtain ⟨cp_4_0, cp_4_1, cp_4_2, cp_4_3, cp_4_4, cp_4_5, cp_4_6, cp_4_7, cp_4_8, cp_4_9, cp_4_10, cp_4_11, cp_4_12, cp_4_13⟩ := pt_cells Rp_4
    have S5 := box B4.size
    have Lb_5 : Box (w.heap.size < w4.heap.size) := box (Array.getElem?_eq_some_iff.1 Rb_4).1
    have Lz_5 : Box (w.heap.size + 1 < w4.heap.size) := box (Array.getElem?_eq_some_iff.1 Rz_4).1
    have Lp_5 : Box (w1.heap.size < w4.heap.size) := box (Array.getElem?_eq_some_iff.1 Rp_4).1
    have Rfr_5 := heap_alloc_last w4 (Obj.cells (cw 6 t) 42)
    have B5 := btr7 B4 (bal7 w4 (Obj.cells (cw 6 t) 42))
    have Rb_5 := heap_of (bal7 w4 (Obj.cells (cw 6 t) 42)) _ _ _ Rb_4
    have Rz_5 := heap_of (bal7 w4 (Obj.cells (cw 6 t) 42)) _ _ _ Rz_4
    have Rp_5 := heap_of (bal7 w4 (Obj.cells (cw 6 t) 42)) _ _ _ Rp_4
    clear B4 Rb_4 cb_4_0 cb_4_1 Rz_4 cz_4_0 cz_4_1 cz_4_2 cz_4_3 cz_4_4 cz_4_5 cz_4_6 cz_4_7 cz_4_8 cz_4_9 cz_4_10 cz_4_11 cz_4_12 cz_4_13 Rp_4 cp_4_0 cp_4_1 cp_4_2 cp_4_3 cp_4_4 cp_4_5 cp_4_6 cp_4_7 cp_4_8 cp_4_9 cp_4_10 cp_4_11 cp_4_12 cp_4_13
    obtain ⟨cb_5_0, cb_5_1⟩ := cell7t Rb_5
    obtain ⟨cz_5_0, cz_5_1, cz_5_2, cz_5_3, cz_5_4, cz_5_5, cz_5_6, cz_5_7, cz_5_8, cz_5_9, cz_5_10, cz_5_11, cz_5_12, cz_5_13⟩ := pt_cells Rz_5
    obtain ⟨cp_5_0, cp_5_1, cp_5_2, cp_5_3, cp_5_4, cp_5_5, cp_5_6, cp_5_7, cp_5_8, cp_5_9, cp_5_10, cp_5_11, cp_5_12, cp_5_13⟩ := pt_cells Rp_5
    have cfr_5_0 := row_cell Rfr_5
    have hst6 := st_p8 (w4.alloc (Obj.cells (cw 6 t) 42)) (w1.heap.size) c 0 0 0 t Rp_5
    have B6 := bel_set (c := (pt c 0 0 t)) B5 (show w.heap.size ≤ w1.heap.size by first | exact Nat.le_refl _ | omega | (have := S2.out; have := Lb_2.out; have := Lz_2.out; have := S5.out; have := Lb_5.out; have := Lz_5.out; have := Lp_5.out; omega))
    have Rp_6 := setRow_row (c' := (pt c 0 0 t)) Rp_5
    have Rb_6 : ((w4.alloc (Obj.cells (cw 6 t) 42)).setRow (w1.heap.size) (pt c 0 0 t)).heap[w.heap.size]? = some (Obj.cells #[.int .u64 (x : Nat), .int .u64 (y : Nat)] 26) := by rw [setRow_other (by first | omega | (have := S2.out; have := Lb_2.out; have := Lz_2.out; have := S5.out; have := Lb_5.out; have := Lz_5.out; have := Lp_5.out; omega))]; exact Rb_5
    have Rz_6 : ((w4.alloc (Obj.cells (cw 6 t) 42)).setRow (w1.heap.size) (pt c 0 0 t)).heap[w.heap.size + 1]? = some (Obj.cells (pt 0 0 0 0) 44) := by rw [setRow_other (by first | omega | (have := S2.out; have := Lb_2.out; have := Lz_2.out; have := S5.out; have := Lb_5.out; have := Lz_5.out; have := Lp_5.out; omega))]; exact Rz_5
    have Rfr_6 : ((w4.alloc (Obj.cells (cw 6 t) 42)).setRow (w1.heap.size) (pt c 0 0 t)).heap[w4.heap.size]? = some (Obj.cells (cw 6 t) 42) := by rw [setRow_other (by first | omega | (have := S2.out; have := Lb_2.out; have := Lz_2.out; have := S5.out; have := Lb_5.out; have := Lz_5.out; have := Lp_5.out; omega))]; exact Rfr_5
    obtain ⟨w6, hw6⟩ : ∃ V, (w4.alloc (Obj.cells (cw 6 t) 42)).setRow (w1.heap.size) (pt c 0 0 t) = V := ⟨_, rfl⟩
    rw [hw6] at hst6 B6 Rb_6 Rz_6 Rp_6 Rfr_6
    obtain ⟨cb_6_0, cb_6_1⟩ := cell7t Rb_6
    obtain ⟨cz_6_0, cz_6_1, cz_6_2, cz_6_3, cz_6_4, cz_6_5, cz_6_6, cz_6_7, cz_6_8, cz_6_9, cz_6_10, cz_6_11, cz_6_12, cz_6_13⟩ := pt_cells Rz_6
    obtain ⟨cp_6_0, cp_6_1, cp_6_2, cp_6_3, cp_6_4, cp_6_5, cp_6_6, cp_6_7, cp_6_8, cp_6_9, cp_6_10, cp_6_11, cp_6_12, cp_6_13⟩ := pt_cells Rp_6
    have cfr_6_0 := row_cell Rfr_6
    have hstz := st_p w6 (w.heap.size + 1) c 0 0 t 0 0 0 0 Rz_6
    have RZ := setRow_row (c' := pt c 0 0 t) Rz_6
    obtain ⟨dz0, dz1, dz2, dz3, dz4, dz5, dz6, dz7, dz8, dz9, dz10, dz11, dz12, dz13⟩ := pt_cells RZ
    have bz := bel_set (c := pt c 0 0 t) B6 (show w.heap.size ≤ w.heap.size + 1 by first | exact Nat.le_refl _ | omega | (have := S2.out; have := Lb_2.out; have := Lz_2.out; have := S5.out; have := Lb_5.out; have := Lz_5.out; have := Lp_5.out; omega))
    go_wp2
    exact bodyPost_ret (v := .agg (pt c 0 0 t)) (by simp [results, Tryd.results28, go_sem, dz0, dz1, dz2, dz3, dz4, dz5, dz6, dz7, dz8, dz9, dz10, dz11, dz12, dz13, ptf] <;> rfl) rfl ⟨rfl, bz⟩
  · have f8 : ((c : Int) == 8) = false := by rw [hc]; rfl
    have f9 : ((c : Int) == 9) = true := by rw [hc]; rfl
    clear hc
    obtain ⟨Rb_0, Rz_0, B0⟩ := kopn2 w (Obj.cells #[.int .u64 (x : Nat), .int .u64 (y : Nat)] 26) (Obj.cells (pt 0 0 0 0) 44)
    go_enter Tryd.func28, Tryd.ntmps28
    go_wp2_with fail
    refine (KC.out _ (fatB TT.out B0)).mono ?_
    rintro r w1 ⟨rfl, b1⟩
    have B1 : Below w.heap.size w w1 := btr7 B0 b1
    have Rb_1 := heap_of b1 _ _ _ Rb_0
    have Rz_1 := heap_of b1 _ _ _ Rz_0
    clear b1 B0 Rb_0 Rz_0
    obtain ⟨cb_1_0, cb_1_1⟩ := cell7t Rb_1
    obtain ⟨cz_1_0, cz_1_1, cz_1_2, cz_1_3, cz_1_4, cz_1_5, cz_1_6, cz_1_7, cz_1_8, cz_1_9, cz_1_10, cz_1_11, cz_1_12, cz_1_13⟩ := pt_cells Rz_1
    have S2 := box B1.size
    have Lb_2 : Box (w.heap.size < w1.heap.size) := box (Array.getElem?_eq_some_iff.1 Rb_1).1
    have Lz_2 : Box (w.heap.size + 1 < w1.heap.size) := box (Array.getElem?_eq_some_iff.1 Rz_1).1
    have Rp_2 := heap_alloc_last w1 (Obj.cells (pt c 0 0 0) 44)
    have B2 := btr7 B1 (bal7 w1 (Obj.cells (pt c 0 0 0) 44))
    have Rb_2 := heap_of (bal7 w1 (Obj.cells (pt c 0 0 0) 44)) _ _ _ Rb_1
    have Rz_2 := heap_of (bal7 w1 (Obj.cells (pt c 0 0 0) 44)) _ _ _ Rz_1
    clear B1 Rb_1 cb_1_0 cb_1_1 Rz_1 cz_1_0 cz_1_1 cz_1_2 cz_1_3 cz_1_4 cz_1_5 cz_1_6 cz_1_7 cz_1_8 cz_1_9 cz_1_10 cz_1_11 cz_1_12 cz_1_13
    obtain ⟨cb_2_0, cb_2_1⟩ := cell7t Rb_2
    obtain ⟨cz_2_0, cz_2_1, cz_2_2, cz_2_3, cz_2_4, cz_2_5, cz_2_6, cz_2_7, cz_2_8, cz_2_9, cz_2_10, cz_2_11, cz_2_12, cz_2_13⟩ := pt_cells Rz_2
    obtain ⟨cp_2_0, cp_2_1, cp_2_2, cp_2_3, cp_2_4, cp_2_5, cp_2_6, cp_2_7, cp_2_8, cp_2_9, cp_2_10, cp_2_11, cp_2_12, cp_2_13⟩ := pt_cells Rp_2
    go_wp2_with fail
    refine (KF.out _ (fatB TT.out B2)).mono ?_
    rintro r w3 ⟨rfl, b3⟩
    have B3 : Below w.heap.size w w3 := btr7 B2 b3
    have Rb_3 := heap_of b3 _ _ _ Rb_2
    have Rz_3 := heap_of b3 _ _ _ Rz_2
    have Rp_3 := heap_of b3 _ _ _ Rp_2
    clear b3 B2 Rb_2 cb_2_0 cb_2_1 Rz_2 cz_2_0 cz_2_1 cz_2_2 cz_2_3 cz_2_4 cz_2_5 cz_2_6 cz_2_7 cz_2_8 cz_2_9 cz_2_10 cz_2_11 cz_2_12 cz_2_13 Rp_2 cp_2_0 cp_2_1 cp_2_2 cp_2_3 cp_2_4 cp_2_5 cp_2_6 cp_2_7 cp_2_8 cp_2_9 cp_2_10 cp_2_11 cp_2_12 cp_2_13
    obtain ⟨cb_3_0, cb_3_1⟩ := cell7t Rb_3
    obtain ⟨cz_3_0, cz_3_1, cz_3_2, cz_3_3, cz_3_4, cz_3_5, cz_3_6, cz_3_7, cz_3_8, cz_3_9, cz_3_10, cz_3_11, cz_3_12, cz_3_13⟩ := pt_cells Rz_3
    obtain ⟨cp_3_0, cp_3_1, cp_3_2, cp_3_3, cp_3_4, cp_3_5, cp_3_6, cp_3_7, cp_3_8, cp_3_9, cp_3_10, cp_3_11, cp_3_12, cp_3_13⟩ := pt_cells Rp_3
    go_wp2_with fail
    refine (KO.out _).mono ?_
    rintro r w4 ⟨rfl, b4⟩
    have B4 : Below w.heap.size w w4 := btr7 B3 b4
    have Rb_4 := heap_of b4 _ _ _ Rb_3
    have Rz_4 := heap_of b4 _ _ _ Rz_3
    have Rp_4 := heap_of b4 _ _ _ Rp_3
    clear b4 B3 Rb_3 cb_3_0 cb_3_1 Rz_3 cz_3_0 cz_3_1 cz_3_2 cz_3_3 cz_3_4 cz_3_5 cz_3_6 cz_3_7 cz_3_8 cz_3_9 cz_3_10 cz_3_11 cz_3_12 cz_3_13 Rp_3 cp_3_0 cp_3_1 cp_3_2 cp_3_3 cp_3_4 cp_3_5 cp_3_6 cp_3_7 cp_3_8 cp_3_9 cp_3_10 cp_3_11 cp_3_12 cp_3_13
    obtain ⟨cb_4_0, cb_4_1⟩ := cell7t Rb_4
    obtain ⟨cz_4_0, cz_4_1, cz_4_2, cz_4_3, cz_4_4, cz_4_5, cz_4_6, cz_4_7, cz_4_8, cz_4_9, cz_4_10, cz_4_11, cz_4_12, cz_4_13⟩ := pt_cells Rz_4
    obtain ⟨cp_4_0, cp_4_1, cp_4_2, cp_4_3, cp_4_4, cp_4_5, cp_4_6, cp_4_7, cp_4_8, cp_4_9, cp_4_10, cp_4_11, cp_4_12, cp_4_13⟩ := pt_cells Rp_4
    have S5 := box B4.size
    have Lb_5 : Box (w.heap.size < w4.heap.size) := box (Array.getElem?_eq_some_iff.1 Rb_4).1
    have Lz_5 : Box (w.heap.size + 1 < w4.heap.size) := box (Array.getElem?_eq_some_iff.1 Rz_4).1
    have Lp_5 : Box (w1.heap.size < w4.heap.size) := box (Array.getElem?_eq_some_iff.1 Rp_4).1
    have Rfr_5 := heap_alloc_last w4 (Obj.cells (cw 6 t) 42)
    have B5 := btr7 B4 (bal7 w4 (Obj.cells (cw 6 t) 42))
    have Rb_5 := heap_of (bal7 w4 (Obj.cells (cw 6 t) 42)) _ _ _ Rb_4
    have Rz_5 := heap_of (bal7 w4 (Obj.cells (cw 6 t) 42)) _ _ _ Rz_4
    have Rp_5 := heap_of (bal7 w4 (Obj.cells (cw 6 t) 42)) _ _ _ Rp_4
    clear B4 Rb_4 cb_4_0 cb_4_1 Rz_4 cz_4_0 cz_4_1 cz_4_2 cz_4_3 cz_4_4 cz_4_5 cz_4_6 cz_4_7 cz_4_8 cz_4_9 cz_4_10 cz_4_11 cz_4_12 cz_4_13 Rp_4 cp_4_0 cp_4_1 cp_4_2 cp_4_3 cp_4_4 cp_4_5 cp_4_6 cp_4_7 cp_4_8 cp_4_9 cp_4_10 cp_4_11 cp_4_12 cp_4_13
    obtain ⟨cb_5_0, cb_5_1⟩ := cell7t Rb_5
    obtain ⟨cz_5_0, cz_5_1, cz_5_2, cz_5_3, cz_5_4, cz_5_5, cz_5_6, cz_5_7, cz_5_8, cz_5_9, cz_5_10, cz_5_11, cz_5_12, cz_5_13⟩ := pt_cells Rz_5
    obtain ⟨cp_5_0, cp_5_1, cp_5_2, cp_5_3, cp_5_4, cp_5_5, cp_5_6, cp_5_7, cp_5_8, cp_5_9, cp_5_10, cp_5_11, cp_5_12, cp_5_13⟩ := pt_cells Rp_5
    have cfr_5_0 := row_cell Rfr_5
    have hst6 := st_p8 (w4.alloc (Obj.cells (cw 6 t) 42)) (w1.heap.size) c 0 0 0 t Rp_5
    have B6 := bel_set (c := (pt c 0 0 t)) B5 (show w.heap.size ≤ w1.heap.size by first | exact Nat.le_refl _ | omega | (have := S2.out; have := Lb_2.out; have := Lz_2.out; have := S5.out; have := Lb_5.out; have := Lz_5.out; have := Lp_5.out; omega))
    have Rp_6 := setRow_row (c' := (pt c 0 0 t)) Rp_5
    have Rb_6 : ((w4.alloc (Obj.cells (cw 6 t) 42)).setRow (w1.heap.size) (pt c 0 0 t)).heap[w.heap.size]? = some (Obj.cells #[.int .u64 (x : Nat), .int .u64 (y : Nat)] 26) := by rw [setRow_other (by first | omega | (have := S2.out; have := Lb_2.out; have := Lz_2.out; have := S5.out; have := Lb_5.out; have := Lz_5.out; have := Lp_5.out; omega))]; exact Rb_5
    have Rz_6 : ((w4.alloc (Obj.cells (cw 6 t) 42)).setRow (w1.heap.size) (pt c 0 0 t)).heap[w.heap.size + 1]? = some (Obj.cells (pt 0 0 0 0) 44) := by rw [setRow_other (by first | omega | (have := S2.out; have := Lb_2.out; have := Lz_2.out; have := S5.out; have := Lb_5.out; have := Lz_5.out; have := Lp_5.out; omega))]; exact Rz_5
    have Rfr_6 : ((w4.alloc (Obj.cells (cw 6 t) 42)).setRow (w1.heap.size) (pt c 0 0 t)).heap[w4.heap.size]? = some (Obj.cells (cw 6 t) 42) := by rw [setRow_other (by first | omega | (have := S2.out; have := Lb_2.out; have := Lz_2.out; have := S5.out; have := Lb_5.out; have := Lz_5.out; have := Lp_5.out; omega))]; exact Rfr_5
    obtain ⟨w6, hw6⟩ : ∃ V, (w4.alloc (Obj.cells (cw 6 t) 42)).setRow (w1.heap.size) (pt c 0 0 t) = V := ⟨_, rfl⟩
    rw [hw6] at hst6 B6 Rb_6 Rz_6 Rp_6 Rfr_6
    obtain ⟨cb_6_0, cb_6_1⟩ := cell7t Rb_6
    obtain ⟨cz_6_0, cz_6_1, cz_6_2, cz_6_3, cz_6_4, cz_6_5, cz_6_6, cz_6_7, cz_6_8, cz_6_9, cz_6_10, cz_6_11, cz_6_12, cz_6_13⟩ := pt_cells Rz_6
    obtain ⟨cp_6_0, cp_6_1, cp_6_2, cp_6_3, cp_6_4, cp_6_5, cp_6_6, cp_6_7, cp_6_8, cp_6_9, cp_6_10, cp_6_11, cp_6_12, cp_6_13⟩ := pt_cells Rp_6
    have cfr_6_0 := row_cell Rfr_6
    have hstz := st_p w6 (w.heap.size + 1) c 0 0 t 0 0 0 0 Rz_6
    have RZ := setRow_row (c' := pt c 0 0 t) Rz_6
    obtain ⟨dz0, dz1, dz2, dz3, dz4, dz5, dz6, dz7, dz8, dz9, dz10, dz11, dz12, dz13⟩ := pt_cells RZ
    have bz := bel_set (c := pt c 0 0 t) B6 (show w.heap.size ≤ w.heap.size + 1 by first | exact Nat.le_refl _ | omega | (have := S2.out; have := Lb_2.out; have := Lz_2.out; have := S5.out; have := Lb_5.out; have := Lz_5.out; have := Lp_5.out; omega))
    go_wp2
    exact bodyPost_ret (v := .agg (pt c 0 0 t)) (by simp [results, Tryd.results28, go_sem, dz0, dz1, dz2, dz3, dz4, dz5, dz6, dz7, dz8, dz9, dz10, dz11, dz12, dz13, ptf] <;> rfl) rfl ⟨rfl, bz⟩
set_option maxRecDepth 100000 in
set_option maxHeartbeats 2000000 in
theorem kparts_none (f : Int) (x y c u v t : Nat) (w : World)
    (KC : Box (∀ w, FAt w → Calls Tryd.prog 21 #[.int .u8 f, .agg #[.int .u64 (x : Nat), .int .u64 (y : Nat)]] w fun r w' => r = .returned (.int .u8 (c : Nat)) ∧ Below w.heap.size w w'))
    (KF : Box (∀ w, FAt w → Calls Tryd.prog 46 #[.int .u8 f, .agg #[.int .u64 (x : Nat), .int .u64 (y : Nat)]] w fun r w' => r = .returned (.agg #[.int .u64 (u : Nat), .int .u64 (v : Nat)]) ∧ Below w.heap.size w w'))
    (KO : Box (∀ w, Calls Tryd.prog 53 #[.agg #[.int .u64 (u : Nat), .int .u64 (v : Nat)]] w fun r w' => r = .returned (.agg (cw 6 t)) ∧ Below w.heap.size w w'))
    (hc : c = 0 ∨ c = 3 ∨ c = 4 ∨ c = 7) (hT : FAt w) : Calls Tryd.prog 28 #[.int .u8 f, .agg #[.int .u64 (x : Nat), .int .u64 (y : Nat)]] w fun r w' => r = .returned (.agg (pt c 0 0 0)) ∧ Below w.heap.size w w' := by
  have hat := cw_at 6
  have hz := cw6z
  have hff := cw6f
  have hs0 := st0
  have hcs : ∀ x, ((cw 6 x).size = 6) = True := fun x => eq_true (cw_size 6 x)
  have hp1 := ptf
  have hp2 := ptc
  have hp3 := ptz
  have hp4 := st_p0
  have hp6 := pt_set
  have hp7 := pt_setl
  have hp5 : ∀ (c s : Nat) (x : Int) (r : Nat), ((pt c s x r).size = 14) = True := fun _ _ _ _ => eq_true rfl
  have ha0 := pt_at0
  have ha1 := pt_at1
  have ha2 := pt_at2
  have ha3 := pt_at3
  have ha4 := pt_at4
  have ha5 := pt_at5
  have ha6 := pt_at6
  have ha7 := pt_at7
  have ha8 := pt_at8
  have ha9 := pt_at9
  have ha10 := pt_at10
  have ha11 := pt_at11
  have ha12 := pt_at12
  have ha13 := pt_at13
  have TT := box hT
  clear hT
  rcases hc with hc | hc | hc | hc
  · have f8 : ((c : Int) == 8) = false := by rw [hc]; rfl
    have f9 : ((c : Int) == 9) = false := by rw [hc]; rfl
    have f2 : ((c : Int) == 2) = false := by rw [hc]; rfl
    have f5 : ((c : Int) == 5) = false := by rw [hc]; rfl
    have f1 : ((c : Int) == 1) = false := by rw [hc]; rfl
    have f6 : ((c : Int) == 6) = false := by rw [hc]; rfl
    clear hc
    obtain ⟨Rb_0, Rz_0, B0⟩ := kopn2 w (Obj.cells #[.int .u64 (x : Nat), .int .u64 (y : Nat)] 26) (Obj.cells (pt 0 0 0 0) 44)
    go_enter Tryd.func28, Tryd.ntmps28
    go_wp2_with fail
    refine (KC.out _ (fatB TT.out B0)).mono ?_
    rintro r w1 ⟨rfl, b1⟩
    have B1 : Below w.heap.size w w1 := btr7 B0 b1
    have Rb_1 := heap_of b1 _ _ _ Rb_0
    have Rz_1 := heap_of b1 _ _ _ Rz_0
    clear b1 B0 Rb_0 Rz_0
    obtain ⟨cb_1_0, cb_1_1⟩ := cell7t Rb_1
    obtain ⟨cz_1_0, cz_1_1, cz_1_2, cz_1_3, cz_1_4, cz_1_5, cz_1_6, cz_1_7, cz_1_8, cz_1_9, cz_1_10, cz_1_11, cz_1_12, cz_1_13⟩ := pt_cells Rz_1
    have S2 := box B1.size
    have Lb_2 : Box (w.heap.size < w1.heap.size) := box (Array.getElem?_eq_some_iff.1 Rb_1).1
    have Lz_2 : Box (w.heap.size + 1 < w1.heap.size) := box (Array.getElem?_eq_some_iff.1 Rz_1).1
    have Rp_2 := heap_alloc_last w1 (Obj.cells (pt c 0 0 0) 44)
    have B2 := btr7 B1 (bal7 w1 (Obj.cells (pt c 0 0 0) 44))
    have Rb_2 := heap_of (bal7 w1 (Obj.cells (pt c 0 0 0) 44)) _ _ _ Rb_1
    have Rz_2 := heap_of (bal7 w1 (Obj.cells (pt c 0 0 0) 44)) _ _ _ Rz_1
    clear B1 Rb_1 cb_1_0 cb_1_1 Rz_1 cz_1_0 cz_1_1 cz_1_2 cz_1_3 cz_1_4 cz_1_5 cz_1_6 cz_1_7 cz_1_8 cz_1_9 cz_1_10 cz_1_11 cz_1_12 cz_1_13
    obtain ⟨cb_2_0, cb_2_1⟩ := cell7t Rb_2
    obtain ⟨cz_2_0, cz_2_1, cz_2_2, cz_2_3, cz_2_4, cz_2_5, cz_2_6, cz_2_7, cz_2_8, cz_2_9, cz_2_10, cz_2_11, cz_2_12, cz_2_13⟩ := pt_cells Rz_2
    obtain ⟨cp_2_0, cp_2_1, cp_2_2, cp_2_3, cp_2_4, cp_2_5, cp_2_6, cp_2_7, cp_2_8, cp_2_9, cp_2_10, cp_2_11, cp_2_12, cp_2_13⟩ := pt_cells Rp_2
    go_wp2_with fail
    refine (KF.out _ (fatB TT.out B2)).mono ?_
    rintro r w3 ⟨rfl, b3⟩
    have B3 : Below w.heap.size w w3 := btr7 B2 b3
    have Rb_3 := heap_of b3 _ _ _ Rb_2
    have Rz_3 := heap_of b3 _ _ _ Rz_2
    have Rp_3 := heap_of b3 _ _ _ Rp_2
    clear b3 B2 Rb_2 cb_2_0 cb_2_1 Rz_2 cz_2_0 cz_2_1 cz_2_2 cz_2_3 cz_2_4 cz_2_5 cz_2_6 cz_2_7 cz_2_8 cz_2_9 cz_2_10 cz_2_11 cz_2_12 cz_2_13 Rp_2 cp_2_0 cp_2_1 cp_2_2 cp_2_3 cp_2_4 cp_2_5 cp_2_6 cp_2_7 cp_2_8 cp_2_9 cp_2_10 cp_2_11 cp_2_12 cp_2_13
    obtain ⟨cb_3_0, cb_3_1⟩ := cell7t Rb_3
    obtain ⟨cz_3_0, cz_3_1, cz_3_2, cz_3_3, cz_3_4, cz_3_5, cz_3_6, cz_3_7, cz_3_8, cz_3_9, cz_3_10, cz_3_11, cz_3_12, cz_3_13⟩ := pt_cells Rz_3
    obtain ⟨cp_3_0, cp_3_1, cp_3_2, cp_3_3, cp_3_4, cp_3_5, cp_3_6, cp_3_7, cp_3_8, cp_3_9, cp_3_10, cp_3_11, cp_3_12, cp_3_13⟩ := pt_cells Rp_3
    go_wp2_with fail
    refine (KO.out _).mono ?_
    rintro r w4 ⟨rfl, b4⟩
    have B4 : Below w.heap.size w w4 := btr7 B3 b4
    have Rb_4 := heap_of b4 _ _ _ Rb_3
    have Rz_4 := heap_of b4 _ _ _ Rz_3
    have Rp_4 := heap_of b4 _ _ _ Rp_3
    clear b4 B3 Rb_3 cb_3_0 cb_3_1 Rz_3 cz_3_0 cz_3_1 cz_3_2 cz_3_3 cz_3_4 cz_3_5 cz_3_6 cz_3_7 cz_3_8 cz_3_9 cz_3_10 cz_3_11 cz_3_12 cz_3_13 Rp_3 cp_3_0 cp_3_1 cp_3_2 cp_3_3 cp_3_4 cp_3_5 cp_3_6 cp_3_7 cp_3_8 cp_3_9 cp_3_10 cp_3_11 cp_3_12 cp_3_13
    obtain ⟨cb_4_0, cb_4_1⟩ := cell7t Rb_4
    obtain ⟨cz_4_0, cz_4_1, cz_4_2, cz_4_3, cz_4_4, cz_4_5, cz_4_6, cz_4_7, cz_4_8, cz_4_9, cz_4_10, cz_4_11, cz_4_12, cz_4_13⟩ := pt_cells Rz_4
    obtain ⟨cp_4_0, cp_4_1, cp_4_2, cp_4_3, cp_4_4, cp_4_5, cp_4_6, cp_4_7, cp_4_8, cp_4_9, cp_4_10, cp_4_11, cp_4_12, cp_4_13⟩ := pt_cells Rp_4
    have S5 := box B4.size
    have Lb_5 : Box (w.heap.size < w4.heap.size) := box (Array.getElem?_eq_some_iff.1 Rb_4).1
    have Lz_5 : Box (w.heap.size + 1 < w4.heap.size) := box (Array.getElem?_eq_some_iff.1 Rz_4).1
    have Lp_5 : Box (w1.heap.size < w4.heap.size) := box (Array.getElem?_eq_some_iff.1 Rp_4).1
    have Rfr_5 := heap_alloc_last w4 (Obj.cells (cw 6 t) 42)
    have B5 := btr7 B4 (bal7 w4 (Obj.cells (cw 6 t) 42))
    have Rb_5 := heap_of (bal7 w4 (Obj.cells (cw 6 t) 42)) _ _ _ Rb_4
    have Rz_5 := heap_of (bal7 w4 (Obj.cells (cw 6 t) 42)) _ _ _ Rz_4
    have Rp_5 := heap_of (bal7 w4 (Obj.cells (cw 6 t) 42)) _ _ _ Rp_4
    clear B4 Rb_4 cb_4_0 cb_4_1 Rz_4 cz_4_0 cz_4_1 cz_4_2 cz_4_3 cz_4_4 cz_4_5 cz_4_6 cz_4_7 cz_4_8 cz_4_9 cz_4_10 cz_4_11 cz_4_12 cz_4_13 Rp_4 cp_4_0 cp_4_1 cp_4_2 cp_4_3 cp_4_4 cp_4_5 cp_4_6 cp_4_7 cp_4_8 cp_4_9 cp_4_10 cp_4_11 cp_4_12 cp_4_13
    obtain ⟨cb_5_0, cb_5_1⟩ := cell7t Rb_5
    obtain ⟨cz_5_0, cz_5_1, cz_5_2, cz_5_3, cz_5_4, cz_5_5, cz_5_6, cz_5_7, cz_5_8, cz_5_9, cz_5_10, cz_5_11, cz_5_12, cz_5_13⟩ := pt_cells Rz_5
    obtain ⟨cp_5_0, cp_5_1, cp_5_2, cp_5_3, cp_5_4, cp_5_5, cp_5_6, cp_5_7, cp_5_8, cp_5_9, cp_5_10, cp_5_11, cp_5_12, cp_5_13⟩ := pt_cells Rp_5
    have cfr_5_0 := row_cell Rfr_5
    have hstz := st_p (w4.alloc (Obj.cells (cw 6 t) 42)) (w.heap.size + 1) c 0 0 0 0 0 0 0 Rz_5
    have RZ := setRow_row (c' := pt c 0 0 0) Rz_5
    obtain ⟨dz0, dz1, dz2, dz3, dz4, dz5, dz6, dz7, dz8, dz9, dz10, dz11, dz12, dz13⟩ := pt_cells RZ
    have bz := bel_set (c := pt c 0 0 0) B5 (show w.heap.size ≤ w.heap.size + 1 by first | exact Nat.le_refl _ | omega | (have := S2.out; have := Lb_2.out; have := Lz_2.out; have := S5.out; have := Lb_5.out; have := Lz_5.out; have := Lp_5.out; omega))
    go_wp2
    exact bodyPost_ret (v := .agg (pt c 0 0 0)) (by simp [results, Tryd.results28, go_sem, dz0, dz1, dz2, dz3, dz4, dz5, dz6, dz7, dz8, dz9, dz10, dz11, dz12, dz13, ptf] <;> rfl) rfl ⟨rfl, bz⟩
  · have f8 : ((c : Int) == 8) = false := by rw [hc]; rfl
    have f9 : ((c : Int) == 9) = false := by rw [hc]; rfl
    have f2 : ((c : Int) == 2) = false := by rw [hc]; rfl
    have f5 : ((c : Int) == 5) = false := by rw [hc]; rfl
    have f1 : ((c : Int) == 1) = false := by rw [hc]; rfl
    have f6 : ((c : Int) == 6) = false := by rw [hc]; rfl
    clear hc
    obtain ⟨Rb_0, Rz_0, B0⟩ := kopn2 w (Obj.cells #[.int .u64 (x : Nat), .int .u64 (y : Nat)] 26) (Obj.cells (pt 0 0 0 0) 44)
    go_enter Tryd.func28, Tryd.ntmps28
    go_wp2_with fail
    refine (KC.out _ (fatB TT.out B0)).mono ?_
    rintro r w1 ⟨rfl, b1⟩
    have B1 : Below w.heap.size w w1 := btr7 B0 b1
    have Rb_1 := heap_of b1 _ _ _ Rb_0
    have Rz_1 := heap_of b1 _ _ _ Rz_0
    clear b1 B0 Rb_0 Rz_0
    obtain ⟨cb_1_0, cb_1_1⟩ := cell7t Rb_1
    obtain ⟨cz_1_0, cz_1_1, cz_1_2, cz_1_3, cz_1_4, cz_1_5, cz_1_6, cz_1_7, cz_1_8, cz_1_9, cz_1_10, cz_1_11, cz_1_12, cz_1_13⟩ := pt_cells Rz_1
    have S2 := box B1.size
    have Lb_2 : Box (w.heap.size < w1.heap.size) := box (Array.getElem?_eq_some_iff.1 Rb_1).1
    have Lz_2 : Box (w.heap.size + 1 < w1.heap.size) := box (Array.getElem?_eq_some_iff.1 Rz_1).1
    have Rp_2 := heap_alloc_last w1 (Obj.cells (pt c 0 0 0) 44)
    have B2 := btr7 B1 (bal7 w1 (Obj.cells (pt c 0 0 0) 44))
    have Rb_2 := heap_of (bal7 w1 (Obj.cells (pt c 0 0 0) 44)) _ _ _ Rb_1
    have Rz_2 := heap_of (bal7 w1 (Obj.cells (pt c 0 0 0) 44)) _ _ _ Rz_1
    clear B1 Rb_1 cb_1_0 cb_1_1 Rz_1 cz_1_0 cz_1_1 cz_1_2 cz_1_3 cz_1_4 cz_1_5 cz_1_6 cz_1_7 cz_1_8 cz_1_9 cz_1_10 cz_1_11 cz_1_12 cz_1_13
    obtain ⟨cb_2_0, cb_2_1⟩ := cell7t Rb_2
    obtain ⟨cz_2_0, cz_2_1, cz_2_2, cz_2_3, cz_2_4, cz_2_5, cz_2_6, cz_2_7, cz_2_8, cz_2_9, cz_2_10, cz_2_11, cz_2_12, cz_2_13⟩ := pt_cells Rz_2
    obtain ⟨cp_2_0, cp_2_1, cp_2_2, cp_2_3, cp_2_4, cp_2_5, cp_2_6, cp_2_7, cp_2_8, cp_2_9, cp_2_10, cp_2_11, cp_2_12, cp_2_13⟩ := pt_cells Rp_2
    go_wp2_with fail
    refine (KF.out _ (fatB TT.out B2)).mono ?_
    rintro r w3 ⟨rfl, b3⟩
    have B3 : Below w.heap.size w w3 := btr7 B2 b3
    have Rb_3 := heap_of b3 _ _ _ Rb_2
    have Rz_3 := heap_of b3 _ _ _ Rz_2
    have Rp_3 := heap_of b3 _ _ _ Rp_2
    clear b3 B2 Rb_2 cb_2_0 cb_2_1 Rz_2 cz_2_0 cz_2_1 cz_2_2 cz_2_3 cz_2_4 cz_2_5 cz_2_6 cz_2_7 cz_2_8 cz_2_9 cz_2_10 cz_2_11 cz_2_12 cz_2_13 Rp_2 cp_2_0 cp_2_1 cp_2_2 cp_2_3 cp_2_4 cp_2_5 cp_2_6 cp_2_7 cp_2_8 cp_2_9 cp_2_10 cp_2_11 cp_2_12 cp_2_13
    obtain ⟨cb_3_0, cb_3_1⟩ := cell7t Rb_3
    obtain ⟨cz_3_0, cz_3_1, cz_3_2, cz_3_3, cz_3_4, cz_3_5, cz_3_6, cz_3_7, cz_3_8, cz_3_9, cz_3_10, cz_3_11, cz_3_12, cz_3_13⟩ := pt_cells Rz_3
    obtain ⟨cp_3_0, cp_3_1, cp_3_2, cp_3_3, cp_3_4, cp_3_5, cp_3_6, cp_3_7, cp_3_8, cp_3_9, cp_3_10, cp_3_11, cp_3_12, cp_3_13⟩ := pt_cells Rp_3
    go_wp2_with fail
    refine (KO.out _).mono ?_
    rintro r w4 ⟨rfl, b4⟩
    have B4 : Below w.heap.size w w4 := btr7 B3 b4
    have Rb_4 := heap_of b4 _ _ _ Rb_3
    have Rz_4 := heap_of b4 _ _ _ Rz_3
    have Rp_4 := heap_of b4 _ _ _ Rp_3
    clear b4 B3 Rb_3 cb_3_0 cb_3_1 Rz_3 cz_3_0 cz_3_1 cz_3_2 cz_3_3 cz_3_4 cz_3_5 cz_3_6 cz_3_7 cz_3_8 cz_3_9 cz_3_10 cz_3_11 cz_3_12 cz_3_13 Rp_3 cp_3_0 cp_3_1 cp_3_2 cp_3_3 cp_3_4 cp_3_5 cp_3_6 cp_3_7 cp_3_8 cp_3_9 cp_3_10 cp_3_11 cp_3_12 cp_3_13
    obtain ⟨cb_4_0, cb_4_1⟩ := cell7t Rb_4
    obtain ⟨cz_4_0, cz_4_1, cz_4_2, cz_4_3, cz_4_4, cz_4_5, cz_4_6, cz_4_7, cz_4_8, cz_4_9, cz_4_10, cz_4_11, cz_4_12, cz_4_13⟩ := pt_cells Rz_4
    obtain ⟨cp_4_0, cp_4_1, cp_4_2, cp_4_3, cp_4_4, cp_4_5, cp_4_6, cp_4_7, cp_4_8, cp_4_9, cp_4_10, cp_4_11, cp_4_12, cp_4_13⟩ := pt_cells Rp_4
    have S5 := box B4.size
    have Lb_5 : Box (w.heap.size < w4.heap.size) := box (Array.getElem?_eq_some_iff.1 Rb_4).1
    have Lz_5 : Box (w.heap.size + 1 < w4.heap.size) := box (Array.getElem?_eq_some_iff.1 Rz_4).1
    have Lp_5 : Box (w1.heap.size < w4.heap.size) := box (Array.getElem?_eq_some_iff.1 Rp_4).1
    have Rfr_5 := heap_alloc_last w4 (Obj.cells (cw 6 t) 42)
    have B5 := btr7 B4 (bal7 w4 (Obj.cells (cw 6 t) 42))
    have Rb_5 := heap_of (bal7 w4 (Obj.cells (cw 6 t) 42)) _ _ _ Rb_4
    have Rz_5 := heap_of (bal7 w4 (Obj.cells (cw 6 t) 42)) _ _ _ Rz_4
    have Rp_5 := heap_of (bal7 w4 (Obj.cells (cw 6 t) 42)) _ _ _ Rp_4
    clear B4 Rb_4 cb_4_0 cb_4_1 Rz_4 cz_4_0 cz_4_1 cz_4_2 cz_4_3 cz_4_4 cz_4_5 cz_4_6 cz_4_7 cz_4_8 cz_4_9 cz_4_10 cz_4_11 cz_4_12 cz_4_13 Rp_4 cp_4_0 cp_4_1 cp_4_2 cp_4_3 cp_4_4 cp_4_5 cp_4_6 cp_4_7 cp_4_8 cp_4_9 cp_4_10 cp_4_11 cp_4_12 cp_4_13
    obtain ⟨cb_5_0, cb_5_1⟩ := cell7t Rb_5
    obtain ⟨cz_5_0, cz_5_1, cz_5_2, cz_5_3, cz_5_4, cz_5_5, cz_5_6, cz_5_7, cz_5_8, cz_5_9, cz_5_10, cz_5_11, cz_5_12, cz_5_13⟩ := pt_cells Rz_5
    obtain ⟨cp_5_0, cp_5_1, cp_5_2, cp_5_3, cp_5_4, cp_5_5, cp_5_6, cp_5_7, cp_5_8, cp_5_9, cp_5_10, cp_5_11, cp_5_12, cp_5_13⟩ := pt_cells Rp_5
    have cfr_5_0 := row_cell Rfr_5
    have hstz := st_p (w4.alloc (Obj.cells (cw 6 t) 42)) (w.heap.size + 1) c 0 0 0 0 0 0 0 Rz_5
    have RZ := setRow_row (c' := pt c 0 0 0) Rz_5
    obtain ⟨dz0, dz1, dz2, dz3, dz4, dz5, dz6, dz7, dz8, dz9, dz10, dz11, dz12, dz13⟩ := pt_cells RZ
    have bz := bel_set (c := pt c 0 0 0) B5 (show w.heap.size ≤ w.heap.size + 1 by first | exact Nat.le_refl _ | omega | (have := S2.out; have := Lb_2.out; have := Lz_2.out; have := S5.out; have := Lb_5.out; have := Lz_5.out; have := Lp_5.out; omega))
    go_wp2
    exact bodyPost_ret (v := .agg (pt c 0 0 0)) (by simp [results, Tryd.results28, go_sem, dz0, dz1, dz2, dz3, dz4, dz5, dz6, dz7, dz8, dz9, dz10, dz11, dz12, dz13, ptf] <;> rfl) rfl ⟨rfl, bz⟩
  · have f8 : ((c : Int) == 8) = false := by rw [hc]; rfl
    have f9 : ((c : Int) == 9) = false := by rw [hc]; rfl
    have f2 : ((c : Int) == 2) = false := by rw [hc]; rfl
    have f5 : ((c : Int) == 5) = false := by rw [hc]; rfl
    have f1 : ((c : Int) == 1) = false := by rw [hc]; rfl
    have f6 : ((c : Int) == 6) = false := by rw [hc]; rfl
    clear hc
    obtain ⟨Rb_0, Rz_0, B0⟩ := kopn2 w (Obj.cells #[.int .u64 (x : Nat), .int .u64 (y : Nat)] 26) (Obj.cells (pt 0 0 0 0) 44)
    go_enter Tryd.func28, Tryd.ntmps28
    go_wp2_with fail
    refine (KC.out _ (fatB TT.out B0)).mono ?_
    rintro r w1 ⟨rfl, b1⟩
    have B1 : Below w.heap.size w w1 := btr7 B0 b1
    have Rb_1 := heap_of b1 _ _ _ Rb_0
    have Rz_1 := heap_of b1 _ _ _ Rz_0
    clear b1 B0 Rb_0 Rz_0
    obtain ⟨cb_1_0, cb_1_1⟩ := cell7t Rb_1
    obtain ⟨cz_1_0, cz_1_1, cz_1_2, cz_1_3, cz_1_4, cz_1_5, cz_1_6, cz_1_7, cz_1_8, cz_1_9, cz_1_10, cz_1_11, cz_1_12, cz_1_13⟩ := pt_cells Rz_1
    have S2 := box B1.size
    have Lb_2 : Box (w.heap.size < w1.heap.size) := box (Array.getElem?_eq_some_iff.1 Rb_1).1
    have Lz_2 : Box (w.heap.size + 1 < w1.heap.size) := box (Array.getElem?_eq_some_iff.1 Rz_1).1
    have Rp_2 := heap_alloc_last w1 (Obj.cells (pt c 0 0 0) 44)
    have B2 := btr7 B1 (bal7 w1 (Obj.cells (pt c 0 0 0) 44))
    have Rb_2 := heap_of (bal7 w1 (Obj.cells (pt c 0 0 0) 44)) _ _ _ Rb_1
    have Rz_2 := heap_of (bal7 w1 (Obj.cells (pt c 0 0 0) 44)) _ _ _ Rz_1
    clear B1 Rb_1 cb_1_0 cb_1_1 Rz_1 cz_1_0 cz_1_1 cz_1_2 cz_1_3 cz_1_4 cz_1_5 cz_1_6 cz_1_7 cz_1_8 cz_1_9 cz_1_10 cz_1_11 cz_1_12 cz_1_13
    obtain ⟨cb_2_0, cb_2_1⟩ := cell7t Rb_2
    obtain ⟨cz_2_0, cz_2_1, cz_2_2, cz_2_3, cz_2_4, cz_2_5, cz_2_6, cz_2_7, cz_2_8, cz_2_9, cz_2_10, cz_2_11, cz_2_12, cz_2_13⟩ := pt_cells Rz_2
    obtain ⟨cp_2_0, cp_2_1, cp_2_2, cp_2_3, cp_2_4, cp_2_5, cp_2_6, cp_2_7, cp_2_8, cp_2_9, cp_2_10, cp_2_11, cp_2_12, cp_2_13⟩ := pt_cells Rp_2
    go_wp2_with fail
    refine (KF.out _ (fatB TT.out B2)).mono ?_
    rintro r w3 ⟨rfl, b3⟩
    have B3 : Below w.heap.size w w3 := btr7 B2 b3
    have Rb_3 := heap_of b3 _ _ _ Rb_2
    have Rz_3 := heap_of b3 _ _ _ Rz_2
    have Rp_3 := heap_of b3 _ _ _ Rp_2
    clear b3 B2 Rb_2 cb_2_0 cb_2_1 Rz_2 cz_2_0 cz_2_1 cz_2_2 cz_2_3 cz_2_4 cz_2_5 cz_2_6 cz_2_7 cz_2_8 cz_2_9 cz_2_10 cz_2_11 cz_2_12 cz_2_13 Rp_2 cp_2_0 cp_2_1 cp_2_2 cp_2_3 cp_2_4 cp_2_5 cp_2_6 cp_2_7 cp_2_8 cp_2_9 cp_2_10 cp_2_11 cp_2_12 cp_2_13
    obtain ⟨cb_3_0, cb_3_1⟩ := cell7t Rb_3
    obtain ⟨cz_3_0, cz_3_1, cz_3_2, cz_3_3, cz_3_4, cz_3_5, cz_3_6, cz_3_7, cz_3_8, cz_3_9, cz_3_10, cz_3_11, cz_3_12, cz_3_13⟩ := pt_cells Rz_3
    obtain ⟨cp_3_0, cp_3_1, cp_3_2, cp_3_3, cp_3_4, cp_3_5, cp_3_6, cp_3_7, cp_3_8, cp_3_9, cp_3_10, cp_3_11, cp_3_12, cp_3_13⟩ := pt_cells Rp_3
    go_wp2_with fail
    refine (KO.out _).mono ?_
    rintro r w4 ⟨rfl, b4⟩
    have B4 : Below w.heap.size w w4 := btr7 B3 b4
    have Rb_4 := heap_of b4 _ _ _ Rb_3
    have Rz_4 := heap_of b4 _ _ _ Rz_3
    have Rp_4 := heap_of b4 _ _ _ Rp_3
    clear b4 B3 Rb_3 cb_3_0 cb_3_1 Rz_3 cz_3_0 cz_3_1 cz_3_2 cz_3_3 cz_3_4 cz_3_5 cz_3_6 cz_3_7 cz_3_8 cz_3_9 cz_3_10 cz_3_11 cz_3_12 cz_3_13 Rp_3 cp_3_0 cp_3_1 cp_3_2 cp_3_3 cp_3_4 cp_3_5 cp_3_6 cp_3_7 cp_3_8 cp_3_9 cp_3_10 cp_3_11 cp_3_12 cp_3_13
    obtain ⟨cb_4_0, cb_4_1⟩ := cell7t Rb_4
    obtain ⟨cz_4_0, cz_4_1, cz_4_2, cz_4_3, cz_4_4, cz_4_5, cz_4_6, cz_4_7, cz_4_8, cz_4_9, cz_4_10, cz_4_11, cz_4_12, cz_4_13⟩ := pt_cells Rz_4
    obtain ⟨cp_4_0, cp_4_1, cp_4_2, cp_4_3, cp_4_4, cp_4_5, cp_4_6, cp_4_7, cp_4_8, cp_4_9, cp_4_10, cp_4_11, cp_4_12, cp_4_13⟩ := pt_cells Rp_4
    have S5 := box B4.size
    have Lb_5 : Box (w.heap.size < w4.heap.size) := box (Array.getElem?_eq_some_iff.1 Rb_4).1
    have Lz_5 : Box (w.heap.size + 1 < w4.heap.size) := box (Array.getElem?_eq_some_iff.1 Rz_4).1
    have Lp_5 : Box (w1.heap.size < w4.heap.size) := box (Array.getElem?_eq_some_iff.1 Rp_4).1
    have Rfr_5 := heap_alloc_last w4 (Obj.cells (cw 6 t) 42)
    have B5 := btr7 B4 (bal7 w4 (Obj.cells (cw 6 t) 42))
    have Rb_5 := heap_of (bal7 w4 (Obj.cells (cw 6 t) 42)) _ _ _ Rb_4
    have Rz_5 := heap_of (bal7 w4 (Obj.cells (cw 6 t) 42)) _ _ _ Rz_4
    have Rp_5 := heap_of (bal7 w4 (Obj.cells (cw 6 t) 42)) _ _ _ Rp_4
    clear B4 Rb_4 cb_4_0 cb_4_1 Rz_4 cz_4_0 cz_4_1 cz_4_2 cz_4_3 cz_4_4 cz_4_5 cz_4_6 cz_4_7 cz_4_8 cz_4_9 cz_4_10 cz_4_11 cz_4_12 cz_4_13 Rp_4 cp_4_0 cp_4_1 cp_4_2 cp_4_3 cp_4_4 cp_4_5 cp_4_6 cp_4_7 cp_4_8 cp_4_9 cp_4_10 cp_4_11 cp_4_12 cp_4_13
    obtain ⟨cb_5_0, cb_5_1⟩ := cell7t Rb_5
    obtain ⟨cz_5_0, cz_5_1, cz_5_2, cz_5_3, cz_5_4, cz_5_5, cz_5_6, cz_5_7, cz_5_8, cz_5_9, cz_5_10, cz_5_11, cz_5_12, cz_5_13⟩ := pt_cells Rz_5
    obtain ⟨cp_5_0, cp_5_1, cp_5_2, cp_5_3, cp_5_4, cp_5_5, cp_5_6, cp_5_7, cp_5_8, cp_5_9, cp_5_10, cp_5_11, cp_5_12, cp_5_13⟩ := pt_cells Rp_5
    have cfr_5_0 := row_cell Rfr_5
    have hstz := st_p (w4.alloc (Obj.cells (cw 6 t) 42)) (w.heap.size + 1) c 0 0 0 0 0 0 0 Rz_5
    have RZ := setRow_row (c' := pt c 0 0 0) Rz_5
    obtain ⟨dz0, dz1, dz2, dz3, dz4, dz5, dz6, dz7, dz8, dz9, dz10, dz11, dz12, dz13⟩ := pt_cells RZ
    have bz := bel_set (c := pt c 0 0 0) B5 (show w.heap.size ≤ w.heap.size + 1 by first | exact Nat.le_refl _ | omega | (have := S2.out; have := Lb_2.out; have := Lz_2.out; have := S5.out; have := Lb_5.out; have := Lz_5.out; have := Lp_5.out; omega))
    go_wp2
    exact bodyPost_ret (v := .agg (pt c 0 0 0)) (by simp [results, Tryd.results28, go_sem, dz0, dz1, dz2, dz3, dz4, dz5, dz6, dz7, dz8, dz9, dz10, dz11, dz12, dz13, ptf] <;> rfl) rfl ⟨rfl, bz⟩
  · have f8 : ((c : Int) == 8) = false := by rw [hc]; rfl
    have f9 : ((c : Int) == 9) = false := by rw [hc]; rfl
    have f2 : ((c : Int) == 2) = false := by rw [hc]; rfl
    have f5 : ((c : Int) == 5) = false := by rw [hc]; rfl
    have f1 : ((c : Int) == 1) = false := by rw [hc]; rfl
    have f6 : ((c : Int) == 6) = false := by rw [hc]; rfl
    clear hc
    obtain ⟨Rb_0, Rz_0, B0⟩ := kopn2 w (Obj.cells #[.int .u64 (x : Nat), .int .u64 (y : Nat)] 26) (Obj.cells (pt 0 0 0 0) 44)
    go_enter Tryd.func28, Tryd.ntmps28
    go_wp2_with fail
    refine (KC.out _ (fatB TT.out B0)).mono ?_
    rintro r w1 ⟨rfl, b1⟩
    have B1 : Below w.heap.size w w1 := btr7 B0 b1
    have Rb_1 := heap_of b1 _ _ _ Rb_0
    have Rz_1 := heap_of b1 _ _ _ Rz_0
    clear b1 B0 Rb_0 Rz_0
    obtain ⟨cb_1_0, cb_1_1⟩ := cell7t Rb_1
    obtain ⟨cz_1_0, cz_1_1, cz_1_2, cz_1_3, cz_1_4, cz_1_5, cz_1_6, cz_1_7, cz_1_8, cz_1_9, cz_1_10, cz_1_11, cz_1_12, cz_1_13⟩ := pt_cells Rz_1
    have S2 := box B1.size
    have Lb_2 : Box (w.heap.size < w1.heap.size) := box (Array.getElem?_eq_some_iff.1 Rb_1).1
    have Lz_2 : Box (w.heap.size + 1 < w1.heap.size) := box (Array.getElem?_eq_some_iff.1 Rz_1).1
    have Rp_2 := heap_alloc_last w1 (Obj.cells (pt c 0 0 0) 44)
    have B2 := btr7 B1 (bal7 w1 (Obj.cells (pt c 0 0 0) 44))
    have Rb_2 := heap_of (bal7 w1 (Obj.cells (pt c 0 0 0) 44)) _ _ _ Rb_1
    have Rz_2 := heap_of (bal7 w1 (Obj.cells (pt c 0 0 0) 44)) _ _ _ Rz_1
    clear B1 Rb_1 cb_1_0 cb_1_1 Rz_1 cz_1_0 cz_1_1 cz_1_2 cz_1_3 cz_1_4 cz_1_5 cz_1_6 cz_1_7 cz_1_8 cz_1_9 cz_1_10 cz_1_11 cz_1_12 cz_1_13
    obtain ⟨cb_2_0, cb_2_1⟩ := cell7t Rb_2
    obtain ⟨cz_2_0, cz_2_1, cz_2_2, cz_2_3, cz_2_4, cz_2_5, cz_2_6, cz_2_7, cz_2_8, cz_2_9, cz_2_10, cz_2_11, cz_2_12, cz_2_13⟩ := pt_cells Rz_2
    obtain ⟨cp_2_0, cp_2_1, cp_2_2, cp_2_3, cp_2_4, cp_2_5, cp_2_6, cp_2_7, cp_2_8, cp_2_9, cp_2_10, cp_2_11, cp_2_12, cp_2_13⟩ := pt_cells Rp_2
    go_wp2_with fail
    refine (KF.out _ (fatB TT.out B2)).mono ?_
    rintro r w3 ⟨rfl, b3⟩
    have B3 : Below w.heap.size w w3 := btr7 B2 b3
    have Rb_3 := heap_of b3 _ _ _ Rb_2
    have Rz_3 := heap_of b3 _ _ _ Rz_2
    have Rp_3 := heap_of b3 _ _ _ Rp_2
    clear b3 B2 Rb_2 cb_2_0 cb_2_1 Rz_2 cz_2_0 cz_2_1 cz_2_2 cz_2_3 cz_2_4 cz_2_5 cz_2_6 cz_2_7 cz_2_8 cz_2_9 cz_2_10 cz_2_11 cz_2_12 cz_2_13 Rp_2 cp_2_0 cp_2_1 cp_2_2 cp_2_3 cp_2_4 cp_2_5 cp_2_6 cp_2_7 cp_2_8 cp_2_9 cp_2_10 cp_2_11 cp_2_12 cp_2_13
    obtain ⟨cb_3_0, cb_3_1⟩ := cell7t Rb_3
    obtain ⟨cz_3_0, cz_3_1, cz_3_2, cz_3_3, cz_3_4, cz_3_5, cz_3_6, cz_3_7, cz_3_8, cz_3_9, cz_3_10, cz_3_11, cz_3_12, cz_3_13⟩ := pt_cells Rz_3
    obtain ⟨cp_3_0, cp_3_1, cp_3_2, cp_3_3, cp_3_4, cp_3_5, cp_3_6, cp_3_7, cp_3_8, cp_3_9, cp_3_10, cp_3_11, cp_3_12, cp_3_13⟩ := pt_cells Rp_3
    go_wp2_with fail
    refine (KO.out _).mono ?_
    rintro r w4 ⟨rfl, b4⟩
    have B4 : Below w.heap.size w w4 := btr7 B3 b4
    have Rb_4 := heap_of b4 _ _ _ Rb_3
    have Rz_4 := heap_of b4 _ _ _ Rz_3
    have Rp_4 := heap_of b4 _ _ _ Rp_3
    clear b4 B3 Rb_3 cb_3_0 cb_3_1 Rz_3 cz_3_0 cz_3_1 cz_3_2 cz_3_3 cz_3_4 cz_3_5 cz_3_6 cz_3_7 cz_3_8 cz_3_9 cz_3_10 cz_3_11 cz_3_12 cz_3_13 Rp_3 cp_3_0 cp_3_1 cp_3_2 cp_3_3 cp_3_4 cp_3_5 cp_3_6 cp_3_7 cp_3_8 cp_3_9 cp_3_10 cp_3_11 cp_3_12 cp_3_13
    obtain ⟨cb_4_0, cb_4_1⟩ := cell7t Rb_4
    obtain ⟨cz_4_0, cz_4_1, cz_4_2, cz_4_3, cz_4_4, cz_4_5, cz_4_6, cz_4_7, cz_4_8, cz_4_9, cz_4_10, cz_4_11, cz_4_12, cz_4_13⟩ := pt_cells Rz_4
    obtain ⟨cp_4_0, cp_4_1, cp_4_2, cp_4_3, cp_4_4, cp_4_5, cp_4_6, cp_4_7, cp_4_8, cp_4_9, cp_4_10, cp_4_11, cp_4_12, cp_4_13⟩ := pt_cells Rp_4
    have S5 := box B4.size
    have Lb_5 : Box (w.heap.size < w4.heap.size) := box (Array.getElem?_eq_some_iff.1 Rb_4).1
    have Lz_5 : Box (w.heap.size + 1 < w4.heap.size) := box (Array.getElem?_eq_some_iff.1 Rz_4).1
    have Lp_5 : Box (w1.heap.size < w4.heap.size) := box (Array.getElem?_eq_some_iff.1 Rp_4).1
    have Rfr_5 := heap_alloc_last w4 (Obj.cells (cw 6 t) 42)
    have B5 := btr7 B4 (bal7 w4 (Obj.cells (cw 6 t) 42))
    have Rb_5 := heap_of (bal7 w4 (Obj.cells (cw 6 t) 42)) _ _ _ Rb_4
    have Rz_5 := heap_of (bal7 w4 (Obj.cells (cw 6 t) 42)) _ _ _ Rz_4
    have Rp_5 := heap_of (bal7 w4 (Obj.cells (cw 6 t) 42)) _ _ _ Rp_4
    clear B4 Rb_4 cb_4_0 cb_4_1 Rz_4 cz_4_0 cz_4_1 cz_4_2 cz_4_3 cz_4_4 cz_4_5 cz_4_6 cz_4_7 cz_4_8 cz_4_9 cz_4_10 cz_4_11 cz_4_12 cz_4_13 Rp_4 cp_4_0 cp_4_1 cp_4_2 cp_4_3 cp_4_4 cp_4_5 cp_4_6 cp_4_7 cp_4_8 cp_4_9 cp_4_10 cp_4_11 cp_4_12 cp_4_13
    obtain ⟨cb_5_0, cb_5_1⟩ := cell7t Rb_5
    obtain ⟨cz_5_0, cz_5_1, cz_5_2, cz_5_3, cz_5_4, cz_5_5, cz_5_6, cz_5_7, cz_5_8, cz_5_9, cz_5_10, cz_5_11, cz_5_12, cz_5_13⟩ := pt_cells Rz_5
    obtain ⟨cp_5_0, cp_5_1, cp_5_2, cp_5_3, cp_5_4, cp_5_5, cp_5_6, cp_5_7, cp_5_8, cp_5_9, cp_5_10, cp_5_11, cp_5_12, cp_5_13⟩ := pt_cells Rp_5
    have cfr_5_0 := row_cell Rfr_5
    have hstz := st_p (w4.alloc (Obj.cells (cw 6 t) 42)) (w.heap.size + 1) c 0 0 0 0 0 0 0 Rz_5
    have RZ := setRow_row (c' := pt c 0 0 0) Rz_5
    obtain ⟨dz0, dz1, dz2, dz3, dz4, dz5, dz6, dz7, dz8, dz9, dz10, dz11, dz12, dz13⟩ := pt_cells RZ
    have bz := bel_set (c := pt c 0 0 0) B5 (show w.heap.size ≤ w.heap.size + 1 by first | exact Nat.le_refl _ | omega | (have := S2.out; have := Lb_2.out; have := Lz_2.out; have := S5.out; have := Lb_5.out; have := Lz_5.out; have := Lp_5.out; omega))
    go_wp2
    exact bodyPost_ret (v := .agg (pt c 0 0 0)) (by simp [results, Tryd.results28, go_sem, dz0, dz1, dz2, dz3, dz4, dz5, dz6, dz7, dz8, dz9, dz10, dz11, dz12, dz13, ptf] <;> rfl) rfl ⟨rfl, bz⟩
end Go.Proofs.YtdjlfhcalccajaaDoor
