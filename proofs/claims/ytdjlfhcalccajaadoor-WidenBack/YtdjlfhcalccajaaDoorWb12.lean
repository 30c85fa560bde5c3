/-
  What the functions that the statement reaches return: part 12 (O1, M0, M2, A3, U1, U2, E2, G5, Q1, G6, G7).
-/
import Derived.Test.YtdjlfhcalccajaaDoorWb11
namespace Go.Proofs.YtdjlfhcalccajaaDoor
set_option maxRecDepth 100000
set_option maxHeartbeats 40000000
set_option maxRecDepth 100000
open Go.RowKit WMath
set_option linter.unusedSimpArgs false
set_option linter.unusedVariables false
theorem op_endless (c : Nat) (o : Bool) (ho : (decide (c = 0) || decide (c = 7)) = o) (w : World) : Calls Tryd.prog 17 #[.int .u8 (c : Nat)] w fun r w' => r = .returned (.bool o) ∧ Below w.heap.size w w' := by
  by_cases c0 : c = 0
  · rw [decide_eq_true c0, Bool.true_or] at ho
    subst ho
    have d0 : ((c : Int) == 0) = true := by rw [c0]; rfl
    clear c0
    have B0 : Below w.heap.size w w := (Below.refl _ _)
    go_enter Tryd.func17, Tryd.ntmps17
    go_wp2
    go_ret
    exact ⟨rfl, B0⟩
  · rw [decide_eq_false c0, Bool.false_or] at ho
    have d0 : ((c : Int) == 0) = false := by rw [beq_eq_false_iff_ne]; omega
    have d7 : ((c : Int) == 7) = o := by
      rw [← ho]
      by_cases c7 : c = 7
      · rw [decide_eq_true c7, c7]; rfl
      · rw [decide_eq_false c7, beq_eq_false_iff_ne]; omega
    clear ho c0
    have B0 : Below w.heap.size w w := (Below.refl _ _)
    go_enter Tryd.func17, Tryd.ntmps17
    go_wp2
    go_ret
    exact ⟨rfl, B0⟩
set_option maxRecDepth 100000 in
theorem op_inf (f : Int) (neg : Bool) (u v : Nat) (w : World) (KI : Box (∀ w, FAt w → Calls Tryd.prog 31 #[.int .u8 f, .int .u8 0, .bool neg] w fun r w' => r = .returned (.tuple #[.agg #[.int .u64 (u : Nat), .int .u64 (v : Nat)], .int .u8 5, .int .i64 0]) ∧ Below w.heap.size w w')) (hT : FAt w) : Calls Tryd.prog 18 #[.int .u8 f, .bool neg] w fun r w' => r = .returned (.agg #[.int .u64 (u : Nat), .int .u64 (v : Nat)]) ∧ Below w.heap.size w w' := by
  have FF := box hT
  clear hT
  obtain ⟨Rz_0, B0⟩ := opn1 w (Obj.cells #[.int .u64 0, .int .u64 0] 26)
  go_enter Tryd.func18, Tryd.ntmps18
  go_wp2_with fail
  refine (KI.out _ (fatB FF.out B0)).mono ?_
  rintro r w1 ⟨rfl, b1⟩
  have B1 : Below w.heap.size w w1 := btr B0 b1
  have Rz_1 := heap_of b1 _ _ _ Rz_0
  clear b1 B0 Rz_0
  obtain ⟨cz_1_0, cz_1_1⟩ := cells2s Rz_1
  have S2 := box B1.size
  have Lz_2 : Box (w.heap.size < w1.heap.size) := box (Array.getElem?_eq_some_iff.1 Rz_1).1
  have Ri_2 := heap_alloc_last w1 (Obj.cells #[.int .u64 (u : Nat), .int .u64 (v : Nat)] 26)
  have B2 := btr B1 (bal w1 (Obj.cells #[.int .u64 (u : Nat), .int .u64 (v : Nat)] 26))
  have Rz_2 := heap_of (bal w1 (Obj.cells #[.int .u64 (u : Nat), .int .u64 (v : Nat)] 26)) _ _ _ Rz_1
  clear B1 Rz_1 cz_1_0 cz_1_1
  obtain ⟨cz_2_0, cz_2_1⟩ := cells2s Rz_2
  obtain ⟨ci_2_0, ci_2_1⟩ := cells2s Ri_2
  have q0 := fz (k := 0) Rz_2
  have q1 := fz (k := 1) Rz_2
  obtain ⟨E0, E1⟩ := set2_cells Rz_2 (.int .u64 (u : Nat)) (.int .u64 (v : Nat))
  go_wp2
  exact bodyPost_ret (v := .agg #[.int .u64 (u : Nat), .int .u64 (v : Nat)]) (by simp [results, Tryd.results18, go_sem, E0, E1]) rfl ⟨rfl, set2_below B2 (by first | exact Nat.le_refl _ | omega | (have := S2.out; have := Lz_2.out; omega)) _ _⟩
set_option maxRecDepth 100000 in
set_option maxHeartbeats 4000000 in
theorem op_nan (f : Int) (iu iv t p q j : Nat) (h1 : bits .or .u64 (iv : Int) 1 = (t : Int)) (h2 : bits .andNot .u64 (q : Int) 1 = (j : Int)) (w : World) (KI : Box (∀ w, FAt w → Calls Tryd.prog 18 #[.int .u8 f, .bool false] w fun r w' => r = .returned (.agg #[.int .u64 (iu : Nat), .int .u64 (iv : Nat)]) ∧ Below w.heap.size w w'))
    (KQ : Box (∀ w, FAt w → Calls Tryd.prog 30 #[.int .u8 f, .agg #[.int .u64 (iu : Nat), .int .u64 (t : Nat)]] w fun r w' => r = .returned (.agg #[.int .u64 (p : Nat), .int .u64 (q : Nat)]) ∧ Below w.heap.size w w')) (hT : FAt w) : Calls Tryd.prog 15 #[.int .u8 f] w fun r w' => r = .returned (.agg #[.int .u64 (p : Nat), .int .u64 (j : Nat)]) ∧ Below w.heap.size w w' := by
  have FF := box hT
  clear hT
  obtain ⟨Rz_0, B0⟩ := opn1 w (Obj.cells #[.int .u64 0, .int .u64 0] 26)
  go_enter Tryd.func15, Tryd.ntmps15
  go_wp2_with fail
  refine (KI.out _ (fatB FF.out B0)).mono ?_
  rintro r w1 ⟨rfl, b1⟩
  have B1 : Below w.heap.size w w1 := btr B0 b1
  have Rz_1 := heap_of b1 _ _ _ Rz_0
  clear b1 B0 Rz_0
  obtain ⟨cz_1_0, cz_1_1⟩ := cells2s Rz_1
  have S2 := box B1.size
  have Lz_2 : Box (w.heap.size < w1.heap.size) := box (Array.getElem?_eq_some_iff.1 Rz_1).1
  have Rb_2 := heap_alloc_last w1 (Obj.cells #[.int .u64 (iu : Nat), .int .u64 (t : Nat)] 26)
  have B2 := btr B1 (bal w1 (Obj.cells #[.int .u64 (iu : Nat), .int .u64 (t : Nat)] 26))
  have Rz_2 := heap_of (bal w1 (Obj.cells #[.int .u64 (iu : Nat), .int .u64 (t : Nat)] 26)) _ _ _ Rz_1
  clear B1 Rz_1 cz_1_0 cz_1_1
  obtain ⟨cz_2_0, cz_2_1⟩ := cells2s Rz_2
  obtain ⟨cb_2_0, cb_2_1⟩ := cells2s Rb_2
  go_wp2_with fail
  refine (KQ.out _ (fatB FF.out B2)).mono ?_
  rintro r w3 ⟨rfl, b3⟩
  have B3 : Below w.heap.size w w3 := btr B2 b3
  have Rz_3 := heap_of b3 _ _ _ Rz_2
  have Rb_3 := heap_of b3 _ _ _ Rb_2
  clear b3 B2 Rz_2 cz_2_0 cz_2_1 Rb_2 cb_2_0 cb_2_1
  obtain ⟨cz_3_0, cz_3_1⟩ := cells2s Rz_3
  obtain ⟨cb_3_0, cb_3_1⟩ := cells2s Rb_3
  have q0_4 := fz (k := 0) Rb_3
  have q1_4 := fz (k := 1) Rb_3
  have B4 := set2_below B3 (show w.heap.size ≤ w1.heap.size by first | exact Nat.le_refl _ | omega | (have := S2.out; have := Lz_2.out; omega)) (.int .u64 (p : Nat)) (.int .u64 (q : Nat))
  have Rb_4 : ((w3.setCell ⟨w1.heap.size, 0, none⟩ (.int .u64 (p : Nat))).setCell ⟨w1.heap.size, 1, none⟩ (.int .u64 (q : Nat))).heap[w1.heap.size]? = some (Obj.cells #[.int .u64 (p : Nat), .int .u64 (q : Nat)] 26) := set2_row Rb_3 _ _
  have Rz_4 : ((w3.setCell ⟨w1.heap.size, 0, none⟩ (.int .u64 (p : Nat))).setCell ⟨w1.heap.size, 1, none⟩ (.int .u64 (q : Nat))).heap[w.heap.size]? = some (Obj.cells #[.int .u64 0, .int .u64 0] 26) := (setCell_other (by first | omega | (have := S2.out; have := Lz_2.out; omega))).trans ((setCell_other (by first | omega | (have := S2.out; have := Lz_2.out; omega))).trans Rz_3)
  obtain ⟨cz_4_0, cz_4_1⟩ := cells2s Rz_4
  obtain ⟨cb_4_0, cb_4_1⟩ := cells2s Rb_4
  have qb_4 := fz (k := 1) Rb_4
  have B5 : Below w.heap.size w (((w3.setCell ⟨w1.heap.size, 0, none⟩ (.int .u64 (p : Nat))).setCell ⟨w1.heap.size, 1, none⟩ (.int .u64 (q : Nat))).setCell ⟨w1.heap.size, 1, none⟩ (.int .u64 (j : Nat))) := B4.setCell (by first | exact Nat.le_refl _ | (have := S2.out; have := Lz_2.out; show w.heap.size ≤ w1.heap.size; omega)) _
  have Rb_5 : (((w3.setCell ⟨w1.heap.size, 0, none⟩ (.int .u64 (p : Nat))).setCell ⟨w1.heap.size, 1, none⟩ (.int .u64 (q : Nat))).setCell ⟨w1.heap.size, 1, none⟩ (.int .u64 (j : Nat))).heap[w1.heap.size]? = some (Obj.cells #[.int .u64 (p : Nat), .int .u64 (j : Nat)] 26) := by rw [setCell_row Rb_4]; rfl
  have Rz_5 : (((w3.setCell ⟨w1.heap.size, 0, none⟩ (.int .u64 (p : Nat))).setCell ⟨w1.heap.size, 1, none⟩ (.int .u64 (q : Nat))).setCell ⟨w1.heap.size, 1, none⟩ (.int .u64 (j : Nat))).heap[w.heap.size]? = some (Obj.cells #[.int .u64 0, .int .u64 0] 26) := by rw [setCell_other (by first | omega | (have := S2.out; have := Lz_2.out; omega))]; exact Rz_4
  obtain ⟨cz_5_0, cz_5_1⟩ := cells2s Rz_5
  obtain ⟨cb_5_0, cb_5_1⟩ := cells2s Rb_5
  have q0 := fz (k := 0) Rz_5
  have q1 := fz (k := 1) Rz_5
  obtain ⟨E0, E1⟩ := set2_cells Rz_5 (.int .u64 (p : Nat)) (.int .u64 (j : Nat))
  go_wp2
  exact bodyPost_ret (v := .agg #[.int .u64 (p : Nat), .int .u64 (j : Nat)]) (by simp [results, Tryd.results15, go_sem, E0, E1]) rfl ⟨rfl, set2_below B5 (by first | exact Nat.le_refl _ | omega | (have := S2.out; have := Lz_2.out; omega)) _ _⟩
set_option maxRecDepth 100000 in
set_option maxHeartbeats 8000000 in
theorem op_may_no (f m : Int) (pu pv : Nat) (fl c : Int) (sl : Value) (hc : (c != 0) = true) (w : World)
    (KP : Box (∀ w, FAt w → Calls Tryd.prog 19 #[.int .u8 f, .int .u8 m, .agg (rg false 0 0 false)] w fun r w' => r = .returned (.tuple #[.agg #[.int .u64 (pu : Nat), .int .u64 (pv : Nat)], .int .u8 fl, .int .i64 c]) ∧ Below w.heap.size w w')) (hT : FAt w) : Calls Tryd.prog 12 #[.int .u8 f, .int .u8 m, sl] w fun r w' => r = .returned (.bool false) ∧ Below w.heap.size w w' := by
  have FF := box hT
  clear hT
  have hp3 := rgz
  have B0 : Below w.heap.size w w := (Below.refl _ _)
  go_enter Tryd.func12, Tryd.ntmps12
  go_wp2_with fail
  refine (KP.out _ (fatB FF.out B0)).mono ?_
  rintro r w1 ⟨rfl, b1⟩
  have B1 : Below w.heap.size w w1 := btr B0 b1
  clear b1 B0 
  have S2 := box B1.size
  have Rp_2 := heap_alloc_last w1 (Obj.cells #[.int .u64 (pu : Nat), .int .u64 (pv : Nat)] 26)
  have B2 := btr B1 (bal w1 (Obj.cells #[.int .u64 (pu : Nat), .int .u64 (pv : Nat)] 26))
  clear B1 
  obtain ⟨cp_2_0, cp_2_1⟩ := cells2s Rp_2
  go_wp2
  go_ret
  exact ⟨rfl, B2⟩
end Go.Proofs.YtdjlfhcalccajaaDoor
namespace Go.Proofs.YtdjlfhcalccajaaDoor
set_option maxRecDepth 100000
set_option maxHeartbeats 40000000
set_option maxRecDepth 100000
open Go.RowKit WMath XMath
set_option linter.unusedSimpArgs false
set_option linter.unusedVariables false
theorem vX_whole {f : Int} (hf : Is4 f) (n : Nat) (h : 0 < kC f n ∧ kC f n < 7) (h2 : ¬ (kC f n = 3 ∨ kC f n = 4)) : kS f n ≠ 0 ∧ kS f n < 2 ^ 128 ∧ vX f n = ⟨kN f n, od (kS f n), 1, kX f n + (tz (kS f n) : Int)⟩ ∧ (vX f n).can := by
  obtain ⟨l1, l2, l3⟩ := kS_lim hf n
  obtain ⟨a, b, d, e⟩ := k_parts (f := f) n (by omega)
  have l4 : kS f n < 2 ^ 128 := l1
  obtain ⟨w1, w2, w3, w4, w5, w6, w7⟩ := x_whole hf (kN f n) (kS f n) (kX f n) e (by have := (blen_iff (kS f n) 128).2 l4; omega) (by omega) (by omega)
  have := vX_mk hf n h
  rw [w1] at this
  injection this with h3 h4
  exact ⟨e, l4, h3.symm, by rw [← h3]; exact w2⟩
theorem ov_inf (f : Int) (neg : Bool) : ovB f 0 neg = eInf f neg := by
  unfold ovB
  rw [if_pos (by unfold gO; rw [if_pos rfl]; rfl)]
theorem nan_num {f : Int} (hf : Is4 f) : bits .or .u64 (((eInf f false % 18446744073709551616 : Nat)) : Int) 1 = (((eInf f false + 1) % 18446744073709551616 : Nat) : Int) ∧ (eInf f false + 1) / 18446744073709551616 = eInf f false / 18446744073709551616 ∧ okB f (eInf f false + 1) = true ∧ qt f (eInf f false + 1) = eNaN f + 1 ∧ bits .andNot .u64 ((((eNaN f + 1) % 18446744073709551616 : Nat)) : Int) 1 = ((eNaN f % 18446744073709551616 : Nat) : Int) ∧ (eNaN f + 1) / 18446744073709551616 = eNaN f / 18446744073709551616 ∧ eInf f false / 18446744073709551616 < 18446744073709551616 := by
  rcases hf with rfl | rfl | rfl | rfl <;> decide +kernel
theorem kInf_is (f : Int) (hf : Is4 f) (neg : Bool) (u v : Nat) (hv : bv7 (eInf f neg) = (u, v)) (w : World) (hT : FAt w) : Calls Tryd.prog 18 #[.int .u8 f, .bool neg] w fun r w' => r = .returned (.agg #[.int .u64 (u : Nat), .int .u64 (v : Nat)]) ∧ Below w.heap.size w w' :=
  op_inf f neg u v w (box (fun w hT => kover f 0 hf (by decide) neg u v (by rw [ov_inf]; exact hv) w hT)) hT
theorem kNaN_is (f : Int) (hf : Is4 f) (u v : Nat) (hv : bv7 (eNaN f) = (u, v)) (w : World) (hT : FAt w) : Calls Tryd.prog 15 #[.int .u8 f] w fun r w' => r = .returned (.agg #[.int .u64 (u : Nat), .int .u64 (v : Nat)]) ∧ Below w.heap.size w w' := by
  obtain ⟨n1, n2, n3, n4, n5, n6, n7⟩ := nan_num hf
  unfold bv7 at hv
  injection hv with v1 v2
  rw [← v1, ← v2, ← n6]
  exact op_nan f _ _ _ _ _ _ n1 n5 w (box (fun w hT => kInf_is f hf false _ _ rfl w hT)) (box (fun w hT => kQuiet_is f hf _ _ (eInf f false + 1) _ _ n7 (Nat.mod_lt _ (by decide)) (by rw [← n2]; exact Nat.mod_add_div _ _) n3 (by rw [n4]; rfl) w hT)) hT
theorem ieq {c : Nat} {k : Int} (h : (c : Int) = k) : ((c : Int) == k) = true := by rw [h]; exact beq_self_eq_true k
theorem ine {c : Nat} {k : Int} (h : (c : Int) ≠ k) : ((c : Int) == k) = false := beq_eq_false_iff_ne.2 h
theorem kC_all (f : Int) (n : Nat) : (kE f n = oV f ∧ kT f n = 0 ∧ kC f n = if kN f n then 0 else 7) ∨ (kE f n = oV f ∧ kT f n ≠ 0 ∧ kT f n < 2 ^ (pV f - 1) ∧ kC f n = 8) ∨ (kE f n = oV f ∧ 2 ^ (pV f - 1) ≤ kT f n ∧ kC f n = 9) ∨
    (kE f n < oV f ∧ kE f n ≠ 0 ∧ kC f n = if kN f n then 1 else 6) ∨ (kE f n < oV f ∧ kE f n = 0 ∧ kT f n ≠ 0 ∧ kC f n = if kN f n then 2 else 5) ∨ (kE f n < oV f ∧ kE f n = 0 ∧ kT f n = 0 ∧ kC f n = if kN f n then 3 else 4) := by
  have el := kE_le (f := f) n
  have p := Nat.two_pow_pos (pV f - 1)
  unfold kC
  by_cases c1 : kE f n = oV f
  · by_cases c2 : kT f n = 0
    · left
      refine ⟨c1, c2, ?_⟩
      (repeat' split) <;> first | rfl | omega | simp_all
    · by_cases c3 : kT f n < 2 ^ (pV f - 1)
      · right; left
        refine ⟨c1, c2, c3, ?_⟩
        (repeat' split) <;> first | rfl | omega | simp_all
      · right; right; left
        refine ⟨c1, by omega, ?_⟩
        (repeat' split) <;> first | rfl | omega | simp_all
  · by_cases c2 : kE f n = 0
    · by_cases c3 : kT f n = 0
      · right; right; right; right; right
        refine ⟨by omega, c2, c3, ?_⟩
        (repeat' split) <;> first | rfl | omega | simp_all
      · right; right; right; right; left
        refine ⟨by omega, c2, c3, ?_⟩
        (repeat' split) <;> first | rfl | omega | simp_all
    · right; right; right; left
      refine ⟨by omega, c2, ?_⟩
      (repeat' split) <;> first | rfl | omega | simp_all
theorem gO_one (neg o h mo : Bool) : gO 1 neg o h mo = false := by unfold gO; rw [if_neg (by decide), if_neg (by decide), if_neg (by decide), if_neg (by decide)]
def dG (f : Int) (neg inf I : Bool) (T : Int) (tn : Bool) (G : Nat) : Nat × Int :=
  if fE f < stE f T - fP f + (blen G : Int) then (if inf = true then eInf f neg else eGreatest f neg, 5) else (eS f neg (dJ f T) G, if I = true then (if tn = true then 3 else 1) else 0)
theorem dlv_dG (f m : Int) (neg : Bool) (T : Int) (W : Nat) (more : Bool) : dlv f m neg T W more = dG f neg (gO m neg false true true) (rH W (dK f T) || rM W (dK f T) more) T (tnB f m neg T W more) (if gO m neg (rO W (dK f T)) (rH W (dK f T)) (rM W (dK f T) more) = true then rS W (dK f T) + 1 else rS W (dK f T)) := rfl
theorem val_eS {f : Int} (hf : Is4 f) (neg : Bool) (j S : Nat) (hS : S ≤ 2 * 2 ^ pV f) (hj : j = 0 ∨ 2 ^ pV f ≤ S) (ht : lx f + (j : Int) - 1 + (blen S : Int) ≤ fE f) :
    (0 < kC f (eS f neg j S) ∧ kC f (eS f neg j S) < 7) ∧ (vX f (eS f neg j S)).can ∧ (vX f (eS f neg j S)).val = sgn neg * ((S : Rat) * (2 : Rat) ^ (lx f + (j : Int))) ∧ Bd (vX f (eS f neg j S)) 128 20200 := by
  obtain ⟨n1, n2, n3, n4, n5, n6⟩ := nm8 hf
  have p := Nat.two_pow_pos (pV f)
  by_cases s0 : S = 0
  · have j0 : j = 0 := by omega
    subst s0 j0
    have e : eS f neg 0 0 = enc7 f neg 0 0 := rfl
    obtain ⟨v1, v2, v3, v4, v5, v6⟩ := vX_enc hf neg 0 0 (by omega) p
    rw [e]
    refine ⟨v1, v2, ?_, v4⟩
    rw [v3]
    have : sV f 0 0 = 0 := by unfold sV; rw [if_pos rfl]
    rw [this]
    have z : ((0 : Nat) : Rat) = 0 := rfl
    rw [z]
    grind
  · obtain ⟨l1, l2, l3⟩ := blen_low S s0
    have j4 : j ≤ 40000 := by omega
    obtain ⟨e, t, he, htt, nz, h1, h2⟩ := rep hf j S s0 hS hj ht
    obtain ⟨v1, v2, v3, v4, v5, v6⟩ := vX_enc hf neg e t he htt
    obtain ⟨w1, w2, w3⟩ := val_of hf neg e t he htt nz
    have h3 := (mk_small hf neg j S s0 hS j4).1
    have a := mk_val neg S 1 (lx f + (j : Int)) (by decide) (by rw [h3])
    have b := mk_val neg (sV f e t) 1 (xV f e) (by decide) (by rw [w1])
    rw [h2 neg, b] at a
    rw [← h1 neg]
    refine ⟨v1, v2, ?_, v4⟩
    have o : ((1 : Nat) : Rat) = 1 := rfl
    rw [o] at a
    rw [v3]
    have d1 : ∀ q : Rat, q / 1 = q := fun q => by grind
    rw [d1, d1] at a
    rw [a, Rat.mul_assoc]
theorem half_is {f : Int} (hf : Is4 f) (x : XN) (hx : x.can) (n0 : x.n ≠ 0) (hd : nl x.d ≤ 8192) (S : Nat) (P : Rat) (hS : rS (xW f x) (dK f (topX x)) = S) (hP : (2 : Rat) ^ (lx f + (dJ f (topX x) : Int)) = P) :
    (S : Rat) * P ≤ x.mag ∧ x.mag ≤ ((S + 1 : Nat) : Rat) * P ∧ (rH (xW f x) (dK f (topX x)) = false → x.mag - (S : Rat) * P ≤ ((S + 1 : Nat) : Rat) * P - x.mag) ∧ (rH (xW f x) (dK f (topX x)) = true → ((S + 1 : Nat) : Rat) * P - x.mag ≤ x.mag - (S : Rat) * P) ∧ (rH (xW f x) (dK f (topX x)) = true → rM (xW f x) (dK f (topX x)) (xM f x) = false → x.mag - (S : Rat) * P ≤ ((S + 1 : Nat) : Rat) * P - x.mag) := by
  obtain ⟨t1, t2⟩ := top_lim hx
  obtain ⟨a, b⟩ := x_num hf x hx n0 hd t1 t2
  have hp := fp8 hf
  obtain ⟨n1, n2, n3, n4, n5, n6⟩ := nm8 hf
  have sl := st_lx hf (topX x)
  obtain ⟨T, hT⟩ : ∃ T, topX x = T := ⟨_, rfl⟩
  obtain ⟨W, hW⟩ : ∃ W, xW f x = W := ⟨_, rfl⟩
  obtain ⟨more, hm⟩ : ∃ W, xM f x = W := ⟨_, rfl⟩
  rw [hT] at b sl t1 t2 hS hP ⊢
  rw [hW] at b hS ⊢
  rw [hm] at b ⊢
  have hk : T + (dK f T : Int) = stE f T := by unfold dK stE; omega
  have hs : stE f T ≤ 1200000 := by unfold stE; omega
  have hs2 : -1300000 ≤ stE f T := by unfold stE; omega
  have b := b (dK f T) (by omega)
  obtain ⟨k, hk2⟩ : ∃ k, dK f T = k := ⟨_, rfl⟩
  rw [hk2] at b hk hS ⊢
  have g := fl_good x (T - fP f + (k : Int)) hx n0 (by rw [b])
  rw [b] at g
  simp only at g
  have eP : P = 2 * (2 : Rat) ^ (T - fP f + (k : Int)) := by
    rw [← hP, ← p2succ]
    congr 1
    omega
  obtain ⟨g1, g2, g3⟩ := g
  have pq := p2 (T - fP f + (k : Int))
  obtain ⟨q, hq⟩ : ∃ q, (2 : Rat) ^ (T - fP f + (k : Int)) = q := ⟨_, rfl⟩
  rw [hq] at g1 g2 g3 eP pq
  obtain ⟨h, hh⟩ : ∃ h, W / 2 ^ k = h := ⟨_, rfl⟩
  unfold rS at hS
  unfold rH rM
  rw [hh] at hS g1 g2 g3 ⊢
  have c2 : ((S + 1 : Nat) : Rat) = (S : Rat) + 1 := by rw [Rat.natCast_add]; rfl
  have ch : ((h + 1 : Nat) : Rat) = (h : Rat) + 1 := by rw [Rat.natCast_add]; rfl
  rw [c2, eP]
  rw [ch] at g2
  have two : ((2 : Nat) : Rat) = 2 := rfl
  rcases Nat.mod_two_eq_zero_or_one h with e | e
  · have hv : h = 2 * S := by omega
    have cv : (h : Rat) = 2 * (S : Rat) := by rw [hv, Rat.natCast_mul, two]
    rw [cv] at g1 g2
    have d : decide (h % 2 = 1) = false := decide_eq_false (by omega)
    rw [d]
    refine ⟨by grind, by grind, fun _ => by grind, fun z => absurd z (by decide), fun z => absurd z (by decide)⟩
  · have hv : h = 2 * S + 1 := by omega
    have cv : (h : Rat) = 2 * (S : Rat) + 1 := by rw [hv, Rat.natCast_add, Rat.natCast_mul, two]; rfl
    rw [cv] at g1 g2 g3
    have d : decide (h % 2 = 1) = true := decide_eq_true e
    rw [d]
    refine ⟨by grind, by grind, fun z => absurd z (by decide), fun _ => by grind, fun _ z => ?_⟩
    have z2 : (!more && decide (W % 2 ^ k = 0)) = true := by
      rw [Bool.or_eq_false_iff, decide_eq_false_iff_not] at z
      rw [z.2, decide_eq_true (show W % 2 ^ k = 0 by omega)]
      rfl
    have := g3.1 z2
    grind
theorem mag_nn (x : XN) (d0 : x.d ≠ 0) : 0 ≤ x.mag := by
  by_cases c : x.n = 0
  · rw [mag_zero x c]
    exact Rat.le_refl
  · exact Rat.le_of_lt (mag_pos x c d0)
end Go.Proofs.YtdjlfhcalccajaaDoor
namespace Go.Proofs.YtdjlfhcalccajaaDoor
set_option maxRecDepth 100000
set_option maxHeartbeats 40000000
set_option maxRecDepth 100000
open Go.RowKit WMath
set_option linter.unusedSimpArgs false
set_option linter.unusedVariables false
def ebb (a b c d : Int) : Bool := (a == c) && (b == d)
theorem eqb (a b c d : Int) (w : World) :
    (Op.equalIn 10000 26 (.agg #[.int .u64 a, .int .u64 b]) (.agg #[.int .u64 c, .int .u64 d])).run Tryd.prog w = .ok (ebb a b c d) w := by
  have q1 : ∀ (a b : Int), (part 24 #[.int .u64 a, .int .u64 b] 0).run Tryd.prog w = .ok (.int .u64 a) w := fun a b => by kernel_rfl
  have q2 : ∀ (a b : Int), (part 24 #[.int .u64 a, .int .u64 b] 1).run Tryd.prog w = .ok (.int .u64 b) w := fun a b => by kernel_rfl
  have i1 : (Op.equalIn 9999 24 (.int .u64 a) (.int .u64 c)).run Tryd.prog w = .ok (a == c) w := run_equalIn_int w 9998 24 .u64 .u64 a c Tryd.underlying24
  have i2 : (Op.equalIn 9999 24 (.int .u64 b) (.int .u64 d)).run Tryd.prog w = .ok (b == d) w := run_equalIn_int w 9998 24 .u64 .u64 b d Tryd.underlying24
  have n1 : ("Hi" = "_") = False := by simp
  have n2 : ("Lo" = "_") = False := by simp
  have st : Tryd.prog.stoodInHeld 26 = false := by kernel_rfl
  rw [show (10000 : Nat) = 9999 + 1 from rfl]
  unfold Op.equalIn
  simp only [Sem.run_bind, run_underlying Tryd.underlying26, Result.andThen_ok]
  rw [show (Sem.run Tryd.prog program w) = .ok Tryd.prog w from rfl]
  simp only [Result.andThen_ok, st, Bool.false_eq_true, if_false]
  have fo : ∀ (l : List Field) (b : Field → (Option Bool × Unit) → Sem (ForInStep (Option Bool × Unit))), (forIn l.toArray (none, ()) b : Sem (Option Bool × Unit)) = forIn l (none, ()) b := fun l b => by simp
  simp only [fo, List.forIn_cons, List.forIn_nil, ne_eq, n1, n2, not_false_eq_true, if_true]
  unfold ebb
  obtain ⟨b1, h1⟩ : ∃ x, (a == c) = x := ⟨_, rfl⟩
  obtain ⟨b2, h2⟩ : ∃ x, (b == d) = x := ⟨_, rfl⟩
  rw [h1] at i1
  rw [h2] at i2
  rw [h1, h2]
  cases b1
  · simp only [Sem.run_bind, Sem.run_pure, Result.andThen_ok, q1, i1, Bool.not_false, if_true, Bool.false_and]
  cases b2
  · simp only [Sem.run_bind, Sem.run_pure, Result.andThen_ok, q1, i1, q2, i2, Bool.not_false, Bool.not_true, Bool.false_eq_true, if_false, if_true, Bool.false_and, Bool.true_and]
  · simp only [Sem.run_bind, Sem.run_pure, Result.andThen_ok, q1, i1, q2, i2, Bool.not_false, Bool.not_true, Bool.false_eq_true, if_false, if_true, Bool.false_and, Bool.true_and]
end Go.Proofs.YtdjlfhcalccajaaDoor
namespace Go.Proofs.YtdjlfhcalccajaaDoor
set_option maxRecDepth 100000
set_option maxHeartbeats 40000000
set_option maxRecDepth 100000
open Go.RowKit WMath XMath
set_option linter.unusedSimpArgs false
set_option linter.unusedVariables false
theorem od_shl (s : Nat) (h : s ≠ 0) : ∀ k, od (s * 2 ^ k) = od s ∧ tz (s * 2 ^ k) = tz s + k
  | 0 => by rw [Nat.pow_zero, Nat.mul_one]; exact ⟨rfl, rfl⟩
  | k + 1 => by
    obtain ⟨i1, i2⟩ := od_shl s h k
    have nz : s * 2 ^ k ≠ 0 := Nat.mul_ne_zero h (Nat.ne_of_gt (Nat.two_pow_pos k))
    obtain ⟨t1, t2⟩ := od_two (s * 2 ^ k) nz
    have e : s * 2 ^ (k + 1) = 2 * (s * 2 ^ k) := by rw [Nat.pow_succ, Nat.mul_comm 2, Nat.mul_assoc]
    rw [e, t1, t2, i1, i2]
    exact ⟨rfl, by omega⟩
theorem wider_lim {g t : Int} (hg : Is4 g) (ht : Is4 t) (hw : fW g < fW t) : pV g ≤ pV t ∧ fE g + (pV g : Int) ≤ fE t ∧ 0 ≤ fE g ∧ (oV t : Int) = 2 * fE t + 1 ∧ (oV g : Int) = 2 * fE g + 1 := by
  rcases hg with rfl | rfl | rfl | rfl <;> rcases ht with rfl | rfl | rfl | rfl <;> first | exact absurd hw (by decide +kernel) | decide +kernel
theorem vX_made {f : Int} (hf : Is4 f) (neg : Bool) {e t : Nat} (he : e < oV f) (ht : t < 2 ^ pV f) (nz : sV f e t ≠ 0) : vX f (enc7 f neg e t) = ⟨neg, od (sV f e t), 1, xV f e + (tz (sV f e t) : Int)⟩ ∧ (0 < kC f (enc7 f neg e t) ∧ kC f (enc7 f neg e t) < 7) ∧ ¬ (kC f (enc7 f neg e t) = 3 ∨ kC f (enc7 f neg e t) = 4) := by
  obtain ⟨a1, a2, a3, a4⟩ := enc_k hf neg (Nat.le_of_lt he) ht
  have hc : (0 < kC f (enc7 f neg e t) ∧ kC f (enc7 f neg e t) < 7) ∧ ¬ (kC f (enc7 f neg e t) = 3 ∨ kC f (enc7 f neg e t) = 4) := by
    rcases kC_all f (enc7 f neg e t) with ⟨h1, h2, h3⟩ | ⟨h1, h2, h3, h4⟩ | ⟨h1, h2, h3⟩ | ⟨h1, h2, h3⟩ | ⟨h1, h2, h3, h4⟩ | ⟨h1, h2, h3, h4⟩
    · omega
    · omega
    · omega
    · rw [h3]; split <;> omega
    · rw [h4]; split <;> omega
    · rw [a3] at h2
      rw [a4] at h3
      subst h2 h3
      exact absurd rfl nz
  obtain ⟨b1, b2, b3, b4⟩ := k_parts (f := f) (enc7 f neg e t) (by omega)
  obtain ⟨_, _, v, _⟩ := vX_whole hf (enc7 f neg e t) hc.1 hc.2
  refine ⟨?_, hc⟩
  rw [v, b2, b3, a2, a3, a4]
theorem widen_num {g t : Int} (hg : Is4 g) (ht : Is4 t) (hw : fW g < fW t) (n : Nat) (fit : Fit g n) (h : 0 < kC g n ∧ kC g n < 7) (h2 : ¬ (kC g n = 3 ∨ kC g n = 4)) :
    ∃ M, (∀ m, rnd t m (vX g n) = (M, 0)) ∧ Fit t M ∧ (0 < kC t M ∧ kC t M < 7) ∧ ¬ (kC t M = 3 ∨ kC t M = 4) ∧ vX t M = vX g n ∧ kN t M = kN g n := by
  obtain ⟨l1, l2, l3, l4, l5⟩ := wider_lim hg ht hw
  obtain ⟨b1, b2, b3, b4⟩ := k_parts (f := g) n (by omega)
  obtain ⟨_, _, v, _⟩ := vX_whole hg n h h2
  have tl := kT_lt (f := g) n
  have p2 := Nat.two_pow_pos (pV g)
  obtain ⟨S, hS⟩ : ∃ S, kS g n = S := ⟨_, rfl⟩
  obtain ⟨X, hX⟩ : ∃ X, kX g n = X := ⟨_, rfl⟩
  rw [hS, hX] at v
  rw [hS] at b2 b4
  rw [hX] at b3
  have sl : S < 2 ^ (pV g + 1) := by
    rw [b2, Nat.pow_succ]
    unfold sV
    split <;> omega
  have bl : blen S ≤ pV g + 1 := (blen_iff S (pV g + 1)).2 sl
  have b1' : 1 ≤ blen S := by
    rcases Nat.eq_zero_or_pos (blen S) with q | q
    · have := (blen_iff S 0).1 (by omega)
      rw [Nat.pow_zero] at this
      omega
    · exact q
  have xl : lx g ≤ X ∧ X + (blen S : Int) - 1 ≤ fE g := by
    rw [b3]
    unfold xV lx
    by_cases q : kE g n = 0
    · rw [if_pos q]
      have bz : blen S ≤ pV g := (blen_iff S (pV g)).2 (by rw [b2]; unfold sV; rw [if_pos q]; exact tl)
      omega
    · rw [if_neg q]
      omega
  unfold lx at xl
  obtain ⟨k, hk⟩ : ∃ k, pV t + 1 - blen S = k := ⟨_, rfl⟩
  obtain ⟨o1, o2⟩ := od_shl S b4 k
  have bs : blen (S * 2 ^ k) = pV t + 1 := by rw [blen_sh S k b4]; omega
  have up : S * 2 ^ k < 2 ^ (pV t + 1) := (blen_iff _ _).1 (by omega)
  have lo : 2 ^ pV t ≤ S * 2 ^ k := by
    rcases Nat.lt_or_ge (S * 2 ^ k) (2 ^ pV t) with q | q
    · have := (blen_iff (S * 2 ^ k) (pV t)).2 q
      omega
    · exact q
  obtain ⟨T, hT⟩ : ∃ T : Nat, X + (blen S : Int) - 1 + fE t = (T : Int) := ⟨(X + (blen S : Int) - 1 + fE t).toNat, by omega⟩
  have T1 : T ≠ 0 := by omega
  have To : T < oV t := by omega
  have tt : S * 2 ^ k - 2 ^ pV t < 2 ^ pV t := by rw [Nat.pow_succ] at up; omega
  have es : sV t T (S * 2 ^ k - 2 ^ pV t) = S * 2 ^ k := by
    unfold sV
    rw [if_neg T1]
    omega
  have ex : xV t T + (tz (S * 2 ^ k) : Int) = X + (tz S : Int) := by
    unfold xV lx
    rw [if_neg T1, o2]
    omega
  have nz : sV t T (S * 2 ^ k - 2 ^ pV t) ≠ 0 := by
    rw [es]
    have := Nat.two_pow_pos (pV t)
    omega
  obtain ⟨m1, m2, m3⟩ := vX_made ht (kN g n) To tt nz
  rw [es, o1, ex, ← v] at m1
  refine ⟨enc7 t (kN g n) T (S * 2 ^ k - 2 ^ pV t), fun m => ?_, (enc_k ht (kN g n) (Nat.le_of_lt To) tt).1, m2, m3, m1, (enc_k ht (kN g n) (Nat.le_of_lt To) tt).2.1⟩
  have := rnd_own ht m (kN g n) T (S * 2 ^ k - 2 ^ pV t) To tt nz
  rw [es, o1, ex, ← v] at this
  exact this
theorem rnd_exact {f : Int} (hf : Is4 f) (m : Int) (x : XN) (hx : x.can) (n0 : x.n ≠ 0) (hd : nl x.d ≤ 8192) (M : Nat) (h : rnd f m x = (M, 0)) : (0 < kC f M ∧ kC f M < 7) ∧ (vX f M).can ∧ (vX f M).val = x.val := by
  obtain ⟨t1, t2⟩ := top_lim hx
  obtain ⟨wk, fl⟩ := x_num hf x hx n0 hd t1 t2
  have hp := fp8 hf
  obtain ⟨n1, n2, n3, n4, n5, n6⟩ := nm8 hf
  unfold rnd at h
  rw [if_neg n0] at h
  obtain ⟨k, hk⟩ : ∃ k, dK f (topX x) = k := ⟨_, rfl⟩
  obtain ⟨j, hj⟩ : ∃ j, dJ f (topX x) = j := ⟨_, rfl⟩
  have hk2 : (k : Int) = stE f (topX x) - topX x := by rw [← hk]; unfold dK stE; omega
  have hj2 : (j : Int) = stE f (topX x) - (1 - fE f) := by rw [← hj]; unfold dJ stE; omega
  have st : stE f (topX x) = topX x ∧ 1 - fE f ≤ topX x ∨ stE f (topX x) = 1 - fE f := by unfold stE; omega
  unfold dlv at h
  rw [hk, hj] at h
  by_cases ov : fE f < stE f (topX x) - fP f + (blen (rG m x.b (xW f x) k (xM f x)) : Int)
  · rw [if_pos ov] at h
    injection h with h1 h2
    exact absurd h2 (by decide)
  rw [if_neg ov] at h
  injection h with hM hfl
  have hn : (rH (xW f x) k || rM (xW f x) k (xM f x)) = false := by
    rcases Bool.eq_false_or_eq_true (rH (xW f x) k || rM (xW f x) k (xM f x)) with c | c
    · rw [c, if_pos rfl] at hfl
      split at hfl <;> exact absurd hfl (by decide)
    · exact c
  obtain ⟨c1, c2⟩ := Bool.or_eq_false_iff.1 hn
  have hG : rG m x.b (xW f x) k (xM f x) = rS (xW f x) k := by
    unfold rG
    rw [c1, c2, gO_none]
    rfl
  rw [hG] at hM ov
  have l := rS_lim wk k
  have v := val_eS hf x.b j (rS (xW f x) k) (by omega) (by
    rcases Nat.eq_zero_or_pos k with z | z
    · exact Or.inr (l.2.1 z)
    · exact Or.inl (by omega)) (by omega)
  rw [hM] at v
  refine ⟨v.1, v.2.1, ?_⟩
  rw [v.2.2.1, val_mag]
  congr 1
  have fk := fl (k + 1) (by omega)
  have g := fl_good x (topX x - fP f + ((k + 1 : Nat) : Int)) hx n0 (by rw [fk])
  rw [fk] at g
  unfold rM at c2
  obtain ⟨d1, d2⟩ := Bool.or_eq_false_iff.1 c2
  have d1 := of_decide_eq_false d1
  unfold rH at c1
  have c1 := of_decide_eq_false c1
  have z : xW f x % 2 ^ (k + 1) = 0 := by
    rw [Nat.mod_pow_succ]
    have e1 : xW f x % 2 ^ k = 0 := Decidable.not_not.1 d1
    have e2 : xW f x / 2 ^ k % 2 = 0 := by omega
    rw [e1, e2, Nat.mul_zero]
  have q := g.2.2.1 (by rw [d2, z]; rfl)
  have eS' : xW f x / 2 ^ (k + 1) = rS (xW f x) k := by
    unfold rS
    rw [Nat.pow_succ, Nat.div_div_eq_div_mul]
  have ee : topX x - fP f + ((k + 1 : Nat) : Int) = lx f + (j : Int) := by omega
  rw [← q, ee]
  show ((rS (xW f x) k : Nat) : Rat) * _ = ((xW f x / 2 ^ (k + 1) : Nat) : Rat) * _
  rw [eS']
theorem of_num {t : Int} (ht : Is4 t) (x : XN) (hx : x.can) (n0 : x.n ≠ 0) (h : (ofX t x).2 = true) : ∃ M, vX t M = x ∧ (0 < kC t M ∧ kC t M < 7) ∧ ¬ (kC t M = 3 ∨ kC t M = 4) ∧ Fit t M ∧ ∀ m, rnd t m x = (M, 0) := by
  have hno : ¬ (fE t < topX x ∨ x.d ≠ 1 ∨ x.e < ofA t x) := fun q => by
    rw [of_no x hx n0 q] at h
    cases h
  have odd := hx.odd n0
  obtain ⟨b, n, d, e⟩ := x
  simp only at n0 hno odd
  obtain rfl : d = 1 := by
    rcases Nat.decEq d 1 with q | q
    · exact absurd (Or.inr (Or.inl q)) hno
    · exact q
  have od' : n % 2 = 1 := odd.1
  obtain ⟨m, k, t', hm, hk, htt, _, hc⟩ := of_yes ht b n e n0 (by omega) (by omega)
  obtain ⟨j, hj⟩ : ∃ j, (e - ofA t ⟨b, n, 1, e⟩).toNat = j := ⟨_, rfl⟩
  rw [hj] at hm
  obtain ⟨o1, o2⟩ := od_shl n n0 j
  rw [od_odd n od'] at o1
  rw [tz_odd n od', Nat.zero_add] at o2
  have es : sV t k t' = n * 2 ^ j ∧ xV t k = ofA t ⟨b, n, 1, e⟩ := by
    unfold sV xV
    rcases hc with ⟨c1, c2, c3⟩ | ⟨c1, c2, c3⟩
    · rw [if_pos c1, if_pos c1]
      exact ⟨by omega, by omega⟩
    · rw [if_neg (by omega), if_neg (by omega)]
      exact ⟨by omega, by omega⟩
  have nz : sV t k t' ≠ 0 := by
    rw [es.1]
    exact Nat.mul_ne_zero n0 (Nat.ne_of_gt (Nat.two_pow_pos j))
  have ex : xV t k + (tz (sV t k t') : Int) = e := by rw [es.1, es.2, o2]; omega
  obtain ⟨m1, m2, m3⟩ := vX_made ht b hk htt nz
  have r := fun m => rnd_own ht m b k t' hk htt nz
  rw [ex, es.1, o1] at m1
  refine ⟨enc7 t b k t', m1, m2, m3, (enc_k ht b (Nat.le_of_lt hk) htt).1, fun m => ?_⟩
  have := r m
  rw [ex, es.1, o1] at this
  exact this
theorem rnd_of {t : Int} (ht : Is4 t) (m : Int) (x : XN) (hx : x.can) (n0 : x.n ≠ 0) (hd : nl x.d ≤ 8192) (M : Nat) (h : rnd t m x = (M, 0)) : (ofX t x).2 = true := by
  obtain ⟨c1, c2, c3⟩ := rnd_exact ht m x hx n0 hd M h
  have e := can_inj _ _ c2 hx c3
  by_cases z : kC t M = 3 ∨ kC t M = 4
  · have := vX_mk ht M c1
    rw [(k_null M z).1, mk_null] at this
    injection this with h1 h2
    rw [e] at h1
    rw [← h1] at n0
    exact absurd rfl n0
  · obtain ⟨b1, b2, b3, b4⟩ := k_parts (f := t) M (by omega)
    obtain ⟨_, _, v, _⟩ := vX_whole ht M c1 z
    rw [b2] at b4
    rw [← e, v, b2, b3, (val_of ht (kN t M) (kE t M) (kT t M) b1 (kT_lt M) b4).2.1]
def cvR (t g m : Int) (n : Nat) : Nat × Int := if kC g n = 8 then (eNaN t, 16) else if kC g n = 9 then (eNaN t, 0) else if kC g n = 0 ∨ kC g n = 7 then (eInf t (kN g n), 0) else if kC g n = 3 ∨ kC g n = 4 then (eZero t (kN g n), 0) else rnd t m (vX g n)
def ftR (t g : Int) (n : Nat) : Bool := if 8 ≤ kC g n then false else if kC g n = 0 ∨ kC g n = 7 then true else if kC g n = 3 ∨ kC g n = 4 then true else (ofX t (vX g n)).2
theorem kC_made {f : Int} (hf : Is4 f) (neg : Bool) : kC f (eNaN f) = 9 ∧ Fit f (eNaN f) ∧ kC f (eInf f neg) = (if neg then 0 else 7) ∧ kN f (eInf f neg) = neg ∧ Fit f (eInf f neg) ∧ kC f (eZero f neg) = (if neg then 3 else 4) ∧ kN f (eZero f neg) = neg ∧ Fit f (eZero f neg) := by
  unfold Fit
  rcases hf with rfl | rfl | rfl | rfl <;> cases neg <;> decide +kernel
theorem inf_made {f : Int} (hf : Is4 f) {n : Nat} (fit : Fit f n) (h : kC f n = 0 ∨ kC f n = 7) : n = eInf f (kN f n) := by
  have ke := k_enc hf fit
  rcases kC_all f n with ⟨h1, h2, h3⟩ | ⟨h1, h2, h3, h4⟩ | ⟨h1, h2, h3⟩ | ⟨h1, h2, h3⟩ | ⟨h1, h2, h3, h4⟩ | ⟨h1, h2, h3, h4⟩
  · rw [h1, h2] at ke
    exact ke.symm
  · omega
  · omega
  · rw [h3] at h
    split at h <;> omega
  · rw [h4] at h
    split at h <;> omega
  · rw [h4] at h
    split at h <;> omega
theorem zero_made {f : Int} (hf : Is4 f) {n : Nat} (fit : Fit f n) (h : kC f n = 3 ∨ kC f n = 4) : n = eZero f (kN f n) := by
  have ke := k_enc hf fit
  rcases kC_all f n with ⟨h1, h2, h3⟩ | ⟨h1, h2, h3, h4⟩ | ⟨h1, h2, h3⟩ | ⟨h1, h2, h3⟩ | ⟨h1, h2, h3, h4⟩ | ⟨h1, h2, h3, h4⟩
  · rw [h3] at h
    split at h <;> omega
  · omega
  · omega
  · rw [h3] at h
    split at h <;> omega
  · rw [h4] at h
    split at h <;> omega
  · rw [h2, h3] at ke
    exact ke.symm
theorem fW_inj {g t : Int} (hg : Is4 g) (ht : Is4 t) (h : fW g = fW t) : g = t := by
  rcases hg with rfl | rfl | rfl | rfl <;> rcases ht with rfl | rfl | rfl | rfl <;> first | rfl | exact absurd h (by decide +kernel)
theorem fin_x {g : Int} (hg : Is4 g) {n : Nat} (fit : Fit g n) (h : 0 < kC g n ∧ kC g n < 7) (h2 : ¬ (kC g n = 3 ∨ kC g n = 4)) : (vX g n).can ∧ (vX g n).n ≠ 0 ∧ nl (vX g n).d ≤ 8192 ∧ nl (vX g n).n ≤ 8192 ∧ ∀ m, rnd g m (vX g n) = (n, 0) := by
  obtain ⟨a, _, v, _⟩ := vX_whole hg n h h2
  have nz : (vX g n).n ≠ 0 := by
    rw [v]
    show od (kS g n) ≠ 0
    have := (od_is (kS g n) a).2
    omega
  have o := fun m => own_round hg m n fit h
  refine ⟨(o 0).1, nz, (o 0).2.2.1, (o 0).2.1, fun m => ?_⟩
  rcases (o m).2.2.2 with q | q
  · exact q.2
  · rw [q] at nz
    exact absurd rfl nz
theorem ft_cv {t g : Int} (ht : Is4 t) (hg : Is4 g) {n : Nat} (fit : Fit g n) (m : Int) (h : kC g n < 8) : ftR t g n = decide ((cvR t g m n).2 = 0) := by
  unfold ftR cvR
  rw [if_neg (show ¬ 8 ≤ kC g n by omega), if_neg (show ¬ kC g n = 8 by omega), if_neg (show ¬ kC g n = 9 by omega)]
  by_cases c : kC g n = 0 ∨ kC g n = 7
  · rw [if_pos c, if_pos c]
    rfl
  · rw [if_neg c, if_neg c]
    by_cases z : kC g n = 3 ∨ kC g n = 4
    · rw [if_pos z, if_pos z]
      rfl
    · rw [if_neg z, if_neg z]
      obtain ⟨x1, x2, x3, x4, x5⟩ := fin_x hg fit (by omega) z
      by_cases q : (rnd t m (vX g n)).2 = 0
      · rw [decide_eq_true q]
        exact rnd_of ht m _ x1 x2 x3 (rnd t m (vX g n)).1 (Prod.ext rfl q)
      · rw [decide_eq_false q, Bool.eq_false_iff]
        intro k
        obtain ⟨M, _, _, _, _, r⟩ := of_num ht _ x1 x2 k
        exact q (by rw [r m])
theorem cv_back {t g : Int} (ht : Is4 t) (hg : Is4 g) (hw : fW g ≤ fW t) {n : Nat} (fit : Fit g n) (m m' : Int) (h8 : kC g n ≠ 8) : ∃ M y, cvR t g m n = (M, 0) ∧ Fit t M ∧ cvR g t m' M = (y, 0) ∧ (y = n ∨ (kC g n = 9 ∧ y = eNaN g)) := by
  have lt := kC_lt g n
  by_cases c9 : kC g n = 9
  · obtain ⟨a1, a2, _⟩ := kC_made ht false
    refine ⟨eNaN t, eNaN g, ?_, a2, ?_, Or.inr ⟨c9, rfl⟩⟩
    · unfold cvR
      rw [if_neg h8, if_pos c9]
    · unfold cvR
      rw [if_neg (show ¬ kC t (eNaN t) = 8 by omega), if_pos a1]
  by_cases c : kC g n = 0 ∨ kC g n = 7
  · obtain ⟨_, _, a3, a4, a5, _⟩ := kC_made ht (kN g n)
    refine ⟨eInf t (kN g n), n, ?_, a5, ?_, Or.inl rfl⟩
    · unfold cvR
      rw [if_neg h8, if_neg c9, if_pos c]
    · have c2 : kC t (eInf t (kN g n)) = 0 ∨ kC t (eInf t (kN g n)) = 7 := by rw [a3]; cases kN g n <;> simp
      unfold cvR
      rw [if_neg (show ¬ kC t (eInf t (kN g n)) = 8 by omega), if_neg (show ¬ kC t (eInf t (kN g n)) = 9 by omega), if_pos c2, a4, ← inf_made hg fit c]
  by_cases z : kC g n = 3 ∨ kC g n = 4
  · obtain ⟨_, _, _, _, _, a6, a7, a8⟩ := kC_made ht (kN g n)
    refine ⟨eZero t (kN g n), n, ?_, a8, ?_, Or.inl rfl⟩
    · unfold cvR
      rw [if_neg h8, if_neg c9, if_neg c, if_pos z]
    · have c2 : kC t (eZero t (kN g n)) = 3 ∨ kC t (eZero t (kN g n)) = 4 := by rw [a6]; cases kN g n <;> simp
      unfold cvR
      rw [if_neg (show ¬ kC t (eZero t (kN g n)) = 8 by omega), if_neg (show ¬ kC t (eZero t (kN g n)) = 9 by omega), if_neg (show ¬ (kC t (eZero t (kN g n)) = 0 ∨ kC t (eZero t (kN g n)) = 7) by omega), if_pos c2, a7, ← zero_made hg fit z]
  · have fin : 0 < kC g n ∧ kC g n < 7 := by omega
    obtain ⟨x1, x2, x3, x4, x5⟩ := fin_x hg fit fin z
    obtain ⟨M, r, f2, c2, z2, v2⟩ : ∃ M, (∀ m, rnd t m (vX g n) = (M, 0)) ∧ Fit t M ∧ (0 < kC t M ∧ kC t M < 7) ∧ ¬ (kC t M = 3 ∨ kC t M = 4) ∧ vX t M = vX g n := by
      rcases Int.lt_or_eq_of_le hw with q | q
      · obtain ⟨M, r, f2, c2, z2, v2, _⟩ := widen_num hg ht q n fit fin z
        exact ⟨M, r, f2, c2, z2, v2⟩
      · have e := fW_inj hg ht q
        subst e
        exact ⟨n, x5, fit, fin, z, rfl⟩
    refine ⟨M, n, ?_, f2, ?_, Or.inl rfl⟩
    · unfold cvR
      rw [if_neg h8, if_neg c9, if_neg c, if_neg z]
      exact r m
    · unfold cvR
      rw [if_neg (show ¬ kC t M = 8 by omega), if_neg (show ¬ kC t M = 9 by omega), if_neg (show ¬ (kC t M = 0 ∨ kC t M = 7) by omega), if_neg z2, v2]
      exact x5 m'
end Go.Proofs.YtdjlfhcalccajaaDoor
