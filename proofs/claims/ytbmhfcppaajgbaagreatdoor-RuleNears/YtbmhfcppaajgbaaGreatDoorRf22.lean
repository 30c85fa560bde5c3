/-
  What the functions that the statement reaches return: part 22 (RF, RG, R10, R19).
-/
import Derived.Test.YtbmhfcppaajgbaaGreatDoorRf21
namespace Go.Proofs.YtbmhfcppaajgbaaGreatDoor
set_option maxRecDepth 100000
open Go.RowKit WMath XMath
set_option linter.unusedSimpArgs false
set_option linter.unusedVariables false

theorem third_can : (XN.mk false 1 3 0).can := ⟨nl1, by decide +kernel, by decide, by decide, Or.inr ⟨rfl, rfl, by decide⟩⟩
theorem nb3 : nbA 3 = ⟨#[3]⟩ := by decide +kernel
theorem third_ev : rnd 2 0 ⟨false, 1, 3, 0⟩ = (13653, 1) := by decide +kernel
theorem third_up : rnd 2 3 ⟨false, 1, 3, 0⟩ = (13654, 1) := by decide +kernel
set_option maxRecDepth 100000 in
set_option maxHeartbeats 4000000 in
theorem r9alive (w : World) (hT : FAt w) (hT2 : TabAt w) : Calls Tryz.prog 21 #[] w fun r w' => r = .returned (.bool true) ∧ Below w.heap.size w w' := by
  have FF := box hT
  have TT := box hT2
  have K1 : Box (∀ w, FAt w → TabAt w → Calls Tryz.prog 22 #[.int .u8 2, .int .u8 0, .agg #[.bool false, .string ⟨#[1]⟩, .string ⟨#[3]⟩, .int .i64 0]] w fun r w' => r = .returned (.tuple #[.agg #[.int .u64 0, .int .u64 13653], .int .u8 1, .int .i64 0]) ∧ Below w.heap.size w w') := box (fun w hT hT2 => kRound_is 2 0 (by unfold Is4; omega) (by decide) false 1 3 _ _ 0 nb1 nb3 third_can (by decide +kernel) (by decide +kernel) _ _ third_ev 0 13653 rfl w hT hT2)
  have K2 : Box (∀ w, FAt w → TabAt w → Calls Tryz.prog 22 #[.int .u8 2, .int .u8 3, .agg #[.bool false, .string ⟨#[1]⟩, .string ⟨#[3]⟩, .int .i64 0]] w fun r w' => r = .returned (.tuple #[.agg #[.int .u64 0, .int .u64 13654], .int .u8 1, .int .i64 0]) ∧ Below w.heap.size w w') := box (fun w hT hT2 => kRound_is 2 3 (by unfold Is4; omega) (by decide) false 1 3 _ _ 0 nb1 nb3 third_can (by decide +kernel) (by decide +kernel) _ _ third_up 0 13654 rfl w hT hT2)
  clear hT hT2
  have B0 : Below w.heap.size w w := (Below.refl _ _)
  go_enter Tryz.func21, Tryz.ntmps21
  have S1 := box B0.size
  have Rt_1 := heap_alloc_last w (Obj.cells #[.bool false, .string ⟨#[1]⟩, .string ⟨#[3]⟩, .int .i64 0] 41)
  have B1 := btr B0 (bal w (Obj.cells #[.bool false, .string ⟨#[1]⟩, .string ⟨#[3]⟩, .int .i64 0] 41))
  clear B0 
  obtain ⟨ct_1_0, ct_1_1, ct_1_2, ct_1_3⟩ := cells4s Rt_1
  go_wp2_with fail
  refine (K1.out _ (fatB FF.out B1) (tabB TT.out B1)).mono ?_
  rintro r w2 ⟨rfl, b2⟩
  have B2 : Below w.heap.size w w2 := btr B1 b2
  have Rt_2 := heap_of b2 _ _ _ Rt_1
  clear b2 B1 Rt_1 ct_1_0 ct_1_1 ct_1_2 ct_1_3
  obtain ⟨ct_2_0, ct_2_1, ct_2_2, ct_2_3⟩ := cells4s Rt_2
  have S3 := box B2.size
  have Lt_3 : Box (w.heap.size < w2.heap.size) := box (Array.getElem?_eq_some_iff.1 Rt_2).1
  have Rb_3 := heap_alloc_last w2 (Obj.cells #[.int .u64 0, .int .u64 13653] 25)
  have B3 := btr B2 (bal w2 (Obj.cells #[.int .u64 0, .int .u64 13653] 25))
  have Rt_3 := heap_of (bal w2 (Obj.cells #[.int .u64 0, .int .u64 13653] 25)) _ _ _ Rt_2
  clear B2 Rt_2 ct_2_0 ct_2_1 ct_2_2 ct_2_3
  obtain ⟨ct_3_0, ct_3_1, ct_3_2, ct_3_3⟩ := cells4s Rt_3
  obtain ⟨cb_3_0, cb_3_1⟩ := cells2s Rb_3
  go_wp2_with fail
  refine (K2.out _ (fatB FF.out B3) (tabB TT.out B3)).mono ?_
  rintro r w4 ⟨rfl, b4⟩
  have B4 : Below w.heap.size w w4 := btr B3 b4
  have Rt_4 := heap_of b4 _ _ _ Rt_3
  have Rb_4 := heap_of b4 _ _ _ Rb_3
  clear b4 B3 Rt_3 ct_3_0 ct_3_1 ct_3_2 ct_3_3 Rb_3 cb_3_0 cb_3_1
  obtain ⟨ct_4_0, ct_4_1, ct_4_2, ct_4_3⟩ := cells4s Rt_4
  obtain ⟨cb_4_0, cb_4_1⟩ := cells2s Rb_4
  have S5 := box B4.size
  have Lt_5 : Box (w.heap.size < w4.heap.size) := box (Array.getElem?_eq_some_iff.1 Rt_4).1
  have Lb_5 : Box (w2.heap.size < w4.heap.size) := box (Array.getElem?_eq_some_iff.1 Rb_4).1
  have Rc_5 := heap_alloc_last w4 (Obj.cells #[.int .u64 0, .int .u64 13654] 25)
  have B5 := btr B4 (bal w4 (Obj.cells #[.int .u64 0, .int .u64 13654] 25))
  have Rt_5 := heap_of (bal w4 (Obj.cells #[.int .u64 0, .int .u64 13654] 25)) _ _ _ Rt_4
  have Rb_5 := heap_of (bal w4 (Obj.cells #[.int .u64 0, .int .u64 13654] 25)) _ _ _ Rb_4
  clear B4 Rt_4 ct_4_0 ct_4_1 ct_4_2 ct_4_3 Rb_4 cb_4_0 cb_4_1
  obtain ⟨ct_5_0, ct_5_1, ct_5_2, ct_5_3⟩ := cells4s Rt_5
  obtain ⟨cb_5_0, cb_5_1⟩ := cells2s Rb_5
  obtain ⟨cc_5_0, cc_5_1⟩ := cells2s Rc_5
  go_wp2
  go_ret
  exact ⟨rfl, B5⟩
set_option maxRecDepth 100000 in
theorem r9short (b : Bool) (s t : ByteArray) (e : Int) (o : Bool) (ho : (decide (s.size ≤ 60) && decide (t.size ≤ 60)) = o) (w : World) : Calls Tryz.prog 20 #[.agg #[.bool b, .string s, .string t, .int .i64 e]] w fun r w' => r = .returned (.bool o) ∧ Below w.heap.size w w' := by
  by_cases h1 : s.size ≤ 60
  · rw [decide_eq_true h1, Bool.true_and] at ho
    have d1 : decide ((s.size : Int) ≤ 60) = true := decide_eq_true (by omega)
    have d2 : decide ((t.size : Int) ≤ 60) = o := by rw [← ho, decide_eq_decide]; omega
    obtain ⟨Rx_0, B0⟩ := opn1 w (Obj.cells #[.bool b, .string s, .string t, .int .i64 e] 41)
    go_enter Tryz.func20, Tryz.ntmps20
    go_wp2
    go_ret
    exact ⟨rfl, B0⟩
  · rw [decide_eq_false h1, Bool.false_and] at ho
    subst ho
    have d1 : decide ((s.size : Int) ≤ 60) = false := decide_eq_false (by omega)
    obtain ⟨Rx_0, B0⟩ := opn1 w (Obj.cells #[.bool b, .string s, .string t, .int .i64 e] 41)
    go_enter Tryz.func20, Tryz.ntmps20
    go_wp2
    go_ret
    exact ⟨rfl, B0⟩
end Go.Proofs.YtbmhfcppaajgbaaGreatDoor
namespace Go.Proofs.YtbmhfcppaajgbaaGreatDoor
set_option maxRecDepth 100000
open Go.RowKit WMath XMath
set_option linter.unusedSimpArgs false
set_option linter.unusedVariables false

theorem flt_two (f m : Int) (may : Bool) (s t : ByteArray) : flt f m may s t = 0 ∨ flt f m may s t = 2 ∨ flt f m may s t = 4 := by
  unfold flt
  split
  · split <;> simp
  · simp
theorem k_whole0 (w : World) (hT : TabAt w) : Calls Tryz.prog 71 #[.int .i64 0] w fun r w' => r = .returned (.agg #[.bool false, .string ⟨#[]⟩, .string ⟨#[1]⟩, .int .i64 0]) ∧ Below w.heap.size w w' :=
  Wholex 0 false 0 1 0 _ _ (by decide) (by decide) (mk_null _ _ _) nbA_zero nb1 w hT
end Go.Proofs.YtbmhfcppaajgbaaGreatDoor
namespace Go.Proofs.YtbmhfcppaajgbaaGreatDoor
set_option maxRecDepth 100000
open Go.RowKit WMath XMath
set_option linter.unusedSimpArgs false
set_option linter.unusedVariables false

/-- The mode that is turned. -/
def tmo (m : Int) : Int := if m = 2 then 3 else if m = 3 then 2 else m
theorem gO_turn (m : Int) (neg o h mo : Bool) : gO (tmo m) (!neg) o h mo = gO m neg o h mo := by
  unfold gO tmo
  by_cases c2 : m = 2
  · subst c2; simp
  by_cases c3 : m = 3
  · subst c3; simp
  rw [if_neg c2, if_neg c3, if_neg c2, if_neg c3, if_neg c2, if_neg c3]
theorem rG_turn (m : Int) (neg : Bool) (W k : Nat) (more : Bool) : rG (tmo m) (!neg) W k more = rG m neg W k more := by unfold rG; rw [gO_turn]
theorem eS_enc {f : Int} (hf : Is4 f) (j S : Nat) (hS : S ≤ 2 * 2 ^ pV f) (hj : j = 0 ∨ 2 ^ pV f ≤ S) (ht : lx f + (j : Int) - 1 + (blen S : Int) ≤ fE f) : ∃ e t, e < oV f ∧ t < 2 ^ pV f ∧ ∀ neg, eS f neg j S = enc7 f neg e t := by
  by_cases s0 : S = 0
  · obtain rfl : j = 0 := by have := Nat.two_pow_pos (pV f); omega
    subst s0
    exact ⟨0, 0, (nm8 hf).2.1, Nat.two_pow_pos _, fun neg => rfl⟩
  · obtain ⟨e, t, he, ht, _, h, _⟩ := rep hf j S s0 hS hj ht
    exact ⟨e, t, he, ht, fun neg => (h neg).symm⟩
theorem dlv_enc {f : Int} (hf : Is4 f) {W : Nat} (hW : Wok f W) (m : Int) (neg : Bool) (T : Int) (more : Bool) : ∃ e t fl, e ≤ oV f ∧ t < 2 ^ pV f ∧ (e = oV f → t = 0) ∧ dlv f m neg T W more = (enc7 f neg e t, fl) ∧ dlv f (tmo m) (!neg) T W more = (enc7 f (!neg) e t, fl) := by
  have lim := rG_lim hW m neg (dK f T) more
  have stx := st_lx hf T
  have p := Nat.two_pow_pos (pV f)
  obtain ⟨n1, n2, n3, n4, n5, n6⟩ := nm8 hf
  have tt : tnB f (tmo m) (!neg) T W more = tnB f m neg T W more := by unfold tnB; rw [rG_turn]
  unfold dlv
  rw [rG_turn, tt]
  by_cases c : fE f < stE f T - fP f + (blen (rG m neg W (dK f T) more) : Int)
  · rw [if_pos c, if_pos c]
    unfold ovB
    rw [gO_turn]
    by_cases g : gO m neg false true true = true
    · rw [if_pos g, if_pos g]
      exact ⟨oV f, 0, 5, Nat.le_refl _, p, fun _ => rfl, rfl, rfl⟩
    · rw [if_neg g, if_neg g]
      exact ⟨oV f - 1, 2 ^ pV f - 1, 5, by omega, by omega, fun h => by omega, rfl, rfl⟩
  · rw [if_neg c, if_neg c]
    have hj : dJ f T = 0 ∨ 2 ^ pV f ≤ rG m neg W (dK f T) more := by
      rcases jk (f := f) T with ⟨a, _⟩ | ⟨a, _⟩
      · exact Or.inl a
      · exact Or.inr (lim.2.1 a)
    obtain ⟨e, t, he, ht, h⟩ := eS_enc hf (dJ f T) _ lim.1 hj (by omega)
    exact ⟨e, t, _, by omega, ht, fun q => by omega, by rw [h], by rw [h]⟩
end Go.Proofs.YtbmhfcppaajgbaaGreatDoor
namespace Go.Proofs.YtbmhfcppaajgbaaGreatDoor
set_option maxRecDepth 100000
open Go.RowKit WMath
set_option linter.unusedSimpArgs false
set_option linter.unusedVariables false

set_option maxRecDepth 100000 in
set_option maxHeartbeats 4000000 in
theorem ru_Near_err (f : Int) (b : Bool) (s t : ByteArray) (e : Int) (c : Int) (w : World)
    (KC : Box (∀ w, TabAt w → Calls Tryz.prog 65 #[.int .u8 f, .int .u8 2, .agg #[.bool b, .string s, .string t, .int .i64 e]] w fun r w' => r = .returned (.int .i64 c) ∧ Below w.heap.size w w'))
    (hc : (c != 0) = true) (hT : FAt w) (hT2 : TabAt w) : Calls Tryz.prog 28 #[.int .u8 f, .agg #[.bool b, .string s, .string t, .int .i64 e]] w fun r w' => r = .returned (.tuple #[.agg #[.int .u64 0, .int .u64 0], .agg #[.int .u64 0, .int .u64 0], .int .i64 c]) ∧ Below w.heap.size w w' := by
  have FF := box hT
  have TT := box hT2
  clear hT hT2
  obtain ⟨Rx_0, Rl_0, Rh_0, B0⟩ := opn3 w (Obj.cells #[.bool b, .string s, .string t, .int .i64 e] 41) (Obj.cells #[.int .u64 0, .int .u64 0] 25) (Obj.cells #[.int .u64 0, .int .u64 0] 25)
  go_enter Tryz.func28, Tryz.ntmps28
  go_wp2_with fail
  refine (KC.out _ (tabB TT.out B0)).mono ?_
  rintro r w1 ⟨rfl, b1⟩
  have B1 : Below w.heap.size w w1 := btr B0 b1
  have Rx_1 := heap_of b1 _ _ _ Rx_0
  have Rl_1 := heap_of b1 _ _ _ Rl_0
  have Rh_1 := heap_of b1 _ _ _ Rh_0
  clear b1 B0 Rx_0 Rl_0 Rh_0
  obtain ⟨cx_1_0, cx_1_1, cx_1_2, cx_1_3⟩ := cells4s Rx_1
  obtain ⟨cl_1_0, cl_1_1⟩ := cells2s Rl_1
  obtain ⟨ch_1_0, ch_1_1⟩ := cells2s Rh_1
  have q0_2 := fz (k := 0) Rl_1
  have q1_2 := fz (k := 1) Rl_1
  have B2 := set2_below B1 (show w.heap.size ≤ w.heap.size + 1 by first | exact Nat.le_refl _ | omega | (skip; omega)) (.int .u64 0) (.int .u64 0)
  have Rl_2 : ((w1.setCell ⟨w.heap.size + 1, 0, none⟩ (.int .u64 0)).setCell ⟨w.heap.size + 1, 1, none⟩ (.int .u64 0)).heap[w.heap.size + 1]? = some (Obj.cells #[.int .u64 0, .int .u64 0] 25) := set2_row Rl_1 _ _
  have Rx_2 : ((w1.setCell ⟨w.heap.size + 1, 0, none⟩ (.int .u64 0)).setCell ⟨w.heap.size + 1, 1, none⟩ (.int .u64 0)).heap[w.heap.size]? = some (Obj.cells #[.bool b, .string s, .string t, .int .i64 e] 41) := (setCell_other (by first | omega | (skip; omega))).trans ((setCell_other (by first | omega | (skip; omega))).trans Rx_1)
  have Rh_2 : ((w1.setCell ⟨w.heap.size + 1, 0, none⟩ (.int .u64 0)).setCell ⟨w.heap.size + 1, 1, none⟩ (.int .u64 0)).heap[w.heap.size + 1 + 1]? = some (Obj.cells #[.int .u64 0, .int .u64 0] 25) := (setCell_other (by first | omega | (skip; omega))).trans ((setCell_other (by first | omega | (skip; omega))).trans Rh_1)
  obtain ⟨cx_2_0, cx_2_1, cx_2_2, cx_2_3⟩ := cells4s Rx_2
  obtain ⟨cl_2_0, cl_2_1⟩ := cells2s Rl_2
  obtain ⟨ch_2_0, ch_2_1⟩ := cells2s Rh_2
  have q0_3 := fz (k := 0) Rh_2
  have q1_3 := fz (k := 1) Rh_2
  have B3 := set2_below B2 (show w.heap.size ≤ w.heap.size + 1 + 1 by first | exact Nat.le_refl _ | omega | (skip; omega)) (.int .u64 0) (.int .u64 0)
  have Rh_3 : ((((w1.setCell ⟨w.heap.size + 1, 0, none⟩ (.int .u64 0)).setCell ⟨w.heap.size + 1, 1, none⟩ (.int .u64 0)).setCell ⟨w.heap.size + 1 + 1, 0, none⟩ (.int .u64 0)).setCell ⟨w.heap.size + 1 + 1, 1, none⟩ (.int .u64 0)).heap[w.heap.size + 1 + 1]? = some (Obj.cells #[.int .u64 0, .int .u64 0] 25) := set2_row Rh_2 _ _
  have Rx_3 : ((((w1.setCell ⟨w.heap.size + 1, 0, none⟩ (.int .u64 0)).setCell ⟨w.heap.size + 1, 1, none⟩ (.int .u64 0)).setCell ⟨w.heap.size + 1 + 1, 0, none⟩ (.int .u64 0)).setCell ⟨w.heap.size + 1 + 1, 1, none⟩ (.int .u64 0)).heap[w.heap.size]? = some (Obj.cells #[.bool b, .string s, .string t, .int .i64 e] 41) := (setCell_other (by first | omega | (skip; omega))).trans ((setCell_other (by first | omega | (skip; omega))).trans Rx_2)
  have Rl_3 : ((((w1.setCell ⟨w.heap.size + 1, 0, none⟩ (.int .u64 0)).setCell ⟨w.heap.size + 1, 1, none⟩ (.int .u64 0)).setCell ⟨w.heap.size + 1 + 1, 0, none⟩ (.int .u64 0)).setCell ⟨w.heap.size + 1 + 1, 1, none⟩ (.int .u64 0)).heap[w.heap.size + 1]? = some (Obj.cells #[.int .u64 0, .int .u64 0] 25) := (setCell_other (by first | omega | (skip; omega))).trans ((setCell_other (by first | omega | (skip; omega))).trans Rl_2)
  obtain ⟨cx_3_0, cx_3_1, cx_3_2, cx_3_3⟩ := cells4s Rx_3
  obtain ⟨cl_3_0, cl_3_1⟩ := cells2s Rl_3
  obtain ⟨ch_3_0, ch_3_1⟩ := cells2s Rh_3
  go_wp2
  exact bodyPost_ret (v := .tuple #[.agg #[.int .u64 0, .int .u64 0], .agg #[.int .u64 0, .int .u64 0], .int .i64 c]) (by simp [results, Tryz.results28, go_sem, cl_3_0, cl_3_1, ch_3_0, ch_3_1]) rfl ⟨rfl, B3⟩
set_option maxRecDepth 100000 in
set_option maxHeartbeats 4000000 in
theorem rf_plus_z (f : Int) (x y : Nat) (w : World) (KZ : Box (∀ w, Calls Tryz.prog 163 #[.int .u8 f, .agg #[.int .u64 (x : Nat), .int .u64 (y : Nat)]] w fun r w' => r = .returned (.bool true) ∧ Below w.heap.size w w')) : Calls Tryz.prog 79 #[.int .u8 f, .agg #[.int .u64 (x : Nat), .int .u64 (y : Nat)]] w fun r w' => r = .returned (.agg #[.int .u64 0, .int .u64 0]) ∧ Below w.heap.size w w' := by
  obtain ⟨Rb_0, Rz_0, B0⟩ := opn2 w (Obj.cells #[.int .u64 (x : Nat), .int .u64 (y : Nat)] 25) (Obj.cells #[.int .u64 0, .int .u64 0] 25)
  go_enter Tryz.func79, Tryz.ntmps79
  go_wp2_with fail
  refine (KZ.out _).mono ?_
  rintro r w1 ⟨rfl, b1⟩
  have B1 : Below w.heap.size w w1 := btr B0 b1
  have Rb_1 := heap_of b1 _ _ _ Rb_0
  have Rz_1 := heap_of b1 _ _ _ Rz_0
  clear b1 B0 Rb_0 Rz_0
  obtain ⟨cb_1_0, cb_1_1⟩ := cells2s Rb_1
  obtain ⟨cz_1_0, cz_1_1⟩ := cells2s Rz_1
  have q0 := fz (k := 0) Rz_1
  have q1 := fz (k := 1) Rz_1
  obtain ⟨E0, E1⟩ := set2_cells Rz_1 (.int .u64 0) (.int .u64 0)
  go_wp2
  exact bodyPost_ret (v := .agg #[.int .u64 0, .int .u64 0]) (by simp [results, Tryz.results79, go_sem, E0, E1]) rfl ⟨rfl, set2_below B1 (by first | exact Nat.le_refl _ | omega | (skip; omega)) _ _⟩
set_option maxRecDepth 100000 in
set_option maxHeartbeats 4000000 in
theorem rf_plus_n (f : Int) (x y : Nat) (w : World) (KZ : Box (∀ w, Calls Tryz.prog 163 #[.int .u8 f, .agg #[.int .u64 (x : Nat), .int .u64 (y : Nat)]] w fun r w' => r = .returned (.bool false) ∧ Below w.heap.size w w')) : Calls Tryz.prog 79 #[.int .u8 f, .agg #[.int .u64 (x : Nat), .int .u64 (y : Nat)]] w fun r w' => r = .returned (.agg #[.int .u64 (x : Nat), .int .u64 (y : Nat)]) ∧ Below w.heap.size w w' := by
  obtain ⟨Rb_0, Rz_0, B0⟩ := opn2 w (Obj.cells #[.int .u64 (x : Nat), .int .u64 (y : Nat)] 25) (Obj.cells #[.int .u64 0, .int .u64 0] 25)
  go_enter Tryz.func79, Tryz.ntmps79
  go_wp2_with fail
  refine (KZ.out _).mono ?_
  rintro r w1 ⟨rfl, b1⟩
  have B1 : Below w.heap.size w w1 := btr B0 b1
  have Rb_1 := heap_of b1 _ _ _ Rb_0
  have Rz_1 := heap_of b1 _ _ _ Rz_0
  clear b1 B0 Rb_0 Rz_0
  obtain ⟨cb_1_0, cb_1_1⟩ := cells2s Rb_1
  obtain ⟨cz_1_0, cz_1_1⟩ := cells2s Rz_1
  have q0 := fz (k := 0) Rz_1
  have q1 := fz (k := 1) Rz_1
  obtain ⟨E0, E1⟩ := set2_cells Rz_1 (.int .u64 (x : Nat)) (.int .u64 (y : Nat))
  go_wp2
  exact bodyPost_ret (v := .agg #[.int .u64 (x : Nat), .int .u64 (y : Nat)]) (by simp [results, Tryz.results79, go_sem, E0, E1]) rfl ⟨rfl, set2_below B1 (by first | exact Nat.le_refl _ | omega | (skip; omega)) _ _⟩
set_option maxRecDepth 100000 in
set_option maxHeartbeats 4000000 in
theorem rf_isz_a (f : Int) (x y : Nat) (w : World) (KC : Box (∀ w, Calls Tryz.prog 121 #[.int .u8 f, .agg #[.int .u64 (x : Nat), .int .u64 (y : Nat)]] w fun r w' => r = .returned (.int .u8 3) ∧ Below w.heap.size w w')) : Calls Tryz.prog 163 #[.int .u8 f, .agg #[.int .u64 (x : Nat), .int .u64 (y : Nat)]] w fun r w' => r = .returned (.bool true) ∧ Below w.heap.size w w' := by
  obtain ⟨Rb_0, B0⟩ := opn1 w (Obj.cells #[.int .u64 (x : Nat), .int .u64 (y : Nat)] 25)
  go_enter Tryz.func163, Tryz.ntmps163
  go_wp2_with fail
  refine (KC.out _).mono ?_
  rintro r w1 ⟨rfl, b1⟩
  have B1 : Below w.heap.size w w1 := btr B0 b1
  have Rb_1 := heap_of b1 _ _ _ Rb_0
  clear b1 B0 Rb_0
  obtain ⟨cb_1_0, cb_1_1⟩ := cells2s Rb_1
  go_wp2
  go_ret
  exact ⟨rfl, B1⟩
set_option maxRecDepth 100000 in
set_option maxHeartbeats 4000000 in
theorem rf_isz_b (f : Int) (x y : Nat) (w : World) (KC : Box (∀ w, Calls Tryz.prog 121 #[.int .u8 f, .agg #[.int .u64 (x : Nat), .int .u64 (y : Nat)]] w fun r w' => r = .returned (.int .u8 4) ∧ Below w.heap.size w w')) : Calls Tryz.prog 163 #[.int .u8 f, .agg #[.int .u64 (x : Nat), .int .u64 (y : Nat)]] w fun r w' => r = .returned (.bool true) ∧ Below w.heap.size w w' := by
  obtain ⟨Rb_0, B0⟩ := opn1 w (Obj.cells #[.int .u64 (x : Nat), .int .u64 (y : Nat)] 25)
  go_enter Tryz.func163, Tryz.ntmps163
  go_wp2_with fail
  refine (KC.out _).mono ?_
  rintro r w1 ⟨rfl, b1⟩
  have B1 : Below w.heap.size w w1 := btr B0 b1
  have Rb_1 := heap_of b1 _ _ _ Rb_0
  clear b1 B0 Rb_0
  obtain ⟨cb_1_0, cb_1_1⟩ := cells2s Rb_1
  go_wp2
  go_ret
  exact ⟨rfl, B1⟩
set_option maxRecDepth 100000 in
set_option maxHeartbeats 4000000 in
theorem rf_isz_n (f : Int) (x y c : Nat) (w : World) (KC : Box (∀ w, Calls Tryz.prog 121 #[.int .u8 f, .agg #[.int .u64 (x : Nat), .int .u64 (y : Nat)]] w fun r w' => r = .returned (.int .u8 (c : Nat)) ∧ Below w.heap.size w w')) (h3 : (((c : Nat) : Int) == 3) = false) (h4 : (((c : Nat) : Int) == 4) = false) (h5 : decide (c = 3) = false) (h6 : decide (c = 4) = false) : Calls Tryz.prog 163 #[.int .u8 f, .agg #[.int .u64 (x : Nat), .int .u64 (y : Nat)]] w fun r w' => r = .returned (.bool false) ∧ Below w.heap.size w w' := by
  obtain ⟨Rb_0, B0⟩ := opn1 w (Obj.cells #[.int .u64 (x : Nat), .int .u64 (y : Nat)] 25)
  go_enter Tryz.func163, Tryz.ntmps163
  go_wp2_with fail
  refine (KC.out _).mono ?_
  rintro r w1 ⟨rfl, b1⟩
  have B1 : Below w.heap.size w w1 := btr B0 b1
  have Rb_1 := heap_of b1 _ _ _ Rb_0
  clear b1 B0 Rb_0
  obtain ⟨cb_1_0, cb_1_1⟩ := cells2s Rb_1
  go_wp2
  go_ret
  exact ⟨rfl, B1⟩
set_option maxRecDepth 100000 in
set_option maxHeartbeats 4000000 in
theorem rf_Near_ok (f : Int) (b : Bool) (s t : ByteArray) (e : Int) (u1 v1 u2 v2 i1 j1 i2 j2 : Nat) (f1 f2 : Int) (w : World)
    (K1 : Box (∀ w, Calls Tryz.prog 23 #[.int .u8 f, .int .u8 2, .agg #[.bool b, .string s, .string t, .int .i64 e]] w fun r w' => r = .returned (.tuple #[.agg #[.int .u64 (u1 : Nat), .int .u64 (v1 : Nat)], .int .u8 f1, .int .i64 0]) ∧ Below w.heap.size w w'))
    (K2 : Box (∀ w, Calls Tryz.prog 23 #[.int .u8 f, .int .u8 3, .agg #[.bool b, .string s, .string t, .int .i64 e]] w fun r w' => r = .returned (.tuple #[.agg #[.int .u64 (u2 : Nat), .int .u64 (v2 : Nat)], .int .u8 f2, .int .i64 0]) ∧ Below w.heap.size w w'))
    (P1 : Box (∀ w, Calls Tryz.prog 79 #[.int .u8 f, .agg #[.int .u64 (u1 : Nat), .int .u64 (v1 : Nat)]] w fun r w' => r = .returned (.agg #[.int .u64 (i1 : Nat), .int .u64 (j1 : Nat)]) ∧ Below w.heap.size w w'))
    (P2 : Box (∀ w, Calls Tryz.prog 79 #[.int .u8 f, .agg #[.int .u64 (u2 : Nat), .int .u64 (v2 : Nat)]] w fun r w' => r = .returned (.agg #[.int .u64 (i2 : Nat), .int .u64 (j2 : Nat)]) ∧ Below w.heap.size w w'))
    : Calls Tryz.prog 30 #[.int .u8 f, .agg #[.bool b, .string s, .string t, .int .i64 e]] w fun r w' => r = .returned (.tuple #[.agg #[.int .u64 (i1 : Nat), .int .u64 (j1 : Nat)], .agg #[.int .u64 (i2 : Nat), .int .u64 (j2 : Nat)], .int .i64 0]) ∧ Below w.heap.size w w' := by
  obtain ⟨Rx_0, Rl_0, Rh_0, B0⟩ := opn3 w (Obj.cells #[.bool b, .string s, .string t, .int .i64 e] 41) (Obj.cells #[.int .u64 0, .int .u64 0] 25) (Obj.cells #[.int .u64 0, .int .u64 0] 25)
  go_enter Tryz.func30, Tryz.ntmps30
  go_wp2_with fail
  refine (K1.out _).mono ?_
  rintro r w1 ⟨rfl, b1⟩
  have B1 : Below w.heap.size w w1 := btr B0 b1
  have Rx_1 := heap_of b1 _ _ _ Rx_0
  have Rl_1 := heap_of b1 _ _ _ Rl_0
  have Rh_1 := heap_of b1 _ _ _ Rh_0
  clear b1 B0 Rx_0 Rl_0 Rh_0
  obtain ⟨cx_1_0, cx_1_1, cx_1_2, cx_1_3⟩ := cells4s Rx_1
  obtain ⟨cl_1_0, cl_1_1⟩ := cells2s Rl_1
  obtain ⟨ch_1_0, ch_1_1⟩ := cells2s Rh_1
  have S2 := box B1.size
  have Lx_2 : Box (w.heap.size < w1.heap.size) := box (Array.getElem?_eq_some_iff.1 Rx_1).1
  have Ll_2 : Box (w.heap.size + 1 < w1.heap.size) := box (Array.getElem?_eq_some_iff.1 Rl_1).1
  have Lh_2 : Box (w.heap.size + 1 + 1 < w1.heap.size) := box (Array.getElem?_eq_some_iff.1 Rh_1).1
  have Rp_2 := heap_alloc_last w1 (Obj.cells #[.int .u64 (u1 : Nat), .int .u64 (v1 : Nat)] 25)
  have B2 := btr B1 (bal w1 (Obj.cells #[.int .u64 (u1 : Nat), .int .u64 (v1 : Nat)] 25))
  have Rx_2 := heap_of (bal w1 (Obj.cells #[.int .u64 (u1 : Nat), .int .u64 (v1 : Nat)] 25)) _ _ _ Rx_1
  have Rl_2 := heap_of (bal w1 (Obj.cells #[.int .u64 (u1 : Nat), .int .u64 (v1 : Nat)] 25)) _ _ _ Rl_1
  have Rh_2 := heap_of (bal w1 (Obj.cells #[.int .u64 (u1 : Nat), .int .u64 (v1 : Nat)] 25)) _ _ _ Rh_1
  clear B1 Rx_1 cx_1_0 cx_1_1 cx_1_2 cx_1_3 Rl_1 cl_1_0 cl_1_1 Rh_1 ch_1_0 ch_1_1
  obtain ⟨cx_2_0, cx_2_1, cx_2_2, cx_2_3⟩ := cells4s Rx_2
  obtain ⟨cl_2_0, cl_2_1⟩ := cells2s Rl_2
  obtain ⟨ch_2_0, ch_2_1⟩ := cells2s Rh_2
  obtain ⟨cp_2_0, cp_2_1⟩ := cells2s Rp_2
  go_wp2_with fail
  refine (K2.out _).mono ?_
  rintro r w3 ⟨rfl, b3⟩
  have B3 : Below w.heap.size w w3 := btr B2 b3
  have Rx_3 := heap_of b3 _ _ _ Rx_2
  have Rl_3 := heap_of b3 _ _ _ Rl_2
  have Rh_3 := heap_of b3 _ _ _ Rh_2
  have Rp_3 := heap_of b3 _ _ _ Rp_2
  clear b3 B2 Rx_2 cx_2_0 cx_2_1 cx_2_2 cx_2_3 Rl_2 cl_2_0 cl_2_1 Rh_2 ch_2_0 ch_2_1 Rp_2 cp_2_0 cp_2_1
  obtain ⟨cx_3_0, cx_3_1, cx_3_2, cx_3_3⟩ := cells4s Rx_3
  obtain ⟨cl_3_0, cl_3_1⟩ := cells2s Rl_3
  obtain ⟨ch_3_0, ch_3_1⟩ := cells2s Rh_3
  obtain ⟨cp_3_0, cp_3_1⟩ := cells2s Rp_3
  have S4 := box B3.size
  have Lx_4 : Box (w.heap.size < w3.heap.size) := box (Array.getElem?_eq_some_iff.1 Rx_3).1
  have Ll_4 : Box (w.heap.size + 1 < w3.heap.size) := box (Array.getElem?_eq_some_iff.1 Rl_3).1
  have Lh_4 : Box (w.heap.size + 1 + 1 < w3.heap.size) := box (Array.getElem?_eq_some_iff.1 Rh_3).1
  have Lp_4 : Box (w1.heap.size < w3.heap.size) := box (Array.getElem?_eq_some_iff.1 Rp_3).1
  have Rq_4 := heap_alloc_last w3 (Obj.cells #[.int .u64 (u2 : Nat), .int .u64 (v2 : Nat)] 25)
  have B4 := btr B3 (bal w3 (Obj.cells #[.int .u64 (u2 : Nat), .int .u64 (v2 : Nat)] 25))
  have Rx_4 := heap_of (bal w3 (Obj.cells #[.int .u64 (u2 : Nat), .int .u64 (v2 : Nat)] 25)) _ _ _ Rx_3
  have Rl_4 := heap_of (bal w3 (Obj.cells #[.int .u64 (u2 : Nat), .int .u64 (v2 : Nat)] 25)) _ _ _ Rl_3
  have Rh_4 := heap_of (bal w3 (Obj.cells #[.int .u64 (u2 : Nat), .int .u64 (v2 : Nat)] 25)) _ _ _ Rh_3
  have Rp_4 := heap_of (bal w3 (Obj.cells #[.int .u64 (u2 : Nat), .int .u64 (v2 : Nat)] 25)) _ _ _ Rp_3
  clear B3 Rx_3 cx_3_0 cx_3_1 cx_3_2 cx_3_3 Rl_3 cl_3_0 cl_3_1 Rh_3 ch_3_0 ch_3_1 Rp_3 cp_3_0 cp_3_1
  obtain ⟨cx_4_0, cx_4_1, cx_4_2, cx_4_3⟩ := cells4s Rx_4
  obtain ⟨cl_4_0, cl_4_1⟩ := cells2s Rl_4
  obtain ⟨ch_4_0, ch_4_1⟩ := cells2s Rh_4
  obtain ⟨cp_4_0, cp_4_1⟩ := cells2s Rp_4
  obtain ⟨cq_4_0, cq_4_1⟩ := cells2s Rq_4
  have sS : Box (∀ W W1 : World, (Below w.heap.size w W ∧ W.heap[w.heap.size]? = some (Obj.cells #[.bool b, .string s, .string t, .int .i64 e] 41) ∧ W.heap[w1.heap.size]? = some (Obj.cells #[.int .u64 (u1 : Nat), .int .u64 (v1 : Nat)] 25) ∧ W.heap[w3.heap.size]? = some (Obj.cells #[.int .u64 (u2 : Nat), .int .u64 (v2 : Nat)] 25) ∧ W.cell? ⟨w.heap.size, 0, none⟩ = some (.bool b) ∧ W.cell? ⟨w.heap.size, 1, none⟩ = some (.string s) ∧ W.cell? ⟨w.heap.size, 2, none⟩ = some (.string t) ∧ W.cell? ⟨w.heap.size, 3, none⟩ = some (.int .i64 e) ∧ W.cell? ⟨w1.heap.size, 0, none⟩ = some (.int .u64 (u1 : Nat)) ∧ W.cell? ⟨w1.heap.size, 1, none⟩ = some (.int .u64 (v1 : Nat)) ∧ W.cell? ⟨w3.heap.size, 0, none⟩ = some (.int .u64 (u2 : Nat)) ∧ W.cell? ⟨w3.heap.size, 1, none⟩ = some (.int .u64 (v2 : Nat))) → Below W.heap.size W W1 → (Below w.heap.size w W1 ∧ W1.heap[w.heap.size]? = some (Obj.cells #[.bool b, .string s, .string t, .int .i64 e] 41) ∧ W1.heap[w1.heap.size]? = some (Obj.cells #[.int .u64 (u1 : Nat), .int .u64 (v1 : Nat)] 25) ∧ W1.heap[w3.heap.size]? = some (Obj.cells #[.int .u64 (u2 : Nat), .int .u64 (v2 : Nat)] 25) ∧ W1.cell? ⟨w.heap.size, 0, none⟩ = some (.bool b) ∧ W1.cell? ⟨w.heap.size, 1, none⟩ = some (.string s) ∧ W1.cell? ⟨w.heap.size, 2, none⟩ = some (.string t) ∧ W1.cell? ⟨w.heap.size, 3, none⟩ = some (.int .i64 e) ∧ W1.cell? ⟨w1.heap.size, 0, none⟩ = some (.int .u64 (u1 : Nat)) ∧ W1.cell? ⟨w1.heap.size, 1, none⟩ = some (.int .u64 (v1 : Nat)) ∧ W1.cell? ⟨w3.heap.size, 0, none⟩ = some (.int .u64 (u2 : Nat)) ∧ W1.cell? ⟨w3.heap.size, 1, none⟩ = some (.int .u64 (v2 : Nat)))) := box (fun W W1 h b => ⟨btr h.1 b, heap_of b _ _ _ h.2.1, heap_of b _ _ _ h.2.2.1, heap_of b _ _ _ h.2.2.2.1, cell7 (heap_of b _ _ _ h.2.1) 0 _ rfl, cell7 (heap_of b _ _ _ h.2.1) 1 _ rfl, cell7 (heap_of b _ _ _ h.2.1) 2 _ rfl, cell7 (heap_of b _ _ _ h.2.1) 3 _ rfl, cell7 (heap_of b _ _ _ h.2.2.1) 0 _ rfl, cell7 (heap_of b _ _ _ h.2.2.1) 1 _ rfl, cell7 (heap_of b _ _ _ h.2.2.2.1) 0 _ rfl, cell7 (heap_of b _ _ _ h.2.2.2.1) 1 _ rfl⟩)
  have sTA : Box (∀ (W : World) (xA xB : Value), (Below w.heap.size w W ∧ W.heap[w.heap.size]? = some (Obj.cells #[.bool b, .string s, .string t, .int .i64 e] 41) ∧ W.heap[w1.heap.size]? = some (Obj.cells #[.int .u64 (u1 : Nat), .int .u64 (v1 : Nat)] 25) ∧ W.heap[w3.heap.size]? = some (Obj.cells #[.int .u64 (u2 : Nat), .int .u64 (v2 : Nat)] 25) ∧ W.cell? ⟨w.heap.size, 0, none⟩ = some (.bool b) ∧ W.cell? ⟨w.heap.size, 1, none⟩ = some (.string s) ∧ W.cell? ⟨w.heap.size, 2, none⟩ = some (.string t) ∧ W.cell? ⟨w.heap.size, 3, none⟩ = some (.int .i64 e) ∧ W.cell? ⟨w1.heap.size, 0, none⟩ = some (.int .u64 (u1 : Nat)) ∧ W.cell? ⟨w1.heap.size, 1, none⟩ = some (.int .u64 (v1 : Nat)) ∧ W.cell? ⟨w3.heap.size, 0, none⟩ = some (.int .u64 (u2 : Nat)) ∧ W.cell? ⟨w3.heap.size, 1, none⟩ = some (.int .u64 (v2 : Nat))) → (Below w.heap.size w ((W.setCell ⟨w.heap.size + 1, 0, none⟩ xA).setCell ⟨w.heap.size + 1, 1, none⟩ xB) ∧ ((W.setCell ⟨w.heap.size + 1, 0, none⟩ xA).setCell ⟨w.heap.size + 1, 1, none⟩ xB).heap[w.heap.size]? = some (Obj.cells #[.bool b, .string s, .string t, .int .i64 e] 41) ∧ ((W.setCell ⟨w.heap.size + 1, 0, none⟩ xA).setCell ⟨w.heap.size + 1, 1, none⟩ xB).heap[w1.heap.size]? = some (Obj.cells #[.int .u64 (u1 : Nat), .int .u64 (v1 : Nat)] 25) ∧ ((W.setCell ⟨w.heap.size + 1, 0, none⟩ xA).setCell ⟨w.heap.size + 1, 1, none⟩ xB).heap[w3.heap.size]? = some (Obj.cells #[.int .u64 (u2 : Nat), .int .u64 (v2 : Nat)] 25) ∧ ((W.setCell ⟨w.heap.size + 1, 0, none⟩ xA).setCell ⟨w.heap.size + 1, 1, none⟩ xB).cell? ⟨w.heap.size, 0, none⟩ = some (.bool b) ∧ ((W.setCell ⟨w.heap.size + 1, 0, none⟩ xA).setCell ⟨w.heap.size + 1, 1, none⟩ xB).cell? ⟨w.heap.size, 1, none⟩ = some (.string s) ∧ ((W.setCell ⟨w.heap.size + 1, 0, none⟩ xA).setCell ⟨w.heap.size + 1, 1, none⟩ xB).cell? ⟨w.heap.size, 2, none⟩ = some (.string t) ∧ ((W.setCell ⟨w.heap.size + 1, 0, none⟩ xA).setCell ⟨w.heap.size + 1, 1, none⟩ xB).cell? ⟨w.heap.size, 3, none⟩ = some (.int .i64 e) ∧ ((W.setCell ⟨w.heap.size + 1, 0, none⟩ xA).setCell ⟨w.heap.size + 1, 1, none⟩ xB).cell? ⟨w1.heap.size, 0, none⟩ = some (.int .u64 (u1 : Nat)) ∧ ((W.setCell ⟨w.heap.size + 1, 0, none⟩ xA).setCell ⟨w.heap.size + 1, 1, none⟩ xB).cell? ⟨w1.heap.size, 1, none⟩ = some (.int .u64 (v1 : Nat)) ∧ ((W.setCell ⟨w.heap.size + 1, 0, none⟩ xA).setCell ⟨w.heap.size + 1, 1, none⟩ xB).cell? ⟨w3.heap.size, 0, none⟩ = some (.int .u64 (u2 : Nat)) ∧ ((W.setCell ⟨w.heap.size + 1, 0, none⟩ xA).setCell ⟨w.heap.size + 1, 1, none⟩ xB).cell? ⟨w3.heap.size, 1, none⟩ = some (.int .u64 (v2 : Nat)))) := box (fun W xA xB h => ⟨set2_below h.1 (show w.heap.size ≤ w.heap.size + 1 by first | exact Nat.le_refl _ | omega | (have := S2.out; have := Lx_2.out; have := Ll_2.out; have := Lh_2.out; have := S4.out; have := Lx_4.out; have := Ll_4.out; have := Lh_4.out; have := Lp_4.out; omega)) xA xB, (setCell_other (by first | omega | (have := S2.out; have := Lx_2.out; have := Ll_2.out; have := Lh_2.out; have := S4.out; have := Lx_4.out; have := Ll_4.out; have := Lh_4.out; have := Lp_4.out; omega))).trans ((setCell_other (by first | omega | (have := S2.out; have := Lx_2.out; have := Ll_2.out; have := Lh_2.out; have := S4.out; have := Lx_4.out; have := Ll_4.out; have := Lh_4.out; have := Lp_4.out; omega))).trans h.2.1), (setCell_other (by first | omega | (have := S2.out; have := Lx_2.out; have := Ll_2.out; have := Lh_2.out; have := S4.out; have := Lx_4.out; have := Ll_4.out; have := Lh_4.out; have := Lp_4.out; omega))).trans ((setCell_other (by first | omega | (have := S2.out; have := Lx_2.out; have := Ll_2.out; have := Lh_2.out; have := S4.out; have := Lx_4.out; have := Ll_4.out; have := Lh_4.out; have := Lp_4.out; omega))).trans h.2.2.1), (setCell_other (by first | omega | (have := S2.out; have := Lx_2.out; have := Ll_2.out; have := Lh_2.out; have := S4.out; have := Lx_4.out; have := Ll_4.out; have := Lh_4.out; have := Lp_4.out; omega))).trans ((setCell_other (by first | omega | (have := S2.out; have := Lx_2.out; have := Ll_2.out; have := Lh_2.out; have := S4.out; have := Lx_4.out; have := Ll_4.out; have := Lh_4.out; have := Lp_4.out; omega))).trans h.2.2.2.1), cell7 ((setCell_other (by first | omega | (have := S2.out; have := Lx_2.out; have := Ll_2.out; have := Lh_2.out; have := S4.out; have := Lx_4.out; have := Ll_4.out; have := Lh_4.out; have := Lp_4.out; omega))).trans ((setCell_other (by first | omega | (have := S2.out; have := Lx_2.out; have := Ll_2.out; have := Lh_2.out; have := S4.out; have := Lx_4.out; have := Ll_4.out; have := Lh_4.out; have := Lp_4.out; omega))).trans h.2.1)) 0 _ rfl, cell7 ((setCell_other (by first | omega | (have := S2.out; have := Lx_2.out; have := Ll_2.out; have := Lh_2.out; have := S4.out; have := Lx_4.out; have := Ll_4.out; have := Lh_4.out; have := Lp_4.out; omega))).trans ((setCell_other (by first | omega | (have := S2.out; have := Lx_2.out; have := Ll_2.out; have := Lh_2.out; have := S4.out; have := Lx_4.out; have := Ll_4.out; have := Lh_4.out; have := Lp_4.out; omega))).trans h.2.1)) 1 _ rfl, cell7 ((setCell_other (by first | omega | (have := S2.out; have := Lx_2.out; have := Ll_2.out; have := Lh_2.out; have := S4.out; have := Lx_4.out; have := Ll_4.out; have := Lh_4.out; have := Lp_4.out; omega))).trans ((setCell_other (by first | omega | (have := S2.out; have := Lx_2.out; have := Ll_2.out; have := Lh_2.out; have := S4.out; have := Lx_4.out; have := Ll_4.out; have := Lh_4.out; have := Lp_4.out; omega))).trans h.2.1)) 2 _ rfl, cell7 ((setCell_other (by first | omega | (have := S2.out; have := Lx_2.out; have := Ll_2.out; have := Lh_2.out; have := S4.out; have := Lx_4.out; have := Ll_4.out; have := Lh_4.out; have := Lp_4.out; omega))).trans ((setCell_other (by first | omega | (have := S2.out; have := Lx_2.out; have := Ll_2.out; have := Lh_2.out; have := S4.out; have := Lx_4.out; have := Ll_4.out; have := Lh_4.out; have := Lp_4.out; omega))).trans h.2.1)) 3 _ rfl, cell7 ((setCell_other (by first | omega | (have := S2.out; have := Lx_2.out; have := Ll_2.out; have := Lh_2.out; have := S4.out; have := Lx_4.out; have := Ll_4.out; have := Lh_4.out; have := Lp_4.out; omega))).trans ((setCell_other (by first | omega | (have := S2.out; have := Lx_2.out; have := Ll_2.out; have := Lh_2.out; have := S4.out; have := Lx_4.out; have := Ll_4.out; have := Lh_4.out; have := Lp_4.out; omega))).trans h.2.2.1)) 0 _ rfl, cell7 ((setCell_other (by first | omega | (have := S2.out; have := Lx_2.out; have := Ll_2.out; have := Lh_2.out; have := S4.out; have := Lx_4.out; have := Ll_4.out; have := Lh_4.out; have := Lp_4.out; omega))).trans ((setCell_other (by first | omega | (have := S2.out; have := Lx_2.out; have := Ll_2.out; have := Lh_2.out; have := S4.out; have := Lx_4.out; have := Ll_4.out; have := Lh_4.out; have := Lp_4.out; omega))).trans h.2.2.1)) 1 _ rfl, cell7 ((setCell_other (by first | omega | (have := S2.out; have := Lx_2.out; have := Ll_2.out; have := Lh_2.out; have := S4.out; have := Lx_4.out; have := Ll_4.out; have := Lh_4.out; have := Lp_4.out; omega))).trans ((setCell_other (by first | omega | (have := S2.out; have := Lx_2.out; have := Ll_2.out; have := Lh_2.out; have := S4.out; have := Lx_4.out; have := Ll_4.out; have := Lh_4.out; have := Lp_4.out; omega))).trans h.2.2.2.1)) 0 _ rfl, cell7 ((setCell_other (by first | omega | (have := S2.out; have := Lx_2.out; have := Ll_2.out; have := Lh_2.out; have := S4.out; have := Lx_4.out; have := Ll_4.out; have := Lh_4.out; have := Lp_4.out; omega))).trans ((setCell_other (by first | omega | (have := S2.out; have := Lx_2.out; have := Ll_2.out; have := Lh_2.out; have := S4.out; have := Lx_4.out; have := Ll_4.out; have := Lh_4.out; have := Lp_4.out; omega))).trans h.2.2.2.1)) 1 _ rfl⟩)
  have sTB : Box (∀ (W : World) (xA xB : Value), (Below w.heap.size w W ∧ W.heap[w.heap.size]? = some (Obj.cells #[.bool b, .string s, .string t, .int .i64 e] 41) ∧ W.heap[w1.heap.size]? = some (Obj.cells #[.int .u64 (u1 : Nat), .int .u64 (v1 : Nat)] 25) ∧ W.heap[w3.heap.size]? = some (Obj.cells #[.int .u64 (u2 : Nat), .int .u64 (v2 : Nat)] 25) ∧ W.cell? ⟨w.heap.size, 0, none⟩ = some (.bool b) ∧ W.cell? ⟨w.heap.size, 1, none⟩ = some (.string s) ∧ W.cell? ⟨w.heap.size, 2, none⟩ = some (.string t) ∧ W.cell? ⟨w.heap.size, 3, none⟩ = some (.int .i64 e) ∧ W.cell? ⟨w1.heap.size, 0, none⟩ = some (.int .u64 (u1 : Nat)) ∧ W.cell? ⟨w1.heap.size, 1, none⟩ = some (.int .u64 (v1 : Nat)) ∧ W.cell? ⟨w3.heap.size, 0, none⟩ = some (.int .u64 (u2 : Nat)) ∧ W.cell? ⟨w3.heap.size, 1, none⟩ = some (.int .u64 (v2 : Nat))) → (Below w.heap.size w ((W.setCell ⟨w.heap.size + 1 + 1, 0, none⟩ xA).setCell ⟨w.heap.size + 1 + 1, 1, none⟩ xB) ∧ ((W.setCell ⟨w.heap.size + 1 + 1, 0, none⟩ xA).setCell ⟨w.heap.size + 1 + 1, 1, none⟩ xB).heap[w.heap.size]? = some (Obj.cells #[.bool b, .string s, .string t, .int .i64 e] 41) ∧ ((W.setCell ⟨w.heap.size + 1 + 1, 0, none⟩ xA).setCell ⟨w.heap.size + 1 + 1, 1, none⟩ xB).heap[w1.heap.size]? = some (Obj.cells #[.int .u64 (u1 : Nat), .int .u64 (v1 : Nat)] 25) ∧ ((W.setCell ⟨w.heap.size + 1 + 1, 0, none⟩ xA).setCell ⟨w.heap.size + 1 + 1, 1, none⟩ xB).heap[w3.heap.size]? = some (Obj.cells #[.int .u64 (u2 : Nat), .int .u64 (v2 : Nat)] 25) ∧ ((W.setCell ⟨w.heap.size + 1 + 1, 0, none⟩ xA).setCell ⟨w.heap.size + 1 + 1, 1, none⟩ xB).cell? ⟨w.heap.size, 0, none⟩ = some (.bool b) ∧ ((W.setCell ⟨w.heap.size + 1 + 1, 0, none⟩ xA).setCell ⟨w.heap.size + 1 + 1, 1, none⟩ xB).cell? ⟨w.heap.size, 1, none⟩ = some (.string s) ∧ ((W.setCell ⟨w.heap.size + 1 + 1, 0, none⟩ xA).setCell ⟨w.heap.size + 1 + 1, 1, none⟩ xB).cell? ⟨w.heap.size, 2, none⟩ = some (.string t) ∧ ((W.setCell ⟨w.heap.size + 1 + 1, 0, none⟩ xA).setCell ⟨w.heap.size + 1 + 1, 1, none⟩ xB).cell? ⟨w.heap.size, 3, none⟩ = some (.int .i64 e) ∧ ((W.setCell ⟨w.heap.size + 1 + 1, 0, none⟩ xA).setCell ⟨w.heap.size + 1 + 1, 1, none⟩ xB).cell? ⟨w1.heap.size, 0, none⟩ = some (.int .u64 (u1 : Nat)) ∧ ((W.setCell ⟨w.heap.size + 1 + 1, 0, none⟩ xA).setCell ⟨w.heap.size + 1 + 1, 1, none⟩ xB).cell? ⟨w1.heap.size, 1, none⟩ = some (.int .u64 (v1 : Nat)) ∧ ((W.setCell ⟨w.heap.size + 1 + 1, 0, none⟩ xA).setCell ⟨w.heap.size + 1 + 1, 1, none⟩ xB).cell? ⟨w3.heap.size, 0, none⟩ = some (.int .u64 (u2 : Nat)) ∧ ((W.setCell ⟨w.heap.size + 1 + 1, 0, none⟩ xA).setCell ⟨w.heap.size + 1 + 1, 1, none⟩ xB).cell? ⟨w3.heap.size, 1, none⟩ = some (.int .u64 (v2 : Nat)))) := box (fun W xA xB h => ⟨set2_below h.1 (show w.heap.size ≤ w.heap.size + 1 + 1 by first | exact Nat.le_refl _ | omega | (have := S2.out; have := Lx_2.out; have := Ll_2.out; have := Lh_2.out; have := S4.out; have := Lx_4.out; have := Ll_4.out; have := Lh_4.out; have := Lp_4.out; omega)) xA xB, (setCell_other (by first | omega | (have := S2.out; have := Lx_2.out; have := Ll_2.out; have := Lh_2.out; have := S4.out; have := Lx_4.out; have := Ll_4.out; have := Lh_4.out; have := Lp_4.out; omega))).trans ((setCell_other (by first | omega | (have := S2.out; have := Lx_2.out; have := Ll_2.out; have := Lh_2.out; have := S4.out; have := Lx_4.out; have := Ll_4.out; have := Lh_4.out; have := Lp_4.out; omega))).trans h.2.1), (setCell_other (by first | omega | (have := S2.out; have := Lx_2.out; have := Ll_2.out; have := Lh_2.out; have := S4.out; have := Lx_4.out; have := Ll_4.out; have := Lh_4.out; have := Lp_4.out; omega))).trans ((setCell_other (by first | omega | (have := S2.out; have := Lx_2.out; have := Ll_2.out; have := Lh_2.out; have := S4.out; have := Lx_4.out; have := Ll_4.out; have := Lh_4.out; have := Lp_4.out; omega))).trans h.2.2.1), (setCell_other (by first | omega | (have := S2.out; have := Lx_2.out; have := Ll_2.out; have := Lh_2.out; have := S4.out; have := Lx_4.out; have := Ll_4.out; have := Lh_4.out; have := Lp_4.out; omega))).trans ((setCell_other (by first | omega | (have := S2.out; have := Lx_2.out; have := Ll_2.out; have := Lh_2.out; have := S4.out; have := Lx_4.out; have := Ll_4.out; have := Lh_4.out; have := Lp_4.out; omega))).trans h.2.2.2.1), cell7 ((setCell_other (by first | omega | (have := S2.out; have := Lx_2.out; have := Ll_2.out; have := Lh_2.out; have := S4.out; have := Lx_4.out; have := Ll_4.out; have := Lh_4.out; have := Lp_4.out; omega))).trans ((setCell_other (by first | omega | (have := S2.out; have := Lx_2.out; have := Ll_2.out; have := Lh_2.out; have := S4.out; have := Lx_4.out; have := Ll_4.out; have := Lh_4.out; have := Lp_4.out; omega))).trans h.2.1)) 0 _ rfl, cell7 ((setCell_other (by first | omega | (have := S2.out; have := Lx_2.out; have := Ll_2.out; have := Lh_2.out; have := S4.out; have := Lx_4.out; have := Ll_4.out; have := Lh_4.out; have := Lp_4.out; omega))).trans ((setCell_other (by first | omega | (have := S2.out; have := Lx_2.out; have := Ll_2.out; have := Lh_2.out; have := S4.out; have := Lx_4.out; have := Ll_4.out; have := Lh_4.out; have := Lp_4.out; omega))).trans h.2.1)) 1 _ rfl, cell7 ((setCell_other (by first | omega | (have := S2.out; have := Lx_2.out; have := Ll_2.out; have := Lh_2.out; have := S4.out; have := Lx_4.out; have := Ll_4.out; have := Lh_4.out; have := Lp_4.out; omega))).trans ((setCell_other (by first | omega | (have := S2.out; have := Lx_2.out; have := Ll_2.out; have := Lh_2.out; have := S4.out; have := Lx_4.out; have := Ll_4.out; have := Lh_4.out; have := Lp_4.out; omega))).trans h.2.1)) 2 _ rfl, cell7 ((setCell_other (by first | omega | (have := S2.out; have := Lx_2.out; have := Ll_2.out; have := Lh_2.out; have := S4.out; have := Lx_4.out; have := Ll_4.out; have := Lh_4.out; have := Lp_4.out; omega))).trans ((setCell_other (by first | omega | (have := S2.out; have := Lx_2.out; have := Ll_2.out; have := Lh_2.out; have := S4.out; have := Lx_4.out; have := Ll_4.out; have := Lh_4.out; have := Lp_4.out; omega))).trans h.2.1)) 3 _ rfl, cell7 ((setCell_other (by first | omega | (have := S2.out; have := Lx_2.out; have := Ll_2.out; have := Lh_2.out; have := S4.out; have := Lx_4.out; have := Ll_4.out; have := Lh_4.out; have := Lp_4.out; omega))).trans ((setCell_other (by first | omega | (have := S2.out; have := Lx_2.out; have := Ll_2.out; have := Lh_2.out; have := S4.out; have := Lx_4.out; have := Ll_4.out; have := Lh_4.out; have := Lp_4.out; omega))).trans h.2.2.1)) 0 _ rfl, cell7 ((setCell_other (by first | omega | (have := S2.out; have := Lx_2.out; have := Ll_2.out; have := Lh_2.out; have := S4.out; have := Lx_4.out; have := Ll_4.out; have := Lh_4.out; have := Lp_4.out; omega))).trans ((setCell_other (by first | omega | (have := S2.out; have := Lx_2.out; have := Ll_2.out; have := Lh_2.out; have := S4.out; have := Lx_4.out; have := Ll_4.out; have := Lh_4.out; have := Lp_4.out; omega))).trans h.2.2.1)) 1 _ rfl, cell7 ((setCell_other (by first | omega | (have := S2.out; have := Lx_2.out; have := Ll_2.out; have := Lh_2.out; have := S4.out; have := Lx_4.out; have := Ll_4.out; have := Lh_4.out; have := Lp_4.out; omega))).trans ((setCell_other (by first | omega | (have := S2.out; have := Lx_2.out; have := Ll_2.out; have := Lh_2.out; have := S4.out; have := Lx_4.out; have := Ll_4.out; have := Lh_4.out; have := Lp_4.out; omega))).trans h.2.2.2.1)) 0 _ rfl, cell7 ((setCell_other (by first | omega | (have := S2.out; have := Lx_2.out; have := Ll_2.out; have := Lh_2.out; have := S4.out; have := Lx_4.out; have := Ll_4.out; have := Lh_4.out; have := Lp_4.out; omega))).trans ((setCell_other (by first | omega | (have := S2.out; have := Lx_2.out; have := Ll_2.out; have := Lh_2.out; have := S4.out; have := Lx_4.out; have := Ll_4.out; have := Lh_4.out; have := Lp_4.out; omega))).trans h.2.2.2.1)) 1 _ rfl⟩)
  have s0 : Below w.heap.size w ((w3.alloc (Obj.cells #[.int .u64 (u2 : Nat), .int .u64 (v2 : Nat)] 25))).drew ∧ ((w3.alloc (Obj.cells #[.int .u64 (u2 : Nat), .int .u64 (v2 : Nat)] 25))).drew.heap[w.heap.size]? = some (Obj.cells #[.bool b, .string s, .string t, .int .i64 e] 41) ∧ ((w3.alloc (Obj.cells #[.int .u64 (u2 : Nat), .int .u64 (v2 : Nat)] 25))).drew.heap[w1.heap.size]? = some (Obj.cells #[.int .u64 (u1 : Nat), .int .u64 (v1 : Nat)] 25) ∧ ((w3.alloc (Obj.cells #[.int .u64 (u2 : Nat), .int .u64 (v2 : Nat)] 25))).drew.heap[w3.heap.size]? = some (Obj.cells #[.int .u64 (u2 : Nat), .int .u64 (v2 : Nat)] 25) ∧ ((w3.alloc (Obj.cells #[.int .u64 (u2 : Nat), .int .u64 (v2 : Nat)] 25))).drew.cell? ⟨w.heap.size, 0, none⟩ = some (.bool b) ∧ ((w3.alloc (Obj.cells #[.int .u64 (u2 : Nat), .int .u64 (v2 : Nat)] 25))).drew.cell? ⟨w.heap.size, 1, none⟩ = some (.string s) ∧ ((w3.alloc (Obj.cells #[.int .u64 (u2 : Nat), .int .u64 (v2 : Nat)] 25))).drew.cell? ⟨w.heap.size, 2, none⟩ = some (.string t) ∧ ((w3.alloc (Obj.cells #[.int .u64 (u2 : Nat), .int .u64 (v2 : Nat)] 25))).drew.cell? ⟨w.heap.size, 3, none⟩ = some (.int .i64 e) ∧ ((w3.alloc (Obj.cells #[.int .u64 (u2 : Nat), .int .u64 (v2 : Nat)] 25))).drew.cell? ⟨w1.heap.size, 0, none⟩ = some (.int .u64 (u1 : Nat)) ∧ ((w3.alloc (Obj.cells #[.int .u64 (u2 : Nat), .int .u64 (v2 : Nat)] 25))).drew.cell? ⟨w1.heap.size, 1, none⟩ = some (.int .u64 (v1 : Nat)) ∧ ((w3.alloc (Obj.cells #[.int .u64 (u2 : Nat), .int .u64 (v2 : Nat)] 25))).drew.cell? ⟨w3.heap.size, 0, none⟩ = some (.int .u64 (u2 : Nat)) ∧ ((w3.alloc (Obj.cells #[.int .u64 (u2 : Nat), .int .u64 (v2 : Nat)] 25))).drew.cell? ⟨w3.heap.size, 1, none⟩ = some (.int .u64 (v2 : Nat)) := ⟨B4.drew, Rx_4, Rp_4, Rq_4, cell7 (Rx_4) 0 _ rfl, cell7 (Rx_4) 1 _ rfl, cell7 (Rx_4) 2 _ rfl, cell7 (Rx_4) 3 _ rfl, cell7 (Rp_4) 0 _ rfl, cell7 (Rp_4) 1 _ rfl, cell7 (Rq_4) 0 _ rfl, cell7 (Rq_4) 1 _ rfl⟩
  have rA : ((w3.alloc (Obj.cells #[.int .u64 (u2 : Nat), .int .u64 (v2 : Nat)] 25))).drew.heap[w.heap.size + 1]? = some (Obj.cells #[.int .u64 0, .int .u64 0] 25) := Rl_4
  have rB : ((w3.alloc (Obj.cells #[.int .u64 (u2 : Nat), .int .u64 (v2 : Nat)] 25))).drew.heap[w.heap.size + 1 + 1]? = some (Obj.cells #[.int .u64 0, .int .u64 0] 25) := Rh_4
  go_wp2_with fail
  go_region_held3 (fun W => Below w.heap.size w W ∧ W.heap[w.heap.size]? = some (Obj.cells #[.bool b, .string s, .string t, .int .i64 e] 41) ∧ W.heap[w1.heap.size]? = some (Obj.cells #[.int .u64 (u1 : Nat), .int .u64 (v1 : Nat)] 25) ∧ W.heap[w3.heap.size]? = some (Obj.cells #[.int .u64 (u2 : Nat), .int .u64 (v2 : Nat)] 25) ∧ W.cell? ⟨w.heap.size, 0, none⟩ = some (.bool b) ∧ W.cell? ⟨w.heap.size, 1, none⟩ = some (.string s) ∧ W.cell? ⟨w.heap.size, 2, none⟩ = some (.string t) ∧ W.cell? ⟨w.heap.size, 3, none⟩ = some (.int .i64 e) ∧ W.cell? ⟨w1.heap.size, 0, none⟩ = some (.int .u64 (u1 : Nat)) ∧ W.cell? ⟨w1.heap.size, 1, none⟩ = some (.int .u64 (v1 : Nat)) ∧ W.cell? ⟨w3.heap.size, 0, none⟩ = some (.int .u64 (u2 : Nat)) ∧ W.cell? ⟨w3.heap.size, 1, none⟩ = some (.int .u64 (v2 : Nat))) (first | exact s1 | exact s0 | exact sTA.out _ _ _ s1 | exact sTB.out _ _ _ (sTA.out _ _ _ s1))
    (first | (go_at_call 79; refine (P1.out _).mono ?_; rintro r wq ⟨rfl, bq⟩; have s1 := (by first | exact sS.out _ _ s1 bq | exact sS.out _ _ s0 bq); have rA := heap_of bq _ _ _ rA; have rB := heap_of bq _ _ _ rB; have hA0 := fz (k := 0) rA; have hA1 := fz (k := 1) rA; have dA0 := cell7 rA 0 _ rfl; have dA1 := cell7 rA 1 _ rfl; have hB0 := fz (k := 0) rB; have hB1 := fz (k := 1) rB; have dB0 := cell7 rB 0 _ rfl; have dB1 := cell7 rB 1 _ rfl; have rB2 : ((wq.setCell ⟨w.heap.size + 1, 0, none⟩ (.int .u64 (i1 : Nat))).setCell ⟨w.heap.size + 1, 1, none⟩ (.int .u64 (j1 : Nat))).heap[w.heap.size + 1 + 1]? = _ := (setCell_other (by first | omega | (have := S2.out; have := Lx_2.out; have := Ll_2.out; have := Lh_2.out; have := S4.out; have := Lx_4.out; have := Ll_4.out; have := Lh_4.out; have := Lp_4.out; omega))).trans ((setCell_other (by first | omega | (have := S2.out; have := Lx_2.out; have := Ll_2.out; have := Lh_2.out; have := S4.out; have := Lx_4.out; have := Ll_4.out; have := Lh_4.out; have := Lp_4.out; omega))).trans rB); have hC0 := fz (k := 0) rB2; have hC1 := fz (k := 1) rB2; have dC0 := cell7 rB2 0 _ rfl; have dC1 := cell7 rB2 1 _ rfl; clear bq) | (go_at_call 79; refine (P2.out _).mono ?_; rintro r wq ⟨rfl, bq⟩; have s1 := (by first | exact sS.out _ _ s1 bq | exact sS.out _ _ s0 bq); have rA := heap_of bq _ _ _ rA; have rB := heap_of bq _ _ _ rB; have hA0 := fz (k := 0) rA; have hA1 := fz (k := 1) rA; have dA0 := cell7 rA 0 _ rfl; have dA1 := cell7 rA 1 _ rfl; have hB0 := fz (k := 0) rB; have hB1 := fz (k := 1) rB; have dB0 := cell7 rB 0 _ rfl; have dB1 := cell7 rB 1 _ rfl; have rB2 : ((wq.setCell ⟨w.heap.size + 1, 0, none⟩ (.int .u64 (i1 : Nat))).setCell ⟨w.heap.size + 1, 1, none⟩ (.int .u64 (j1 : Nat))).heap[w.heap.size + 1 + 1]? = _ := (setCell_other (by first | omega | (have := S2.out; have := Lx_2.out; have := Ll_2.out; have := Lh_2.out; have := S4.out; have := Lx_4.out; have := Ll_4.out; have := Lh_4.out; have := Lp_4.out; omega))).trans ((setCell_other (by first | omega | (have := S2.out; have := Lx_2.out; have := Ll_2.out; have := Lh_2.out; have := S4.out; have := Lx_4.out; have := Ll_4.out; have := Lh_4.out; have := Lp_4.out; omega))).trans rB); have hC0 := fz (k := 0) rB2; have hC1 := fz (k := 1) rB2; have dC0 := cell7 rB2 0 _ rfl; have dC1 := cell7 rB2 1 _ rfl; clear bq) | fail)
  obtain ⟨E2, E3⟩ := set2_cells rB2 (.int .u64 (i2 : Nat)) (.int .u64 (j2 : Nat))
  have rA2 : ((((wq.setCell ⟨w.heap.size + 1, 0, none⟩ (.int .u64 (i1 : Nat))).setCell ⟨w.heap.size + 1, 1, none⟩ (.int .u64 (j1 : Nat))).setCell ⟨w.heap.size + 1 + 1, 0, none⟩ (.int .u64 (i2 : Nat))).setCell ⟨w.heap.size + 1 + 1, 1, none⟩ (.int .u64 (j2 : Nat))).heap[w.heap.size + 1]? = _ := (setCell_other (by first | omega | (have := S2.out; have := Lx_2.out; have := Ll_2.out; have := Lh_2.out; have := S4.out; have := Lx_4.out; have := Ll_4.out; have := Lh_4.out; have := Lp_4.out; omega))).trans ((setCell_other (by first | omega | (have := S2.out; have := Lx_2.out; have := Ll_2.out; have := Lh_2.out; have := S4.out; have := Lx_4.out; have := Ll_4.out; have := Lh_4.out; have := Lp_4.out; omega))).trans (set2_row rA (.int .u64 (i1 : Nat)) (.int .u64 (j1 : Nat))))
  have E0 := cell7 rA2 0 _ rfl
  have E1 := cell7 rA2 1 _ rfl
  have s2 := sTB.out _ (.int .u64 (i2 : Nat)) (.int .u64 (j2 : Nat)) (sTA.out _ (.int .u64 (i1 : Nat)) (.int .u64 (j1 : Nat)) s1)
  go_wp2
  exact bodyPost_ret (v := .tuple #[.agg #[.int .u64 (i1 : Nat), .int .u64 (j1 : Nat)], .agg #[.int .u64 (i2 : Nat), .int .u64 (j2 : Nat)], .int .i64 0]) (by simp [results, Tryz.results30, go_sem, E0, E1, E2, E3]) rfl ⟨rfl, And.left s2⟩
end Go.Proofs.YtbmhfcppaajgbaaGreatDoor
