/-
  What the functions that the statement reaches return: part 12 (SL, O1, O3, M0, M2, O5, A3, A5, M5, Z0).
-/
import Derived.Test.YtapikkbifdldfaaDoorRows
import Derived.OpenShut
import Derived.LaidMore
import Derived.Lib.LaidTab
import Derived.Stop.Joined
import Derived.Test.YtapikkbifdldfaaDoorDo11
namespace Go.Proofs.YtapikkbifdldfaaDoor
set_option maxRecDepth 100000
set_option maxHeartbeats 40000000
set_option maxRecDepth 100000
open WMath
open Go.ChangeShapes Go.WideShapes Go.ChangeAt Go.RowKit
theorem trod_row4 {H : Type} {enc : TypeId × Value → H} {P : Program} {w : World} {base : Nat} {spare : Nat → Bool} {held : Bool} {t : TypeId} {f0 f1 f2 f3 : Field} {fuel : Nat} {cs : List Value} {x : DataW H × List MemPlace} (ht : P.underlying t = some (.struct #[f0, f1, f2, f3])) (h : DataW.trod enc P w base spare held fuel t cs = some x) :
    ∃ y0 y1 y2 y3 n, x = (.agg [y0.1, y1.1, y2.1, y3.1], y0.2 ++ (y1.2 ++ (y2.2 ++ y3.2))) ∧ DataW.trod enc P w base spare held n f0.type ((cs.drop f0.offset).take (P.cellsOf f0.type)) = some y0 ∧
      DataW.trod enc P w base spare held n f1.type ((cs.drop f1.offset).take (P.cellsOf f1.type)) = some y1 ∧ DataW.trod enc P w base spare held n f2.type ((cs.drop f2.offset).take (P.cellsOf f2.type)) = some y2 ∧
      DataW.trod enc P w base spare held n f3.type ((cs.drop f3.offset).take (P.cellsOf f3.type)) = some y3 := by
  obtain ⟨xs, n, _, rfl, hl, hlen, hf⟩ := DataW.trod_struct ht h
  match xs, hlen with
  | [y0, y1, y2, y3], _ => exact ⟨y0, y1, y2, y3, n, by simp, by simpa using hf 0 f0 rfl, by simpa using hf 1 f1 rfl, by simpa using hf 2 f2 rfl, by simpa using hf 3 f3 rfl⟩


theorem list4' {α : Type} (l : List α) (h : l.length = 4) : ∃ a b c d, l = [a, b, c, d] := by
  match l, h with
  | [a, b, c, d], _ => exact ⟨a, b, c, d, rfl⟩

theorem row_read {w : World} {fuel : Nat} {enc : TypeId × Value → Unit} {base : Nat} {spare : Nat → Bool} {held : Bool} {l : List Value} {a b c : Int} {s : List UInt8} {p : List MemPlace}
    (h : DataW.trod enc Tryd.prog w base spare held fuel 91 l = some (.agg [.lit (.int .i64 a), .lit (.int .i64 b), .lit (.int .i64 c), .lit (.string s)], p)) (hl : l.length = 4) :
    l = [.int .i64 a, .int .i64 b, .int .i64 c, .string ⟨⟨s⟩⟩] := by
  have h3 : Tryd.prog.cellsOf 3 = 1 := by kernel_rfl
  have h9 : Tryd.prog.cellsOf 9 = 1 := by kernel_rfl
  obtain ⟨c0, c1, c2, c3, rfl⟩ := list4' l hl
  obtain ⟨y0, y1, y2, y3, n, hx, g0, g1, g2, g3⟩ := trod_row4 Tryd.underlying91 h
  simp only [h3, h9] at g0 g1 g2 g3
  obtain ⟨x0, e0, k0, w0⟩ := DataW.trod_int Tryd.underlying3 g0
  obtain ⟨x1, e1, k1, w1⟩ := DataW.trod_int Tryd.underlying3 g1
  obtain ⟨x2, e2, k2, w2⟩ := DataW.trod_int Tryd.underlying3 g2
  obtain ⟨x3, e3, k3, w3⟩ := DataW.trod_string Tryd.underlying9 g3
  simp at e0 e1 e2 e3
  subst e0 e1 e2 e3
  rw [k0, k1, k2, k3] at hx
  simp at hx
  obtain ⟨⟨rfl, rfl, rfl, rfl⟩, _⟩ := hx
  rfl

def laid7 : List (String × DataW Unit) := [("abacus/shape.formats", Rows.laid_abacus_shape_formats)]
theorem gTab7 : Tryd.prog.globalNamed "abacus/shape.formats" = some 0 := by kernel_rfl
theorem gType7 : (Tryd.prog.globals[0]?).map (·.type) = some 106 := by kernel_rfl

theorem of_laid7 {W : World} (h : laidMetH Tryd.prog laid7 W) : FAt W := by
  have hce : Tryd.prog.cellsOf 91 = 4 := by kernel_rfl
  have hct : Tryd.prog.cellsOf 106 = 16 := by kernel_rfl
  rw [MakeChecks.laidMetH_plain _ _ _ (by kernel_rfl)] at h
  obtain ⟨ps, ⟨g', t', cs, fuel, p, q, hg', ht', hvar, hd, _, _⟩, _⟩ := h
  obtain rfl := Option.some.inj (gTab7.symm.trans hg')
  obtain rfl := Option.some.inj (gType7.symm.trans ht')
  obtain ⟨xs, m, rfl, hx, hl, hxl, hel⟩ := DataW.trod_array Tryd.underlying106 hd
  rw [hce] at hel
  rw [hct] at hl
  have hl2 : cs.size = 16 := by simpa using hl
  match xs, hxl with
  | [y0, y1, y2, y3], _ =>
    have hx1 := congrArg Prod.fst hx
    simp [Rows.laid_abacus_shape_formats] at hx1
    obtain ⟨h0, h1, h2, h3⟩ := hx1
    have q0 := hel 0 (by decide)
    have q1 := hel 1 (by decide)
    have q2 := hel 2 (by decide)
    have q3 := hel 3 (by decide)
    simp only [List.getElem?_cons_zero, List.getElem?_cons_succ] at q0 q1 q2 q3
    have z0 := row_read (p := y0.2) (by rw [q0, h0]) (by simp; omega)
    have z1 := row_read (p := y1.2) (by rw [q1, h1]) (by simp; omega)
    have z2 := row_read (p := y2.2) (by rw [q2, h2]) (by simp; omega)
    have z3 := row_read (p := y3.2) (by rw [q3, h3]) (by simp; omega)
    have hcs : ∀ i, i < 16 → cs.toList[i]? = fcells[i]? := by
      intro i hi
      have e0 : cs.toList[i]? = (cs.toList.drop (i / 4 * 4))[i % 4]? := by rw [List.getElem?_drop]; congr 1; omega
      have e1 : (cs.toList.drop (i / 4 * 4))[i % 4]? = ((cs.toList.drop (i / 4 * 4)).take 4)[i % 4]? := by rw [List.getElem?_take, if_pos (by omega)]
      rw [e0, e1]
      have : i / 4 = 0 ∨ i / 4 = 1 ∨ i / 4 = 2 ∨ i / 4 = 3 := by omega
      have hj : i % 4 = 0 ∨ i % 4 = 1 ∨ i % 4 = 2 ∨ i % 4 = 3 := by omega
      have hi2 : i = i / 4 * 4 + i % 4 := by omega
      rcases this with e | e | e | e <;> rw [e] at hi2 ⊢ <;> rcases hj with k | k | k | k <;> rw [k] at hi2 ⊢ <;> subst hi2 <;> first | (rw [z0]; rfl) | (rw [z1]; rfl) | (rw [z2]; rfl) | (rw [z3]; rfl)
    intro i hi
    rw [World.var?_cell gTab7 hvar i, ← hcs i hi]
    simp

theorem door_met7 (os : Os) (args : Array Value) : laidMetH Tryd.prog laid7 ((World.doorLaid Tryd.prog 400 os).forCall (fun _ _ => 0) ⟨#[], args, []⟩).memory :=
  laidMetH_of_parts3 (fuel := 8) (laidMet_of_run' 8 (by kernel_rfl) (by kernel_rfl)) (by kernel_rfl) (by kernel_rfl)
end Go.Proofs.YtapikkbifdldfaaDoor
namespace Go.Proofs.YtapikkbifdldfaaDoor
set_option maxRecDepth 100000
set_option maxHeartbeats 40000000
set_option maxRecDepth 100000
open Go.RowKit WMath
set_option linter.unusedSimpArgs false
set_option linter.unusedVariables false
theorem op_endless (c : Nat) (o : Bool) (ho : (decide (c = 0) || decide (c = 7)) = o) (w : World) : Calls Tryd.prog 36 #[.int .u8 (c : Nat)] w fun r w' => r = .returned (.bool o) ∧ Below w.heap.size w w' := by
  by_cases c0 : c = 0
  · rw [decide_eq_true c0, Bool.true_or] at ho
    subst ho
    have d0 : ((c : Int) == 0) = true := by rw [c0]; rfl
    clear c0
    have B0 : Below w.heap.size w w := (Below.refl _ _)
    go_enter Tryd.func36, Tryd.ntmps36
    go_wp2
    go_ret
    exact ⟨rfl, B0⟩
  · rw [decide_eq_false c0, Bool.false_or] at ho
    have d0 : ((c : Int) == 0) = false := by rw [beq_eq_false_iff_ne]; omega
    have d7 : ((c : Int) == 7) = o := by
      rw [← ho]
      by_cases c7 : c = 7
      · rw [decide_eq_true c7, c7]; rfl
      · rw [decide_eq_false c7, beq_eq_false_iff_ne]; omega
    clear ho c0
    have B0 : Below w.heap.size w w := (Below.refl _ _)
    go_enter Tryd.func36, Tryd.ntmps36
    go_wp2
    go_ret
    exact ⟨rfl, B0⟩
theorem op_naught (c : Nat) (o : Bool) (ho : (decide (c = 3) || decide (c = 4)) = o) (w : World) : Calls Tryd.prog 37 #[.int .u8 (c : Nat)] w fun r w' => r = .returned (.bool o) ∧ Below w.heap.size w w' := by
  by_cases c0 : c = 3
  · rw [decide_eq_true c0, Bool.true_or] at ho
    subst ho
    have d0 : ((c : Int) == 3) = true := by rw [c0]; rfl
    clear c0
    have B0 : Below w.heap.size w w := (Below.refl _ _)
    go_enter Tryd.func37, Tryd.ntmps37
    go_wp2
    go_ret
    exact ⟨rfl, B0⟩
  · rw [decide_eq_false c0, Bool.false_or] at ho
    have d0 : ((c : Int) == 3) = false := by rw [beq_eq_false_iff_ne]; omega
    have d7 : ((c : Int) == 4) = o := by
      rw [← ho]
      by_cases c7 : c = 4
      · rw [decide_eq_true c7, c7]; rfl
      · rw [decide_eq_false c7, beq_eq_false_iff_ne]; omega
    clear ho c0
    have B0 : Below w.heap.size w w := (Below.refl _ _)
    go_enter Tryd.func37, Tryd.ntmps37
    go_wp2
    go_ret
    exact ⟨rfl, B0⟩
set_option maxRecDepth 100000 in
theorem op_inf (f : Int) (neg : Bool) (u v : Nat) (w : World) (KI : Box (∀ w, FAt w → Calls Tryd.prog 42 #[.int .u8 f, .int .u8 0, .bool neg] w fun r w' => r = .returned (.tuple #[.agg #[.int .u64 (u : Nat), .int .u64 (v : Nat)], .int .u8 5, .int .i64 0]) ∧ Below w.heap.size w w')) (hT : FAt w) : Calls Tryd.prog 17 #[.int .u8 f, .bool neg] w fun r w' => r = .returned (.agg #[.int .u64 (u : Nat), .int .u64 (v : Nat)]) ∧ Below w.heap.size w w' := by
  have FF := box hT
  clear hT
  obtain ⟨Rz_0, B0⟩ := opn1 w (Obj.cells #[.int .u64 0, .int .u64 0] 26)
  go_enter Tryd.func17, Tryd.ntmps17
  go_wp2_with fail
  refine (KI.out _ (fatB FF.out B0)).mono ?_
  rintro r w1 ⟨rfl, b1⟩
  have B1 : Below w.heap.size w w1 := btr B0 b1
  have Rz_1 := heap_of b1 _ _ _ Rz_0
  clear b1 B0 Rz_0
  obtain ⟨cz_1_0, cz_1_1⟩ := cells2s Rz_1
  have S2 := box B1.size
  have Lz_2 : Box (w.heap.size < w1.heap.size) := box (Array.getElem?_eq_some_iff.1 Rz_1).1
  have Ri_2 := heap_alloc_last w1 (Obj.cells #[.int .u64 (u : Nat), .int .u64 (v : Nat)] 26)
  have B2 := btr B1 (bal w1 (Obj.cells #[.int .u64 (u : Nat), .int .u64 (v : Nat)] 26))
  have Rz_2 := heap_of (bal w1 (Obj.cells #[.int .u64 (u : Nat), .int .u64 (v : Nat)] 26)) _ _ _ Rz_1
  clear B1 Rz_1 cz_1_0 cz_1_1
  obtain ⟨cz_2_0, cz_2_1⟩ := cells2s Rz_2
  obtain ⟨ci_2_0, ci_2_1⟩ := cells2s Ri_2
  have q0 := fz (k := 0) Rz_2
  have q1 := fz (k := 1) Rz_2
  obtain ⟨E0, E1⟩ := set2_cells Rz_2 (.int .u64 (u : Nat)) (.int .u64 (v : Nat))
  go_wp2
  exact bodyPost_ret (v := .agg #[.int .u64 (u : Nat), .int .u64 (v : Nat)]) (by simp [results, Tryd.results17, go_sem, E0, E1]) rfl ⟨rfl, set2_below B2 (by first | exact Nat.le_refl _ | omega | (have := S2.out; have := Lz_2.out; omega)) _ _⟩
set_option maxRecDepth 100000 in
set_option maxHeartbeats 4000000 in
theorem op_nan (f : Int) (iu iv a b c u v : Nat) (l o : Bool) (w : World) (KI : Box (∀ w, FAt w → Calls Tryd.prog 17 #[.int .u8 f, .bool false] w fun r w' => r = .returned (.agg #[.int .u64 (iu : Nat), .int .u64 (iv : Nat)]) ∧ Below w.heap.size w w'))
    (KO : Box (∀ w, Calls Tryd.prog 38 #[.agg #[.int .u64 (iu : Nat), .int .u64 (iv : Nat)]] w fun r w' => r = .returned (.agg (cw 6 a)) ∧ Below w.heap.size w w'))
    (KR : Box (∀ w, Calls Tryd.prog 39 #[.agg (cw 6 a), .int .i64 1] w fun r w' => r = .returned (.tuple #[.agg (cw 6 b), .bool l]) ∧ Below w.heap.size w w'))
    (KU : Box (∀ w, Calls Tryd.prog 41 #[.agg (cw 6 a), .agg (cw 6 b)] w fun r w' => r = .returned (.agg (cw 6 c)) ∧ Below w.heap.size w w'))
    (KT : Box (∀ w, Calls Tryd.prog 40 #[.agg (cw 6 c)] w fun r w' => r = .returned (.tuple #[.agg #[.int .u64 (u : Nat), .int .u64 (v : Nat)], .bool o]) ∧ Below w.heap.size w w')) (hT : FAt w) : Calls Tryd.prog 16 #[.int .u8 f] w fun r w' => r = .returned (.agg #[.int .u64 (u : Nat), .int .u64 (v : Nat)]) ∧ Below w.heap.size w w' := by
  have FF := box hT
  clear hT
  have hat := cw_at 6
  have hz := cw6z
  have hff := cw6f
  have hs0 := st0
  have hcs : ∀ x, ((cw 6 x).size = 6) = True := fun x => eq_true (cw_size 6 x)
  obtain ⟨Rz_0, B0⟩ := opn1 w (Obj.cells #[.int .u64 0, .int .u64 0] 26)
  go_enter Tryd.func16, Tryd.ntmps16
  go_wp2_with fail
  refine (KI.out _ (fatB FF.out B0)).mono ?_
  rintro r w1 ⟨rfl, b1⟩
  have B1 : Below w.heap.size w w1 := btr B0 b1
  have Rz_1 := heap_of b1 _ _ _ Rz_0
  clear b1 B0 Rz_0
  obtain ⟨cz_1_0, cz_1_1⟩ := cells2s Rz_1
  go_wp2_with fail
  refine (KO.out _).mono ?_
  rintro r w2 ⟨rfl, b2⟩
  have B2 : Below w.heap.size w w2 := btr B1 b2
  have Rz_2 := heap_of b2 _ _ _ Rz_1
  clear b2 B1 Rz_1 cz_1_0 cz_1_1
  obtain ⟨cz_2_0, cz_2_1⟩ := cells2s Rz_2
  have S3 := box B2.size
  have Lz_3 : Box (w.heap.size < w2.heap.size) := box (Array.getElem?_eq_some_iff.1 Rz_2).1
  have Ra_3 := heap_alloc_last w2 (Obj.cells (cw 6 a) 43)
  have B3 := btr B2 (bal w2 (Obj.cells (cw 6 a) 43))
  have Rz_3 := heap_of (bal w2 (Obj.cells (cw 6 a) 43)) _ _ _ Rz_2
  clear B2 Rz_2 cz_2_0 cz_2_1
  obtain ⟨cz_3_0, cz_3_1⟩ := cells2s Rz_3
  have ca_3_0 := row_cell Ra_3
  go_wp2_with fail
  refine (KR.out _).mono ?_
  rintro r w4 ⟨rfl, b4⟩
  have B4 : Below w.heap.size w w4 := btr B3 b4
  have Rz_4 := heap_of b4 _ _ _ Rz_3
  have Ra_4 := heap_of b4 _ _ _ Ra_3
  clear b4 B3 Rz_3 cz_3_0 cz_3_1 Ra_3 ca_3_0
  obtain ⟨cz_4_0, cz_4_1⟩ := cells2s Rz_4
  have ca_4_0 := row_cell Ra_4
  have S5 := box B4.size
  have Lz_5 : Box (w.heap.size < w4.heap.size) := box (Array.getElem?_eq_some_iff.1 Rz_4).1
  have La_5 : Box (w2.heap.size < w4.heap.size) := box (Array.getElem?_eq_some_iff.1 Ra_4).1
  have Rb_5 := heap_alloc_last w4 (Obj.cells (cw 6 b) 43)
  have B5 := btr B4 (bal w4 (Obj.cells (cw 6 b) 43))
  have Rz_5 := heap_of (bal w4 (Obj.cells (cw 6 b) 43)) _ _ _ Rz_4
  have Ra_5 := heap_of (bal w4 (Obj.cells (cw 6 b) 43)) _ _ _ Ra_4
  clear B4 Rz_4 cz_4_0 cz_4_1 Ra_4 ca_4_0
  obtain ⟨cz_5_0, cz_5_1⟩ := cells2s Rz_5
  have ca_5_0 := row_cell Ra_5
  have cb_5_0 := row_cell Rb_5
  go_wp2_with fail
  refine (KU.out _).mono ?_
  rintro r w6 ⟨rfl, b6⟩
  have B6 : Below w.heap.size w w6 := btr B5 b6
  have Rz_6 := heap_of b6 _ _ _ Rz_5
  have Ra_6 := heap_of b6 _ _ _ Ra_5
  have Rb_6 := heap_of b6 _ _ _ Rb_5
  clear b6 B5 Rz_5 cz_5_0 cz_5_1 Ra_5 ca_5_0 Rb_5 cb_5_0
  obtain ⟨cz_6_0, cz_6_1⟩ := cells2s Rz_6
  have ca_6_0 := row_cell Ra_6
  have cb_6_0 := row_cell Rb_6
  go_wp2_with fail
  refine (KT.out _).mono ?_
  rintro r w7 ⟨rfl, b7⟩
  have B7 : Below w.heap.size w w7 := btr B6 b7
  have Rz_7 := heap_of b7 _ _ _ Rz_6
  have Ra_7 := heap_of b7 _ _ _ Ra_6
  have Rb_7 := heap_of b7 _ _ _ Rb_6
  clear b7 B6 Rz_6 cz_6_0 cz_6_1 Ra_6 ca_6_0 Rb_6 cb_6_0
  obtain ⟨cz_7_0, cz_7_1⟩ := cells2s Rz_7
  have ca_7_0 := row_cell Ra_7
  have cb_7_0 := row_cell Rb_7
  have S8 := box B7.size
  have Lz_8 : Box (w.heap.size < w7.heap.size) := box (Array.getElem?_eq_some_iff.1 Rz_7).1
  have La_8 : Box (w2.heap.size < w7.heap.size) := box (Array.getElem?_eq_some_iff.1 Ra_7).1
  have Lb_8 : Box (w4.heap.size < w7.heap.size) := box (Array.getElem?_eq_some_iff.1 Rb_7).1
  have Rt_8 := heap_alloc_last w7 (Obj.cells #[.int .u64 (u : Nat), .int .u64 (v : Nat)] 26)
  have B8 := btr B7 (bal w7 (Obj.cells #[.int .u64 (u : Nat), .int .u64 (v : Nat)] 26))
  have Rz_8 := heap_of (bal w7 (Obj.cells #[.int .u64 (u : Nat), .int .u64 (v : Nat)] 26)) _ _ _ Rz_7
  have Ra_8 := heap_of (bal w7 (Obj.cells #[.int .u64 (u : Nat), .int .u64 (v : Nat)] 26)) _ _ _ Ra_7
  have Rb_8 := heap_of (bal w7 (Obj.cells #[.int .u64 (u : Nat), .int .u64 (v : Nat)] 26)) _ _ _ Rb_7
  clear B7 Rz_7 cz_7_0 cz_7_1 Ra_7 ca_7_0 Rb_7 cb_7_0
  obtain ⟨cz_8_0, cz_8_1⟩ := cells2s Rz_8
  have ca_8_0 := row_cell Ra_8
  have cb_8_0 := row_cell Rb_8
  obtain ⟨ct_8_0, ct_8_1⟩ := cells2s Rt_8
  have q0 := fz (k := 0) Rz_8
  have q1 := fz (k := 1) Rz_8
  obtain ⟨E0, E1⟩ := set2_cells Rz_8 (.int .u64 (u : Nat)) (.int .u64 (v : Nat))
  go_wp2
  exact bodyPost_ret (v := .agg #[.int .u64 (u : Nat), .int .u64 (v : Nat)]) (by simp [results, Tryd.results16, go_sem, E0, E1]) rfl ⟨rfl, set2_below B8 (by first | exact Nat.le_refl _ | omega | (have := S3.out; have := Lz_3.out; have := S5.out; have := Lz_5.out; have := La_5.out; have := S8.out; have := Lz_8.out; have := La_8.out; have := Lb_8.out; omega)) _ _⟩
def bls (l : List (Nat × Nat)) : Array Value := (l.flatMap fun p => [Value.int .u64 (p.1 : Nat), Value.int .u64 (p.2 : Nat)]).toArray
def okP (f : Int) (p : Nat × Nat) : Bool := okB f (p.2 + 18446744073709551616 * p.1)
theorem bls_at (l : List (Nat × Nat)) (k : Nat) (p : Nat × Nat) (h : l[k]? = some p) : (bls l)[k * 2]? = some (.int .u64 (p.1 : Nat)) ∧ (bls l)[k * 2 + 1]? = some (.int .u64 (p.2 : Nat)) := by
  unfold bls
  rw [List.getElem?_toArray, List.getElem?_toArray]
  induction l generalizing k with
  | nil => simp at h
  | cons a t ih =>
    cases k with
    | zero =>
      simp at h
      subst h
      simp
    | succ k =>
      simp only [List.getElem?_cons_succ] at h
      have := ih k h
      rw [show (k + 1) * 2 = k * 2 + 1 + 1 by omega]
      simpa using this
theorem bls_cell {w : World} {g : Nat} {T : TypeId} {l : List (Nat × Nat)} (row : w.heap[g]? = some (.cells (bls l) T)) (k : Nat) (p : Nat × Nat) (h : l[k]? = some p) : w.cell? ⟨g, k * 2, none⟩ = some (.int .u64 (p.1 : Nat)) ∧ w.cell? ⟨g, k * 2 + 1, none⟩ = some (.int .u64 (p.2 : Nat)) := by
  obtain ⟨a, b⟩ := bls_at l k p h
  exact ⟨(cell_of_row w g (k * 2) _ _ _ row).trans a, (cell_of_row w g (k * 2 + 1) _ _ _ row).trans b⟩
set_option maxRecDepth 100000 in
set_option maxHeartbeats 8000000 in
theorem op_may_no (f m : Int) (pu pv : Nat) (fl c : Int) (sl : Value) (hc : (c != 0) = true) (w : World)
    (KP : Box (∀ w, FAt w → Calls Tryd.prog 18 #[.int .u8 f, .int .u8 m, .agg (rg false 0 0 false)] w fun r w' => r = .returned (.tuple #[.agg #[.int .u64 (pu : Nat), .int .u64 (pv : Nat)], .int .u8 fl, .int .i64 c]) ∧ Below w.heap.size w w')) (hT : FAt w) : Calls Tryd.prog 12 #[.int .u8 f, .int .u8 m, sl] w fun r w' => r = .returned (.bool false) ∧ Below w.heap.size w w' := by
  have FF := box hT
  clear hT
  have hp3 := rgz
  have B0 : Below w.heap.size w w := (Below.refl _ _)
  go_enter Tryd.func12, Tryd.ntmps12
  go_wp2_with fail
  refine (KP.out _ (fatB FF.out B0)).mono ?_
  rintro r w1 ⟨rfl, b1⟩
  have B1 : Below w.heap.size w w1 := btr B0 b1
  clear b1 B0 
  have S2 := box B1.size
  have Rp_2 := heap_alloc_last w1 (Obj.cells #[.int .u64 (pu : Nat), .int .u64 (pv : Nat)] 26)
  have B2 := btr B1 (bal w1 (Obj.cells #[.int .u64 (pu : Nat), .int .u64 (pv : Nat)] 26))
  clear B1 
  obtain ⟨cp_2_0, cp_2_1⟩ := cells2s Rp_2
  go_wp2
  go_ret
  exact ⟨rfl, B2⟩
theorem kClass_any (f : Int) (hf : Is4 f) (p : Nat × Nat) (h : p.1 < 18446744073709551616 ∧ p.2 < 18446744073709551616) (o : Bool) (ho : okP f p = o) : ∃ (c e : Int), (e != 0) = (!o) ∧ Box (∀ w, FAt w → Calls Tryd.prog 4 #[.int .u8 f, .agg #[.int .u64 (p.1 : Nat), .int .u64 (p.2 : Nat)]] w fun r w' => r = .returned (.tuple #[.int .u8 c, .int .i64 e]) ∧ Below w.heap.size w w') := by
  have h0 : 0 ≤ f ∧ f ≤ 255 := by rcases hf with rfl | rfl | rfl | rfl <;> decide
  cases o
  · exact ⟨0, 2, rfl, box (fun w hT => kClass_no f h0.1 h0.2 p.1 p.2 _ h.1 h.2 rfl ho w hT)⟩
  · exact ⟨_, 0, rfl, box (fun w hT => kClass_yes f hf p.1 p.2 _ _ h.1 h.2 rfl ho rfl w hT)⟩
set_option maxRecDepth 100000 in
set_option maxHeartbeats 8000000 in
theorem op_may (f m : Int) (hf : Is4 f) (l : List (Nat × Nat)) (L g c : Nat) (T : TypeId) (w : World) (hl : l.length = L) (hL : L ≤ 1000) (hb : Box (∀ p ∈ l, p.1 < 18446744073709551616 ∧ p.2 < 18446744073709551616)) (row : w.heap[g]? = some (.cells (bls l) T)) (pu pv : Nat) (fl : Int)
    (KP : Box (∀ w, FAt w → Calls Tryd.prog 18 #[.int .u8 f, .int .u8 m, .agg (rg false 0 0 false)] w fun r w' => r = .returned (.tuple #[.agg #[.int .u64 (pu : Nat), .int .u64 (pv : Nat)], .int .u8 fl, .int .i64 0]) ∧ Below w.heap.size w w'))
    (o : Bool) (ho : l.all (okP f) = o) (hT : FAt w) : Calls Tryd.prog 12 #[.int .u8 f, .int .u8 m, .slice (some ⟨g, 0, none⟩) L c] w fun r w' => r = .returned (.bool o) ∧ Below w.heap.size w w' := by
  have FF := box hT
  have HO := box ho
  have HL := box hl
  have HF := box hf
  clear ho hl hT hf
  have hp3 := rgz
  go_enter Tryd.func12, Tryd.ntmps12
  go_wp2_with fail
  refine (KP.out _ FF.out).mono ?_
  rintro r w1 ⟨rfl, b1⟩
  have BP := btr b1 (bal w1 (.cells #[.int .u64 (pu : Nat), .int .u64 (pv : Nat)] 26))
  obtain ⟨V, hV⟩ : ∃ V, w1.alloc (.cells #[.int .u64 (pu : Nat), .int .u64 (pv : Nat)] 26) = V := ⟨_, rfl⟩
  go_wp2
  rw [hV] at BP
  clear b1 KP hV
  go_loopw [26] (fun iv wr => ∃ k : Nat, k ≤ L ∧ iv = .int .i64 k ∧ Below w.heap.size w wr ∧ Box (∀ j p, j < k → l[j]? = some p → okP f p = true)) (fun iv _ => L - (intOf iv).toNat)
  case atStart => exact ⟨0, by omega, rfl, BP, box (fun j s hj => absurd hj (by omega))⟩
  case round =>
    obtain ⟨k, hk, rfl, bw, HA⟩ := hrel
    by_cases hlt : k < L
    · obtain ⟨p, hs⟩ : ∃ p, l[k]? = some p := ⟨_, List.getElem?_eq_getElem (by rw [HL.out]; exact hlt)⟩
      obtain ⟨c1, c2⟩ := bls_cell (heap_of bw _ _ _ row) k p hs
      have dl : decide ((k : Int) < (L : Int)) = true := decide_eq_true (by omega)
      have HS := box hs
      obtain ⟨o1, hm⟩ : ∃ o1, okP f p = o1 := ⟨_, rfl⟩
      have HM := box hm
      obtain ⟨cc, ee, hee, KC⟩ := kClass_any f HF.out p (hb.out p (List.mem_of_getElem? hs)) o1 hm
      have FA : Box (FAt (wr.alloc (.cells #[.int .u64 (p.1 : Nat), .int .u64 (p.2 : Nat)] 26))) := box (fatB FF.out (btr bw (bal _ _)))
      have BA := btr bw (bal wr (.cells #[.int .u64 (p.1 : Nat), .int .u64 (p.2 : Nat)] 26))
      clear hs hm
      cases o1
      · have e : o = false := by
          rw [← HO.out, Bool.eq_false_iff]
          intro h
          rw [List.all_eq_true] at h
          have := h p (List.mem_of_getElem? HS.out)
          rw [HM.out] at this
          exact absurd this (by decide)
        subst e
        go_wp2_with fail
        refine (KC.out _ FA.out).mono ?_
        rintro r w2 ⟨rfl, b2⟩
        go_wp2
        go_ret
        exact ⟨rfl, btr BA b2⟩
      · have NA : Box (∀ j p, j < k + 1 → l[j]? = some p → okP f p = true) := box (fun j p2 hj h2 => by
          by_cases e : j = k
          · subst e
            rw [HS.out] at h2
            cases h2
            exact HM.out
          · exact HA.out j p2 (by omega) h2)
        go_wp2_with fail
        refine (KC.out _ FA.out).mono ?_
        rintro r w2 ⟨rfl, b2⟩
        go_wp2
        go_roundw
        case rel => exact ⟨k + 1, by omega, by go_num, btr BA b2, NA⟩
        case measure => simp [intOf] <;> omega
    · obtain rfl : k = L := by omega
      have e : o = true := by
        rw [← HO.out, List.all_eq_true]
        intro s hs
        obtain ⟨j, hj⟩ := List.mem_iff_getElem?.1 hs
        have := (List.getElem?_eq_some_iff.1 hj).1
        exact HA.out j s (by rw [← HL.out]; exact this) hj
      subst e
      have dl : decide ((k : Int) < (k : Int)) = false := by rw [decide_eq_false_iff_not]; omega
      go_wp2
      go_ret
      exact ⟨rfl, bw⟩
theorem two_row (x1 y1 x2 y2 : Nat) (T : TypeId) (g : Nat) (w : World) (hg : w.heap.size = g) : (w.alloc (.cells #[.int .u64 (x1 : Nat), .int .u64 (y1 : Nat), .int .u64 (x2 : Nat), .int .u64 (y2 : Nat)] T)).heap[g]? = some (.cells (bls [(x1, y1), (x2, y2)]) T) := by
  rw [← hg]
  exact heap_alloc_last _ _
theorem two_lim {x1 y1 x2 y2 : Nat} (hx1 : x1 < 18446744073709551616) (hy1 : y1 < 18446744073709551616) (hx2 : x2 < 18446744073709551616) (hy2 : y2 < 18446744073709551616) : Box (∀ p ∈ [(x1, y1), (x2, y2)], p.1 < 18446744073709551616 ∧ p.2 < 18446744073709551616) := box (fun p hp => by
  rcases List.mem_cons.1 hp with rfl | h
  · exact ⟨hx1, hy1⟩
  · rcases List.mem_cons.1 h with rfl | h
    · exact ⟨hx2, hy2⟩
    · exact absurd h List.not_mem_nil)
theorem kmay2 (f m : Int) (h0 : 0 ≤ f) (h1 : f ≤ 255) (m0 : 0 ≤ m) (x1 y1 a x2 y2 b : Nat) (hx1 : x1 < 18446744073709551616) (hy1 : y1 < 18446744073709551616) (ha : y1 + 18446744073709551616 * x1 = a) (hx2 : x2 < 18446744073709551616) (hy2 : y2 < 18446744073709551616) (hb : y2 + 18446744073709551616 * x2 = b) (o : Bool) (ho : (decide (f ≤ 3 ∧ m ≤ 4) && okB f a && okB f b) = o) :
    Box (∀ (T : TypeId) (g : Nat) (w : World), w.heap.size = g → FAt w → Calls Tryd.prog 12 #[.int .u8 f, .int .u8 m, .slice (some ⟨g, 0, none⟩) 2 2] (w.alloc (.cells #[.int .u64 (x1 : Nat), .int .u64 (y1 : Nat), .int .u64 (x2 : Nat), .int .u64 (y2 : Nat)] T)) fun r w' => r = .returned (.bool o) ∧ Below w.heap.size w w') := by
  refine box (fun T g w hg hT => ?_)
  have B := (bal w (.cells #[.int .u64 (x1 : Nat), .int .u64 (y1 : Nat), .int .u64 (x2 : Nat), .int .u64 (y2 : Nat)] T))
  have row := two_row x1 y1 x2 y2 T g w hg
  have hT2 := fatB hT B
  by_cases c : f ≤ 3 ∧ m ≤ 4
  · have hf := is4_of h0 c.1
    obtain ⟨u, v, hv⟩ : ∃ u v, bv7 (eZero f false) = (u, v) := ⟨_, _, rfl⟩
    have KP : Box (∀ w, FAt w → Calls Tryd.prog 18 #[.int .u8 f, .int .u8 m, .agg (rg false 0 0 false)] w fun r w' => r = .returned (.tuple #[.agg #[.int .u64 (u : Nat), .int .u64 (v : Nat)], .int .u8 0, .int .i64 0]) ∧ Below w.heap.size w w') := box (fun w hT => kPack_zero f m hf ⟨m0, c.2⟩ false 0 (by decide) (by decide) u v hv w hT)
    refine (op_may f m hf [(x1, y1), (x2, y2)] 2 g 2 T _ rfl (by decide) (two_lim hx1 hy1 hx2 hy2) row u v 0 KP o ?_ hT2).mono fun _ _ ⟨q1, q2⟩ => ⟨q1, btr B q2⟩
    rw [← ho, decide_eq_true c]
    show (okP f (x1, y1) && (okP f (x2, y2) && true)) = _
    unfold okP
    rw [ha, hb, Bool.and_true, Bool.true_and]
  · have e : o = false := by rw [← ho, decide_eq_false c]; rfl
    subst e
    exact (op_may_no f m 0 0 0 2 _ rfl _ (box (fun w hT => kPack_no f m h0 h1 false 0 Q_pos 0 false (fun q => c ⟨q.1, q.2.1⟩) w hT)) hT2).mono fun _ _ ⟨q1, q2⟩ => ⟨q1, btr B q2⟩
end Go.Proofs.YtapikkbifdldfaaDoor
namespace Go.Proofs.YtapikkbifdldfaaDoor
set_option maxRecDepth 100000
set_option maxHeartbeats 40000000
set_option maxRecDepth 100000
open Go.RowKit WMath XMath
set_option linter.unusedSimpArgs false
set_option linter.unusedVariables false
theorem vX_whole {f : Int} (hf : Is4 f) (n : Nat) (h : 0 < kC f n ∧ kC f n < 7) (h2 : ¬ (kC f n = 3 ∨ kC f n = 4)) : kS f n ≠ 0 ∧ kS f n < 2 ^ 128 ∧ vX f n = ⟨kN f n, od (kS f n), 1, kX f n + (tz (kS f n) : Int)⟩ ∧ (vX f n).can := by
  obtain ⟨l1, l2, l3⟩ := kS_lim hf n
  obtain ⟨a, b, d, e⟩ := k_parts (f := f) n (by omega)
  have l4 : kS f n < 2 ^ 128 := l1
  obtain ⟨w1, w2, w3, w4, w5, w6, w7⟩ := x_whole hf (kN f n) (kS f n) (kX f n) e (by have := (blen_iff (kS f n) 128).2 l4; omega) (by omega) (by omega)
  have := vX_mk hf n h
  rw [w1] at this
  injection this with h3 h4
  exact ⟨e, l4, h3.symm, by rw [← h3]; exact w2⟩
theorem ov_inf (f : Int) (neg : Bool) : ovB f 0 neg = eInf f neg := by
  unfold ovB
  rw [if_pos (by unfold gO; rw [if_pos rfl]; rfl)]
theorem nan_or {f : Int} (hf : Is4 f) : eInf f false ||| eInf f false / 2 = eNaN f ∧ eInf f false < 340282366920938463463374607431768211456 ∧ eNaN f < 340282366920938463463374607431768211456 := by
  rcases hf with rfl | rfl | rfl | rfl <;> decide +kernel
theorem kInf_is (f : Int) (hf : Is4 f) (neg : Bool) (u v : Nat) (hv : bv7 (eInf f neg) = (u, v)) (w : World) (hT : FAt w) : Calls Tryd.prog 17 #[.int .u8 f, .bool neg] w fun r w' => r = .returned (.agg #[.int .u64 (u : Nat), .int .u64 (v : Nat)]) ∧ Below w.heap.size w w' :=
  op_inf f neg u v w (box (fun w hT => kover f 0 hf (by decide) neg u v (by rw [ov_inf]; exact hv) w hT)) hT
theorem kNaN_is (f : Int) (hf : Is4 f) (u v : Nat) (hv : bv7 (eNaN f) = (u, v)) (w : World) (hT : FAt w) : Calls Tryd.prog 16 #[.int .u8 f] w fun r w' => r = .returned (.agg #[.int .u64 (u : Nat), .int .u64 (v : Nat)]) ∧ Below w.heap.size w w' := by
  obtain ⟨n1, n2, n3⟩ := nan_or hf
  obtain ⟨iu, iv, hi⟩ : ∃ iu iv, bv7 (eInf f false) = (iu, iv) := ⟨_, _, rfl⟩
  obtain ⟨i1, i2, i3⟩ := bv_lt n2 hi
  obtain ⟨w0, w1⟩ := wd01 n3
  have hQ := lt_Q7 n2
  have hQ2 := lt_Q7 n3
  have hQ3 : eInf f false / 2 < Q := Nat.lt_of_le_of_lt (Nat.div_le_self _ _) hQ
  unfold bv7 at hv
  injection hv with v1 v2
  have KT : Box (∀ w, Calls Tryd.prog 40 #[.agg (cw 6 (eNaN f))] w fun r w' => r = .returned (.tuple #[.agg #[.int .u64 (u : Nat), .int .u64 (v : Nat)], .bool true]) ∧ Below w.heap.size w w') := box (fun w => by
    have := wtobits_yes (eNaN f) hQ2 (by rw [w0, w1]; exact Nat.mod_add_div _ _) w
    rw [w0, w1, v1, v2] at this
    exact this)
  exact op_nan f iu iv _ _ _ u v _ true w (box (fun w hT => kInf_is f hf false iu iv hi w hT)) (box (fun w => wofbits_is iu iv _ i1 i2 i3 w))
    (box (fun w => wright_is (eInf f false) (eInf f false / 2) 1 _ hQ rfl rfl w)) (box (fun w => wor_is _ _ _ hQ hQ3 n1 w)) KT hT
theorem ieq {c : Nat} {k : Int} (h : (c : Int) = k) : ((c : Int) == k) = true := by rw [h]; exact beq_self_eq_true k
theorem ine {c : Nat} {k : Int} (h : (c : Int) ≠ k) : ((c : Int) == k) = false := beq_eq_false_iff_ne.2 h
theorem q256 {s : Nat} (h : s < 2 ^ 256) : s < Q := Nat.lt_of_lt_of_le h (by decide +kernel)
theorem op_plain_e (c : Nat) (KE : Box (∀ w, Calls Tryd.prog 36 #[.int .u8 (c : Nat)] w fun r w' => r = .returned (.bool true) ∧ Below w.heap.size w w')) (w : World) : Calls Tryd.prog 15 #[.int .u8 (c : Nat)] w fun r w' => r = .returned (.int .u8 7) ∧ Below w.heap.size w w' := by
  have B0 : Below w.heap.size w w := (Below.refl _ _)
  go_enter Tryd.func15, Tryd.ntmps15
  go_wp2_with fail
  refine (KE.out _).mono ?_
  rintro r w1 ⟨rfl, b1⟩
  have B1 : Below w.heap.size w w1 := btr B0 b1
  clear b1 B0 
  go_wp2
  go_ret
  exact ⟨rfl, B1⟩
theorem op_plain_z (c : Nat) (KE : Box (∀ w, Calls Tryd.prog 36 #[.int .u8 (c : Nat)] w fun r w' => r = .returned (.bool false) ∧ Below w.heap.size w w')) (KN : Box (∀ w, Calls Tryd.prog 37 #[.int .u8 (c : Nat)] w fun r w' => r = .returned (.bool true) ∧ Below w.heap.size w w')) (w : World) : Calls Tryd.prog 15 #[.int .u8 (c : Nat)] w fun r w' => r = .returned (.int .u8 4) ∧ Below w.heap.size w w' := by
  have B0 : Below w.heap.size w w := (Below.refl _ _)
  go_enter Tryd.func15, Tryd.ntmps15
  go_wp2_with fail
  refine (KE.out _).mono ?_
  rintro r w1 ⟨rfl, b1⟩
  have B1 : Below w.heap.size w w1 := btr B0 b1
  clear b1 B0 
  go_wp2_with fail
  refine (KN.out _).mono ?_
  rintro r w2 ⟨rfl, b2⟩
  have B2 : Below w.heap.size w w2 := btr B1 b2
  clear b2 B1 
  go_wp2
  go_ret
  exact ⟨rfl, B2⟩
theorem op_plain_s (c : Nat) (KE : Box (∀ w, Calls Tryd.prog 36 #[.int .u8 (c : Nat)] w fun r w' => r = .returned (.bool false) ∧ Below w.heap.size w w')) (KN : Box (∀ w, Calls Tryd.prog 37 #[.int .u8 (c : Nat)] w fun r w' => r = .returned (.bool false) ∧ Below w.heap.size w w')) (h8 : ((c : Int) == 8) = true) (w : World) : Calls Tryd.prog 15 #[.int .u8 (c : Nat)] w fun r w' => r = .returned (.int .u8 (c : Nat)) ∧ Below w.heap.size w w' := by
  have B0 : Below w.heap.size w w := (Below.refl _ _)
  go_enter Tryd.func15, Tryd.ntmps15
  go_wp2_with fail
  refine (KE.out _).mono ?_
  rintro r w1 ⟨rfl, b1⟩
  have B1 : Below w.heap.size w w1 := btr B0 b1
  clear b1 B0 
  go_wp2_with fail
  refine (KN.out _).mono ?_
  rintro r w2 ⟨rfl, b2⟩
  have B2 : Below w.heap.size w w2 := btr B1 b2
  clear b2 B1 
  go_wp2
  go_ret
  exact ⟨rfl, B2⟩
theorem op_plain_q (c : Nat) (KE : Box (∀ w, Calls Tryd.prog 36 #[.int .u8 (c : Nat)] w fun r w' => r = .returned (.bool false) ∧ Below w.heap.size w w')) (KN : Box (∀ w, Calls Tryd.prog 37 #[.int .u8 (c : Nat)] w fun r w' => r = .returned (.bool false) ∧ Below w.heap.size w w')) (h8 : ((c : Int) == 8) = false) (h9 : ((c : Int) == 9) = true) (w : World) : Calls Tryd.prog 15 #[.int .u8 (c : Nat)] w fun r w' => r = .returned (.int .u8 (c : Nat)) ∧ Below w.heap.size w w' := by
  have B0 : Below w.heap.size w w := (Below.refl _ _)
  go_enter Tryd.func15, Tryd.ntmps15
  go_wp2_with fail
  refine (KE.out _).mono ?_
  rintro r w1 ⟨rfl, b1⟩
  have B1 : Below w.heap.size w w1 := btr B0 b1
  clear b1 B0 
  go_wp2_with fail
  refine (KN.out _).mono ?_
  rintro r w2 ⟨rfl, b2⟩
  have B2 : Below w.heap.size w w2 := btr B1 b2
  clear b2 B1 
  go_wp2
  go_ret
  exact ⟨rfl, B2⟩
theorem op_plain_f (c : Nat) (KE : Box (∀ w, Calls Tryd.prog 36 #[.int .u8 (c : Nat)] w fun r w' => r = .returned (.bool false) ∧ Below w.heap.size w w')) (KN : Box (∀ w, Calls Tryd.prog 37 #[.int .u8 (c : Nat)] w fun r w' => r = .returned (.bool false) ∧ Below w.heap.size w w')) (h8 : ((c : Int) == 8) = false) (h9 : ((c : Int) == 9) = false) (w : World) : Calls Tryd.prog 15 #[.int .u8 (c : Nat)] w fun r w' => r = .returned (.int .u8 6) ∧ Below w.heap.size w w' := by
  have B0 : Below w.heap.size w w := (Below.refl _ _)
  go_enter Tryd.func15, Tryd.ntmps15
  go_wp2_with fail
  refine (KE.out _).mono ?_
  rintro r w1 ⟨rfl, b1⟩
  have B1 : Below w.heap.size w w1 := btr B0 b1
  clear b1 B0 
  go_wp2_with fail
  refine (KN.out _).mono ?_
  rintro r w2 ⟨rfl, b2⟩
  have B2 : Below w.heap.size w w2 := btr B1 b2
  clear b2 B1 
  go_wp2
  go_ret
  exact ⟨rfl, B2⟩
def plC (c : Nat) : Int := if c = 0 ∨ c = 7 then 7 else if c = 3 ∨ c = 4 then 4 else if c = 8 ∨ c = 9 then (c : Int) else 6
theorem kplain (c : Nat) (hc : c ≤ 9) (p : Int) (hp : plC c = p) : Box (∀ w, Calls Tryd.prog 15 #[.int .u8 (c : Nat)] w fun r w' => r = .returned (.int .u8 p) ∧ Below w.heap.size w w') := by
  have KE : ∀ o, decide (c = 0 ∨ c = 7) = o → Box (∀ w, Calls Tryd.prog 36 #[.int .u8 (c : Nat)] w fun r w' => r = .returned (.bool o) ∧ Below w.heap.size w w') := fun o h => box (fun w => op_endless c o (by rw [← Bool.decide_or]; exact h) w)
  have KN : ∀ o, decide (c = 3 ∨ c = 4) = o → Box (∀ w, Calls Tryd.prog 37 #[.int .u8 (c : Nat)] w fun r w' => r = .returned (.bool o) ∧ Below w.heap.size w w') := fun o h => box (fun w => op_naught c o (by rw [← Bool.decide_or]; exact h) w)
  unfold plC at hp
  by_cases e : c = 0 ∨ c = 7
  · rw [if_pos e] at hp
    subst hp
    exact box (fun w => op_plain_e c (KE true (decide_eq_true e)) w)
  rw [if_neg e] at hp
  have KE := KE false (decide_eq_false e)
  by_cases z : c = 3 ∨ c = 4
  · rw [if_pos z] at hp
    subst hp
    exact box (fun w => op_plain_z c KE (KN true (decide_eq_true z)) w)
  rw [if_neg z] at hp
  have KN := KN false (decide_eq_false z)
  by_cases n : c = 8 ∨ c = 9
  · rw [if_pos n] at hp
    subst hp
    by_cases n8 : c = 8
    · exact box (fun w => op_plain_s c KE KN (ieq (by omega)) w)
    · exact box (fun w => op_plain_q c KE KN (ine (by omega)) (ieq (by omega)) w)
  rw [if_neg n] at hp
  subst hp
  exact box (fun w => op_plain_f c KE KN (ine (by omega)) (ine (by omega)) w)
def kM (f : Int) (n : Nat) : Nat := kE f n * 2 ^ pV f + kT f n
theorem kC_all (f : Int) (n : Nat) : (kE f n = oV f ∧ kT f n = 0 ∧ kC f n = if kN f n then 0 else 7) ∨ (kE f n = oV f ∧ kT f n ≠ 0 ∧ kT f n < 2 ^ (pV f - 1) ∧ kC f n = 8) ∨ (kE f n = oV f ∧ 2 ^ (pV f - 1) ≤ kT f n ∧ kC f n = 9) ∨
    (kE f n < oV f ∧ kE f n ≠ 0 ∧ kC f n = if kN f n then 1 else 6) ∨ (kE f n < oV f ∧ kE f n = 0 ∧ kT f n ≠ 0 ∧ kC f n = if kN f n then 2 else 5) ∨ (kE f n < oV f ∧ kE f n = 0 ∧ kT f n = 0 ∧ kC f n = if kN f n then 3 else 4) := by
  have el := kE_le (f := f) n
  have p := Nat.two_pow_pos (pV f - 1)
  unfold kC
  by_cases c1 : kE f n = oV f
  · by_cases c2 : kT f n = 0
    · left
      refine ⟨c1, c2, ?_⟩
      (repeat' split) <;> first | rfl | omega | simp_all
    · by_cases c3 : kT f n < 2 ^ (pV f - 1)
      · right; left
        refine ⟨c1, c2, c3, ?_⟩
        (repeat' split) <;> first | rfl | omega | simp_all
      · right; right; left
        refine ⟨c1, by omega, ?_⟩
        (repeat' split) <;> first | rfl | omega | simp_all
  · by_cases c2 : kE f n = 0
    · by_cases c3 : kT f n = 0
      · right; right; right; right; right
        refine ⟨by omega, c2, c3, ?_⟩
        (repeat' split) <;> first | rfl | omega | simp_all
      · right; right; right; right; left
        refine ⟨by omega, c2, c3, ?_⟩
        (repeat' split) <;> first | rfl | omega | simp_all
    · right; right; right; left
      refine ⟨by omega, c2, ?_⟩
      (repeat' split) <;> first | rfl | omega | simp_all
theorem cls_sg (f : Int) (n : Nat) : ∃ a1 a2 a3 a4 : Nat, (a1 = 0 ∨ a1 = 7) ∧ (a2 = 1 ∨ a2 = 6) ∧ (a3 = 2 ∨ a3 = 5) ∧ (a4 = 3 ∨ a4 = 4) ∧
    ((kE f n = oV f ∧ kT f n = 0 ∧ kC f n = a1) ∨ (kE f n = oV f ∧ kT f n ≠ 0 ∧ kT f n < 2 ^ (pV f - 1) ∧ kC f n = 8) ∨ (kE f n = oV f ∧ 2 ^ (pV f - 1) ≤ kT f n ∧ kC f n = 9) ∨ (kE f n < oV f ∧ kE f n ≠ 0 ∧ kC f n = a2) ∨ (kE f n < oV f ∧ kE f n = 0 ∧ kT f n ≠ 0 ∧ kC f n = a3) ∨ (kE f n < oV f ∧ kE f n = 0 ∧ kT f n = 0 ∧ kC f n = a4)) :=
  ⟨_, _, _, _, by cases kN f n <;> simp, by cases kN f n <;> simp, by cases kN f n <;> simp, by cases kN f n <;> simp, kC_all f n⟩
theorem kM_zero (f : Int) (n : Nat) (h : kC f n = 3 ∨ kC f n = 4) : kM f n = 0 ∧ kE f n = 0 ∧ kT f n = 0 := by
  obtain ⟨a1, a2, a3, a4, s1, s2, s3, s4, c⟩ := cls_sg f n
  have e : kE f n = 0 ∧ kT f n = 0 := by omega
  exact ⟨by unfold kM; rw [e.1, e.2, Nat.zero_mul], e⟩
theorem rnd_vX {f : Int} (hf : Is4 f) (m : Int) (g : Nat) (hg : kC f g = 1 ∨ kC f g = 2 ∨ kC f g = 5 ∨ kC f g = 6) : (vX f g).can ∧ nl (vX f g).n ≤ 8192 ∧ (vX f g).n ≠ 0 ∧ (vX f g).d = 1 ∧ rnd f m (vX f g) = dlv f m (kN f g) (kX f g + (blen (kS f g) : Int) - 1) (qW (pV f + 1) (kS f g)) (qM (pV f + 1) (kS f g) false) := by
  obtain ⟨a1, a2, a3, a4⟩ := vX_whole hf g (by omega) (by omega)
  obtain ⟨l1, l2, l3⟩ := kS_lim hf g
  obtain ⟨w1, w2, w3, w4, w5, w6, w7⟩ := x_whole hf (kN f g) (kS f g) (kX f g) a1 (by have := (blen_iff (kS f g) 128).2 a2; omega) (by omega) (by omega)
  rw [a3]
  refine ⟨w2, w4, w3, rfl, ?_⟩
  unfold rnd
  rw [if_neg w3, w5, w6, w7]
theorem one_parts {f : Int} (hf : Is4 f) (neg : Bool) : Fit f (eOne f neg) ∧ kN f (eOne f neg) = neg ∧ (kC f (eOne f neg) = 1 ∨ kC f (eOne f neg) = 6) ∧ kS f (eOne f neg) = 2 ^ pV f ∧ kX f (eOne f neg) = -(pV f : Int) := by
  have p := Nat.two_pow_pos (pV f)
  obtain ⟨n1, n2, n3, n4, n5, n6⟩ := nm8 hf
  have fe : 0 < (fE f).toNat ∧ (fE f).toNat < oV f := by
    rcases hf with rfl | rfl | rfl | rfl <;> decide +kernel
  obtain ⟨e1, e2, e3, e4⟩ := enc_k hf neg (e := (fE f).toNat) (t := 0) (by omega) p
  have ez : enc7 f neg (fE f).toNat 0 = eOne f neg := rfl
  rw [ez] at e1 e2 e3 e4
  have c : kC f (eOne f neg) = 1 ∨ kC f (eOne f neg) = 6 := by
    obtain ⟨a1, a2, a3, a4, s1, s2, s3, s4, ca⟩ := cls_sg f (eOne f neg)
    omega
  have k := k_parts (f := f) (eOne f neg) (by omega)
  refine ⟨e1, e2, c, ?_, ?_⟩
  · rw [k.2.1, e3, e4]
    unfold sV
    rw [if_neg (by omega)]
    omega
  · rw [k.2.2.1, e3]
    unfold xV
    rw [if_neg (by omega)]
    unfold lx
    omega
theorem kS_blen {f : Int} (hf : Is4 f) (n : Nat) (h : kC f n = 1 ∨ kC f n = 2 ∨ kC f n = 5 ∨ kC f n = 6) : 1 ≤ blen (kS f n) ∧ blen (kS f n) ≤ 113 := by
  obtain ⟨n1, n2, n3, n4, n5, n6⟩ := nm8 hf
  obtain ⟨k1, k2, k3, k4⟩ := k_parts (f := f) n h
  have t := kT_lt (f := f) n
  have l : kS f n < 2 ^ (pV f + 1) := by
    rw [k2, Nat.pow_succ]
    unfold sV
    split <;> omega
  have := (blen_iff (kS f n) (pV f + 1)).2 l
  have := blen_pos _ k4
  have : pV f ≤ 112 := by rcases hf with rfl | rfl | rfl | rfl <;> decide
  omega
theorem quo_len (A B k : Nat) (A0 : A ≠ 0) (B0 : B ≠ 0) (hk : blen A + k = 115 + blen B) : 115 ≤ blen (A * 2 ^ k / B) ∧ blen (A * 2 ^ k / B) ≤ 116 := by
  have bs := blen_shift A k A0
  obtain ⟨N, hN⟩ : ∃ N, A * 2 ^ k = N := ⟨_, rfl⟩
  rw [hN] at bs ⊢
  have N0 : N ≠ 0 := by rw [← hN]; exact mul_ne A0 (Nat.pos_iff_ne_zero.1 (Nat.two_pow_pos _))
  obtain ⟨c1, c2, c3⟩ := blen_low N N0
  obtain ⟨d1, d2, d3⟩ := blen_low B B0
  have pb : 0 < B := Nat.pos_of_ne_zero B0
  constructor
  · have g : 2 ^ 114 ≤ N / B := by
      rw [Nat.le_div_iff_mul_le pb]
      have : 2 ^ 114 * B ≤ 2 ^ 114 * 2 ^ blen B := Nat.mul_le_mul_left _ (Nat.le_of_lt d3)
      rw [← Nat.pow_add, show 114 + blen B = blen N - 1 by omega] at this
      exact Nat.le_trans this c2
    rcases Nat.lt_or_ge (blen (N / B)) 115 with c | c
    · have := (blen_iff (N / B) 114).1 (by omega)
      omega
    · exact c
  · rw [blen_iff, Nat.div_lt_iff_lt_mul pb]
    have : 2 ^ 116 * 2 ^ (blen B - 1) ≤ 2 ^ 116 * B := Nat.mul_le_mul_left _ d2
    rw [← Nat.pow_add, show 116 + (blen B - 1) = blen N by omega] at this
    exact Nat.lt_of_lt_of_le c3 this
end Go.Proofs.YtapikkbifdldfaaDoor
