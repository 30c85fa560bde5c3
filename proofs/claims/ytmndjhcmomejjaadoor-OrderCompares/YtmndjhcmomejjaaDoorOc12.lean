/-
  What the functions that the statement reaches return: part 12 (SL, O1, D1, O3, A0, A3, A5, A7, H1).
-/
import Derived.Test.YtmndjhcmomejjaaDoorRows
import Derived.OpenShut
import Derived.LaidMore
import Derived.Lib.LaidTab
import Derived.Stop.Joined
import Derived.Test.YtmndjhcmomejjaaDoorOc11
namespace Go.Proofs.YtmndjhcmomejjaaDoor
set_option maxRecDepth 100000
set_option maxHeartbeats 40000000
set_option maxRecDepth 100000
open WMath
open Go.ChangeShapes Go.WideShapes Go.ChangeAt Go.RowKit
theorem trod_row4 {H : Type} {enc : TypeId × Value → H} {P : Program} {w : World} {base : Nat} {spare : Nat → Bool} {held : Bool} {t : TypeId} {f0 f1 f2 f3 : Field} {fuel : Nat} {cs : List Value} {x : DataW H × List MemPlace} (ht : P.underlying t = some (.struct #[f0, f1, f2, f3])) (h : DataW.trod enc P w base spare held fuel t cs = some x) :
    ∃ y0 y1 y2 y3 n, x = (.agg [y0.1, y1.1, y2.1, y3.1], y0.2 ++ (y1.2 ++ (y2.2 ++ y3.2))) ∧ DataW.trod enc P w base spare held n f0.type ((cs.drop f0.offset).take (P.cellsOf f0.type)) = some y0 ∧
      DataW.trod enc P w base spare held n f1.type ((cs.drop f1.offset).take (P.cellsOf f1.type)) = some y1 ∧ DataW.trod enc P w base spare held n f2.type ((cs.drop f2.offset).take (P.cellsOf f2.type)) = some y2 ∧
      DataW.trod enc P w base spare held n f3.type ((cs.drop f3.offset).take (P.cellsOf f3.type)) = some y3 := by
  obtain ⟨xs, n, _, rfl, hl, hlen, hf⟩ := DataW.trod_struct ht h
  match xs, hlen with
  | [y0, y1, y2, y3], _ => exact ⟨y0, y1, y2, y3, n, by simp, by simpa using hf 0 f0 rfl, by simpa using hf 1 f1 rfl, by simpa using hf 2 f2 rfl, by simpa using hf 3 f3 rfl⟩


theorem list4' {α : Type} (l : List α) (h : l.length = 4) : ∃ a b c d, l = [a, b, c, d] := by
  match l, h with
  | [a, b, c, d], _ => exact ⟨a, b, c, d, rfl⟩

theorem row_read {w : World} {fuel : Nat} {enc : TypeId × Value → Unit} {base : Nat} {spare : Nat → Bool} {held : Bool} {l : List Value} {a b c : Int} {s : List UInt8} {p : List MemPlace}
    (h : DataW.trod enc Tryd.prog w base spare held fuel 141 l = some (.agg [.lit (.int .i64 a), .lit (.int .i64 b), .lit (.int .i64 c), .lit (.string s)], p)) (hl : l.length = 4) :
    l = [.int .i64 a, .int .i64 b, .int .i64 c, .string ⟨⟨s⟩⟩] := by
  have h3 : Tryd.prog.cellsOf 3 = 1 := by kernel_rfl
  have h9 : Tryd.prog.cellsOf 9 = 1 := by kernel_rfl
  obtain ⟨c0, c1, c2, c3, rfl⟩ := list4' l hl
  obtain ⟨y0, y1, y2, y3, n, hx, g0, g1, g2, g3⟩ := trod_row4 Tryd.underlying141 h
  simp only [h3, h9] at g0 g1 g2 g3
  obtain ⟨x0, e0, k0, w0⟩ := DataW.trod_int Tryd.underlying3 g0
  obtain ⟨x1, e1, k1, w1⟩ := DataW.trod_int Tryd.underlying3 g1
  obtain ⟨x2, e2, k2, w2⟩ := DataW.trod_int Tryd.underlying3 g2
  obtain ⟨x3, e3, k3, w3⟩ := DataW.trod_string Tryd.underlying9 g3
  simp at e0 e1 e2 e3
  subst e0 e1 e2 e3
  rw [k0, k1, k2, k3] at hx
  simp at hx
  obtain ⟨⟨rfl, rfl, rfl, rfl⟩, _⟩ := hx
  rfl

def laid7 : List (String × DataW Unit) := [("abacus/shape.formats", Rows.laid_abacus_shape_formats)]
theorem gTab7 : Tryd.prog.globalNamed "abacus/shape.formats" = some 0 := by kernel_rfl
theorem gType7 : (Tryd.prog.globals[0]?).map (·.type) = some 157 := by kernel_rfl

theorem of_laid7 {W : World} (h : laidMetH Tryd.prog laid7 W) : FAt W := by
  have hce : Tryd.prog.cellsOf 141 = 4 := by kernel_rfl
  have hct : Tryd.prog.cellsOf 157 = 16 := by kernel_rfl
  rw [MakeChecks.laidMetH_plain _ _ _ (by kernel_rfl)] at h
  obtain ⟨ps, ⟨g', t', cs, fuel, p, q, hg', ht', hvar, hd, _, _⟩, _⟩ := h
  obtain rfl := Option.some.inj (gTab7.symm.trans hg')
  obtain rfl := Option.some.inj (gType7.symm.trans ht')
  obtain ⟨xs, m, rfl, hx, hl, hxl, hel⟩ := DataW.trod_array Tryd.underlying157 hd
  rw [hce] at hel
  rw [hct] at hl
  have hl2 : cs.size = 16 := by simpa using hl
  match xs, hxl with
  | [y0, y1, y2, y3], _ =>
    have hx1 := congrArg Prod.fst hx
    simp [Rows.laid_abacus_shape_formats] at hx1
    obtain ⟨h0, h1, h2, h3⟩ := hx1
    have q0 := hel 0 (by decide)
    have q1 := hel 1 (by decide)
    have q2 := hel 2 (by decide)
    have q3 := hel 3 (by decide)
    simp only [List.getElem?_cons_zero, List.getElem?_cons_succ] at q0 q1 q2 q3
    have z0 := row_read (p := y0.2) (by rw [q0, h0]) (by simp; omega)
    have z1 := row_read (p := y1.2) (by rw [q1, h1]) (by simp; omega)
    have z2 := row_read (p := y2.2) (by rw [q2, h2]) (by simp; omega)
    have z3 := row_read (p := y3.2) (by rw [q3, h3]) (by simp; omega)
    have hcs : ∀ i, i < 16 → cs.toList[i]? = fcells[i]? := by
      intro i hi
      have e0 : cs.toList[i]? = (cs.toList.drop (i / 4 * 4))[i % 4]? := by rw [List.getElem?_drop]; congr 1; omega
      have e1 : (cs.toList.drop (i / 4 * 4))[i % 4]? = ((cs.toList.drop (i / 4 * 4)).take 4)[i % 4]? := by rw [List.getElem?_take, if_pos (by omega)]
      rw [e0, e1]
      have : i / 4 = 0 ∨ i / 4 = 1 ∨ i / 4 = 2 ∨ i / 4 = 3 := by omega
      have hj : i % 4 = 0 ∨ i % 4 = 1 ∨ i % 4 = 2 ∨ i % 4 = 3 := by omega
      have hi2 : i = i / 4 * 4 + i % 4 := by omega
      rcases this with e | e | e | e <;> rw [e] at hi2 ⊢ <;> rcases hj with k | k | k | k <;> rw [k] at hi2 ⊢ <;> subst hi2 <;> first | (rw [z0]; rfl) | (rw [z1]; rfl) | (rw [z2]; rfl) | (rw [z3]; rfl)
    intro i hi
    rw [World.var?_cell gTab7 hvar i, ← hcs i hi]
    simp

theorem door_met7 (os : Os) (args : Array Value) : laidMetH Tryd.prog laid7 ((World.doorLaid Tryd.prog 400 os).forCall (fun _ _ => 0) ⟨#[], args, []⟩).memory :=
  laidMetH_of_parts3 (fuel := 8) (laidMet_of_run' 8 (by kernel_rfl) (by kernel_rfl)) (by kernel_rfl) (by kernel_rfl)
end Go.Proofs.YtmndjhcmomejjaaDoor
namespace Go.Proofs.YtmndjhcmomejjaaDoor
set_option maxRecDepth 100000
set_option maxHeartbeats 40000000
set_option maxRecDepth 100000
open Go.RowKit WMath
set_option linter.unusedSimpArgs false
set_option linter.unusedVariables false
def bls (l : List (Nat × Nat)) : Array Value := (l.flatMap fun p => [Value.int .u64 (p.1 : Nat), Value.int .u64 (p.2 : Nat)]).toArray
def okP (f : Int) (p : Nat × Nat) : Bool := okB f (p.2 + 18446744073709551616 * p.1)
theorem bls_at (l : List (Nat × Nat)) (k : Nat) (p : Nat × Nat) (h : l[k]? = some p) : (bls l)[k * 2]? = some (.int .u64 (p.1 : Nat)) ∧ (bls l)[k * 2 + 1]? = some (.int .u64 (p.2 : Nat)) := by
  unfold bls
  rw [List.getElem?_toArray, List.getElem?_toArray]
  induction l generalizing k with
  | nil => simp at h
  | cons a t ih =>
    cases k with
    | zero =>
      simp at h
      subst h
      simp
    | succ k =>
      simp only [List.getElem?_cons_succ] at h
      have := ih k h
      rw [show (k + 1) * 2 = k * 2 + 1 + 1 by omega]
      simpa using this
theorem bls_cell {w : World} {g : Nat} {T : TypeId} {l : List (Nat × Nat)} (row : w.heap[g]? = some (.cells (bls l) T)) (k : Nat) (p : Nat × Nat) (h : l[k]? = some p) : w.cell? ⟨g, k * 2, none⟩ = some (.int .u64 (p.1 : Nat)) ∧ w.cell? ⟨g, k * 2 + 1, none⟩ = some (.int .u64 (p.2 : Nat)) := by
  obtain ⟨a, b⟩ := bls_at l k p h
  exact ⟨(cell_of_row w g (k * 2) _ _ _ row).trans a, (cell_of_row w g (k * 2 + 1) _ _ _ row).trans b⟩
theorem rSig_is (f : Int) (hf : Is4 f) (x y n c : Nat) (o : Bool) (hx : x < 18446744073709551616) (hy : y < 18446744073709551616) (hn : y + 18446744073709551616 * x = n) (hfit : Fit f n) (hc : kC f n = c) (ho : decide (c = 8) = o) (w : World) : Calls Tryd.prog 35 #[.int .u8 f, .agg #[.int .u64 (x : Nat), .int .u64 (y : Nat)]] w fun r w' => r = .returned (.bool o) ∧ Below w.heap.size w w' := by
  have K1 := box (rk_class f hf x y n c hx hy hn hfit hc)
  have hd : ((c : Int) == 8) = o := by
    rw [← ho]
    by_cases c7 : c = 8
    · rw [decide_eq_true c7, c7]; rfl
    · rw [decide_eq_false c7, beq_eq_false_iff_ne]; omega
  clear hf hx hy hn hfit hc ho
  obtain ⟨Rb_0, B0⟩ := opn1 w (Obj.cells #[.int .u64 (x : Nat), .int .u64 (y : Nat)] 25)
  go_enter Tryd.func35, Tryd.ntmps35
  go_wp2_with fail
  refine (K1.out _).mono ?_
  rintro r w1 ⟨rfl, b1⟩
  have B1 : Below w.heap.size w w1 := btr B0 b1
  have Rb_1 := heap_of b1 _ _ _ Rb_0
  clear b1 B0 Rb_0
  obtain ⟨cb_1_0, cb_1_1⟩ := cells2s Rb_1
  go_wp2
  go_ret
  exact ⟨rfl, B1⟩
theorem rInf_is (f : Int) (hf : Is4 f) (x y n c : Nat) (o : Bool) (hx : x < 18446744073709551616) (hy : y < 18446744073709551616) (hn : y + 18446744073709551616 * x = n) (hfit : Fit f n) (hc : kC f n = c) (ho : (decide (c = 0) || decide (c = 7)) = o) (w : World) : Calls Tryd.prog 52 #[.int .u8 f, .agg #[.int .u64 (x : Nat), .int .u64 (y : Nat)]] w fun r w' => r = .returned (.bool o) ∧ Below w.heap.size w w' := by
  have K1 := box (rk_class f hf x y n c hx hy hn hfit hc)
  clear hf hx hy hn hfit hc
  by_cases c0 : c = 0
  · rw [decide_eq_true c0, Bool.true_or] at ho
    subst ho
    have d0 : ((c : Int) == 0) = true := by rw [c0]; rfl
    clear c0
    obtain ⟨Rb_0, B0⟩ := opn1 w (Obj.cells #[.int .u64 (x : Nat), .int .u64 (y : Nat)] 25)
    go_enter Tryd.func52, Tryd.ntmps52
    go_wp2_with fail
    refine (K1.out _).mono ?_
    rintro r w1 ⟨rfl, b1⟩
    have B1 : Below w.heap.size w w1 := btr B0 b1
    have Rb_1 := heap_of b1 _ _ _ Rb_0
    clear b1 B0 Rb_0
    obtain ⟨cb_1_0, cb_1_1⟩ := cells2s Rb_1
    go_wp2
    go_ret
    exact ⟨rfl, B1⟩
  · rw [decide_eq_false c0, Bool.false_or] at ho
    have d0 : ((c : Int) == 0) = false := by rw [beq_eq_false_iff_ne]; omega
    have d7 : ((c : Int) == 7) = o := by
      rw [← ho]
      by_cases c7 : c = 7
      · rw [decide_eq_true c7, c7]; rfl
      · rw [decide_eq_false c7, beq_eq_false_iff_ne]; omega
    clear ho c0
    obtain ⟨Rb_0, B0⟩ := opn1 w (Obj.cells #[.int .u64 (x : Nat), .int .u64 (y : Nat)] 25)
    go_enter Tryd.func52, Tryd.ntmps52
    go_wp2_with fail
    refine (K1.out _).mono ?_
    rintro r w1 ⟨rfl, b1⟩
    have B1 : Below w.heap.size w w1 := btr B0 b1
    have Rb_1 := heap_of b1 _ _ _ Rb_0
    clear b1 B0 Rb_0
    obtain ⟨cb_1_0, cb_1_1⟩ := cells2s Rb_1
    go_wp2
    go_ret
    exact ⟨rfl, B1⟩
theorem two_row (x1 y1 x2 y2 : Nat) (T : TypeId) (g : Nat) (w : World) (hg : w.heap.size = g) : (w.alloc (.cells #[.int .u64 (x1 : Nat), .int .u64 (y1 : Nat), .int .u64 (x2 : Nat), .int .u64 (y2 : Nat)] T)).heap[g]? = some (.cells (bls [(x1, y1), (x2, y2)]) T) := by
  rw [← hg]
  exact heap_alloc_last _ _
theorem two_lim {x1 y1 x2 y2 : Nat} (hx1 : x1 < 18446744073709551616) (hy1 : y1 < 18446744073709551616) (hx2 : x2 < 18446744073709551616) (hy2 : y2 < 18446744073709551616) : Box (∀ p ∈ [(x1, y1), (x2, y2)], p.1 < 18446744073709551616 ∧ p.2 < 18446744073709551616) := box (fun p hp => by
  rcases List.mem_cons.1 hp with rfl | h
  · exact ⟨hx1, hy1⟩
  · rcases List.mem_cons.1 h with rfl | h
    · exact ⟨hx2, hy2⟩
    · exact absurd h List.not_mem_nil)
end Go.Proofs.YtmndjhcmomejjaaDoor
namespace Go.Proofs.YtmndjhcmomejjaaDoor
set_option maxRecDepth 100000
set_option maxHeartbeats 40000000
set_option maxRecDepth 100000
open Go.RowKit WMath XMath
set_option linter.unusedSimpArgs false
set_option linter.unusedVariables false
def sumN (sa sb : Bool) (X Y n : Nat) : Nat := if sa = sb then X * 2 ^ n + Y else X * 2 ^ n - Y
theorem sum_rat (sa sb : Bool) (X Y n : Nat) (ey : Int) (hg : Y ≤ X * 2 ^ n) : sgn sa * ((X : Rat) / ((1 : Nat) : Rat)) * (2 : Rat) ^ (ey + (n : Int)) + sgn sb * ((Y : Rat) / ((1 : Nat) : Rat)) * (2 : Rat) ^ ey = sgn sa * (((sumN sa sb X Y n : Nat) : Rat) / ((1 : Nat) : Rat)) * (2 : Rat) ^ ey := by
  have one : ∀ z : Rat, z / ((1 : Nat) : Rat) = z := fun z => by
    rw [show ((1 : Nat) : Rat) = 1 from rfl, Rat.div_def, show (1 : Rat)⁻¹ = 1 by decide +kernel, Rat.mul_one]
  rw [one, one, one, p2add, p2nat]
  generalize (2 : Rat) ^ ey = E
  unfold sumN
  by_cases c : sa = sb
  · subst c
    rw [if_pos rfl, Rat.natCast_add, Rat.natCast_mul]
    generalize ((2 ^ n : Nat) : Rat) = H
    grind
  · rw [if_neg c]
    have hs : sgn sb = - sgn sa := by
      unfold sgn
      cases sa <;> cases sb <;> first | exact absurd rfl c | decide +kernel
    have hN : ((X * 2 ^ n - Y : Nat) : Rat) + (Y : Rat) = (X : Rat) * ((2 ^ n : Nat) : Rat) := by
      rw [← Rat.natCast_add, ← Rat.natCast_mul, Nat.sub_add_cancel hg]
    rw [hs]
    generalize ((2 ^ n : Nat) : Rat) = H at *
    generalize ((X * 2 ^ n - Y : Nat) : Rat) = K at *
    grind
theorem bd_whole (b : Bool) (A : Nat) (x : Int) (A0 : A ≠ 0) (hA : A < 2 ^ 128) (x1 : -20000 ≤ x) (x2 : x ≤ 20000) : Bd ⟨b, od A, 1, x + (tz A : Int)⟩ 128 20200 := by
  have tA := tz_blen A
  have bA := (blen_iff A 128).2 hA
  obtain ⟨o1, o2⟩ := od_is A A0
  have le : od A ≤ A := by
    have p := Nat.two_pow_pos (tz A)
    have := Nat.mul_le_mul_left (od A) p
    rw [Nat.mul_one] at this
    omega
  exact ⟨Nat.lt_of_le_of_lt le hA, by show 1 < 2 ^ 128; decide, by show -((20200 : Nat) : Int) ≤ x + (tz A : Int); omega, by show x + (tz A : Int) ≤ ((20200 : Nat) : Int); omega⟩
theorem add_num {f : Int} (hf : Is4 f) (m : Int) (sa sb : Bool) (X Y n : Nat) (ex ey : Int) (X0 : X ≠ 0) (Y0 : Y ≠ 0) (hX : X < 2 ^ 128) (hY : Y < 2 ^ 128) (hn : ex = ey + (n : Int)) (hg : Y ≤ X * 2 ^ n) (x1 : -20000 ≤ ex) (x2 : ex ≤ 20000) (y1 : -20000 ≤ ey) (y2 : ey ≤ 20000) (N : Nat) (hN : sumN sa sb X Y n = N) (N0 : N ≠ 0) :
    ∃ (k : Nat) (e : Int), addX ⟨sa, od X, 1, ex + (tz X : Int)⟩ ⟨sb, od Y, 1, ey + (tz Y : Int)⟩ = (⟨sa, k, 1, e⟩, 0) ∧ addX ⟨sb, od Y, 1, ey + (tz Y : Int)⟩ ⟨sa, od X, 1, ex + (tz X : Int)⟩ = (⟨sa, k, 1, e⟩, 0) ∧ (XN.mk sa k 1 e).can ∧ nl k ≤ 8192 ∧ k ≠ 0 ∧
      rnd f m ⟨sa, k, 1, e⟩ = dlv f m sa (ey + (blen N : Int) - 1) (qW (pV f + 1) N) (qM (pV f + 1) N false) := by
  have bX := (blen_iff X 128).2 hX
  have bY := (blen_iff Y 128).2 hY
  have bN : blen N ≤ 45000 := by
    have : blen N ≤ 128 + n + 1 := by
      apply blen_le_of
      have h1 : X * 2 ^ n < 2 ^ (128 + n) := by rw [Nat.pow_add]; exact (Nat.mul_lt_mul_right (Nat.two_pow_pos n)).2 hX
      have h2 : N ≤ X * 2 ^ n + X * 2 ^ n := by rw [← hN]; unfold sumN; split <;> omega
      rw [Nat.pow_succ]
      omega
    omega
  obtain ⟨w1, w2, w3, w4, w5, w6, w7⟩ := x_whole hf sa N ey N0 bN (by omega) (by omega)
  obtain ⟨u1, u2, u3, u4, u5, u6, u7⟩ := x_whole hf sa X ex X0 (by omega) (by omega) (by omega)
  obtain ⟨v1, v2, v3, v4, v5, v6, v7⟩ := x_whole hf sb Y ey Y0 (by omega) (by omega) (by omega)
  have wv := mk_val sa N 1 ey (by decide) (by rw [w1])
  have uv := mk_val sa X 1 ex (by decide) (by rw [u1])
  have vv := mk_val sb Y 1 ey (by decide) (by rw [v1])
  rw [w1] at wv
  rw [u1] at uv
  rw [v1] at vv
  have sr := sum_rat sa sb X Y n ey hg
  rw [← hn, hN] at sr
  have hv : (XN.mk sa (od X) 1 (ex + (tz X : Int))).val + (XN.mk sb (od Y) 1 (ey + (tz Y : Int))).val = (XN.mk sa (od N) 1 (ey + (tz N : Int))).val := by
    rw [uv, vv, wv]
    exact sr
  have B1 := bd_whole sa X ex X0 hX x1 x2
  have B2 := bd_whole sb Y ey Y0 hY y1 y2
  refine ⟨od N, ey + (tz N : Int), addX_is _ _ _ u2 v2 w2 B1 B2 hv, addX_is _ _ _ v2 u2 w2 B2 B1 (by rw [Rat.add_comm]; exact hv), w2, w4, w3, ?_⟩
  unfold rnd
  rw [if_neg w3, w5, w6, w7]
def kM (f : Int) (n : Nat) : Nat := kE f n * 2 ^ pV f + kT f n
theorem kC_all (f : Int) (n : Nat) : (kE f n = oV f ∧ kT f n = 0 ∧ kC f n = if kN f n then 0 else 7) ∨ (kE f n = oV f ∧ kT f n ≠ 0 ∧ kT f n < 2 ^ (pV f - 1) ∧ kC f n = 8) ∨ (kE f n = oV f ∧ 2 ^ (pV f - 1) ≤ kT f n ∧ kC f n = 9) ∨
    (kE f n < oV f ∧ kE f n ≠ 0 ∧ kC f n = if kN f n then 1 else 6) ∨ (kE f n < oV f ∧ kE f n = 0 ∧ kT f n ≠ 0 ∧ kC f n = if kN f n then 2 else 5) ∨ (kE f n < oV f ∧ kE f n = 0 ∧ kT f n = 0 ∧ kC f n = if kN f n then 3 else 4) := by
  have el := kE_le (f := f) n
  have p := Nat.two_pow_pos (pV f - 1)
  unfold kC
  by_cases c1 : kE f n = oV f
  · by_cases c2 : kT f n = 0
    · left
      refine ⟨c1, c2, ?_⟩
      (repeat' split) <;> first | rfl | omega | simp_all
    · by_cases c3 : kT f n < 2 ^ (pV f - 1)
      · right; left
        refine ⟨c1, c2, c3, ?_⟩
        (repeat' split) <;> first | rfl | omega | simp_all
      · right; right; left
        refine ⟨c1, by omega, ?_⟩
        (repeat' split) <;> first | rfl | omega | simp_all
  · by_cases c2 : kE f n = 0
    · by_cases c3 : kT f n = 0
      · right; right; right; right; right
        refine ⟨by omega, c2, c3, ?_⟩
        (repeat' split) <;> first | rfl | omega | simp_all
      · right; right; right; right; left
        refine ⟨by omega, c2, c3, ?_⟩
        (repeat' split) <;> first | rfl | omega | simp_all
    · right; right; right; left
      refine ⟨by omega, c2, ?_⟩
      (repeat' split) <;> first | rfl | omega | simp_all
theorem kM_ord {f : Int} {g l : Nat} (h : kM f l ≤ kM f g) : kE f l ≤ kE f g ∧ (kE f l = kE f g → kT f l ≤ kT f g) := by
  have t1 := kT_lt (f := f) g
  have t2 := kT_lt (f := f) l
  unfold kM at h
  refine ⟨?_, fun e => by rw [e] at h; omega⟩
  rcases Nat.lt_or_ge (kE f g) (kE f l) with c | c
  · exfalso
    have := Nat.mul_le_mul_right (2 ^ pV f) (show kE f g + 1 ≤ kE f l by omega)
    rw [Nat.add_mul, Nat.one_mul] at this
    omega
  · exact c
theorem cls_sg (f : Int) (n : Nat) : ∃ a1 a2 a3 a4 : Nat, (a1 = 0 ∨ a1 = 7) ∧ (a2 = 1 ∨ a2 = 6) ∧ (a3 = 2 ∨ a3 = 5) ∧ (a4 = 3 ∨ a4 = 4) ∧
    ((kE f n = oV f ∧ kT f n = 0 ∧ kC f n = a1) ∨ (kE f n = oV f ∧ kT f n ≠ 0 ∧ kT f n < 2 ^ (pV f - 1) ∧ kC f n = 8) ∨ (kE f n = oV f ∧ 2 ^ (pV f - 1) ≤ kT f n ∧ kC f n = 9) ∨ (kE f n < oV f ∧ kE f n ≠ 0 ∧ kC f n = a2) ∨ (kE f n < oV f ∧ kE f n = 0 ∧ kT f n ≠ 0 ∧ kC f n = a3) ∨ (kE f n < oV f ∧ kE f n = 0 ∧ kT f n = 0 ∧ kC f n = a4)) :=
  ⟨_, _, _, _, by cases kN f n <;> simp, by cases kN f n <;> simp, by cases kN f n <;> simp, by cases kN f n <;> simp, kC_all f n⟩
theorem kM_inf (f : Int) (n : Nat) (h : kC f n = 0 ∨ kC f n = 7) : kM f n = oV f * 2 ^ pV f ∧ kN f n = decide (kC f n = 0) := by
  obtain ⟨a1, a2, a3, a4, s1, s2, s3, s4, c⟩ := cls_sg f n
  have e : kE f n = oV f ∧ kT f n = 0 := by omega
  refine ⟨by unfold kM; rw [e.1, e.2, Nat.add_zero], ?_⟩
  have d := kC_all f n
  cases hn : kN f n
  · rw [hn] at d
    simp only [Bool.false_eq_true, if_false] at d
    rw [eq_comm, decide_eq_false_iff_not]
    omega
  · rw [hn] at d
    simp only [if_true] at d
    rw [eq_comm, decide_eq_true_iff]
    omega
theorem kM_eq {f : Int} {a b : Nat} (h : kM f a = kM f b) : kE f a = kE f b ∧ kT f a = kT f b := by
  obtain ⟨o1, o2⟩ := kM_ord (f := f) (g := a) (l := b) (by omega)
  obtain ⟨o3, o4⟩ := kM_ord (f := f) (g := b) (l := a) (by omega)
  have e : kE f a = kE f b := by omega
  exact ⟨e, by have := o2 e.symm; have := o4 e; omega⟩
def kG (f : Int) (n : Nat) : Nat := if kE f n = 0 then kT f n else (2 ^ pV f + kT f n) * 2 ^ (kE f n - 1)
theorem kG_lim (f : Int) (n : Nat) : (kE f n = 0 → kG f n < 2 ^ pV f) ∧ (kE f n ≠ 0 → 2 ^ pV f * 2 ^ (kE f n - 1) ≤ kG f n ∧ kG f n < 2 ^ pV f * 2 ^ kE f n) := by
  have t := kT_lt (f := f) n
  unfold kG
  refine ⟨fun h => by rw [if_pos h]; exact t, fun h => ?_⟩
  rw [if_neg h]
  obtain ⟨e, he⟩ : ∃ e, kE f n = e + 1 := ⟨kE f n - 1, by omega⟩
  rw [he, Nat.add_sub_cancel, Nat.pow_succ, Nat.mul_comm (2 ^ e) 2, ← Nat.mul_assoc]
  exact ⟨Nat.mul_le_mul_right _ (Nat.le_add_right _ _), Nat.mul_lt_mul_of_pos_right (by omega) (Nat.two_pow_pos e)⟩
theorem kG_lt {f : Int} {a b : Nat} (h : kM f a < kM f b) : kG f a < kG f b := by
  have p := Nat.two_pow_pos (pV f)
  have ta := kT_lt (f := f) a
  have tb := kT_lt (f := f) b
  obtain ⟨la1, la2⟩ := kG_lim f a
  obtain ⟨lb1, lb2⟩ := kG_lim f b
  rcases Nat.lt_or_ge (kE f a) (kE f b) with c | c
  · have b0 : kE f b ≠ 0 := by omega
    have lb := (lb2 b0).1
    have mono : 2 ^ kE f a ≤ 2 ^ (kE f b - 1) := Nat.pow_le_pow_right (by decide) (by omega)
    have m2 := Nat.mul_le_mul_left (2 ^ pV f) mono
    by_cases a0 : kE f a = 0
    · have l := la1 a0
      rw [a0, Nat.pow_zero, Nat.mul_one] at m2
      omega
    · have l := (la2 a0).2
      omega
  · have o := kM_ord (f := f) (g := b) (l := a) (Nat.le_of_lt h)
    have e : kE f a = kE f b := by omega
    have tt : kT f a < kT f b := by
      rcases Nat.lt_or_ge (kT f a) (kT f b) with q | q
      · exact q
      · have : kM f b ≤ kM f a := by
          unfold kM
          rw [e]
          omega
        omega
    unfold kG
    rw [e]
    split
    · exact tt
    · exact Nat.mul_lt_mul_of_pos_right (by omega) (Nat.two_pow_pos _)
theorem kG_cmp {f : Int} (a b : Nat) : cmpv (kG f a) (kG f b) = cmpv (kM f a) (kM f b) := by
  unfold cmpv
  rcases Nat.lt_trichotomy (kM f a) (kM f b) with c | c | c
  · have := kG_lt c
    rw [if_neg (by omega), if_pos this, if_neg (by omega), if_pos c]
  · have e := kM_eq c
    have : kG f a = kG f b := by unfold kG; rw [e.1, e.2]
    rw [if_pos this, if_pos c]
  · have := kG_lt c
    rw [if_neg (by omega), if_neg (by omega), if_neg (by omega), if_neg (by omega)]
theorem fin_mag {f : Int} (hf : Is4 f) (n : Nat) (fit : Fit f n) (h : 0 < kC f n ∧ kC f n < 7) : (vX f n).can ∧ (vX f n).mag = (kG f n : Rat) * (2 : Rat) ^ (lx f) ∧ Bd (vX f n) 128 20200 ∧ ((vX f n).n = 0 ↔ kM f n = 0) ∧ ((vX f n).n ≠ 0 → (vX f n).b = kN f n) := by
  have el := fin_lt n h
  have tl := kT_lt (f := f) n
  have ke := k_enc hf fit
  have v := vX_enc hf (kN f n) (kE f n) (kT f n) el tl
  rw [ke] at v
  obtain ⟨v1, v2, v3, v4, v5, v6⟩ := v
  have mg : (vX f n).mag = ((sV f (kE f n) (kT f n) : Nat) : Rat) * (2 : Rat) ^ (xV f (kE f n)) := by
    by_cases z : sV f (kE f n) (kT f n) = 0
    · rw [v5 z, mag_zero X0 rfl, z]
      exact (Rat.zero_mul _).symm
    · have b := (v6 z).2
      rw [val_mag, b, Rat.mul_assoc] at v3
      have s2 := sgn_sq (kN f n)
      have := congrArg (sgn (kN f n) * ·) v3
      rw [← Rat.mul_assoc, ← Rat.mul_assoc, s2, Rat.one_mul, Rat.one_mul] at this
      exact this
  have nz : (vX f n).n = 0 ↔ kM f n = 0 := by
    have p := Nat.two_pow_pos (pV f)
    have sz : sV f (kE f n) (kT f n) = 0 ↔ kM f n = 0 := by
      unfold sV kM
      split
      · rename_i e
        rw [e, Nat.zero_mul, Nat.zero_add]
      · rename_i e
        have := Nat.mul_pos (Nat.pos_of_ne_zero e) p
        omega
    constructor
    · intro q
      rcases Nat.eq_zero_or_pos (sV f (kE f n) (kT f n)) with z | z
      · exact sz.1 z
      · exact absurd q (v6 (by omega)).1
    · intro q
      rw [v5 (sz.2 q)]
      rfl
  refine ⟨v2, ?_, v4, nz, fun q => ?_⟩
  · rw [mg]
    unfold sV xV kG
    by_cases e : kE f n = 0
    · rw [if_pos e, if_pos e, if_pos e]
    · rw [if_neg e, if_neg e, if_neg e, show lx f + (kE f n : Int) - 1 = lx f + ((kE f n - 1 : Nat) : Int) by omega, up1]
  · exact (v6 (fun z => q (by rw [v5 z]; rfl))).2
def kv (f : Int) (n : Nat) : Int := if kN f n then -(kM f n : Int) else (kM f n : Int)
def sgI (x : Int) : Int := if x < 0 then -1 else if 0 < x then 1 else 0
theorem fin_cmp {f : Int} (hf : Is4 f) (a b : Nat) (fa : Fit f a) (fb : Fit f b) (ha : 0 < kC f a ∧ kC f a < 7) (hb : 0 < kC f b ∧ kC f b < 7) : cmpX (vX f a) (vX f b) = (sgI (kv f a - kv f b), 0) := by
  obtain ⟨a1, a2, a3, a4, a5⟩ := fin_mag hf a fa ha
  obtain ⟨b1, b2, b3, b4, b5⟩ := fin_mag hf b fb hb
  have ok := cmp_ok (vX f a) (vX f b) 128 128 20200 20200 a3 b3 (by decide)
  have mc := mag_cmp (vX f a) (vX f b) a1.d0 b1.d0
  have sc : cmpR (vX f a).mag (vX f b).mag = cmpv (kM f a) (kM f b) := by
    rw [a2, b2, cmpR_scale _ _ _ (p2 _), cmpR_nat, kG_cmp]
  rw [sc] at mc
  have sa : sg (vX f a) = sgI (kv f a) := by
    unfold sg sgI kv
    by_cases z : (vX f a).n = 0
    · rw [if_pos z, a4.1 z]
      cases kN f a <;> rfl
    · have p : kM f a ≠ 0 := fun q => z (a4.2 q)
      rw [if_neg z, a5 z]
      cases kN f a
      · simp only [Bool.false_eq_true, if_false]
        rw [if_neg (by omega), if_pos (by omega)]
      · simp only [if_true]
        rw [if_pos (by omega)]
  have sb : sg (vX f b) = sgI (kv f b) := by
    unfold sg sgI kv
    by_cases z : (vX f b).n = 0
    · rw [if_pos z, b4.1 z]
      cases kN f b <;> rfl
    · have p : kM f b ≠ 0 := fun q => z (b4.2 q)
      rw [if_neg z, b5 z]
      cases kN f b
      · simp only [Bool.false_eq_true, if_false]
        rw [if_neg (by omega), if_pos (by omega)]
      · simp only [if_true]
        rw [if_pos (by omega)]
  unfold cmpX at ok ⊢
  rw [sa, sb] at ok ⊢
  rw [← mc] at ok ⊢
  by_cases c1 : sgI (kv f a) < sgI (kv f b)
  · rw [if_pos c1]
    congr 1
    unfold sgI at c1 ⊢
    split at c1 <;> split at c1 <;> (try split at c1) <;> (try split at c1) <;> (first | (rw [if_pos (by omega)]) | omega)
  rw [if_neg c1] at ok ⊢
  by_cases c2 : sgI (kv f b) < sgI (kv f a)
  · rw [if_pos c2]
    congr 1
    unfold sgI at c2 ⊢
    split at c2 <;> split at c2 <;> (try split at c2) <;> (try split at c2) <;> (first | (rw [if_neg (by omega), if_pos (by omega)]) | omega)
  rw [if_neg c2] at ok ⊢
  by_cases c3 : sgI (kv f a) = 0
  · rw [if_pos c3]
    congr 1
    have e : sgI (kv f b) = 0 := by omega
    have z1 : kv f a = 0 := by unfold sgI at c3; split at c3 <;> (try split at c3) <;> omega
    have z2 : kv f b = 0 := by unfold sgI at e; split at e <;> (try split at e) <;> omega
    rw [z1, z2]
    rfl
  rw [if_neg c3] at ok ⊢
  split at ok
  · rename_i q
    rw [if_pos q]
    congr 1
    have e : sgI (kv f a) = sgI (kv f b) := by omega
    unfold cmpv
    have ka : kv f a = (kM f a : Int) ∨ kv f a = -(kM f a : Int) := by unfold kv; cases kN f a <;> simp
    have kb : kv f b = (kM f b : Int) ∨ kv f b = -(kM f b : Int) := by unfold kv; cases kN f b <;> simp
    unfold sgI at c3 e ⊢
    by_cases n1 : kv f a < 0
    · rw [if_pos n1] at c3 e ⊢
      have n2 : kv f b < 0 := by split at e <;> (try split at e) <;> omega
      rcases Nat.lt_trichotomy (kM f a) (kM f b) with t | t | t
      · rw [if_neg (by omega), if_pos t, if_neg (by omega), if_pos (by omega)]
        rfl
      · rw [if_pos t, if_neg (by omega), if_neg (by omega)]
        rfl
      · rw [if_neg (by omega), if_neg (by omega), if_pos (by omega)]
        rfl
    · rw [if_neg n1] at c3 e ⊢
      have p1 : 0 < kv f a := by split at c3 <;> omega
      rw [if_pos p1] at e ⊢
      have p2' : 0 < kv f b := by split at e <;> (try split at e) <;> omega
      rcases Nat.lt_trichotomy (kM f a) (kM f b) with t | t | t
      · rw [if_neg (by omega), if_pos t, if_pos (by omega)]
        rfl
      · rw [if_pos t, if_neg (by omega), if_neg (by omega)]
        rfl
      · rw [if_neg (by omega), if_neg (by omega), if_neg (by omega), if_pos (by omega)]
        rfl
  · exact absurd ok (by decide)
def relR (f : Int) (a b : Nat) : Nat := if 8 ≤ kC f a ∨ 8 ≤ kC f b then 0 else if kv f a < kv f b then 1 else if kv f a = kv f b then 2 else 3
def tk (f : Int) (n : Nat) : Int := if kN f n then -(n : Int) else (n : Int)
def totR (f : Int) (a b : Nat) : Int := sgI (tk f a - tk f b)
end Go.Proofs.YtmndjhcmomejjaaDoor
