/-
  What the functions that the statement reaches return: part 19 (R38, FrameR, SL, VL).
-/
import Derived.Test.YtfmmeifipbpbmaaGreatDoorRows
import Derived.OpenShut
import Derived.LaidMore
import Derived.Lib.LaidTab
import Derived.Stop.Joined
import Derived.Stop.LaidErr
import Derived.Test.YtfmmeifipbpbmaaGreatDoorOb18
namespace Go.Proofs.YtfmmeifipbpbmaaGreatDoor
set_option maxRecDepth 100000
open Go.RowKit WMath XMath
set_option linter.unusedSimpArgs false
set_option linter.unusedVariables false

theorem rule_num (f m : Int) (hf : Is4 f) (hm : 0 ≤ m ∧ m ≤ 4) (neg : Bool) (s : Nat) (hs : s < Q) (s0 : s ≠ 0) (x : Int) (more : Bool) (h1 : -20000 ≤ x) (h2 : x ≤ 20000) (hmore : more = true → pV f + 3 ≤ blen s) (k : Nat) (hk : k = 60) (q : Nat) (hq : q < 2 ^ k) (hqm : decide (q ≠ 0) = more) (S N : Nat) (hS : s * 2 ^ k = S) (hN : S + q = N) :
    ∃ (u v : Nat) (fl : Int) (a : ByteArray) (e : Int), Box (∀ w, FAt w → Calls Tryz.prog 30 #[.int .u8 f, .int .u8 m, .agg (rg neg s x more)] w fun r w' => r = .returned (.tuple #[.agg #[.int .u64 (u : Nat), .int .u64 (v : Nat)], .int .u8 fl, .int .i64 0]) ∧ Below w.heap.size w w') ∧
      Box (∀ w, Calls Tryz.prog 38 #[.bool neg, .string (nbA N), .string ⟨#[1]⟩, .int .i64 (x - 60)] w fun r w' => r = .returned (.tuple #[.agg #[.bool neg, .string a, .string ⟨#[1]⟩, .int .i64 e], .int .i64 0]) ∧ Below w.heap.size w w') ∧
      Box (∀ w, FAt w → TabAt w → Calls Tryz.prog 22 #[.int .u8 f, .int .u8 m, .agg #[.bool neg, .string a, .string ⟨#[1]⟩, .int .i64 e]] w fun r w' => r = .returned (.tuple #[.agg #[.int .u64 (u : Nat), .int .u64 (v : Nat)], .int .u8 fl, .int .i64 0]) ∧ Below w.heap.size w w') ∧ lf s 60 = (nbA S, 0) ∧ lg N = (nbA N, 0) ∧ nl S ≤ 16384 ∧ nl s ≤ 16384 := by
  obtain ⟨Z, hZ, eQ⟩ := Qq384
  have bQ : blen s ≤ Z := blen_le_of s Z (by rw [← eQ]; exact hs)
  have bm := blen_more s k q s0 hq
  have bs := blen_shift s k s0
  rw [hS, hN] at bm
  rw [hS] at bs
  have lN : nl N ≤ 16384 := by unfold nl; omega
  have lS : nl S ≤ 16384 := by unfold nl; omega
  have ls : nl s ≤ 16384 := by unfold nl; omega
  have N0 : N ≠ 0 := by
    have : 0 < s * 2 ^ k := Nat.mul_pos (by omega) (Nat.two_pow_pos k)
    omega
  obtain ⟨q1, q2⟩ := q_more (pV f + 1) s k q s0 hq (fun c => by
    rw [decide_eq_true c] at hqm
    have := hmore hqm.symm
    omega)
  rw [hS, hN] at q1 q2
  rw [hqm] at q2
  have hl : lf s 60 = (nbA S, 0) := by
    unfold lf
    rw [if_neg (by decide), show (60 : Int).toNat = k by omega, hS, lg_fit _ lS]
  clear hS hN
  obtain ⟨x1, x2, x3, x4, x5, x6, x7⟩ := x_whole hf neg N (x - 60) N0 (by omega) (by omega) (by omega)
  obtain ⟨M, fl, hd⟩ : ∃ M fl, dlv f m neg (x + (blen s : Int) - 1) (qW (pV f + 1) s) (qM (pV f + 1) s more) = (M, fl) := ⟨_, _, rfl⟩
  obtain ⟨u, v, hv⟩ : ∃ u v, bv7 M = (u, v) := ⟨_, _, rfl⟩
  obtain ⟨n, hn⟩ : ∃ n, od N = n := ⟨_, rfl⟩
  obtain ⟨e, he⟩ : ∃ e, x - 60 + (tz N : Int) = e := ⟨_, rfl⟩
  obtain ⟨a, ha⟩ : ∃ a, nbA n = a := ⟨_, rfl⟩
  obtain ⟨sN, hsN⟩ : ∃ sN, nbA N = sN := ⟨_, rfl⟩
  rw [hn, he] at x1 x2 x5 x6 x7
  rw [hn] at x3 x4
  have hr : rnd f m ⟨neg, n, 1, e⟩ = (M, fl) := by
    rw [rnd_of f m _ x3, x5, x6, x7, q1, q2, ← hd]
    congr 1
    omega
  have KM : Box (∀ w, Calls Tryz.prog 38 #[.bool neg, .string sN, .string ⟨#[1]⟩, .int .i64 (x - 60)] w fun r w' => r = .returned (.tuple #[.agg #[.bool neg, .string a, .string ⟨#[1]⟩, .int .i64 e], .int .i64 0]) ∧ Below w.heap.size w w') := box (fun w => rmake_ok neg N 1 (x - 60) sN _ neg n 1 e 0 a _ hsN nb1 lN nl_1 (by decide) (by omega) (by omega) x1 ha nb1 w)
  rw [← hsN] at KM
  exact ⟨u, v, fl, a, e, box (fun w hT => kPack_is f m hf hm neg s hs s0 x more (by omega) (by omega) hmore M fl hd u v hv w hT), KM,
    box (fun w hT hT2 => kRound_is f m hf hm neg n 1 a _ e ha nb1 x2 x4 (Nat.le_trans (nl_le_of 1 1 (by decide)) (by decide)) M fl hr u v hv w hT hT2), hl, lg_fit _ lN, lS, ls⟩
end Go.Proofs.YtfmmeifipbpbmaaGreatDoor
namespace Go.Proofs.YtfmmeifipbpbmaaGreatDoor
set_option maxRecDepth 100000
open WMath
open Go.ChangeShapes Go.WideShapes Go.ChangeAt Go.RowKit

def dRg (H : Type) (c : Bool) (s : Nat) (x : Int) (r : Bool) : DataW H := .agg [.lit (.bool c), dW H s, .lit (.int .i64 x), .lit (.bool r)]

theorem trod_st4r {H : Type} {enc : TypeId × Value → H} {P : Program} {w : World} {base : Nat} {spare : Nat → Bool} {held : Bool} {t : TypeId} {f0 f1 f2 f3 : Field} {fuel : Nat} {cs : List Value} {x : DataW H × List MemPlace} (ht : P.underlying t = some (.struct #[f0, f1, f2, f3])) (h : DataW.trod enc P w base spare held fuel t cs = some x) :
    ∃ y0 y1 y2 y3 n, x = (.agg [y0.1, y1.1, y2.1, y3.1], y0.2 ++ (y1.2 ++ (y2.2 ++ y3.2))) ∧ DataW.trod enc P w base spare held n f0.type ((cs.drop f0.offset).take (P.cellsOf f0.type)) = some y0 ∧
      DataW.trod enc P w base spare held n f1.type ((cs.drop f1.offset).take (P.cellsOf f1.type)) = some y1 ∧ DataW.trod enc P w base spare held n f2.type ((cs.drop f2.offset).take (P.cellsOf f2.type)) = some y2 ∧
      DataW.trod enc P w base spare held n f3.type ((cs.drop f3.offset).take (P.cellsOf f3.type)) = some y3 := by
  obtain ⟨xs, n, _, rfl, hl, hlen, hf⟩ := DataW.trod_struct ht h
  match xs, hlen with
  | [y0, y1, y2, y3], _ => exact ⟨y0, y1, y2, y3, n, by simp, by simpa using hf 0 f0 rfl, by simpa using hf 1 f1 rfl, by simpa using hf 2 f2 rfl, by simpa using hf 3 f3 rfl⟩
theorem list9 {α : Type} (l : List α) (h : (⟨l⟩ : Array α).size = 9) : ∃ a0 a1 a2 a3 a4 a5 a6 a7 a8, l = [a0, a1, a2, a3, a4, a5, a6, a7, a8] := by
  match l, h with
  | [a0, a1, a2, a3, a4, a5, a6, a7, a8], _ => exact ⟨a0, a1, a2, a3, a4, a5, a6, a7, a8, rfl⟩
theorem rd6r {H : Type} {enc : TypeId × Value → H} {w : World} {base : Nat} {spare : Nat → Bool} {held : Bool} {fuel : Nat} {c0 c1 c2 c3 c4 c5 : Value} {x : DataW H × List MemPlace}
    (h : DataW.trod enc Tryz.prog w base spare held fuel 62 [c0, c1, c2, c3, c4, c5] = some x) : ∃ n, n < Q ∧ c0 = .int .u64 (wd n 0 : Nat) ∧ c1 = .int .u64 (wd n 1 : Nat) ∧ c2 = .int .u64 (wd n 2 : Nat) ∧ c3 = .int .u64 (wd n 3 : Nat) ∧ c4 = .int .u64 (wd n 4 : Nat) ∧ c5 = .int .u64 (wd n 5 : Nat) ∧ x = (dW H n, []) := by
  obtain ⟨y, m, hx, h0, h1, h2, h3, h4, h5⟩ := trod6 h
  obtain ⟨x0, e0, g0, w0⟩ := DataW.trod_int Tryz.underlying23 h0
  obtain ⟨x1, e1, g1, w1⟩ := DataW.trod_int Tryz.underlying23 h1
  obtain ⟨x2, e2, g2, w2⟩ := DataW.trod_int Tryz.underlying23 h2
  obtain ⟨x3, e3, g3, w3⟩ := DataW.trod_int Tryz.underlying23 h3
  obtain ⟨x4, e4, g4, w4⟩ := DataW.trod_int Tryz.underlying23 h4
  obtain ⟨x5, e5, g5, w5⟩ := DataW.trod_int Tryz.underlying23 h5
  simp at e0 e1 e2 e3 e4 e5
  subst e0 e1 e2 e3 e4 e5
  obtain ⟨a0, b0, rfl⟩ := nat_u64 w0
  obtain ⟨a1, b1, rfl⟩ := nat_u64 w1
  obtain ⟨a2, b2, rfl⟩ := nat_u64 w2
  obtain ⟨a3, b3, rfl⟩ := nat_u64 w3
  obtain ⟨a4, b4, rfl⟩ := nat_u64 w4
  obtain ⟨a5, b5, rfl⟩ := nat_u64 w5
  obtain ⟨n, hn, he⟩ := w6 a0 a1 a2 a3 a4 a5 b0 b1 b2 b3 b4 b5
  rw [cw6] at he
  simp only [Array.mk.injEq, List.cons.injEq, Value.int.injEq, true_and, and_true] at he
  obtain ⟨i0, i1, i2, i3, i4, i5⟩ := he
  refine ⟨n, hn, by rw [i0], by rw [i1], by rw [i2], by rw [i3], by rw [i4], by rw [i5], ?_⟩
  rw [hx, g0, g1, g2, g3, g4, g5]
  unfold dW
  rw [i0, i1, i2, i3, i4, i5]
  rfl
set_option maxRecDepth 100000 in
theorem open_rough {H : Type} {enc : TypeId × Value → H} {w : World} {base b : Nat} {spare : Nat → Bool} {held : Bool} {v : Value} {d : DataW H} {p : List MemPlace}
    (hok : Value.okWide Tryz.prog w .any base 64 v) (h : DataW.Trod enc Tryz.prog w b spare held 64 v d p) : ∃ (c : Bool) (s : Nat) (x : Int) (r : Bool), v = .agg (rg c s x r) ∧ d = dRg H c s x r ∧ p = [] ∧ (s < Q ∧ (Lit.int .i64 x).wf = true) := by
  have hc : Tryz.prog.cellsOf 64 = 9 := by kernel_rfl
  have h1 : Tryz.prog.cellsOf 4 = 1 := by kernel_rfl
  have h2 : Tryz.prog.cellsOf 62 = 6 := by kernel_rfl
  have h3 : Tryz.prog.cellsOf 3 = 1 := by kernel_rfl
  obtain ⟨cs, rfl, hsz⟩ := okWide_struct Tryz.underlying64 hok
  rw [hc] at hsz
  obtain ⟨l⟩ := cs
  obtain ⟨c0, c1, c2, c3, c4, c5, c6, c7, c8, rfl⟩ := list9 l hsz
  obtain ⟨fuel, hf⟩ := h
  obtain ⟨y0, y1, y2, y3, n, hx, g0, g1, g2, g3⟩ := trod_st4r Tryz.underlying64 hf
  simp only [h1, h2, h3] at g0 g1 g2 g3
  simp [Value.cells] at g0 g1 g2 g3
  obtain ⟨x0, e0, k0⟩ := DataW.trod_bool Tryz.underlying4 g0
  obtain ⟨s, ls, a0, a1, a2, a3, a4, a5, k1⟩ := rd6r g1
  obtain ⟨x2, e2, k2, w2⟩ := DataW.trod_int Tryz.underlying3 g2
  obtain ⟨x3, e3, k3⟩ := DataW.trod_bool Tryz.underlying4 g3
  simp at e0 e2 e3
  subst e0 e2 e3 a0 a1 a2 a3 a4 a5
  simp only [Prod.mk.injEq] at hx
  refine ⟨x0, s, x2, x3, rfl, ?_, ?_, ls, w2⟩
  · rw [hx.1, k0, k1, k2, k3]; rfl
  · rw [hx.2, k0, k1, k2, k3]; rfl
set_option maxRecDepth 100000 in
theorem shut_rough {H : Type} {enc : TypeId × Value → H} {w : World} {b : Nat} {spare : Nat → Bool} {held : Bool} {c : Bool} {s : Nat} {x : Int} {r : Bool} (h : s < Q ∧ (Lit.int .i64 x).wf = true) : DataW.Trod enc Tryz.prog w b spare held 64 (.agg (rg c s x r)) (dRg H c s x r) [] := by
  have hc : Tryz.prog.cellsOf 64 = 9 := by kernel_rfl
  have h1 : Tryz.prog.cellsOf 4 = 1 := by kernel_rfl
  have h2 : Tryz.prog.cellsOf 62 = 6 := by kernel_rfl
  have h3 : Tryz.prog.cellsOf 3 = 1 := by kernel_rfl
  have hce : Tryz.prog.cellsOf 23 = 1 := by kernel_rfl
  have k : ∀ n i, (Lit.int .u64 ((wd n i : Nat) : Int)).wf = true := fun n i => u64_nat _ (wd_lt n i)
  have k2 := h.2
  refine ⟨3, ?_⟩
  simp [DataW.trod, Value.cells, rg, Tryz.underlying64, Tryz.underlying4, Tryz.underlying3, Tryz.underlying62, Tryz.underlying23, hc, h1, h2, h3, hce, k, k2, show List.range 6 = [0, 1, 2, 3, 4, 5] from rfl, dW, dRg]
end Go.Proofs.YtfmmeifipbpbmaaGreatDoor
namespace Go.Proofs.YtfmmeifipbpbmaaGreatDoor
set_option maxRecDepth 100000
open WMath
open Go.ChangeShapes Go.WideShapes Go.ChangeAt Go.RowKit

theorem trod_row4 {H : Type} {enc : TypeId × Value → H} {P : Program} {w : World} {base : Nat} {spare : Nat → Bool} {held : Bool} {t : TypeId} {f0 f1 f2 f3 : Field} {fuel : Nat} {cs : List Value} {x : DataW H × List MemPlace} (ht : P.underlying t = some (.struct #[f0, f1, f2, f3])) (h : DataW.trod enc P w base spare held fuel t cs = some x) :
    ∃ y0 y1 y2 y3 n, x = (.agg [y0.1, y1.1, y2.1, y3.1], y0.2 ++ (y1.2 ++ (y2.2 ++ y3.2))) ∧ DataW.trod enc P w base spare held n f0.type ((cs.drop f0.offset).take (P.cellsOf f0.type)) = some y0 ∧
      DataW.trod enc P w base spare held n f1.type ((cs.drop f1.offset).take (P.cellsOf f1.type)) = some y1 ∧ DataW.trod enc P w base spare held n f2.type ((cs.drop f2.offset).take (P.cellsOf f2.type)) = some y2 ∧
      DataW.trod enc P w base spare held n f3.type ((cs.drop f3.offset).take (P.cellsOf f3.type)) = some y3 := by
  obtain ⟨xs, n, _, rfl, hl, hlen, hf⟩ := DataW.trod_struct ht h
  match xs, hlen with
  | [y0, y1, y2, y3], _ => exact ⟨y0, y1, y2, y3, n, by simp, by simpa using hf 0 f0 rfl, by simpa using hf 1 f1 rfl, by simpa using hf 2 f2 rfl, by simpa using hf 3 f3 rfl⟩


theorem list4' {α : Type} (l : List α) (h : l.length = 4) : ∃ a b c d, l = [a, b, c, d] := by
  match l, h with
  | [a, b, c, d], _ => exact ⟨a, b, c, d, rfl⟩

theorem row_read {w : World} {fuel : Nat} {enc : TypeId × Value → Unit} {base : Nat} {spare : Nat → Bool} {held : Bool} {l : List Value} {a b c : Int} {s : List UInt8} {p : List MemPlace}
    (h : DataW.trod enc Tryz.prog w base spare held fuel 205 l = some (.agg [.lit (.int .i64 a), .lit (.int .i64 b), .lit (.int .i64 c), .lit (.string s)], p)) (hl : l.length = 4) :
    l = [.int .i64 a, .int .i64 b, .int .i64 c, .string ⟨⟨s⟩⟩] := by
  have h3 : Tryz.prog.cellsOf 3 = 1 := by kernel_rfl
  have h9 : Tryz.prog.cellsOf 9 = 1 := by kernel_rfl
  obtain ⟨c0, c1, c2, c3, rfl⟩ := list4' l hl
  obtain ⟨y0, y1, y2, y3, n, hx, g0, g1, g2, g3⟩ := trod_row4 Tryz.underlying205 h
  simp only [h3, h9] at g0 g1 g2 g3
  obtain ⟨x0, e0, k0, w0⟩ := DataW.trod_int Tryz.underlying3 g0
  obtain ⟨x1, e1, k1, w1⟩ := DataW.trod_int Tryz.underlying3 g1
  obtain ⟨x2, e2, k2, w2⟩ := DataW.trod_int Tryz.underlying3 g2
  obtain ⟨x3, e3, k3, w3⟩ := DataW.trod_string Tryz.underlying9 g3
  simp at e0 e1 e2 e3
  subst e0 e1 e2 e3
  rw [k0, k1, k2, k3] at hx
  simp at hx
  obtain ⟨⟨rfl, rfl, rfl, rfl⟩, _⟩ := hx
  rfl

def laid7 : List (String × DataW Unit) := [("abacus/shape.formats", Rows.laid_abacus_shape_formats)]
theorem gTab7 : Tryz.prog.globalNamed "abacus/shape.formats" = some 0 := by kernel_rfl
theorem gType7 : (Tryz.prog.globals[0]?).map (·.type) = some 259 := by kernel_rfl

theorem of_laid7 {W : World} (h : laidMetH Tryz.prog laid7 W) : FAt W := by
  have hce : Tryz.prog.cellsOf 205 = 4 := by kernel_rfl
  have hct : Tryz.prog.cellsOf 259 = 16 := by kernel_rfl
  rw [MakeChecks.laidMetH_plain _ _ _ (by kernel_rfl)] at h
  obtain ⟨ps, ⟨g', t', cs, fuel, p, q, hg', ht', hvar, hd, _, _⟩, _⟩ := h
  obtain rfl := Option.some.inj (gTab7.symm.trans hg')
  obtain rfl := Option.some.inj (gType7.symm.trans ht')
  obtain ⟨xs, m, rfl, hx, hl, hxl, hel⟩ := DataW.trod_array Tryz.underlying259 hd
  rw [hce] at hel
  rw [hct] at hl
  have hl2 : cs.size = 16 := by simpa using hl
  match xs, hxl with
  | [y0, y1, y2, y3], _ =>
    have hx1 := congrArg Prod.fst hx
    simp [Rows.laid_abacus_shape_formats] at hx1
    obtain ⟨h0, h1, h2, h3⟩ := hx1
    have q0 := hel 0 (by decide)
    have q1 := hel 1 (by decide)
    have q2 := hel 2 (by decide)
    have q3 := hel 3 (by decide)
    simp only [List.getElem?_cons_zero, List.getElem?_cons_succ] at q0 q1 q2 q3
    have z0 := row_read (p := y0.2) (by rw [q0, h0]) (by simp; omega)
    have z1 := row_read (p := y1.2) (by rw [q1, h1]) (by simp; omega)
    have z2 := row_read (p := y2.2) (by rw [q2, h2]) (by simp; omega)
    have z3 := row_read (p := y3.2) (by rw [q3, h3]) (by simp; omega)
    have hcs : ∀ i, i < 16 → cs.toList[i]? = fcells[i]? := by
      intro i hi
      have e0 : cs.toList[i]? = (cs.toList.drop (i / 4 * 4))[i % 4]? := by rw [List.getElem?_drop]; congr 1; omega
      have e1 : (cs.toList.drop (i / 4 * 4))[i % 4]? = ((cs.toList.drop (i / 4 * 4)).take 4)[i % 4]? := by rw [List.getElem?_take, if_pos (by omega)]
      rw [e0, e1]
      have : i / 4 = 0 ∨ i / 4 = 1 ∨ i / 4 = 2 ∨ i / 4 = 3 := by omega
      have hj : i % 4 = 0 ∨ i % 4 = 1 ∨ i % 4 = 2 ∨ i % 4 = 3 := by omega
      have hi2 : i = i / 4 * 4 + i % 4 := by omega
      rcases this with e | e | e | e <;> rw [e] at hi2 ⊢ <;> rcases hj with k | k | k | k <;> rw [k] at hi2 ⊢ <;> subst hi2 <;> first | (rw [z0]; rfl) | (rw [z1]; rfl) | (rw [z2]; rfl) | (rw [z3]; rfl)
    intro i hi
    rw [World.var?_cell gTab7 hvar i, ← hcs i hi]
    simp

end Go.Proofs.YtfmmeifipbpbmaaGreatDoor
namespace Go.Proofs.YtfmmeifipbpbmaaGreatDoor
set_option maxRecDepth 100000
open WMath
open Go.ChangeShapes Go.WideShapes Go.ChangeAt Go.RowKit

def tabZ8 : List Int := [0, 1, 56, 2, 57, 49, 28, 3, 61, 58, 42, 50, 38, 29, 17, 4, 62, 47, 59, 36, 45, 43, 51, 22, 53, 39, 33, 30, 24, 18, 12, 5, 63, 55, 48, 27, 60, 41, 37, 16, 46, 35, 44, 21, 52, 32, 23, 11, 54, 26, 40, 15, 34, 20, 31, 10, 25, 14, 19, 9, 13, 8, 7, 6]
def laid8 : List (String × DataW Unit) := [("math/bits.deBruijn64tab", Rows.laid_math_bits_deBruijn64tab), ("abacus/shape.formats", Rows.laid_abacus_shape_formats)]
theorem gTab8 : Tryz.prog.globalNamed "math/bits.deBruijn64tab" = some 5 := by kernel_rfl
theorem gType8 : (Tryz.prog.globals[5]?).map (·.type) = some 328 := by kernel_rfl
theorem cells58 : Tryz.prog.cellsOf 5 = 1 := by kernel_rfl
theorem cellsT8 : Tryz.prog.cellsOf 328 = 64 := by kernel_rfl
theorem tab_at8 : ∀ i : Fin 64, tabZ8.getD i.val 0 = ((Lib.deBruijn64tab.getD i.val 0 : Nat) : Int) := by decide +kernel

theorem of_laid8 {W : World} (h : laidMetH Tryz.prog laid8 W) : TabAt W ∧ FAt W := by
  rw [MakeChecks.laidMetH_plain _ _ _ (by kernel_rfl)] at h
  have ht := laidMet.tail h
  constructor
  · have h' : laidMet Tryz.prog (("math/bits.deBruijn64tab", Lib.tabData .u8 tabZ8) :: [("abacus/shape.formats", Rows.laid_abacus_shape_formats)]) W := h
    have hT := Lib.tabIs_of_head gTab8 gType8 Tryz.underlying328 Tryz.underlying5 cells58 cellsT8 h'
    intro i hi
    have hc := hT.cell gTab8 i (show i < tabZ8.length from hi)
    rw [tab_at8 ⟨i, hi⟩] at hc
    exact hc
  · refine of_laid7 ?_
    rw [MakeChecks.laidMetH_plain _ _ _ (by kernel_rfl)]
    exact ht

theorem door_met8 (os : Os) (args : Array Value) : laidMetH Tryz.prog laid8 ((World.doorLaid Tryz.prog 400 os).forCall (fun _ _ => 0) ⟨#[], args, []⟩).memory :=
  laidMetH_of_parts3 (fuel := 8) (laidMet_of_run' 8 (by kernel_rfl) (by kernel_rfl)) (by kernel_rfl) (by kernel_rfl)
end Go.Proofs.YtfmmeifipbpbmaaGreatDoor
