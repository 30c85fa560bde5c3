/-
  What the functions that the statement reaches return: part 22 (R18, SL, VL).
-/
import Derived.Test.YtbmhfcppaajgbaaGreatDoorRows
import Derived.OpenShut
import Derived.LaidMore
import Derived.Lib.LaidTab
import Derived.Stop.Joined
import Derived.Stop.LaidErr
import Derived.Test.YtbmhfcppaajgbaaGreatDoorRe21
namespace Go.Proofs.YtbmhfcppaajgbaaGreatDoor
set_option maxRecDepth 100000
open Go.RowKit WMath XMath
set_option linter.unusedSimpArgs false
set_option linter.unusedVariables false

theorem fin_lt {f : Int} (n : Nat) (hc : 0 < kC f n ∧ kC f n < 7) : kE f n < oV f := by
  have el := kE_le (f := f) n
  rcases Nat.lt_or_ge (kE f n) (oV f) with c | c
  · exact c
  · exfalso
    have e : kE f n = oV f := by omega
    obtain ⟨h1, h2⟩ := hc
    unfold kC at h1 h2
    rw [if_pos e] at h1 h2
    revert h1 h2
    (repeat' split) <;> omega
theorem nl_bd (x p : Nat) (h : x < 2 ^ p) (hp : p ≤ 65536) : nl x ≤ 8192 := by
  have := (blen_iff x p).2 h
  unfold nl
  omega
theorem own_round {f : Int} (hf : Is4 f) (m : Int) (n : Nat) (fit : Fit f n) (hc : 0 < kC f n ∧ kC f n < 7) : (vX f n).can ∧ nl (vX f n).n ≤ 8192 ∧ nl (vX f n).d ≤ 8192 ∧ (((vX f n).n ≠ 0 ∧ rnd f m (vX f n) = (n, 0)) ∨ (vX f n = X0)) := by
  have el := fin_lt n hc
  have tl := kT_lt (f := f) n
  have ke := k_enc hf fit
  have v := vX_enc hf (kN f n) (kE f n) (kT f n) el tl
  rw [ke] at v
  obtain ⟨v1, v2, v3, v4, v5, v6⟩ := v
  obtain ⟨w1, w2, w3, w4⟩ := v4
  refine ⟨v2, nl_bd _ 128 w1 (by decide), nl_bd _ 128 w2 (by decide), ?_⟩
  by_cases z : sV f (kE f n) (kT f n) = 0
  · exact Or.inr (v5 z)
  · refine Or.inl ⟨(v6 z).1, ?_⟩
    have c4 : ¬ (kC f n = 3 ∨ kC f n = 4) := fun c => by
      have := vX_mk hf n hc
      rw [(k_null n c).1, mk_null] at this
      injection this with h1 h2
      have := (v6 z).1
      rw [← h1] at this
      exact this rfl
    obtain ⟨a, b, d, e⟩ := k_parts (f := f) n (by omega)
    have m1 := vX_mk hf n hc
    have m2 := (val_of hf (kN f n) (kE f n) (kT f n) el tl z).1
    rw [b, d, m2] at m1
    injection m1 with h1 h2
    rw [← h1, rnd_own hf m (kN f n) (kE f n) (kT f n) el tl z, ke]
theorem sqr_same {f : Int} (hf : Is4 f) (m : Int) (b : Bool) (n d : Nat) (e : Int) (hc : (XN.mk b n d e).can) (ln : nl n ≤ 25) (ld : nl d ≤ 25) (e1 : -400000 ≤ e) (e2 : e ≤ 400000) :
    ∃ (S : XN) (M : Nat) (fl : Int), mulX ⟨b, n, d, e⟩ ⟨b, n, d, e⟩ = (S, 0) ∧ S.b = false ∧ S.can ∧ nl S.n ≤ 8192 ∧ nl S.d ≤ 8192 ∧ Rts f m S M fl ∧ rnd f m ⟨false, n, d, e⟩ = (M, fl) := by
  have bn : n < 2 ^ 200 := (blen_iff n 200).1 (by unfold nl at ln; omega)
  have bd : d < 2 ^ 200 := (blen_iff d 200).1 (by unfold nl at ld; omega)
  have B : Bd (XN.mk b n d e) 200 400000 := ⟨bn, bd, e1, e2⟩
  obtain ⟨o1, o2⟩ := mul_ok (XN.mk b n d e) (XN.mk b n d e) 200 200 400000 400000 400 800400 hc hc B B rfl rfl (by decide) (by decide)
  obtain ⟨g1, g2⟩ := mul_good _ _ hc hc o1
  have hab := abs_good _ hc
  obtain ⟨S, hS⟩ : ∃ S, (mulX (XN.mk b n d e) (XN.mk b n d e)).1 = S := ⟨_, rfl⟩
  rw [hS] at o2 g1 g2
  have hmul : mulX (XN.mk b n d e) (XN.mk b n d e) = (S, 0) := by rw [← hS, ← o1]
  obtain ⟨w1, w2, w3, w4⟩ := o2
  have l1 := nl_bd _ 400 w1 (by decide)
  have l2 := nl_bd _ 400 w2 (by decide)
  have ac : (XN.mk false n d e).can := hab.1
  by_cases n0 : n = 0
  · have hz : mulX (XN.mk b n d e) (XN.mk b n d e) = (X0, 0) := by unfold mulX; rw [if_pos (Or.inl n0)]
    rw [hmul] at hz
    injection hz with hz1 hz2
    subst hz1
    refine ⟨X0, 0, 0, hmul, rfl, g1, l1, l2, ?_, ?_⟩
    · unfold Rts; rw [if_pos (show X0.n = 0 from rfl)]; exact ⟨rfl, rfl⟩
    · unfold rnd; rw [if_pos n0]
  · have hmag : S.val = (XN.mk b n d e).mag * (XN.mk b n d e).mag := by
      rw [g2, val_mag]
      have := sgn_sq b
      show sgn b * _ * (sgn b * _) = _
      grind
    have pos := mag_pos (XN.mk b n d e) n0 hc.d0
    have sb : S.b = false := by
      cases hb : S.b
      · rfl
      · exfalso
        rw [val_mag, hb] at hmag
        have sp : 0 ≤ S.mag := by
          by_cases z : S.n = 0
          · rw [mag_zero S z]; exact Rat.le_refl
          · exact Rat.le_of_lt (mag_pos S z g1.d0)
        have pp : 0 < (XN.mk b n d e).mag * (XN.mk b n d e).mag := Rat.mul_pos pos pos
        have sg1 : sgn true = -1 := rfl
        rw [sg1] at hmag
        grind
    have hm : S.mag = (XN.mk false n d e).mag * (XN.mk false n d e).mag := by
      rw [val_mag, sb] at hmag
      have sg0 : sgn false = 1 := rfl
      rw [sg0, Rat.one_mul] at hmag
      exact hmag
    have s0 : S.n ≠ 0 := fun z => by
      rw [mag_zero S z] at hm
      have pp : 0 < (XN.mk false n d e).mag * (XN.mk false n d e).mag := Rat.mul_pos pos pos
      rw [← hm] at pp
      exact absurd pp Rat.lt_irrefl
    obtain ⟨W, more, a1, a2, a3⟩ := fnd_r hf g1 s0 l2
    have tb := top_bd (XN.mk false n d e) 200 400000 ⟨bn, bd, e1, e2⟩
    obtain ⟨q1, q2, q3⟩ := sq_num hf (XN.mk false n d e) S ac g1 n0 s0 (by show nl d ≤ 8192; omega) l2 hm (by omega) W more a2
    refine ⟨S, (rnd f m ⟨false, n, d, e⟩).1, (rnd f m ⟨false, n, d, e⟩).2, hmul, sb, g1, l1, l2, ?_, rfl⟩
    unfold Rts
    rw [if_neg s0]
    refine ⟨W, more, a1, a2, ?_⟩
    unfold rnd
    rw [if_neg (show ¬ (XN.mk false n d e).n = 0 from n0), q1, q2, q3]
end Go.Proofs.YtbmhfcppaajgbaaGreatDoor
namespace Go.Proofs.YtbmhfcppaajgbaaGreatDoor
set_option maxRecDepth 100000
open WMath
open Go.ChangeShapes Go.WideShapes Go.ChangeAt Go.RowKit

theorem trod_row4 {H : Type} {enc : TypeId × Value → H} {P : Program} {w : World} {base : Nat} {spare : Nat → Bool} {held : Bool} {t : TypeId} {f0 f1 f2 f3 : Field} {fuel : Nat} {cs : List Value} {x : DataW H × List MemPlace} (ht : P.underlying t = some (.struct #[f0, f1, f2, f3])) (h : DataW.trod enc P w base spare held fuel t cs = some x) :
    ∃ y0 y1 y2 y3 n, x = (.agg [y0.1, y1.1, y2.1, y3.1], y0.2 ++ (y1.2 ++ (y2.2 ++ y3.2))) ∧ DataW.trod enc P w base spare held n f0.type ((cs.drop f0.offset).take (P.cellsOf f0.type)) = some y0 ∧
      DataW.trod enc P w base spare held n f1.type ((cs.drop f1.offset).take (P.cellsOf f1.type)) = some y1 ∧ DataW.trod enc P w base spare held n f2.type ((cs.drop f2.offset).take (P.cellsOf f2.type)) = some y2 ∧
      DataW.trod enc P w base spare held n f3.type ((cs.drop f3.offset).take (P.cellsOf f3.type)) = some y3 := by
  obtain ⟨xs, n, _, rfl, hl, hlen, hf⟩ := DataW.trod_struct ht h
  match xs, hlen with
  | [y0, y1, y2, y3], _ => exact ⟨y0, y1, y2, y3, n, by simp, by simpa using hf 0 f0 rfl, by simpa using hf 1 f1 rfl, by simpa using hf 2 f2 rfl, by simpa using hf 3 f3 rfl⟩


theorem list4' {α : Type} (l : List α) (h : l.length = 4) : ∃ a b c d, l = [a, b, c, d] := by
  match l, h with
  | [a, b, c, d], _ => exact ⟨a, b, c, d, rfl⟩

theorem row_read {w : World} {fuel : Nat} {enc : TypeId × Value → Unit} {base : Nat} {spare : Nat → Bool} {held : Bool} {l : List Value} {a b c : Int} {s : List UInt8} {p : List MemPlace}
    (h : DataW.trod enc Tryz.prog w base spare held fuel 210 l = some (.agg [.lit (.int .i64 a), .lit (.int .i64 b), .lit (.int .i64 c), .lit (.string s)], p)) (hl : l.length = 4) :
    l = [.int .i64 a, .int .i64 b, .int .i64 c, .string ⟨⟨s⟩⟩] := by
  have h3 : Tryz.prog.cellsOf 3 = 1 := by kernel_rfl
  have h9 : Tryz.prog.cellsOf 9 = 1 := by kernel_rfl
  obtain ⟨c0, c1, c2, c3, rfl⟩ := list4' l hl
  obtain ⟨y0, y1, y2, y3, n, hx, g0, g1, g2, g3⟩ := trod_row4 Tryz.underlying210 h
  simp only [h3, h9] at g0 g1 g2 g3
  obtain ⟨x0, e0, k0, w0⟩ := DataW.trod_int Tryz.underlying3 g0
  obtain ⟨x1, e1, k1, w1⟩ := DataW.trod_int Tryz.underlying3 g1
  obtain ⟨x2, e2, k2, w2⟩ := DataW.trod_int Tryz.underlying3 g2
  obtain ⟨x3, e3, k3, w3⟩ := DataW.trod_string Tryz.underlying9 g3
  simp at e0 e1 e2 e3
  subst e0 e1 e2 e3
  rw [k0, k1, k2, k3] at hx
  simp at hx
  obtain ⟨⟨rfl, rfl, rfl, rfl⟩, _⟩ := hx
  rfl

def laid7 : List (String × DataW Unit) := [("abacus/shape.formats", Rows.laid_abacus_shape_formats)]
theorem gTab7 : Tryz.prog.globalNamed "abacus/shape.formats" = some 0 := by kernel_rfl
theorem gType7 : (Tryz.prog.globals[0]?).map (·.type) = some 265 := by kernel_rfl

theorem of_laid7 {W : World} (h : laidMetH Tryz.prog laid7 W) : FAt W := by
  have hce : Tryz.prog.cellsOf 210 = 4 := by kernel_rfl
  have hct : Tryz.prog.cellsOf 265 = 16 := by kernel_rfl
  rw [MakeChecks.laidMetH_plain _ _ _ (by kernel_rfl)] at h
  obtain ⟨ps, ⟨g', t', cs, fuel, p, q, hg', ht', hvar, hd, _, _⟩, _⟩ := h
  obtain rfl := Option.some.inj (gTab7.symm.trans hg')
  obtain rfl := Option.some.inj (gType7.symm.trans ht')
  obtain ⟨xs, m, rfl, hx, hl, hxl, hel⟩ := DataW.trod_array Tryz.underlying265 hd
  rw [hce] at hel
  rw [hct] at hl
  have hl2 : cs.size = 16 := by simpa using hl
  match xs, hxl with
  | [y0, y1, y2, y3], _ =>
    have hx1 := congrArg Prod.fst hx
    simp [Rows.laid_abacus_shape_formats] at hx1
    obtain ⟨h0, h1, h2, h3⟩ := hx1
    have q0 := hel 0 (by decide)
    have q1 := hel 1 (by decide)
    have q2 := hel 2 (by decide)
    have q3 := hel 3 (by decide)
    simp only [List.getElem?_cons_zero, List.getElem?_cons_succ] at q0 q1 q2 q3
    have z0 := row_read (p := y0.2) (by rw [q0, h0]) (by simp; omega)
    have z1 := row_read (p := y1.2) (by rw [q1, h1]) (by simp; omega)
    have z2 := row_read (p := y2.2) (by rw [q2, h2]) (by simp; omega)
    have z3 := row_read (p := y3.2) (by rw [q3, h3]) (by simp; omega)
    have hcs : ∀ i, i < 16 → cs.toList[i]? = fcells[i]? := by
      intro i hi
      have e0 : cs.toList[i]? = (cs.toList.drop (i / 4 * 4))[i % 4]? := by rw [List.getElem?_drop]; congr 1; omega
      have e1 : (cs.toList.drop (i / 4 * 4))[i % 4]? = ((cs.toList.drop (i / 4 * 4)).take 4)[i % 4]? := by rw [List.getElem?_take, if_pos (by omega)]
      rw [e0, e1]
      have : i / 4 = 0 ∨ i / 4 = 1 ∨ i / 4 = 2 ∨ i / 4 = 3 := by omega
      have hj : i % 4 = 0 ∨ i % 4 = 1 ∨ i % 4 = 2 ∨ i % 4 = 3 := by omega
      have hi2 : i = i / 4 * 4 + i % 4 := by omega
      rcases this with e | e | e | e <;> rw [e] at hi2 ⊢ <;> rcases hj with k | k | k | k <;> rw [k] at hi2 ⊢ <;> subst hi2 <;> first | (rw [z0]; rfl) | (rw [z1]; rfl) | (rw [z2]; rfl) | (rw [z3]; rfl)
    intro i hi
    rw [World.var?_cell gTab7 hvar i, ← hcs i hi]
    simp

end Go.Proofs.YtbmhfcppaajgbaaGreatDoor
namespace Go.Proofs.YtbmhfcppaajgbaaGreatDoor
set_option maxRecDepth 100000
open WMath
open Go.ChangeShapes Go.WideShapes Go.ChangeAt Go.RowKit

def tabZ8 : List Int := [0, 1, 56, 2, 57, 49, 28, 3, 61, 58, 42, 50, 38, 29, 17, 4, 62, 47, 59, 36, 45, 43, 51, 22, 53, 39, 33, 30, 24, 18, 12, 5, 63, 55, 48, 27, 60, 41, 37, 16, 46, 35, 44, 21, 52, 32, 23, 11, 54, 26, 40, 15, 34, 20, 31, 10, 25, 14, 19, 9, 13, 8, 7, 6]
def laid8 : List (String × DataW Unit) := [("math/bits.deBruijn64tab", Rows.laid_math_bits_deBruijn64tab), ("abacus/shape.formats", Rows.laid_abacus_shape_formats)]
theorem gTab8 : Tryz.prog.globalNamed "math/bits.deBruijn64tab" = some 5 := by kernel_rfl
theorem gType8 : (Tryz.prog.globals[5]?).map (·.type) = some 323 := by kernel_rfl
theorem cells58 : Tryz.prog.cellsOf 5 = 1 := by kernel_rfl
theorem cellsT8 : Tryz.prog.cellsOf 323 = 64 := by kernel_rfl
theorem tab_at8 : ∀ i : Fin 64, tabZ8.getD i.val 0 = ((Lib.deBruijn64tab.getD i.val 0 : Nat) : Int) := by decide +kernel

theorem of_laid8 {W : World} (h : laidMetH Tryz.prog laid8 W) : TabAt W ∧ FAt W := by
  rw [MakeChecks.laidMetH_plain _ _ _ (by kernel_rfl)] at h
  have ht := laidMet.tail h
  constructor
  · have h' : laidMet Tryz.prog (("math/bits.deBruijn64tab", Lib.tabData .u8 tabZ8) :: [("abacus/shape.formats", Rows.laid_abacus_shape_formats)]) W := h
    have hT := Lib.tabIs_of_head gTab8 gType8 Tryz.underlying323 Tryz.underlying5 cells58 cellsT8 h'
    intro i hi
    have hc := hT.cell gTab8 i (show i < tabZ8.length from hi)
    rw [tab_at8 ⟨i, hi⟩] at hc
    exact hc
  · refine of_laid7 ?_
    rw [MakeChecks.laidMetH_plain _ _ _ (by kernel_rfl)]
    exact ht

theorem door_met8 (os : Os) (args : Array Value) : laidMetH Tryz.prog laid8 ((World.doorLaid Tryz.prog 400 os).forCall (fun _ _ => 0) ⟨#[], args, []⟩).memory :=
  laidMetH_of_parts3 (fuel := 8) (laidMet_of_run' 8 (by kernel_rfl) (by kernel_rfl)) (by kernel_rfl) (by kernel_rfl)
end Go.Proofs.YtbmhfcppaajgbaaGreatDoor
