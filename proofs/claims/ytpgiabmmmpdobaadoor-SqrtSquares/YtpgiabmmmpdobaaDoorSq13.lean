/-
  What the functions that the statement reaches return: part 13 (R16, R18, SL, O1, O2, O3, M0).
-/
import Derived.Test.YtpgiabmmmpdobaaDoorRows
import Derived.OpenShut
import Derived.LaidMore
import Derived.Lib.LaidTab
import Derived.Stop.Joined
import Derived.Test.YtpgiabmmmpdobaaDoorSq12
namespace Go.Proofs.YtpgiabmmmpdobaaDoor
set_option maxRecDepth 100000
set_option maxHeartbeats 40000000
set_option maxRecDepth 100000
open Go.RowKit WMath XMath
set_option linter.unusedSimpArgs false
set_option linter.unusedVariables false
theorem gO_none (m : Int) (neg o : Bool) : gO m neg o false false = false := by
  unfold gO
  split <;> (try split) <;> (try split) <;> (try split) <;> simp
theorem rnd_own {f : Int} (hf : Is4 f) (m : Int) (neg : Bool) (e t : Nat) (he : e < oV f) (ht : t < 2 ^ pV f) (nz : sV f e t ≠ 0) : rnd f m ⟨neg, od (sV f e t), 1, xV f e + (tz (sV f e t) : Int)⟩ = (enc7 f neg e t, 0) := by
  obtain ⟨n1, n2, n3, n4, n5, n6⟩ := nm8 hf
  have p := fp8 hf
  have pp := Nat.two_pow_pos (pV f)
  have oe : (oV f : Int) = 2 * fE f + 1 := by unfold oV; omega
  obtain ⟨S, hS⟩ : ∃ S, sV f e t = S := ⟨_, rfl⟩
  obtain ⟨X, hX⟩ : ∃ X, xV f e = X := ⟨_, rfl⟩
  have vo := (val_of hf neg e t he ht nz).1
  rw [hS, hX] at vo
  rw [hS] at nz ⊢
  rw [hX]
  have sl : S < 2 * 2 ^ pV f := by rw [← hS]; unfold sV; split <;> omega
  obtain ⟨o1, o2⟩ := od_is S nz
  have od0 : od S ≠ 0 := by omega
  have bs : blen S = blen (od S) + tz S := by
    have := blen_shift (od S) (tz S) od0
    rw [← o1] at this
    exact this
  have xl : -20000 ≤ X ∧ X ≤ 20000 := by rw [← hX]; unfold xV; split <;> omega
  have hc : (XN.mk neg (od S) 1 (X + (tz S : Int))).can := by
    have := mk_can neg S 1 X (nl_small hf S (by omega)) nl_1 (by decide) (by rw [vo])
    rw [vo] at this
    exact this
  have tw : topX ⟨neg, od S, 1, X + (tz S : Int)⟩ = (blen S : Int) - 1 + X := by rw [top_whole neg (od S) _ od0]; omega
  obtain ⟨T, hT⟩ : ∃ T, topX ⟨neg, od S, 1, X + (tz S : Int)⟩ = T := ⟨_, rfl⟩
  obtain ⟨q1, q2⟩ := fnd_x hf hc od0 (by show nl 1 ≤ 8192; decide +kernel)
  unfold Fnd at q2
  rw [if_neg (by decide)] at q2
  have tlim := tz_blen S
  have blu : blen S ≤ pV f + 1 := (blen_iff S _).2 (by rw [Nat.pow_succ]; omega)
  have kk : stE f T - T = (dK f T : Int) := by unfold dK stE; omega
  have stx := st_lx hf T
  have sx : stE f T - fP f + 1 = X := by
    rw [hT] at tw
    rw [tw, ← hX]
    unfold stE
    by_cases e0 : e = 0
    · have : blen S ≤ pV f := (blen_iff S _).2 (by rw [← hS]; unfold sV; rw [if_pos e0]; exact ht)
      unfold xV
      rw [if_pos e0]
      omega
    · have : blen S = pV f + 1 := blen_is S (pV f) (by rw [← hS]; unfold sV; rw [if_neg e0]; omega) (by rw [Nat.pow_succ]; omega)
      unfold xV
      rw [if_neg e0]
      omega
  have F := q2.2 (dK f T + 1) (by rw [hT]; omega)
  rw [hT, show T - fP f + ((dK f T + 1 : Nat) : Int) = X by omega, cut_two, ex_is, fl_yes _ X od0 rfl (by show X ≤ X + (tz S : Int); omega) (by omega) (by omega) (by
    show nl (od S * 2 ^ (X + (tz S : Int) - X).toNat) ≤ 16384
    rw [show (X + (tz S : Int) - X).toNat = tz S by omega, ← o1]
    exact nl_small hf S (by omega))] at F
  injection F with F1 F2
  injection F1 with F3 F4
  have F5 : S = rS (xW f ⟨neg, od S, 1, X + (tz S : Int)⟩) (dK f T) := by
    rw [← F3]
    show S = od S * 2 ^ (X + (tz S : Int) - X).toNat
    rw [show (X + (tz S : Int) - X).toNat = tz S by omega, ← o1]
  have hh : rH (xW f ⟨neg, od S, 1, X + (tz S : Int)⟩) (dK f T) = false ∧ rM (xW f ⟨neg, od S, 1, X + (tz S : Int)⟩) (dK f T) (xM f ⟨neg, od S, 1, X + (tz S : Int)⟩) = false := by
    have := F4.symm
    rw [Bool.not_eq_true', Bool.or_eq_false_iff] at this
    exact this
  have hG : rG m neg (xW f ⟨neg, od S, 1, X + (tz S : Int)⟩) (dK f T) (xM f ⟨neg, od S, 1, X + (tz S : Int)⟩) = S := by
    unfold rG
    rw [hh.1, hh.2, gO_none, if_neg (by decide), ← F5]
  have hov : ¬ fE f < stE f T - fP f + (blen S : Int) := by
    rw [hT] at tw
    by_cases e0 : e = 0
    · have : blen S ≤ pV f := (blen_iff S _).2 (by rw [← hS]; unfold sV; rw [if_pos e0]; exact ht)
      unfold xV at hX
      rw [if_pos e0] at hX
      omega
    · unfold xV at hX
      rw [if_neg e0] at hX
      omega
  unfold rnd
  rw [if_neg od0]
  unfold dlv
  rw [hT, hG, if_neg hov, hh.1, hh.2, if_neg (by decide)]
  congr 1
  have hj : (dJ f T : Int) = X - lx f := by omega
  unfold eS enc7
  rw [← hS]
  unfold sV
  unfold xV at hX
  by_cases e0 : e = 0
  · rw [if_pos e0] at hX ⊢
    rw [show dJ f T = 0 by omega, e0]
  · rw [if_neg e0] at hX ⊢
    obtain ⟨k, rfl⟩ : ∃ k, e = k + 1 := ⟨e - 1, by omega⟩
    rw [show dJ f T = k by omega, Nat.add_mul, Nat.one_mul]
    generalize k * 2 ^ pV f = A
    generalize 2 ^ pV f = B
    generalize (if neg = true then 2 ^ wV f else 0) = C
    omega
theorem p2lt (a b : Int) (h : (2 : Rat) ^ a < (2 : Rat) ^ b) : a < b := by
  by_cases c : a < b
  · exact c
  · exact absurd h (Rat.not_lt.2 (p2mono b a (by omega)))
theorem sq_is (r : Nat) (a : Int) : ((r * r : Nat) : Rat) * (2 : Rat) ^ (2 * a) = ((r : Rat) * (2 : Rat) ^ a) * ((r : Rat) * (2 : Rat) ^ a) := by
  rw [show 2 * a = a + a by omega, p2add, Rat.natCast_mul]
  grind
theorem rq_le (u v : Rat) (h0 : 0 ≤ u) (h : u ≤ v) : u * u ≤ v * v := by
  have a := Rat.mul_le_mul_of_nonneg_right h h0
  have b := Rat.mul_le_mul_of_nonneg_left h (show 0 ≤ v by grind)
  grind
theorem rq_lt (u v : Rat) (h0 : 0 ≤ u) (h : u < v) : u * u < v * v := by
  have a := rq_le u v h0 (Rat.le_of_lt h)
  have pv : 0 < v := by grind
  have b := (Rat.mul_lt_mul_right pv).2 h
  have c := Rat.mul_le_mul_of_nonneg_left (Rat.le_of_lt h) h0
  grind
theorem sq_num {f : Int} (hf : Is4 f) (x s : XN) (hx : x.can) (hs : s.can) (n0 : x.n ≠ 0) (s0 : s.n ≠ 0) (hd : nl x.d ≤ 8192) (hds : nl s.d ≤ 8192) (hm : s.mag = x.mag * x.mag) (ht : topX x ≤ 1000000) (W : Nat) (more : Bool) (hR : RtN f s W more) : topX s / 2 = topX x ∧ W = xW f x ∧ more = xM f x := by
  have p := fp8 hf
  have n4 := (nm8 hf).2.2.2.1
  obtain ⟨a1, a2⟩ := top_good x n0 hx.d0
  obtain ⟨c1, c2⟩ := top_good s s0 hs.d0
  obtain ⟨t1, t2⟩ := top_lim hx
  have pos := mag_pos x n0 hx.d0
  have e1 : (2 : Rat) ^ (2 * topX x) ≤ s.mag := by
    rw [hm, show 2 * topX x = topX x + topX x by omega, p2add]
    exact rq_le _ _ (Rat.le_of_lt (p2 _)) a1
  have e2 : s.mag < (2 : Rat) ^ (2 * topX x + 2) := by
    rw [hm, show 2 * topX x + 2 = (topX x + 1) + (topX x + 1) by omega, p2add]
    exact rq_lt _ _ (Rat.le_of_lt pos) a2
  have T1 := p2lt (2 * topX x) (topX s + 1) (by grind)
  have T2 := p2lt (topX s) (2 * topX x + 2) (by grind)
  have TT : topX s / 2 = topX x := by omega
  refine ⟨TT, ?_⟩
  obtain ⟨N, ex, f1, f2, f3⟩ := hR 0 (by omega)
  rw [Nat.pow_zero, Nat.div_one] at f2 f3
  rw [Nat.mod_one, decide_eq_true rfl, Bool.and_true] at f3
  rw [TT, show topX x - fP f + ((0 : Nat) : Int) = topX x - fP f by omega] at f1
  have g := fl_good s (2 * (topX x - fP f)) hs s0 (by rw [f1])
  rw [f1] at g
  have r := rt_good g.1 g.2.1 g.2.2 f2
  have h := fl_good x (topX x - fP f) hx n0 (fl_ok x _ n0 hd (by omega) (by omega) (by omega))
  have nn : ∀ n : Nat, (0 : Rat) ≤ (n : Rat) * (2 : Rat) ^ (topX x - fP f) := fun n => Rat.mul_nonneg (Rat.natCast_nonneg) (Rat.le_of_lt (p2 _))
  have k1 : ((xW f x * 1) * (xW f x * 1) : Nat) = (xW f x * xW f x : Nat) := by rw [Nat.mul_one]
  have := sandwich (fun n => ((n * n : Nat) : Rat) * (2 : Rat) ^ (2 * (topX x - fP f))) (mono2 _) (m' := xW f x) (K := 1) (b' := !xM f x) (by decide) r.1 r.2.1 r.2.2 (by
      show (((xW f x * 1) * (xW f x * 1) : Nat) : Rat) * _ ≤ _
      rw [Nat.mul_one, sq_is, hm]
      exact rq_le _ _ (nn _) h.1) (by
      show _ < ((((xW f x + 1) * 1) * ((xW f x + 1) * 1) : Nat) : Rat) * _
      rw [Nat.mul_one, sq_is, hm]
      exact rq_lt _ _ (Rat.le_of_lt pos) h.2.1) (by
      show (!xM f x) = true ↔ (((xW f x * 1) * (xW f x * 1) : Nat) : Rat) * _ = _
      rw [Nat.mul_one, sq_is, hm]
      have e : (!xM f x) = (flX x (topX x - fP f)).1.2 := by unfold xM; rw [Bool.not_not]
      rw [e, h.2.2]
      constructor
      · intro q
        have q2 : (xW f x : Rat) * (2 : Rat) ^ (topX x - fP f) = x.mag := q
        rw [q2]
      · intro q
        show (xW f x : Rat) * (2 : Rat) ^ (topX x - fP f) = x.mag
        rcases Rat.le_iff_lt_or_eq.1 (show (xW f x : Rat) * (2 : Rat) ^ (topX x - fP f) ≤ x.mag from h.1) with c | c
        · exact absurd (rq_lt _ _ (nn _) c) (by rw [q]; exact Rat.lt_irrefl)
        · exact c)
  obtain ⟨z1, z2⟩ := this
  rw [Nat.div_one] at z1
  rw [Nat.mod_one, decide_eq_true rfl, Bool.and_true, f3] at z2
  refine ⟨z1.symm, ?_⟩
  have z3 := congrArg (fun b => !b) z2
  simpa using z3.symm
theorem fin_lt {f : Int} (n : Nat) (hc : 0 < kC f n ∧ kC f n < 7) : kE f n < oV f := by
  have el := kE_le (f := f) n
  rcases Nat.lt_or_ge (kE f n) (oV f) with c | c
  · exact c
  · exfalso
    have e : kE f n = oV f := by omega
    obtain ⟨h1, h2⟩ := hc
    unfold kC at h1 h2
    rw [if_pos e] at h1 h2
    revert h1 h2
    (repeat' split) <;> omega
theorem nl_bd (x p : Nat) (h : x < 2 ^ p) (hp : p ≤ 65536) : nl x ≤ 8192 := by
  have := (blen_iff x p).2 h
  unfold nl
  omega
theorem own_round {f : Int} (hf : Is4 f) (m : Int) (n : Nat) (fit : Fit f n) (hc : 0 < kC f n ∧ kC f n < 7) : (vX f n).can ∧ nl (vX f n).n ≤ 8192 ∧ nl (vX f n).d ≤ 8192 ∧ (((vX f n).n ≠ 0 ∧ rnd f m (vX f n) = (n, 0)) ∨ (vX f n = X0)) := by
  have el := fin_lt n hc
  have tl := kT_lt (f := f) n
  have ke := k_enc hf fit
  have v := vX_enc hf (kN f n) (kE f n) (kT f n) el tl
  rw [ke] at v
  obtain ⟨v1, v2, v3, v4, v5, v6⟩ := v
  obtain ⟨w1, w2, w3, w4⟩ := v4
  refine ⟨v2, nl_bd _ 128 w1 (by decide), nl_bd _ 128 w2 (by decide), ?_⟩
  by_cases z : sV f (kE f n) (kT f n) = 0
  · exact Or.inr (v5 z)
  · refine Or.inl ⟨(v6 z).1, ?_⟩
    have c4 : ¬ (kC f n = 3 ∨ kC f n = 4) := fun c => by
      have := vX_mk hf n hc
      rw [(k_null n c).1, mk_null] at this
      injection this with h1 h2
      have := (v6 z).1
      rw [← h1] at this
      exact this rfl
    obtain ⟨a, b, d, e⟩ := k_parts (f := f) n (by omega)
    have m1 := vX_mk hf n hc
    have m2 := (val_of hf (kN f n) (kE f n) (kT f n) el tl z).1
    rw [b, d, m2] at m1
    injection m1 with h1 h2
    rw [← h1, rnd_own hf m (kN f n) (kE f n) (kT f n) el tl z, ke]
end Go.Proofs.YtpgiabmmmpdobaaDoor
namespace Go.Proofs.YtpgiabmmmpdobaaDoor
set_option maxRecDepth 100000
set_option maxHeartbeats 40000000
set_option maxRecDepth 100000
open WMath
open Go.ChangeShapes Go.WideShapes Go.ChangeAt Go.RowKit
theorem trod_row4 {H : Type} {enc : TypeId × Value → H} {P : Program} {w : World} {base : Nat} {spare : Nat → Bool} {held : Bool} {t : TypeId} {f0 f1 f2 f3 : Field} {fuel : Nat} {cs : List Value} {x : DataW H × List MemPlace} (ht : P.underlying t = some (.struct #[f0, f1, f2, f3])) (h : DataW.trod enc P w base spare held fuel t cs = some x) :
    ∃ y0 y1 y2 y3 n, x = (.agg [y0.1, y1.1, y2.1, y3.1], y0.2 ++ (y1.2 ++ (y2.2 ++ y3.2))) ∧ DataW.trod enc P w base spare held n f0.type ((cs.drop f0.offset).take (P.cellsOf f0.type)) = some y0 ∧
      DataW.trod enc P w base spare held n f1.type ((cs.drop f1.offset).take (P.cellsOf f1.type)) = some y1 ∧ DataW.trod enc P w base spare held n f2.type ((cs.drop f2.offset).take (P.cellsOf f2.type)) = some y2 ∧
      DataW.trod enc P w base spare held n f3.type ((cs.drop f3.offset).take (P.cellsOf f3.type)) = some y3 := by
  obtain ⟨xs, n, _, rfl, hl, hlen, hf⟩ := DataW.trod_struct ht h
  match xs, hlen with
  | [y0, y1, y2, y3], _ => exact ⟨y0, y1, y2, y3, n, by simp, by simpa using hf 0 f0 rfl, by simpa using hf 1 f1 rfl, by simpa using hf 2 f2 rfl, by simpa using hf 3 f3 rfl⟩


theorem list4' {α : Type} (l : List α) (h : l.length = 4) : ∃ a b c d, l = [a, b, c, d] := by
  match l, h with
  | [a, b, c, d], _ => exact ⟨a, b, c, d, rfl⟩

theorem row_read {w : World} {fuel : Nat} {enc : TypeId × Value → Unit} {base : Nat} {spare : Nat → Bool} {held : Bool} {l : List Value} {a b c : Int} {s : List UInt8} {p : List MemPlace}
    (h : DataW.trod enc Tryd.prog w base spare held fuel 94 l = some (.agg [.lit (.int .i64 a), .lit (.int .i64 b), .lit (.int .i64 c), .lit (.string s)], p)) (hl : l.length = 4) :
    l = [.int .i64 a, .int .i64 b, .int .i64 c, .string ⟨⟨s⟩⟩] := by
  have h3 : Tryd.prog.cellsOf 3 = 1 := by kernel_rfl
  have h9 : Tryd.prog.cellsOf 9 = 1 := by kernel_rfl
  obtain ⟨c0, c1, c2, c3, rfl⟩ := list4' l hl
  obtain ⟨y0, y1, y2, y3, n, hx, g0, g1, g2, g3⟩ := trod_row4 Tryd.underlying94 h
  simp only [h3, h9] at g0 g1 g2 g3
  obtain ⟨x0, e0, k0, w0⟩ := DataW.trod_int Tryd.underlying3 g0
  obtain ⟨x1, e1, k1, w1⟩ := DataW.trod_int Tryd.underlying3 g1
  obtain ⟨x2, e2, k2, w2⟩ := DataW.trod_int Tryd.underlying3 g2
  obtain ⟨x3, e3, k3, w3⟩ := DataW.trod_string Tryd.underlying9 g3
  simp at e0 e1 e2 e3
  subst e0 e1 e2 e3
  rw [k0, k1, k2, k3] at hx
  simp at hx
  obtain ⟨⟨rfl, rfl, rfl, rfl⟩, _⟩ := hx
  rfl

def laid7 : List (String × DataW Unit) := [("abacus/shape.formats", Rows.laid_abacus_shape_formats)]
theorem gTab7 : Tryd.prog.globalNamed "abacus/shape.formats" = some 0 := by kernel_rfl
theorem gType7 : (Tryd.prog.globals[0]?).map (·.type) = some 112 := by kernel_rfl

theorem of_laid7 {W : World} (h : laidMetH Tryd.prog laid7 W) : FAt W := by
  have hce : Tryd.prog.cellsOf 94 = 4 := by kernel_rfl
  have hct : Tryd.prog.cellsOf 112 = 16 := by kernel_rfl
  rw [MakeChecks.laidMetH_plain _ _ _ (by kernel_rfl)] at h
  obtain ⟨ps, ⟨g', t', cs, fuel, p, q, hg', ht', hvar, hd, _, _⟩, _⟩ := h
  obtain rfl := Option.some.inj (gTab7.symm.trans hg')
  obtain rfl := Option.some.inj (gType7.symm.trans ht')
  obtain ⟨xs, m, rfl, hx, hl, hxl, hel⟩ := DataW.trod_array Tryd.underlying112 hd
  rw [hce] at hel
  rw [hct] at hl
  have hl2 : cs.size = 16 := by simpa using hl
  match xs, hxl with
  | [y0, y1, y2, y3], _ =>
    have hx1 := congrArg Prod.fst hx
    simp [Rows.laid_abacus_shape_formats] at hx1
    obtain ⟨h0, h1, h2, h3⟩ := hx1
    have q0 := hel 0 (by decide)
    have q1 := hel 1 (by decide)
    have q2 := hel 2 (by decide)
    have q3 := hel 3 (by decide)
    simp only [List.getElem?_cons_zero, List.getElem?_cons_succ] at q0 q1 q2 q3
    have z0 := row_read (p := y0.2) (by rw [q0, h0]) (by simp; omega)
    have z1 := row_read (p := y1.2) (by rw [q1, h1]) (by simp; omega)
    have z2 := row_read (p := y2.2) (by rw [q2, h2]) (by simp; omega)
    have z3 := row_read (p := y3.2) (by rw [q3, h3]) (by simp; omega)
    have hcs : ∀ i, i < 16 → cs.toList[i]? = fcells[i]? := by
      intro i hi
      have e0 : cs.toList[i]? = (cs.toList.drop (i / 4 * 4))[i % 4]? := by rw [List.getElem?_drop]; congr 1; omega
      have e1 : (cs.toList.drop (i / 4 * 4))[i % 4]? = ((cs.toList.drop (i / 4 * 4)).take 4)[i % 4]? := by rw [List.getElem?_take, if_pos (by omega)]
      rw [e0, e1]
      have : i / 4 = 0 ∨ i / 4 = 1 ∨ i / 4 = 2 ∨ i / 4 = 3 := by omega
      have hj : i % 4 = 0 ∨ i % 4 = 1 ∨ i % 4 = 2 ∨ i % 4 = 3 := by omega
      have hi2 : i = i / 4 * 4 + i % 4 := by omega
      rcases this with e | e | e | e <;> rw [e] at hi2 ⊢ <;> rcases hj with k | k | k | k <;> rw [k] at hi2 ⊢ <;> subst hi2 <;> first | (rw [z0]; rfl) | (rw [z1]; rfl) | (rw [z2]; rfl) | (rw [z3]; rfl)
    intro i hi
    rw [World.var?_cell gTab7 hvar i, ← hcs i hi]
    simp

theorem door_met7 (os : Os) (args : Array Value) : laidMetH Tryd.prog laid7 ((World.doorLaid Tryd.prog 400 os).forCall (fun _ _ => 0) ⟨#[], args, []⟩).memory :=
  laidMetH_of_parts3 (fuel := 8) (laidMet_of_run' 8 (by kernel_rfl) (by kernel_rfl)) (by kernel_rfl) (by kernel_rfl)
end Go.Proofs.YtpgiabmmmpdobaaDoor
namespace Go.Proofs.YtpgiabmmmpdobaaDoor
set_option maxRecDepth 100000
set_option maxHeartbeats 40000000
set_option maxRecDepth 100000
open Go.RowKit WMath
set_option linter.unusedSimpArgs false
set_option linter.unusedVariables false
theorem op_endless (c : Nat) (o : Bool) (ho : (decide (c = 0) || decide (c = 7)) = o) (w : World) : Calls Tryd.prog 44 #[.int .u8 (c : Nat)] w fun r w' => r = .returned (.bool o) ∧ Below w.heap.size w w' := by
  by_cases c0 : c = 0
  · rw [decide_eq_true c0, Bool.true_or] at ho
    subst ho
    have d0 : ((c : Int) == 0) = true := by rw [c0]; rfl
    clear c0
    have B0 : Below w.heap.size w w := (Below.refl _ _)
    go_enter Tryd.func44, Tryd.ntmps44
    go_wp2
    go_ret
    exact ⟨rfl, B0⟩
  · rw [decide_eq_false c0, Bool.false_or] at ho
    have d0 : ((c : Int) == 0) = false := by rw [beq_eq_false_iff_ne]; omega
    have d7 : ((c : Int) == 7) = o := by
      rw [← ho]
      by_cases c7 : c = 7
      · rw [decide_eq_true c7, c7]; rfl
      · rw [decide_eq_false c7, beq_eq_false_iff_ne]; omega
    clear ho c0
    have B0 : Below w.heap.size w w := (Below.refl _ _)
    go_enter Tryd.func44, Tryd.ntmps44
    go_wp2
    go_ret
    exact ⟨rfl, B0⟩
theorem op_naught (c : Nat) (o : Bool) (ho : (decide (c = 3) || decide (c = 4)) = o) (w : World) : Calls Tryd.prog 45 #[.int .u8 (c : Nat)] w fun r w' => r = .returned (.bool o) ∧ Below w.heap.size w w' := by
  by_cases c0 : c = 3
  · rw [decide_eq_true c0, Bool.true_or] at ho
    subst ho
    have d0 : ((c : Int) == 3) = true := by rw [c0]; rfl
    clear c0
    have B0 : Below w.heap.size w w := (Below.refl _ _)
    go_enter Tryd.func45, Tryd.ntmps45
    go_wp2
    go_ret
    exact ⟨rfl, B0⟩
  · rw [decide_eq_false c0, Bool.false_or] at ho
    have d0 : ((c : Int) == 3) = false := by rw [beq_eq_false_iff_ne]; omega
    have d7 : ((c : Int) == 4) = o := by
      rw [← ho]
      by_cases c7 : c = 4
      · rw [decide_eq_true c7, c7]; rfl
      · rw [decide_eq_false c7, beq_eq_false_iff_ne]; omega
    clear ho c0
    have B0 : Below w.heap.size w w := (Below.refl _ _)
    go_enter Tryd.func45, Tryd.ntmps45
    go_wp2
    go_ret
    exact ⟨rfl, B0⟩
set_option maxRecDepth 100000 in
theorem op_inf (f : Int) (neg : Bool) (u v : Nat) (w : World) (KI : Box (∀ w, FAt w → Calls Tryd.prog 50 #[.int .u8 f, .int .u8 0, .bool neg] w fun r w' => r = .returned (.tuple #[.agg #[.int .u64 (u : Nat), .int .u64 (v : Nat)], .int .u8 5, .int .i64 0]) ∧ Below w.heap.size w w')) (hT : FAt w) : Calls Tryd.prog 22 #[.int .u8 f, .bool neg] w fun r w' => r = .returned (.agg #[.int .u64 (u : Nat), .int .u64 (v : Nat)]) ∧ Below w.heap.size w w' := by
  have FF := box hT
  clear hT
  obtain ⟨Rz_0, B0⟩ := opn1 w (Obj.cells #[.int .u64 0, .int .u64 0] 26)
  go_enter Tryd.func22, Tryd.ntmps22
  go_wp2_with fail
  refine (KI.out _ (fatB FF.out B0)).mono ?_
  rintro r w1 ⟨rfl, b1⟩
  have B1 : Below w.heap.size w w1 := btr B0 b1
  have Rz_1 := heap_of b1 _ _ _ Rz_0
  clear b1 B0 Rz_0
  obtain ⟨cz_1_0, cz_1_1⟩ := cells2s Rz_1
  have S2 := box B1.size
  have Lz_2 : Box (w.heap.size < w1.heap.size) := box (Array.getElem?_eq_some_iff.1 Rz_1).1
  have Ri_2 := heap_alloc_last w1 (Obj.cells #[.int .u64 (u : Nat), .int .u64 (v : Nat)] 26)
  have B2 := btr B1 (bal w1 (Obj.cells #[.int .u64 (u : Nat), .int .u64 (v : Nat)] 26))
  have Rz_2 := heap_of (bal w1 (Obj.cells #[.int .u64 (u : Nat), .int .u64 (v : Nat)] 26)) _ _ _ Rz_1
  clear B1 Rz_1 cz_1_0 cz_1_1
  obtain ⟨cz_2_0, cz_2_1⟩ := cells2s Rz_2
  obtain ⟨ci_2_0, ci_2_1⟩ := cells2s Ri_2
  have q0 := fz (k := 0) Rz_2
  have q1 := fz (k := 1) Rz_2
  obtain ⟨E0, E1⟩ := set2_cells Rz_2 (.int .u64 (u : Nat)) (.int .u64 (v : Nat))
  go_wp2
  exact bodyPost_ret (v := .agg #[.int .u64 (u : Nat), .int .u64 (v : Nat)]) (by simp [results, Tryd.results22, go_sem, E0, E1]) rfl ⟨rfl, set2_below B2 (by first | exact Nat.le_refl _ | omega | (have := S2.out; have := Lz_2.out; omega)) _ _⟩
set_option maxRecDepth 100000 in
set_option maxHeartbeats 4000000 in
theorem op_nan (f : Int) (iu iv a b c u v : Nat) (l o : Bool) (w : World) (KI : Box (∀ w, FAt w → Calls Tryd.prog 22 #[.int .u8 f, .bool false] w fun r w' => r = .returned (.agg #[.int .u64 (iu : Nat), .int .u64 (iv : Nat)]) ∧ Below w.heap.size w w'))
    (KO : Box (∀ w, Calls Tryd.prog 46 #[.agg #[.int .u64 (iu : Nat), .int .u64 (iv : Nat)]] w fun r w' => r = .returned (.agg (cw 6 a)) ∧ Below w.heap.size w w'))
    (KR : Box (∀ w, Calls Tryd.prog 47 #[.agg (cw 6 a), .int .i64 1] w fun r w' => r = .returned (.tuple #[.agg (cw 6 b), .bool l]) ∧ Below w.heap.size w w'))
    (KU : Box (∀ w, Calls Tryd.prog 49 #[.agg (cw 6 a), .agg (cw 6 b)] w fun r w' => r = .returned (.agg (cw 6 c)) ∧ Below w.heap.size w w'))
    (KT : Box (∀ w, Calls Tryd.prog 48 #[.agg (cw 6 c)] w fun r w' => r = .returned (.tuple #[.agg #[.int .u64 (u : Nat), .int .u64 (v : Nat)], .bool o]) ∧ Below w.heap.size w w')) (hT : FAt w) : Calls Tryd.prog 21 #[.int .u8 f] w fun r w' => r = .returned (.agg #[.int .u64 (u : Nat), .int .u64 (v : Nat)]) ∧ Below w.heap.size w w' := by
  have FF := box hT
  clear hT
  have hat := cw_at 6
  have hz := cw6z
  have hff := cw6f
  have hs0 := st0
  have hcs : ∀ x, ((cw 6 x).size = 6) = True := fun x => eq_true (cw_size 6 x)
  obtain ⟨Rz_0, B0⟩ := opn1 w (Obj.cells #[.int .u64 0, .int .u64 0] 26)
  go_enter Tryd.func21, Tryd.ntmps21
  go_wp2_with fail
  refine (KI.out _ (fatB FF.out B0)).mono ?_
  rintro r w1 ⟨rfl, b1⟩
  have B1 : Below w.heap.size w w1 := btr B0 b1
  have Rz_1 := heap_of b1 _ _ _ Rz_0
  clear b1 B0 Rz_0
  obtain ⟨cz_1_0, cz_1_1⟩ := cells2s Rz_1
  go_wp2_with fail
  refine (KO.out _).mono ?_
  rintro r w2 ⟨rfl, b2⟩
  have B2 : Below w.heap.size w w2 := btr B1 b2
  have Rz_2 := heap_of b2 _ _ _ Rz_1
  clear b2 B1 Rz_1 cz_1_0 cz_1_1
  obtain ⟨cz_2_0, cz_2_1⟩ := cells2s Rz_2
  have S3 := box B2.size
  have Lz_3 : Box (w.heap.size < w2.heap.size) := box (Array.getElem?_eq_some_iff.1 Rz_2).1
  have Ra_3 := heap_alloc_last w2 (Obj.cells (cw 6 a) 45)
  have B3 := btr B2 (bal w2 (Obj.cells (cw 6 a) 45))
  have Rz_3 := heap_of (bal w2 (Obj.cells (cw 6 a) 45)) _ _ _ Rz_2
  clear B2 Rz_2 cz_2_0 cz_2_1
  obtain ⟨cz_3_0, cz_3_1⟩ := cells2s Rz_3
  have ca_3_0 := row_cell Ra_3
  go_wp2_with fail
  refine (KR.out _).mono ?_
  rintro r w4 ⟨rfl, b4⟩
  have B4 : Below w.heap.size w w4 := btr B3 b4
  have Rz_4 := heap_of b4 _ _ _ Rz_3
  have Ra_4 := heap_of b4 _ _ _ Ra_3
  clear b4 B3 Rz_3 cz_3_0 cz_3_1 Ra_3 ca_3_0
  obtain ⟨cz_4_0, cz_4_1⟩ := cells2s Rz_4
  have ca_4_0 := row_cell Ra_4
  have S5 := box B4.size
  have Lz_5 : Box (w.heap.size < w4.heap.size) := box (Array.getElem?_eq_some_iff.1 Rz_4).1
  have La_5 : Box (w2.heap.size < w4.heap.size) := box (Array.getElem?_eq_some_iff.1 Ra_4).1
  have Rb_5 := heap_alloc_last w4 (Obj.cells (cw 6 b) 45)
  have B5 := btr B4 (bal w4 (Obj.cells (cw 6 b) 45))
  have Rz_5 := heap_of (bal w4 (Obj.cells (cw 6 b) 45)) _ _ _ Rz_4
  have Ra_5 := heap_of (bal w4 (Obj.cells (cw 6 b) 45)) _ _ _ Ra_4
  clear B4 Rz_4 cz_4_0 cz_4_1 Ra_4 ca_4_0
  obtain ⟨cz_5_0, cz_5_1⟩ := cells2s Rz_5
  have ca_5_0 := row_cell Ra_5
  have cb_5_0 := row_cell Rb_5
  go_wp2_with fail
  refine (KU.out _).mono ?_
  rintro r w6 ⟨rfl, b6⟩
  have B6 : Below w.heap.size w w6 := btr B5 b6
  have Rz_6 := heap_of b6 _ _ _ Rz_5
  have Ra_6 := heap_of b6 _ _ _ Ra_5
  have Rb_6 := heap_of b6 _ _ _ Rb_5
  clear b6 B5 Rz_5 cz_5_0 cz_5_1 Ra_5 ca_5_0 Rb_5 cb_5_0
  obtain ⟨cz_6_0, cz_6_1⟩ := cells2s Rz_6
  have ca_6_0 := row_cell Ra_6
  have cb_6_0 := row_cell Rb_6
  go_wp2_with fail
  refine (KT.out _).mono ?_
  rintro r w7 ⟨rfl, b7⟩
  have B7 : Below w.heap.size w w7 := btr B6 b7
  have Rz_7 := heap_of b7 _ _ _ Rz_6
  have Ra_7 := heap_of b7 _ _ _ Ra_6
  have Rb_7 := heap_of b7 _ _ _ Rb_6
  clear b7 B6 Rz_6 cz_6_0 cz_6_1 Ra_6 ca_6_0 Rb_6 cb_6_0
  obtain ⟨cz_7_0, cz_7_1⟩ := cells2s Rz_7
  have ca_7_0 := row_cell Ra_7
  have cb_7_0 := row_cell Rb_7
  have S8 := box B7.size
  have Lz_8 : Box (w.heap.size < w7.heap.size) := box (Array.getElem?_eq_some_iff.1 Rz_7).1
  have La_8 : Box (w2.heap.size < w7.heap.size) := box (Array.getElem?_eq_some_iff.1 Ra_7).1
  have Lb_8 : Box (w4.heap.size < w7.heap.size) := box (Array.getElem?_eq_some_iff.1 Rb_7).1
  have Rt_8 := heap_alloc_last w7 (Obj.cells #[.int .u64 (u : Nat), .int .u64 (v : Nat)] 26)
  have B8 := btr B7 (bal w7 (Obj.cells #[.int .u64 (u : Nat), .int .u64 (v : Nat)] 26))
  have Rz_8 := heap_of (bal w7 (Obj.cells #[.int .u64 (u : Nat), .int .u64 (v : Nat)] 26)) _ _ _ Rz_7
  have Ra_8 := heap_of (bal w7 (Obj.cells #[.int .u64 (u : Nat), .int .u64 (v : Nat)] 26)) _ _ _ Ra_7
  have Rb_8 := heap_of (bal w7 (Obj.cells #[.int .u64 (u : Nat), .int .u64 (v : Nat)] 26)) _ _ _ Rb_7
  clear B7 Rz_7 cz_7_0 cz_7_1 Ra_7 ca_7_0 Rb_7 cb_7_0
  obtain ⟨cz_8_0, cz_8_1⟩ := cells2s Rz_8
  have ca_8_0 := row_cell Ra_8
  have cb_8_0 := row_cell Rb_8
  obtain ⟨ct_8_0, ct_8_1⟩ := cells2s Rt_8
  have q0 := fz (k := 0) Rz_8
  have q1 := fz (k := 1) Rz_8
  obtain ⟨E0, E1⟩ := set2_cells Rz_8 (.int .u64 (u : Nat)) (.int .u64 (v : Nat))
  go_wp2
  exact bodyPost_ret (v := .agg #[.int .u64 (u : Nat), .int .u64 (v : Nat)]) (by simp [results, Tryd.results21, go_sem, E0, E1]) rfl ⟨rfl, set2_below B8 (by first | exact Nat.le_refl _ | omega | (have := S3.out; have := Lz_3.out; have := S5.out; have := Lz_5.out; have := La_5.out; have := S8.out; have := Lz_8.out; have := La_8.out; have := Lb_8.out; omega)) _ _⟩
def bls (l : List (Nat × Nat)) : Array Value := (l.flatMap fun p => [Value.int .u64 (p.1 : Nat), Value.int .u64 (p.2 : Nat)]).toArray
def okP (f : Int) (p : Nat × Nat) : Bool := okB f (p.2 + 18446744073709551616 * p.1)
theorem bls_at (l : List (Nat × Nat)) (k : Nat) (p : Nat × Nat) (h : l[k]? = some p) : (bls l)[k * 2]? = some (.int .u64 (p.1 : Nat)) ∧ (bls l)[k * 2 + 1]? = some (.int .u64 (p.2 : Nat)) := by
  unfold bls
  rw [List.getElem?_toArray, List.getElem?_toArray]
  induction l generalizing k with
  | nil => simp at h
  | cons a t ih =>
    cases k with
    | zero =>
      simp at h
      subst h
      simp
    | succ k =>
      simp only [List.getElem?_cons_succ] at h
      have := ih k h
      rw [show (k + 1) * 2 = k * 2 + 1 + 1 by omega]
      simpa using this
theorem bls_cell {w : World} {g : Nat} {T : TypeId} {l : List (Nat × Nat)} (row : w.heap[g]? = some (.cells (bls l) T)) (k : Nat) (p : Nat × Nat) (h : l[k]? = some p) : w.cell? ⟨g, k * 2, none⟩ = some (.int .u64 (p.1 : Nat)) ∧ w.cell? ⟨g, k * 2 + 1, none⟩ = some (.int .u64 (p.2 : Nat)) := by
  obtain ⟨a, b⟩ := bls_at l k p h
  exact ⟨(cell_of_row w g (k * 2) _ _ _ row).trans a, (cell_of_row w g (k * 2 + 1) _ _ _ row).trans b⟩
set_option maxRecDepth 100000 in
set_option maxHeartbeats 8000000 in
theorem op_may_no (f m : Int) (pu pv : Nat) (fl c : Int) (sl : Value) (hc : (c != 0) = true) (w : World)
    (KP : Box (∀ w, FAt w → Calls Tryd.prog 23 #[.int .u8 f, .int .u8 m, .agg (rg false 0 0 false)] w fun r w' => r = .returned (.tuple #[.agg #[.int .u64 (pu : Nat), .int .u64 (pv : Nat)], .int .u8 fl, .int .i64 c]) ∧ Below w.heap.size w w')) (hT : FAt w) : Calls Tryd.prog 18 #[.int .u8 f, .int .u8 m, sl] w fun r w' => r = .returned (.bool false) ∧ Below w.heap.size w w' := by
  have FF := box hT
  clear hT
  have hp3 := rgz
  have B0 : Below w.heap.size w w := (Below.refl _ _)
  go_enter Tryd.func18, Tryd.ntmps18
  go_wp2_with fail
  refine (KP.out _ (fatB FF.out B0)).mono ?_
  rintro r w1 ⟨rfl, b1⟩
  have B1 : Below w.heap.size w w1 := btr B0 b1
  clear b1 B0 
  have S2 := box B1.size
  have Rp_2 := heap_alloc_last w1 (Obj.cells #[.int .u64 (pu : Nat), .int .u64 (pv : Nat)] 26)
  have B2 := btr B1 (bal w1 (Obj.cells #[.int .u64 (pu : Nat), .int .u64 (pv : Nat)] 26))
  clear B1 
  obtain ⟨cp_2_0, cp_2_1⟩ := cells2s Rp_2
  go_wp2
  go_ret
  exact ⟨rfl, B2⟩
theorem kClass_any (f : Int) (hf : Is4 f) (p : Nat × Nat) (h : p.1 < 18446744073709551616 ∧ p.2 < 18446744073709551616) (o : Bool) (ho : okP f p = o) : ∃ (c e : Int), (e != 0) = (!o) ∧ Box (∀ w, FAt w → Calls Tryd.prog 5 #[.int .u8 f, .agg #[.int .u64 (p.1 : Nat), .int .u64 (p.2 : Nat)]] w fun r w' => r = .returned (.tuple #[.int .u8 c, .int .i64 e]) ∧ Below w.heap.size w w') := by
  have h0 : 0 ≤ f ∧ f ≤ 255 := by rcases hf with rfl | rfl | rfl | rfl <;> decide
  cases o
  · exact ⟨0, 2, rfl, box (fun w hT => kClass_no f h0.1 h0.2 p.1 p.2 _ h.1 h.2 rfl ho w hT)⟩
  · exact ⟨_, 0, rfl, box (fun w hT => kClass_yes f hf p.1 p.2 _ _ h.1 h.2 rfl ho rfl w hT)⟩
set_option maxRecDepth 100000 in
set_option maxHeartbeats 8000000 in
theorem op_may (f m : Int) (hf : Is4 f) (l : List (Nat × Nat)) (L g c : Nat) (T : TypeId) (w : World) (hl : l.length = L) (hL : L ≤ 1000) (hb : Box (∀ p ∈ l, p.1 < 18446744073709551616 ∧ p.2 < 18446744073709551616)) (row : w.heap[g]? = some (.cells (bls l) T)) (pu pv : Nat) (fl : Int)
    (KP : Box (∀ w, FAt w → Calls Tryd.prog 23 #[.int .u8 f, .int .u8 m, .agg (rg false 0 0 false)] w fun r w' => r = .returned (.tuple #[.agg #[.int .u64 (pu : Nat), .int .u64 (pv : Nat)], .int .u8 fl, .int .i64 0]) ∧ Below w.heap.size w w'))
    (o : Bool) (ho : l.all (okP f) = o) (hT : FAt w) : Calls Tryd.prog 18 #[.int .u8 f, .int .u8 m, .slice (some ⟨g, 0, none⟩) L c] w fun r w' => r = .returned (.bool o) ∧ Below w.heap.size w w' := by
  have FF := box hT
  have HO := box ho
  have HL := box hl
  have HF := box hf
  clear ho hl hT hf
  have hp3 := rgz
  go_enter Tryd.func18, Tryd.ntmps18
  go_wp2_with fail
  refine (KP.out _ FF.out).mono ?_
  rintro r w1 ⟨rfl, b1⟩
  have BP := btr b1 (bal w1 (.cells #[.int .u64 (pu : Nat), .int .u64 (pv : Nat)] 26))
  obtain ⟨V, hV⟩ : ∃ V, w1.alloc (.cells #[.int .u64 (pu : Nat), .int .u64 (pv : Nat)] 26) = V := ⟨_, rfl⟩
  go_wp2
  rw [hV] at BP
  clear b1 KP hV
  go_loopw [26] (fun iv wr => ∃ k : Nat, k ≤ L ∧ iv = .int .i64 k ∧ Below w.heap.size w wr ∧ Box (∀ j p, j < k → l[j]? = some p → okP f p = true)) (fun iv _ => L - (intOf iv).toNat)
  case atStart => exact ⟨0, by omega, rfl, BP, box (fun j s hj => absurd hj (by omega))⟩
  case round =>
    obtain ⟨k, hk, rfl, bw, HA⟩ := hrel
    by_cases hlt : k < L
    · obtain ⟨p, hs⟩ : ∃ p, l[k]? = some p := ⟨_, List.getElem?_eq_getElem (by rw [HL.out]; exact hlt)⟩
      obtain ⟨c1, c2⟩ := bls_cell (heap_of bw _ _ _ row) k p hs
      have dl : decide ((k : Int) < (L : Int)) = true := decide_eq_true (by omega)
      have HS := box hs
      obtain ⟨o1, hm⟩ : ∃ o1, okP f p = o1 := ⟨_, rfl⟩
      have HM := box hm
      obtain ⟨cc, ee, hee, KC⟩ := kClass_any f HF.out p (hb.out p (List.mem_of_getElem? hs)) o1 hm
      have FA : Box (FAt (wr.alloc (.cells #[.int .u64 (p.1 : Nat), .int .u64 (p.2 : Nat)] 26))) := box (fatB FF.out (btr bw (bal _ _)))
      have BA := btr bw (bal wr (.cells #[.int .u64 (p.1 : Nat), .int .u64 (p.2 : Nat)] 26))
      clear hs hm
      cases o1
      · have e : o = false := by
          rw [← HO.out, Bool.eq_false_iff]
          intro h
          rw [List.all_eq_true] at h
          have := h p (List.mem_of_getElem? HS.out)
          rw [HM.out] at this
          exact absurd this (by decide)
        subst e
        go_wp2_with fail
        refine (KC.out _ FA.out).mono ?_
        rintro r w2 ⟨rfl, b2⟩
        go_wp2
        go_ret
        exact ⟨rfl, btr BA b2⟩
      · have NA : Box (∀ j p, j < k + 1 → l[j]? = some p → okP f p = true) := box (fun j p2 hj h2 => by
          by_cases e : j = k
          · subst e
            rw [HS.out] at h2
            cases h2
            exact HM.out
          · exact HA.out j p2 (by omega) h2)
        go_wp2_with fail
        refine (KC.out _ FA.out).mono ?_
        rintro r w2 ⟨rfl, b2⟩
        go_wp2
        go_roundw
        case rel => exact ⟨k + 1, by omega, by go_num, btr BA b2, NA⟩
        case measure => simp [intOf] <;> omega
    · obtain rfl : k = L := by omega
      have e : o = true := by
        rw [← HO.out, List.all_eq_true]
        intro s hs
        obtain ⟨j, hj⟩ := List.mem_iff_getElem?.1 hs
        have := (List.getElem?_eq_some_iff.1 hj).1
        exact HA.out j s (by rw [← HL.out]; exact this) hj
      subst e
      have dl : decide ((k : Int) < (k : Int)) = false := by rw [decide_eq_false_iff_not]; omega
      go_wp2
      go_ret
      exact ⟨rfl, bw⟩
end Go.Proofs.YtpgiabmmmpdobaaDoor
namespace Go.Proofs.YtpgiabmmmpdobaaDoor
set_option maxRecDepth 100000
set_option maxHeartbeats 40000000
set_option maxRecDepth 100000
open Go.RowKit WMath
set_option linter.unusedSimpArgs false
set_option linter.unusedVariables false
set_option maxRecDepth 100000 in
set_option maxHeartbeats 8000000 in
theorem mul_mul_no (f m : Int) (x1 y1 x2 y2 u v p q : Nat) (fl c : Int) (w : World)
    (KF : Box (∀ (T : TypeId) (g : Nat) (w : World), w.heap.size = g → FAt w → Calls Tryd.prog 18 #[.int .u8 f, .int .u8 m, .slice (some ⟨g, 0, none⟩) 2 2] (w.alloc (.cells #[.int .u64 (x1 : Nat), .int .u64 (y1 : Nat), .int .u64 (x2 : Nat), .int .u64 (y2 : Nat)] T)) fun r w' => r = .returned (.bool false) ∧ Below w.heap.size w w'))
    (hT : FAt w) : Calls Tryd.prog 11 #[.int .u8 f, .int .u8 m, .agg #[.int .u64 (x1 : Nat), .int .u64 (y1 : Nat)], .agg #[.int .u64 (x2 : Nat), .int .u64 (y2 : Nat)]] w fun r w' => r = .returned (.tuple #[.agg #[.int .u64 0, .int .u64 0], .int .u8 0, .int .i64 2]) ∧ Below w.heap.size w w' := by
  have FF := box hT
  clear hT
  obtain ⟨Ra_0, Rb_0, Rz_0, B0⟩ := opn3 w (Obj.cells #[.int .u64 (x1 : Nat), .int .u64 (y1 : Nat)] 26) (Obj.cells #[.int .u64 (x2 : Nat), .int .u64 (y2 : Nat)] 26) (Obj.cells #[.int .u64 0, .int .u64 0] 26)
  go_enter Tryd.func11, Tryd.ntmps11
  obtain ⟨ca_0_0, ca_0_1⟩ := cells2s Ra_0
  obtain ⟨cb_0_0, cb_0_1⟩ := cells2s Rb_0
  go_wp2_with fail
  refine (KF.out _ _ (((w.alloc (Obj.cells #[.int .u64 (x1 : Nat), .int .u64 (y1 : Nat)] 26)).alloc (Obj.cells #[.int .u64 (x2 : Nat), .int .u64 (y2 : Nat)] 26)).alloc (Obj.cells #[.int .u64 0, .int .u64 0] 26)) (by first | rfl | simp only [size_al]) (fatB FF.out B0)).mono ?_
  rintro r w1 ⟨rfl, b1⟩
  have B1 : Below w.heap.size w w1 := btr B0 b1
  have Ra_1 := heap_of b1 _ _ _ Ra_0
  have Rb_1 := heap_of b1 _ _ _ Rb_0
  have Rz_1 := heap_of b1 _ _ _ Rz_0
  clear b1 B0 Ra_0 ca_0_0 ca_0_1 Rb_0 cb_0_0 cb_0_1 Rz_0
  obtain ⟨ca_1_0, ca_1_1⟩ := cells2s Ra_1
  obtain ⟨cb_1_0, cb_1_1⟩ := cells2s Rb_1
  obtain ⟨cz_1_0, cz_1_1⟩ := cells2s Rz_1
  have q0 := fz (k := 0) Rz_1
  have q1 := fz (k := 1) Rz_1
  obtain ⟨E0, E1⟩ := set2_cells Rz_1 (.int .u64 0) (.int .u64 0)
  go_wp2
  exact bodyPost_ret (v := .tuple #[.agg #[.int .u64 0, .int .u64 0], .int .u8 0, .int .i64 2]) (by simp [results, Tryd.results11, go_sem, E0, E1]) rfl ⟨rfl, set2_below B1 (by first | exact Nat.le_refl _ | omega | (skip; omega)) _ _⟩
set_option maxRecDepth 100000 in
set_option maxHeartbeats 8000000 in
theorem mul_mul_yes (f m : Int) (x1 y1 x2 y2 u v p q : Nat) (fl c : Int) (w : World)
    (KF : Box (∀ (T : TypeId) (g : Nat) (w : World), w.heap.size = g → FAt w → Calls Tryd.prog 18 #[.int .u8 f, .int .u8 m, .slice (some ⟨g, 0, none⟩) 2 2] (w.alloc (.cells #[.int .u64 (x1 : Nat), .int .u64 (y1 : Nat), .int .u64 (x2 : Nat), .int .u64 (y2 : Nat)] T)) fun r w' => r = .returned (.bool true) ∧ Below w.heap.size w w'))
    (KT : Box (∀ w, FAt w → Calls Tryd.prog 31 #[.int .u8 f, .int .u8 m, .agg #[.int .u64 (x1 : Nat), .int .u64 (y1 : Nat)], .agg #[.int .u64 (x2 : Nat), .int .u64 (y2 : Nat)]] w fun r w' => r = .returned (.tuple #[.agg #[.int .u64 (u : Nat), .int .u64 (v : Nat)], .int .u8 fl, .int .i64 c]) ∧ Below w.heap.size w w'))
    (hT : FAt w) : Calls Tryd.prog 11 #[.int .u8 f, .int .u8 m, .agg #[.int .u64 (x1 : Nat), .int .u64 (y1 : Nat)], .agg #[.int .u64 (x2 : Nat), .int .u64 (y2 : Nat)]] w fun r w' => r = .returned (.tuple #[.agg #[.int .u64 (u : Nat), .int .u64 (v : Nat)], .int .u8 fl, .int .i64 c]) ∧ Below w.heap.size w w' := by
  have FF := box hT
  clear hT
  obtain ⟨Ra_0, Rb_0, Rz_0, B0⟩ := opn3 w (Obj.cells #[.int .u64 (x1 : Nat), .int .u64 (y1 : Nat)] 26) (Obj.cells #[.int .u64 (x2 : Nat), .int .u64 (y2 : Nat)] 26) (Obj.cells #[.int .u64 0, .int .u64 0] 26)
  go_enter Tryd.func11, Tryd.ntmps11
  obtain ⟨ca_0_0, ca_0_1⟩ := cells2s Ra_0
  obtain ⟨cb_0_0, cb_0_1⟩ := cells2s Rb_0
  go_wp2_with fail
  refine (KF.out _ _ (((w.alloc (Obj.cells #[.int .u64 (x1 : Nat), .int .u64 (y1 : Nat)] 26)).alloc (Obj.cells #[.int .u64 (x2 : Nat), .int .u64 (y2 : Nat)] 26)).alloc (Obj.cells #[.int .u64 0, .int .u64 0] 26)) (by first | rfl | simp only [size_al]) (fatB FF.out B0)).mono ?_
  rintro r w1 ⟨rfl, b1⟩
  have B1 : Below w.heap.size w w1 := btr B0 b1
  have Ra_1 := heap_of b1 _ _ _ Ra_0
  have Rb_1 := heap_of b1 _ _ _ Rb_0
  have Rz_1 := heap_of b1 _ _ _ Rz_0
  clear b1 B0 Ra_0 ca_0_0 ca_0_1 Rb_0 cb_0_0 cb_0_1 Rz_0
  obtain ⟨ca_1_0, ca_1_1⟩ := cells2s Ra_1
  obtain ⟨cb_1_0, cb_1_1⟩ := cells2s Rb_1
  go_wp2_with fail
  refine (KT.out _ (fatB FF.out B1)).mono ?_
  rintro r w2 ⟨rfl, b2⟩
  have B2 : Below w.heap.size w w2 := btr B1 b2
  have Ra_2 := heap_of b2 _ _ _ Ra_1
  have Rb_2 := heap_of b2 _ _ _ Rb_1
  have Rz_2 := heap_of b2 _ _ _ Rz_1
  clear b2 B1 Ra_1 ca_1_0 ca_1_1 Rb_1 cb_1_0 cb_1_1 Rz_1
  obtain ⟨ca_2_0, ca_2_1⟩ := cells2s Ra_2
  obtain ⟨cb_2_0, cb_2_1⟩ := cells2s Rb_2
  obtain ⟨cz_2_0, cz_2_1⟩ := cells2s Rz_2
  have q0 := fz (k := 0) Rz_2
  have q1 := fz (k := 1) Rz_2
  obtain ⟨E0, E1⟩ := set2_cells Rz_2 (.int .u64 (u : Nat)) (.int .u64 (v : Nat))
  go_wp2
  exact bodyPost_ret (v := .tuple #[.agg #[.int .u64 (u : Nat), .int .u64 (v : Nat)], .int .u8 fl, .int .i64 c]) (by simp [results, Tryd.results11, go_sem, E0, E1]) rfl ⟨rfl, set2_below B2 (by first | exact Nat.le_refl _ | omega | (skip; omega)) _ _⟩
end Go.Proofs.YtpgiabmmmpdobaaDoor
namespace Go.Proofs.YtpgiabmmmpdobaaDoor
set_option maxRecDepth 100000
set_option maxHeartbeats 40000000
set_option maxRecDepth 100000
open Go.RowKit WMath
set_option linter.unusedSimpArgs false
set_option linter.unusedVariables false
theorem two_row (x1 y1 x2 y2 : Nat) (T : TypeId) (g : Nat) (w : World) (hg : w.heap.size = g) : (w.alloc (.cells #[.int .u64 (x1 : Nat), .int .u64 (y1 : Nat), .int .u64 (x2 : Nat), .int .u64 (y2 : Nat)] T)).heap[g]? = some (.cells (bls [(x1, y1), (x2, y2)]) T) := by
  rw [← hg]
  exact heap_alloc_last _ _
theorem two_lim {x1 y1 x2 y2 : Nat} (hx1 : x1 < 18446744073709551616) (hy1 : y1 < 18446744073709551616) (hx2 : x2 < 18446744073709551616) (hy2 : y2 < 18446744073709551616) : Box (∀ p ∈ [(x1, y1), (x2, y2)], p.1 < 18446744073709551616 ∧ p.2 < 18446744073709551616) := box (fun p hp => by
  rcases List.mem_cons.1 hp with rfl | h
  · exact ⟨hx1, hy1⟩
  · rcases List.mem_cons.1 h with rfl | h
    · exact ⟨hx2, hy2⟩
    · exact absurd h List.not_mem_nil)
theorem kmay2 (f m : Int) (h0 : 0 ≤ f) (h1 : f ≤ 255) (m0 : 0 ≤ m) (x1 y1 a x2 y2 b : Nat) (hx1 : x1 < 18446744073709551616) (hy1 : y1 < 18446744073709551616) (ha : y1 + 18446744073709551616 * x1 = a) (hx2 : x2 < 18446744073709551616) (hy2 : y2 < 18446744073709551616) (hb : y2 + 18446744073709551616 * x2 = b) (o : Bool) (ho : (decide (f ≤ 3 ∧ m ≤ 4) && okB f a && okB f b) = o) :
    Box (∀ (T : TypeId) (g : Nat) (w : World), w.heap.size = g → FAt w → Calls Tryd.prog 18 #[.int .u8 f, .int .u8 m, .slice (some ⟨g, 0, none⟩) 2 2] (w.alloc (.cells #[.int .u64 (x1 : Nat), .int .u64 (y1 : Nat), .int .u64 (x2 : Nat), .int .u64 (y2 : Nat)] T)) fun r w' => r = .returned (.bool o) ∧ Below w.heap.size w w') := by
  refine box (fun T g w hg hT => ?_)
  have B := (bal w (.cells #[.int .u64 (x1 : Nat), .int .u64 (y1 : Nat), .int .u64 (x2 : Nat), .int .u64 (y2 : Nat)] T))
  have row := two_row x1 y1 x2 y2 T g w hg
  have hT2 := fatB hT B
  by_cases c : f ≤ 3 ∧ m ≤ 4
  · have hf := is4_of h0 c.1
    obtain ⟨u, v, hv⟩ : ∃ u v, bv7 (eZero f false) = (u, v) := ⟨_, _, rfl⟩
    have KP : Box (∀ w, FAt w → Calls Tryd.prog 23 #[.int .u8 f, .int .u8 m, .agg (rg false 0 0 false)] w fun r w' => r = .returned (.tuple #[.agg #[.int .u64 (u : Nat), .int .u64 (v : Nat)], .int .u8 0, .int .i64 0]) ∧ Below w.heap.size w w') := box (fun w hT => kPack_zero f m hf ⟨m0, c.2⟩ false 0 (by decide) (by decide) u v hv w hT)
    refine (op_may f m hf [(x1, y1), (x2, y2)] 2 g 2 T _ rfl (by decide) (two_lim hx1 hy1 hx2 hy2) row u v 0 KP o ?_ hT2).mono fun _ _ ⟨q1, q2⟩ => ⟨q1, btr B q2⟩
    rw [← ho, decide_eq_true c]
    show (okP f (x1, y1) && (okP f (x2, y2) && true)) = _
    unfold okP
    rw [ha, hb, Bool.and_true, Bool.true_and]
  · have e : o = false := by rw [← ho, decide_eq_false c]; rfl
    subst e
    exact (op_may_no f m 0 0 0 2 _ rfl _ (box (fun w hT => kPack_no f m h0 h1 false 0 Q_pos 0 false (fun q => c ⟨q.1, q.2.1⟩) w hT)) hT2).mono fun _ _ ⟨q1, q2⟩ => ⟨q1, btr B q2⟩
end Go.Proofs.YtpgiabmmmpdobaaDoor
namespace Go.Proofs.YtpgiabmmmpdobaaDoor
set_option maxRecDepth 100000
set_option maxHeartbeats 40000000
set_option maxRecDepth 100000
open Go.RowKit WMath XMath
set_option linter.unusedSimpArgs false
set_option linter.unusedVariables false
theorem blen_prod (A B : Nat) (hA : A < 2 ^ 128) (hB : B < 2 ^ 128) : A * B < 2 ^ 256 ∧ blen (A * B) ≤ 256 := by
  have h : A * B < 2 ^ 256 := by
    have := mul_pow_lt A B 128 128 hA hB
    rw [show (256 : Nat) = 128 + 128 from rfl]
    exact this
  exact ⟨h, (blen_iff _ _).2 h⟩
theorem od_prod (A B : Nat) (A0 : A ≠ 0) (B0 : B ≠ 0) : A * B = od A * od B * 2 ^ (tz A + tz B) ∧ od A * od B ≠ 0 := by
  obtain ⟨a1, a2⟩ := od_is A A0
  obtain ⟨b1, b2⟩ := od_is B B0
  refine ⟨?_, mul_ne (by omega) (by omega)⟩
  obtain ⟨P, hP⟩ : ∃ P, od A = P := ⟨_, rfl⟩
  obtain ⟨R, hR⟩ : ∃ R, od B = R := ⟨_, rfl⟩
  obtain ⟨i, hi⟩ : ∃ i, tz A = i := ⟨_, rfl⟩
  obtain ⟨j, hj⟩ : ∃ j, tz B = j := ⟨_, rfl⟩
  rw [hP, hi] at a1
  rw [hR, hj] at b1
  rw [hP, hR, hi, hj, a1, b1, Nat.pow_add]
  simp only [Nat.mul_assoc, Nat.mul_comm, Nat.mul_left_comm]
theorem mul_num {f : Int} (hf : Is4 f) (m : Int) (a b : Bool) (A B : Nat) (x y : Int) (A0 : A ≠ 0) (B0 : B ≠ 0) (hA : A < 2 ^ 128) (hB : B < 2 ^ 128) (x1 : -20000 ≤ x) (x2 : x ≤ 20000) (y1 : -20000 ≤ y) (y2 : y ≤ 20000) :
    ∃ (n : Nat) (e : Int), mulX ⟨a, od A, 1, x + (tz A : Int)⟩ ⟨b, od B, 1, y + (tz B : Int)⟩ = (⟨a != b, n, 1, e⟩, 0) ∧ (XN.mk (a != b) n 1 e).can ∧ nl n ≤ 8192 ∧ n ≠ 0 ∧
      rnd f m ⟨a != b, n, 1, e⟩ = dlv f m (a != b) (x + y + (blen (A * B) : Int) - 1) (qW (pV f + 1) (A * B)) (qM (pV f + 1) (A * B) false) := by
  obtain ⟨p1, p2⟩ := blen_prod A B hA hB
  obtain ⟨o1, o2⟩ := od_prod A B A0 B0
  have tA := tz_blen A
  have tB := tz_blen B
  have bA := (blen_iff A 128).2 hA
  have bB := (blen_iff B 128).2 hB
  obtain ⟨N, hN⟩ : ∃ N, od A * od B = N := ⟨_, rfl⟩
  obtain ⟨k, hk⟩ : ∃ k, tz A + tz B = k := ⟨_, rfl⟩
  rw [hN, hk] at o1
  rw [hN] at o2
  have bs := blen_shift N k o2
  have ql := q_longer (pV f + 1) N k o2
  rw [← o1] at bs ql
  obtain ⟨w1, w2, w3, w4, w5, w6, w7⟩ := x_whole hf (a != b) N (x + (tz A : Int) + (y + (tz B : Int))) o2 (by omega) (by omega) (by omega)
  have a0 := (od_is A A0).2
  have b0 := (od_is B B0).2
  refine ⟨od N, x + (tz A : Int) + (y + (tz B : Int)) + (tz N : Int), ?_, w2, w4, w3, ?_⟩
  · unfold mulX
    have lN : nl N ≤ 16384 := by unfold nl; omega
    rw [if_neg (by show ¬ (od A = 0 ∨ od B = 0); omega)]
    show (if nl (od A * od B) ≤ 16384 ∧ nl (1 * 1) ≤ 16384 then mk (a != b) (od A * od B) (1 * 1) (x + (tz A : Int) + (y + (tz B : Int))) else (XZ, 4)) = _
    rw [hN, Nat.mul_one, if_pos ⟨lN, nl_1⟩, w1]
  · unfold rnd
    rw [if_neg w3, w5, w6, w7, ql.1, ql.2]
    congr 1
    omega
theorem vX_whole {f : Int} (hf : Is4 f) (n : Nat) (h : 0 < kC f n ∧ kC f n < 7) (h2 : ¬ (kC f n = 3 ∨ kC f n = 4)) : kS f n ≠ 0 ∧ kS f n < 2 ^ 128 ∧ vX f n = ⟨kN f n, od (kS f n), 1, kX f n + (tz (kS f n) : Int)⟩ ∧ (vX f n).can := by
  obtain ⟨l1, l2, l3⟩ := kS_lim hf n
  obtain ⟨a, b, d, e⟩ := k_parts (f := f) n (by omega)
  have l4 : kS f n < 2 ^ 128 := l1
  obtain ⟨w1, w2, w3, w4, w5, w6, w7⟩ := x_whole hf (kN f n) (kS f n) (kX f n) e (by have := (blen_iff (kS f n) 128).2 l4; omega) (by omega) (by omega)
  have := vX_mk hf n h
  rw [w1] at this
  injection this with h3 h4
  exact ⟨e, l4, h3.symm, by rw [← h3]; exact w2⟩
end Go.Proofs.YtpgiabmmmpdobaaDoor
