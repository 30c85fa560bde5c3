/-
  What the functions that the statement reaches return: part 15 (A0, A3, A5, TA, TB, TC, TD, TE, TF, TG, TH).
-/
import Derived.Deep.RegionHeld3
import Derived.Lib.AtoiTie
import Derived.Test.YtkblmpmkchkpjaaGreatDoorShelf
import Derived.Test.YtkblmpmkchkpjaaGreatDoorKt14
namespace Go.Proofs.YtkblmpmkchkpjaaGreatDoor
set_option maxRecDepth 100000
set_option maxHeartbeats 40000000
open Go.RowKit WMath XMath
set_option linter.unusedSimpArgs false
set_option linter.unusedVariables false
def sumN (sa sb : Bool) (X Y n : Nat) : Nat := if sa = sb then X * 2 ^ n + Y else X * 2 ^ n - Y
theorem sum_rat (sa sb : Bool) (X Y n : Nat) (ey : Int) (hg : Y ≤ X * 2 ^ n) : sgn sa * ((X : Rat) / ((1 : Nat) : Rat)) * (2 : Rat) ^ (ey + (n : Int)) + sgn sb * ((Y : Rat) / ((1 : Nat) : Rat)) * (2 : Rat) ^ ey = sgn sa * (((sumN sa sb X Y n : Nat) : Rat) / ((1 : Nat) : Rat)) * (2 : Rat) ^ ey := by
 have one : ∀ z : Rat, z / ((1 : Nat) : Rat) = z := fun z => by
  rw [show ((1 : Nat) : Rat) = 1 from rfl, Rat.div_def, show (1 : Rat)⁻¹ = 1 by decide +kernel, Rat.mul_one]
 rw [one, one, one, p2add, p2nat]
 generalize (2 : Rat) ^ ey = E
 unfold sumN
 by_cases c : sa = sb
 ·
  subst c
  rw [if_pos rfl, Rat.natCast_add, Rat.natCast_mul]
  generalize ((2 ^ n : Nat) : Rat) = H
  grind
 ·
  rw [if_neg c]
  have hs : sgn sb = - sgn sa := by
   unfold sgn
   cases sa <;> cases sb <;> first | exact absurd rfl c | decide +kernel
  have hN : ((X * 2 ^ n - Y : Nat) : Rat) + (Y : Rat) = (X : Rat) * ((2 ^ n : Nat) : Rat) := by
   rw [← Rat.natCast_add, ← Rat.natCast_mul, Nat.sub_add_cancel hg]
  rw [hs]
  generalize ((2 ^ n : Nat) : Rat) = H at *
  generalize ((X * 2 ^ n - Y : Nat) : Rat) = K at *
  grind
theorem bd_whole (b : Bool) (A : Nat) (x : Int) (A0 : A ≠ 0) (hA : A < 2 ^ 128) (x1 : -20000 ≤ x) (x2 : x ≤ 20000) : Bd ⟨b, od A, 1, x + (tz A : Int)⟩ 128 20200 := by
 have tA := tz_blen A
 have bA := (yY A 128).2 hA
 obtain ⟨o1, o2⟩ := od_is A A0
 have le : od A ≤ A := by
  have p := Nat.two_pow_pos (tz A)
  have := Nat.mul_le_mul_left (od A) p
  rw [Nat.mul_one] at this
  omega
 exact ⟨Nat.lt_of_le_of_lt le hA, by show 1 < 2 ^ 128; decide, by show -((20200 : Nat) : Int) ≤ x + (tz A : Int); omega, by show x + (tz A : Int) ≤ ((20200 : Nat) : Int); omega⟩
theorem add_num {f : Int} (hf : yT f) (m : Int) (sa sb : Bool) (X Y n : Nat) (ex ey : Int) (X0 : X ≠ 0) (Y0 : Y ≠ 0) (hX : X < 2 ^ 128) (hY : Y < 2 ^ 128) (hn : ex = ey + (n : Int)) (hg : Y ≤ X * 2 ^ n) (x1 : -20000 ≤ ex) (x2 : ex ≤ 20000) (y1 : -20000 ≤ ey) (y2 : ey ≤ 20000) (N : Nat) (hN : sumN sa sb X Y n = N) (N0 : N ≠ 0) :
  ∃ (k : Nat) (e : Int), addX ⟨sa, od X, 1, ex + (tz X : Int)⟩ ⟨sb, od Y, 1, ey + (tz Y : Int)⟩ = (⟨sa, k, 1, e⟩, 0) ∧ addX ⟨sb, od Y, 1, ey + (tz Y : Int)⟩ ⟨sa, od X, 1, ex + (tz X : Int)⟩ = (⟨sa, k, 1, e⟩, 0) ∧ (XN.mk sa k 1 e).can ∧ nl k ≤ 8192 ∧ k ≠ 0 ∧
   rnd f m ⟨sa, k, 1, e⟩ = dlv f m sa (ey + (zW N : Int) - 1) (qW (pV f + 1) N) (qM (pV f + 1) N false) := by
 have bX := (yY X 128).2 hX
 have bY := (yY Y 128).2 hY
 have bN : zW N ≤ 45000 := by
  have : zW N ≤ 128 + n + 1 := by
   apply xI
   have h1 : X * 2 ^ n < 2 ^ (128 + n) := by rw [Nat.pow_add]; exact (Nat.mul_lt_mul_right (Nat.two_pow_pos n)).2 hX
   have h2 : N ≤ X * 2 ^ n + X * 2 ^ n := by rw [← hN]; unfold sumN; split <;> omega
   rw [Nat.pow_succ]
   omega
  omega
 obtain ⟨w1, w2, w3, w4, w5, w6, w7⟩ := x_whole hf sa N ey N0 bN (by omega) (by omega)
 obtain ⟨u1, u2, u3, u4, u5, u6, u7⟩ := x_whole hf sa X ex X0 (by omega) (by omega) (by omega)
 obtain ⟨v1, v2, v3, v4, v5, v6, v7⟩ := x_whole hf sb Y ey Y0 (by omega) (by omega) (by omega)
 have wv := mk_val sa N 1 ey (by decide) (by rw [w1])
 have uv := mk_val sa X 1 ex (by decide) (by rw [u1])
 have vv := mk_val sb Y 1 ey (by decide) (by rw [v1])
 rw [w1] at wv
 rw [u1] at uv
 rw [v1] at vv
 have sr := sum_rat sa sb X Y n ey hg
 rw [← hn, hN] at sr
 have hv : (XN.mk sa (od X) 1 (ex + (tz X : Int))).val + (XN.mk sb (od Y) 1 (ey + (tz Y : Int))).val = (XN.mk sa (od N) 1 (ey + (tz N : Int))).val := by
  rw [uv, vv, wv]
  exact sr
 have B1 := bd_whole sa X ex X0 hX x1 x2
 have B2 := bd_whole sb Y ey Y0 hY y1 y2
 refine ⟨od N, ey + (tz N : Int), addX_is _ _ _ u2 v2 w2 B1 B2 hv, addX_is _ _ _ v2 u2 w2 B2 B1 (by rw [Rat.add_comm]; exact hv), w2, w4, w3, ?_⟩
 unfold rnd
 rw [if_neg w3, w5, w6, w7]
theorem kC_all (f : Int) (n : Nat) : (kE f n = oV f ∧ kT f n = 0 ∧ kC f n = if kN f n then 0 else 7) ∨ (kE f n = oV f ∧ kT f n ≠ 0 ∧ kT f n < 2 ^ (pV f - 1) ∧ kC f n = 8) ∨ (kE f n = oV f ∧ 2 ^ (pV f - 1) ≤ kT f n ∧ kC f n = 9) ∨
  (kE f n < oV f ∧ kE f n ≠ 0 ∧ kC f n = if kN f n then 1 else 6) ∨ (kE f n < oV f ∧ kE f n = 0 ∧ kT f n ≠ 0 ∧ kC f n = if kN f n then 2 else 5) ∨ (kE f n < oV f ∧ kE f n = 0 ∧ kT f n = 0 ∧ kC f n = if kN f n then 3 else 4) := by
 have el := kE_le (f := f) n
 have p := Nat.two_pow_pos (pV f - 1)
 unfold kC
 by_cases c1 : kE f n = oV f
 ·
  by_cases c2 : kT f n = 0
  ·
   left
   refine ⟨c1, c2, ?_⟩
   (repeat' split) <;> first | rfl | omega | simp_all
  ·
   by_cases c3 : kT f n < 2 ^ (pV f - 1)
   ·
    right; left
    refine ⟨c1, c2, c3, ?_⟩
    (repeat' split) <;> first | rfl | omega | simp_all
   ·
    right; right; left
    refine ⟨c1, by omega, ?_⟩
    (repeat' split) <;> first | rfl | omega | simp_all
 ·
  by_cases c2 : kE f n = 0
  ·
   by_cases c3 : kT f n = 0
   ·
    right; right; right; right; right
    refine ⟨by omega, c2, c3, ?_⟩
    (repeat' split) <;> first | rfl | omega | simp_all
   ·
    right; right; right; right; left
    refine ⟨by omega, c2, c3, ?_⟩
    (repeat' split) <;> first | rfl | omega | simp_all
  ·
   right; right; right; left
   refine ⟨by omega, c2, ?_⟩
   (repeat' split) <;> first | rfl | omega | simp_all
theorem cls_sg (f : Int) (n : Nat) : ∃ a1 a2 a3 a4 : Nat, (a1 = 0 ∨ a1 = 7) ∧ (a2 = 1 ∨ a2 = 6) ∧ (a3 = 2 ∨ a3 = 5) ∧ (a4 = 3 ∨ a4 = 4) ∧
  ((kE f n = oV f ∧ kT f n = 0 ∧ kC f n = a1) ∨ (kE f n = oV f ∧ kT f n ≠ 0 ∧ kT f n < 2 ^ (pV f - 1) ∧ kC f n = 8) ∨ (kE f n = oV f ∧ 2 ^ (pV f - 1) ≤ kT f n ∧ kC f n = 9) ∨ (kE f n < oV f ∧ kE f n ≠ 0 ∧ kC f n = a2) ∨ (kE f n < oV f ∧ kE f n = 0 ∧ kT f n ≠ 0 ∧ kC f n = a3) ∨ (kE f n < oV f ∧ kE f n = 0 ∧ kT f n = 0 ∧ kC f n = a4)) :=
 ⟨_, _, _, _, by cases kN f n <;> simp, by cases kN f n <;> simp, by cases kN f n <;> simp, by cases kN f n <;> simp, kC_all f n⟩
end Go.Proofs.YtkblmpmkchkpjaaGreatDoor
namespace Go.Proofs.YtkblmpmkchkpjaaGreatDoor
set_option maxRecDepth 100000
set_option maxHeartbeats 40000000
open Go.RowKit WMath
def P10 (w : World) : Prop := Lib.TabIs Tryz.prog w "internal/strconv.uint64pow10" .u64 Lib.pow10Tab
theorem gP10 : Tryz.prog.globalNamed "internal/strconv.uint64pow10" = some 4 := by kernel_rfl
theorem p10B {w w' : World} (h : P10 w) (hb : Below w.heap.size w w') : P10 w' := by
 unfold P10 Lib.TabIs World.var? at h ⊢
 rw [gP10] at h ⊢
 simp only [Option.bind_some] at h ⊢
 have h0 : 4 < w.heap.size := by
  rcases Nat.lt_or_ge 4 w.heap.size with e | e
  ·
   exact e
  ·
   have : w.heap[4]? = none := Array.getElem?_eq_none e
   rw [this] at h
   cases h
 rw [hb.block 4 h0]
 exact h
theorem t_itoa (e : Int) (v : ByteArray) (h0 : -1000000000 ≤ e) (h1 : e ≤ 1000000000) (hv : (⟨(Lib.itoa e).toArray⟩ : ByteArray) = v) (w : World) (hP : P10 w) :
  Calls Tryz.prog 81 #[.int .i64 e] w fun r w' => r = .returned (.string v) ∧ Below w.heap.size w w' := by
 have h := Any.strconv_Itoa Tryz.laysItoa e (by omega) (by omega) w hP
 refine h.mono ?_
 rintro r w' ⟨rfl, k, os, rfl⟩
 rw [hv]
 refine ⟨rfl, rfl, rfl, rfl, ?_, ?_⟩
 ·
  simp [Sort.grow, World.drewN]
 ·
  intro j hj
  simp only [Sort.grow, World.drewN]
  exact Array.getElem?_append_left hj
theorem wtext_is (n : Nat) (v : ByteArray) (hn : n < Q) (hv : (⟨(tx n).toArray⟩ : ByteArray) = v) (w : World) :
  Calls Tryz.prog 80 #[.agg (cw 6 n)] w fun r w' => r = .returned (.string v) ∧ Below w.heap.size w w' := by
 subst hv
 exact wtext_any n hn w
end Go.Proofs.YtkblmpmkchkpjaaGreatDoor
namespace Go.Proofs.YtkblmpmkchkpjaaGreatDoor
set_option maxRecDepth 100000
set_option maxHeartbeats 40000000
open Go.RowKit WMath
set_option linter.unusedSimpArgs false
set_option linter.unusedVariables false
theorem kmag_nan (s rr : Nat) (X : Int) (t v : ByteArray) (w : World)
  (KT : zP (∀ w, Calls Tryz.prog 80 #[.agg (cw 6 rr)] w fun r w' => r = .returned (.string t) ∧ Below w.heap.size w w'))
  (hv : (⟨#[110, 97, 110, 58]⟩ : ByteArray) ++ t = v) (hl : ¬ 9223372036854775807 < 4 + t.size) : Calls Tryz.prog 31 #[.agg (pt 9 s X rr)] w fun r w' => r = .returned (.string v) ∧ Below w.heap.size w w' := by
 have hat := zU 6
 have hz := yB
 have hff := z8
 have hs0 := xO
 have hcs : ∀ x, ((cw 6 x).size = 6) = True := fun x => eq_true (zR 6 x)
 have hp1 := xP
 have hp3 := ptz
 have hp4 := yI
 have hp5 : ∀ (c s : Nat) (x : Int) (r : Nat), ((pt c s x r).size = 14) = True := fun _ _ _ _ => eq_true rfl
 obtain ⟨Aa, B0⟩ := xJ w (Obj.cells (pt 9 s X rr) 68)
 go_enter Tryz.func31, Tryz.ntmps31
 obtain ⟨Ab, Ac, Ad, Ae, Af, Ag, Ah, Ai, Aj, Ak, Al, Am, An, Ao⟩ := zD Aa
 go_wp2_with fail
 refine (KT.out _).mono ?_
 rintro r w1 ⟨rfl, b1⟩
 have B1 := yD B0 b1
 have Ap := zA b1 _ _ _ Aa
 clear b1 B0 Aa Ab Ac Ad Ae Af Ag Ah Ai Aj Ak Al Am An Ao
 obtain ⟨Aq, Ar, As, At, Au, Av, Aw, Ax, Ay, Az, AA, AB, AC, AD⟩ := zD Ap
 go_wp2
 go_ret
 exact ⟨rfl, B1⟩
theorem kmag_snan (s rr : Nat) (X : Int) (t v : ByteArray) (w : World)
  (KT : zP (∀ w, Calls Tryz.prog 80 #[.agg (cw 6 rr)] w fun r w' => r = .returned (.string t) ∧ Below w.heap.size w w'))
  (hv : (⟨#[115, 110, 97, 110, 58]⟩ : ByteArray) ++ t = v) (hl : ¬ 9223372036854775807 < 5 + t.size) : Calls Tryz.prog 31 #[.agg (pt 8 s X rr)] w fun r w' => r = .returned (.string v) ∧ Below w.heap.size w w' := by
 have hat := zU 6
 have hz := yB
 have hff := z8
 have hs0 := xO
 have hcs : ∀ x, ((cw 6 x).size = 6) = True := fun x => eq_true (zR 6 x)
 have hp1 := xP
 have hp3 := ptz
 have hp4 := yI
 have hp5 : ∀ (c s : Nat) (x : Int) (r : Nat), ((pt c s x r).size = 14) = True := fun _ _ _ _ => eq_true rfl
 obtain ⟨Aa, B0⟩ := xJ w (Obj.cells (pt 8 s X rr) 68)
 go_enter Tryz.func31, Tryz.ntmps31
 obtain ⟨Ab, Ac, Ad, Ae, Af, Ag, Ah, Ai, Aj, Ak, Al, Am, An, Ao⟩ := zD Aa
 go_wp2_with fail
 refine (KT.out _).mono ?_
 rintro r w1 ⟨rfl, b1⟩
 have B1 := yD B0 b1
 have Ap := zA b1 _ _ _ Aa
 clear b1 B0 Aa Ab Ac Ad Ae Af Ag Ah Ai Aj Ak Al Am An Ao
 obtain ⟨Aq, Ar, As, At, Au, Av, Aw, Ax, Ay, Az, AA, AB, AC, AD⟩ := zD Ap
 go_wp2
 go_ret
 exact ⟨rfl, B1⟩
theorem kmag_inf0 (s rr : Nat) (X : Int) (w : World) : Calls Tryz.prog 31 #[.agg (pt 0 s X rr)] w fun r w' => r = .returned (.string ⟨#[105, 110, 102]⟩) ∧ Below w.heap.size w w' := by
 have hat := zU 6
 have hz := yB
 have hff := z8
 have hs0 := xO
 have hcs : ∀ x, ((cw 6 x).size = 6) = True := fun x => eq_true (zR 6 x)
 have hp1 := xP
 have hp3 := ptz
 have hp4 := yI
 have hp5 : ∀ (c s : Nat) (x : Int) (r : Nat), ((pt c s x r).size = 14) = True := fun _ _ _ _ => eq_true rfl
 obtain ⟨Aa, B0⟩ := xJ w (Obj.cells (pt 0 s X rr) 68)
 go_enter Tryz.func31, Tryz.ntmps31
 obtain ⟨Ab, Ac, Ad, Ae, Af, Ag, Ah, Ai, Aj, Ak, Al, Am, An, Ao⟩ := zD Aa
 go_wp2
 go_ret
 exact ⟨rfl, B0⟩
theorem kmag_inf7 (s rr : Nat) (X : Int) (w : World) : Calls Tryz.prog 31 #[.agg (pt 7 s X rr)] w fun r w' => r = .returned (.string ⟨#[105, 110, 102]⟩) ∧ Below w.heap.size w w' := by
 have hat := zU 6
 have hz := yB
 have hff := z8
 have hs0 := xO
 have hcs : ∀ x, ((cw 6 x).size = 6) = True := fun x => eq_true (zR 6 x)
 have hp1 := xP
 have hp3 := ptz
 have hp4 := yI
 have hp5 : ∀ (c s : Nat) (x : Int) (r : Nat), ((pt c s x r).size = 14) = True := fun _ _ _ _ => eq_true rfl
 obtain ⟨Aa, B0⟩ := xJ w (Obj.cells (pt 7 s X rr) 68)
 go_enter Tryz.func31, Tryz.ntmps31
 obtain ⟨Ab, Ac, Ad, Ae, Af, Ag, Ah, Ai, Aj, Ak, Al, Am, An, Ao⟩ := zD Aa
 go_wp2
 go_ret
 exact ⟨rfl, B0⟩
theorem kmag_zero3 (s rr : Nat) (X : Int) (w : World) : Calls Tryz.prog 31 #[.agg (pt 3 s X rr)] w fun r w' => r = .returned (.string ⟨#[48]⟩) ∧ Below w.heap.size w w' := by
 have hat := zU 6
 have hz := yB
 have hff := z8
 have hs0 := xO
 have hcs : ∀ x, ((cw 6 x).size = 6) = True := fun x => eq_true (zR 6 x)
 have hp1 := xP
 have hp3 := ptz
 have hp4 := yI
 have hp5 : ∀ (c s : Nat) (x : Int) (r : Nat), ((pt c s x r).size = 14) = True := fun _ _ _ _ => eq_true rfl
 obtain ⟨Aa, B0⟩ := xJ w (Obj.cells (pt 3 s X rr) 68)
 go_enter Tryz.func31, Tryz.ntmps31
 obtain ⟨Ab, Ac, Ad, Ae, Af, Ag, Ah, Ai, Aj, Ak, Al, Am, An, Ao⟩ := zD Aa
 go_wp2
 go_ret
 exact ⟨rfl, B0⟩
theorem kmag_zero4 (s rr : Nat) (X : Int) (w : World) : Calls Tryz.prog 31 #[.agg (pt 4 s X rr)] w fun r w' => r = .returned (.string ⟨#[48]⟩) ∧ Below w.heap.size w w' := by
 have hat := zU 6
 have hz := yB
 have hff := z8
 have hs0 := xO
 have hcs : ∀ x, ((cw 6 x).size = 6) = True := fun x => eq_true (zR 6 x)
 have hp1 := xP
 have hp3 := ptz
 have hp4 := yI
 have hp5 : ∀ (c s : Nat) (x : Int) (r : Nat), ((pt c s x r).size = 14) = True := fun _ _ _ _ => eq_true rfl
 obtain ⟨Aa, B0⟩ := xJ w (Obj.cells (pt 4 s X rr) 68)
 go_enter Tryz.func31, Tryz.ntmps31
 obtain ⟨Ab, Ac, Ad, Ae, Af, Ag, Ah, Ai, Aj, Ak, Al, Am, An, Ao⟩ := zD Aa
 go_wp2
 go_ret
 exact ⟨rfl, B0⟩
theorem kmag_num (c s rr : Nat) (X : Int) (t i v1 v : ByteArray) (w : World)
  (KT : zP (∀ w, Calls Tryz.prog 80 #[.agg (cw 6 s)] w fun r w' => r = .returned (.string t) ∧ Below w.heap.size w w'))
  (KI : zP (∀ w, P10 w → Calls Tryz.prog 81 #[.int .i64 X] w fun r w' => r = .returned (.string i) ∧ Below w.heap.size w w'))
  (h1 : t ++ (⟨#[112]⟩ : ByteArray) = v1) (h2 : v1 ++ i = v) (l1 : ¬ 9223372036854775807 < t.size + 1) (l2 : ¬ 9223372036854775807 < v1.size + i.size)
  (c9 : ((c : Int) == 9) = false) (c8 : ((c : Int) == 8) = false) (c0 : ((c : Int) == 0) = false) (c7 : ((c : Int) == 7) = false) (c3 : ((c : Int) == 3) = false) (c4 : ((c : Int) == 4) = false) (hP : P10 w) : Calls Tryz.prog 31 #[.agg (pt c s X rr)] w fun r w' => r = .returned (.string v) ∧ Below w.heap.size w w' := by
 have hat := zU 6
 have hz := yB
 have hff := z8
 have hs0 := xO
 have hcs : ∀ x, ((cw 6 x).size = 6) = True := fun x => eq_true (zR 6 x)
 have hp1 := xP
 have hp3 := ptz
 have hp4 := yI
 have hp5 : ∀ (c s : Nat) (x : Int) (r : Nat), ((pt c s x r).size = 14) = True := fun _ _ _ _ => eq_true rfl
 have PP := zK hP
 clear hP
 obtain ⟨Aa, B0⟩ := xJ w (Obj.cells (pt c s X rr) 68)
 go_enter Tryz.func31, Tryz.ntmps31
 obtain ⟨Ac, Ad, Ae, Af, Ag, Ah, Ai, Aj, Ak, Al, Am, An, Ao, Ap⟩ := zD Aa
 go_wp2_with fail
 obtain ⟨F, hF1, hF2⟩ := zS (w.alloc (Obj.cells (pt c s X rr) 68))
 have fp_0 := fun u => (zD (zA (hF1 u) _ _ _ Aa)).1
 have fp_1 := fun u => (zD (zA (hF1 u) _ _ _ Aa)).2.1
 have fp_2 := fun u => (zD (zA (hF1 u) _ _ _ Aa)).2.2.1
 have fp_3 := fun u => (zD (zA (hF1 u) _ _ _ Aa)).2.2.2.1
 have fp_4 := fun u => (zD (zA (hF1 u) _ _ _ Aa)).2.2.2.2.1
 have fp_5 := fun u => (zD (zA (hF1 u) _ _ _ Aa)).2.2.2.2.2.1
 have fp_6 := fun u => (zD (zA (hF1 u) _ _ _ Aa)).2.2.2.2.2.2.1
 have fp_7 := fun u => (zD (zA (hF1 u) _ _ _ Aa)).2.2.2.2.2.2.2.1
 have fp_8 := fun u => (zD (zA (hF1 u) _ _ _ Aa)).2.2.2.2.2.2.2.2.1
 have fp_9 := fun u => (zD (zA (hF1 u) _ _ _ Aa)).2.2.2.2.2.2.2.2.2.1
 have fp_10 := fun u => (zD (zA (hF1 u) _ _ _ Aa)).2.2.2.2.2.2.2.2.2.2.1
 have fp_11 := fun u => (zD (zA (hF1 u) _ _ _ Aa)).2.2.2.2.2.2.2.2.2.2.2.1
 have fp_12 := fun u => (zD (zA (hF1 u) _ _ _ Aa)).2.2.2.2.2.2.2.2.2.2.2.2.1
 have fp_13 := fun u => (zD (zA (hF1 u) _ _ _ Aa)).2.2.2.2.2.2.2.2.2.2.2.2.2
 have PF : zP (∀ u, P10 (F u)) := zK (fun u => p10B PP.out (yD B0 (hF1 u)))
 refine zJ F hF2 (by kernel_rfl) (by kernel_rfl) ?_
 repeat first | go_big_quiet_step (first | (go_at_call 80; exact zN hF1 hF2 (KT.out _)) | (go_at_call 81; exact zN hF1 hF2 (KI.out _ (PF.out _))) | fail) | quiet_step (first | (go_at_call 80; exact zN hF1 hF2 (KT.out _)) | (go_at_call 81; exact zN hF1 hF2 (KI.out _ (PF.out _))) | fail)
 refine wpQuiet_nil ?_
 rintro _ ⟨uW, rfl⟩
 have B1 := yD B0 (hF1 uW)
 have Ab := zA (hF1 uW) _ _ _ Aa
 obtain ⟨w1, hw⟩ : ∃ V, F uW = V := ⟨_, rfl⟩
 rw [hw] at B1 Ab
 try rw [hw]
 clear hw hF1 hF2 B0 fp_0 fp_1 fp_2 fp_3 fp_4 fp_5 fp_6 fp_7 fp_8 fp_9 fp_10 fp_11 fp_12 fp_13 Aa Ac Ad Ae Af Ag Ah Ai Aj Ak Al Am An Ao Ap
 clear PF
 clear F
 obtain ⟨Aq, Ar, As, At, Au, Av, Aw, Ax, Ay, Az, AA, AB, AC, AD⟩ := zD Ab
 go_wp2
 go_ret
 exact ⟨rfl, B1⟩
theorem ktext_no (f : Int) (x y : Nat) (w : World)
  (KU : zP (∀ w, yF w → Calls Tryz.prog 29 #[.int .u8 f, .agg #[.int .u64 x, .int .u64 y]] w fun r w' => r = .returned (.tuple #[.agg (pt 0 0 0 0), .int .i64 2]) ∧ Below w.heap.size w w'))
  (hT : yF w) : Calls Tryz.prog 6 #[.int .u8 f, .agg #[.int .u64 x, .int .u64 y]] w fun r w' => r = .returned (.tuple #[.string ⟨#[]⟩, .int .i64 2]) ∧ Below w.heap.size w w' := by
 have hat := zU 6
 have hz := yB
 have hff := z8
 have hs0 := xO
 have hcs : ∀ x, ((cw 6 x).size = 6) = True := fun x => eq_true (zR 6 x)
 have hp1 := xP
 have hp3 := ptz
 have hp4 := yI
 have hp5 : ∀ (c s : Nat) (x : Int) (r : Nat), ((pt c s x r).size = 14) = True := fun _ _ _ _ => eq_true rfl
 have FF := zK hT
 clear hT
 obtain ⟨Ab, B0⟩ := xJ w (Obj.cells #[.int .u64 x, .int .u64 y] 25)
 go_enter Tryz.func6, Tryz.ntmps6
 go_wp2_with fail
 refine (KU.out _ (zY FF.out B0)).mono ?_
 rintro r w1 ⟨rfl, b1⟩
 have B1 := yD B0 b1
 have Aa := zA b1 _ _ _ Ab
 clear b1 B0 Ab
 obtain ⟨Ac, Ad⟩ := zG Aa
 have S2 := zK B1.size
 have Ag := yA Aa
 have Ae := heap_alloc_last w1 (Obj.cells (pt 0 0 0 0) 68)
 have B2 := yD B1 (xY w1 (Obj.cells (pt 0 0 0 0) 68))
 have Af := zA (xY w1 (Obj.cells (pt 0 0 0 0) 68)) _ _ _ Aa
 clear B1 Aa Ac Ad
 obtain ⟨Ah, Ai⟩ := zG Af
 obtain ⟨Aj, Ak, Al, Am, An, Ao, Ap, Aq, Ar, As, At, Au, Av, Aw⟩ := zD Ae
 go_wp2
 go_ret2
 exact ⟨rfl, B2⟩
theorem ktext_pos (f : Int) (x y c s rr : Nat) (X : Int) (m : ByteArray) (w : World)
  (KU : zP (∀ w, yF w → Calls Tryz.prog 29 #[.int .u8 f, .agg #[.int .u64 x, .int .u64 y]] w fun r w' => r = .returned (.tuple #[.agg (pt c s X rr), .int .i64 0]) ∧ Below w.heap.size w w'))
  (KS : zP (∀ w, yF w → Calls Tryz.prog 30 #[.int .u8 f, .agg #[.int .u64 x, .int .u64 y]] w fun r w' => r = .returned (.bool false) ∧ Below w.heap.size w w'))
  (KM : zP (∀ w, P10 w → Calls Tryz.prog 31 #[.agg (pt c s X rr)] w fun r w' => r = .returned (.string m) ∧ Below w.heap.size w w'))
  (hT : yF w) (hP : P10 w) : Calls Tryz.prog 6 #[.int .u8 f, .agg #[.int .u64 x, .int .u64 y]] w fun r w' => r = .returned (.tuple #[.string m, .int .i64 0]) ∧ Below w.heap.size w w' := by
 have hat := zU 6
 have hz := yB
 have hff := z8
 have hs0 := xO
 have hcs : ∀ x, ((cw 6 x).size = 6) = True := fun x => eq_true (zR 6 x)
 have hp1 := xP
 have hp3 := ptz
 have hp4 := yI
 have hp5 : ∀ (c s : Nat) (x : Int) (r : Nat), ((pt c s x r).size = 14) = True := fun _ _ _ _ => eq_true rfl
 have FF := zK hT
 have PP := zK hP
 clear hT hP
 obtain ⟨Af, B0⟩ := xJ w (Obj.cells #[.int .u64 x, .int .u64 y] 25)
 go_enter Tryz.func6, Tryz.ntmps6
 go_wp2_with fail
 refine (KU.out _ (zY FF.out B0)).mono ?_
 rintro r w1 ⟨rfl, b1⟩
 have B1 := yD B0 b1
 have Aa := zA b1 _ _ _ Af
 clear b1 B0 Af
 obtain ⟨Ag, Ah⟩ := zG Aa
 have S2 := zK B1.size
 have AQ := yA Aa
 have Ab := heap_alloc_last w1 (Obj.cells (pt c s X rr) 68)
 have B2 := yD B1 (xY w1 (Obj.cells (pt c s X rr) 68))
 have Ac := zA (xY w1 (Obj.cells (pt c s X rr) 68)) _ _ _ Aa
 clear B1 Aa Ag Ah
 obtain ⟨Ai, Aj⟩ := zG Ac
 obtain ⟨Ak, Al, Am, An, Ao, Ap, Aq, Ar, As, At, Au, Av, Aw, Ax⟩ := zD Ab
 go_wp2_with fail
 refine (KS.out _ (zY FF.out B2)).mono ?_
 rintro r w3 ⟨rfl, b3⟩
 have B3 := yD B2 b3
 obtain ⟨Ad, Ae⟩ := zV b3 Ac Ab
 clear b3 B2 Ac Ai Aj Ab Ak Al Am An Ao Ap Aq Ar As At Au Av Aw Ax
 obtain ⟨Ay, Az⟩ := zG Ad
 obtain ⟨AA, AB, AC, AD, AE, AF, AG, AH, AI, AJ, AK, AL, AM, AN⟩ := zD Ae
 go_wp2_with fail
 refine (KM.out _ (p10B PP.out B3)).mono ?_
 rintro r w4 ⟨rfl, b4⟩
 have B4 := yD B3 b4
 obtain ⟨AO, AP⟩ := zV b4 Ad Ae
 clear b4 B3 Ad Ay Az Ae AA AB AC AD AE AF AG AH AI AJ AK AL AM AN
 obtain ⟨AR, AS⟩ := zG AO
 obtain ⟨AT, AU, AV, AW, AX, AY, AZ, A0, A1, A2, A3, A4, A5, A6⟩ := zD AP
 go_wp2
 go_ret2
 exact ⟨rfl, B4⟩
theorem ktext_neg (f : Int) (x y c s rr : Nat) (X : Int) (m v : ByteArray) (w : World)
  (KU : zP (∀ w, yF w → Calls Tryz.prog 29 #[.int .u8 f, .agg #[.int .u64 x, .int .u64 y]] w fun r w' => r = .returned (.tuple #[.agg (pt c s X rr), .int .i64 0]) ∧ Below w.heap.size w w'))
  (KS : zP (∀ w, yF w → Calls Tryz.prog 30 #[.int .u8 f, .agg #[.int .u64 x, .int .u64 y]] w fun r w' => r = .returned (.bool true) ∧ Below w.heap.size w w'))
  (KM : zP (∀ w, P10 w → Calls Tryz.prog 31 #[.agg (pt c s X rr)] w fun r w' => r = .returned (.string m) ∧ Below w.heap.size w w'))
  (hv : (⟨#[45]⟩ : ByteArray) ++ m = v) (hl : ¬ 9223372036854775807 < 1 + m.size)
  (hT : yF w) (hP : P10 w) : Calls Tryz.prog 6 #[.int .u8 f, .agg #[.int .u64 x, .int .u64 y]] w fun r w' => r = .returned (.tuple #[.string v, .int .i64 0]) ∧ Below w.heap.size w w' := by
 have hat := zU 6
 have hz := yB
 have hff := z8
 have hs0 := xO
 have hcs : ∀ x, ((cw 6 x).size = 6) = True := fun x => eq_true (zR 6 x)
 have hp1 := xP
 have hp3 := ptz
 have hp4 := yI
 have hp5 : ∀ (c s : Nat) (x : Int) (r : Nat), ((pt c s x r).size = 14) = True := fun _ _ _ _ => eq_true rfl
 have FF := zK hT
 have PP := zK hP
 clear hT hP
 obtain ⟨Af, B0⟩ := xJ w (Obj.cells #[.int .u64 x, .int .u64 y] 25)
 go_enter Tryz.func6, Tryz.ntmps6
 go_wp2_with fail
 refine (KU.out _ (zY FF.out B0)).mono ?_
 rintro r w1 ⟨rfl, b1⟩
 have B1 := yD B0 b1
 have Aa := zA b1 _ _ _ Af
 clear b1 B0 Af
 obtain ⟨Ag, Ah⟩ := zG Aa
 have S2 := zK B1.size
 have AQ := yA Aa
 have Ab := heap_alloc_last w1 (Obj.cells (pt c s X rr) 68)
 have B2 := yD B1 (xY w1 (Obj.cells (pt c s X rr) 68))
 have Ac := zA (xY w1 (Obj.cells (pt c s X rr) 68)) _ _ _ Aa
 clear B1 Aa Ag Ah
 obtain ⟨Ai, Aj⟩ := zG Ac
 obtain ⟨Ak, Al, Am, An, Ao, Ap, Aq, Ar, As, At, Au, Av, Aw, Ax⟩ := zD Ab
 go_wp2_with fail
 refine (KS.out _ (zY FF.out B2)).mono ?_
 rintro r w3 ⟨rfl, b3⟩
 have B3 := yD B2 b3
 obtain ⟨Ad, Ae⟩ := zV b3 Ac Ab
 clear b3 B2 Ac Ai Aj Ab Ak Al Am An Ao Ap Aq Ar As At Au Av Aw Ax
 obtain ⟨Ay, Az⟩ := zG Ad
 obtain ⟨AA, AB, AC, AD, AE, AF, AG, AH, AI, AJ, AK, AL, AM, AN⟩ := zD Ae
 go_wp2_with fail
 refine (KM.out _ (p10B PP.out B3)).mono ?_
 rintro r w4 ⟨rfl, b4⟩
 have B4 := yD B3 b4
 obtain ⟨AO, AP⟩ := zV b4 Ad Ae
 clear b4 B3 Ad Ay Az Ae AA AB AC AD AE AF AG AH AI AJ AK AL AM AN
 obtain ⟨AR, AS⟩ := zG AO
 obtain ⟨AT, AU, AV, AW, AX, AY, AZ, A0, A1, A2, A3, A4, A5, A6⟩ := zD AP
 go_wp2
 go_ret2
 exact ⟨rfl, B4⟩
theorem xZ (a b : List UInt8) : (⟨a.toArray⟩ : ByteArray) ++ (⟨b.toArray⟩ : ByteArray) = ⟨(a ++ b).toArray⟩ := by
 apply ByteArray.ext
 simp [ByteArray.data_append]
def mTx (c s : Nat) (X : Int) (r : Nat) : List UInt8 :=
  if c = 9 then [110, 97, 110, 58] ++ tx r else if c = 8 then [115, 110, 97, 110, 58] ++ tx r
  else if c = 0 ∨ c = 7 then [105, 110, 102] else if c = 3 ∨ c = 4 then [48] else tx s ++ [112] ++ Lib.itoa X
def sTx (neg : Bool) (l : List UInt8) : List UInt8 := if neg then 45 :: l else l
def kTx (f : Int) (n : Nat) : List UInt8 := sTx (kN f n) (mTx (kC f n) (kS f n) (kX f n) (kF f n))
theorem dec_le : ∀ (k u : Nat), 1 ≤ k → u < 10 ^ k → Lib.nDigits u ≤ k := by
 intro k
 induction k with
 | zero => intro u h; omega
 | succ k ih =>
  intro u _ hu
  rw [Lib.nDigits]
  by_cases h : u < 10
  ·
   rw [dif_pos h]; omega
  ·
   rw [dif_neg h]
   by_cases hk : k = 0
   ·
    subst hk; omega
   ·
    have := ih (u / 10) (by omega) (by rw [Nat.pow_succ] at hu; omega)
    omega
theorem itoa_len8 (e : Int) (h0 : -20000 ≤ e) (h1 : e ≤ 20000) : (Lib.itoa e).length ≤ 30 := by
 by_cases hn : 0 ≤ e
 ·
  obtain ⟨n, rfl⟩ := Int.eq_ofNat_of_zero_le hn
  rw [Lib.itoa_nonneg, Lib.decDigits_length]
  have := dec_le 20 n (by decide) (by omega)
  omega
 ·
  obtain ⟨n, rfl⟩ : ∃ n : Nat, e = -(n : Int) := ⟨e.natAbs, by omega⟩
  rw [Lib.itoa_neg n (by omega), List.length_cons, Lib.decDigits_length]
  have := dec_le 20 n (by decide) (by omega)
  omega
theorem mTx_len (f : Int) (hf : yT f) (n : Nat) : (mTx (kC f n) (kS f n) (kX f n) (kF f n)).length ≤ 200 ∧ (tx (kS f n)).length ≤ 96 ∧ (tx (kF f n)).length ≤ 96 ∧ (Lib.itoa (kX f n)).length ≤ 30 := by
 obtain ⟨s1, s2, s3⟩ := kS_lim hf n
 have r1 : kF f n < 340282366920938463463374607431768211456 := by
  obtain ⟨g1, g2, g3, g4, g5, g6, g7⟩ := fm hf
  have tl := xR (f := f) n
  unfold kF
  rw [g1, Nat.add_mul] at g7
  split <;> omega
 have a := tx_len _ (yR s1)
 have b := tx_len _ (yR r1)
 have c := itoa_len8 _ s2 s3
 refine ⟨?_, a, b, c⟩
 unfold mTx
 repeat' split
 all_goals simp only [List.length_append, List.length_cons, List.length_nil]
 all_goals omega
theorem yJ (l : List UInt8) : (⟨l.toArray⟩ : ByteArray).size = l.length := rfl
theorem kMag_is (f : Int) (hf : yT f) (n : Nat) (w : World) (hP : P10 w) : Calls Tryz.prog 31 #[.agg (pt (kC f n) (kS f n) (kX f n) (kF f n))] w fun r w' => r = .returned (.string ⟨(mTx (kC f n) (kS f n) (kX f n) (kF f n)).toArray⟩) ∧ Below w.heap.size w w' := by
 obtain ⟨s1, s2, s3⟩ := kS_lim hf n
 obtain ⟨_, l1, l2, l3⟩ := mTx_len f hf n
 have r1 : kF f n < 340282366920938463463374607431768211456 := by
  obtain ⟨g1, g2, g3, g4, g5, g6, g7⟩ := fm hf
  have tl := xR (f := f) n
  unfold kF
  rw [g1, Nat.add_mul] at g7
  split <;> omega
 have cl := kC_lt f n
 generalize kS f n = s at *
 generalize kX f n = X at *
 generalize kF f n = r at *
 generalize kC f n = c at *
 unfold mTx
 by_cases c9 : c = 9
 ·
  subst c9
  rw [if_pos rfl]
  exact kmag_nan s r X _ _ w (zK (fun w => wtext_is r _ (yR r1) rfl w)) (xZ _ _) (by rw [yJ]; omega)
 rw [if_neg c9]
 by_cases c8 : c = 8
 ·
  subst c8
  rw [if_pos rfl]
  exact kmag_snan s r X _ _ w (zK (fun w => wtext_is r _ (yR r1) rfl w)) (xZ _ _) (by rw [yJ]; omega)
 rw [if_neg c8]
 by_cases c0 : c = 0 ∨ c = 7
 ·
  rw [if_pos c0]
  rcases c0 with rfl | rfl
  ·
   exact kmag_inf0 s r X w
  ·
   exact kmag_inf7 s r X w
 rw [if_neg c0]
 by_cases c3 : c = 3 ∨ c = 4
 ·
  rw [if_pos c3]
  rcases c3 with rfl | rfl
  ·
   exact kmag_zero3 s r X w
  ·
   exact kmag_zero4 s r X w
 rw [if_neg c3]
 have ne : ∀ k : Nat, c ≠ k → ((c : Int) == (k : Int)) = false := fun k hk => by rw [beq_eq_false_iff_ne]; omega
 exact kmag_num c s r X _ _ _ _ w (zK (fun w => wtext_is s _ (yR s1) rfl w)) (zK (fun w hP => t_itoa X _ (by omega) (by omega) rfl w hP)) (xZ _ [112]) (xZ _ _) (by rw [yJ]; omega) (by rw [yJ, yJ, List.length_append, List.length_cons, List.length_nil]; omega) (ne 9 (by omega)) (ne 8 (by omega)) (ne 0 (by omega)) (ne 7 (by omega)) (ne 3 (by omega)) (ne 4 (by omega)) hP
theorem kText_no (f : Int) (h0 : 0 ≤ f) (h1 : f ≤ 255) (x y n : Nat) (hx : x < 18446744073709551616) (hy : y < 18446744073709551616) (hn : y + 18446744073709551616 * x = n) (ho : okB f n = false) (w : World) (hT : yF w) : Calls Tryz.prog 6 #[.int .u8 f, .agg #[.int .u64 x, .int .u64 y]] w fun r w' => r = .returned (.tuple #[.string ⟨#[]⟩, .int .i64 2]) ∧ Below w.heap.size w w' :=
 ktext_no f x y w (zK (fun w hT => kUnpack_no f h0 h1 x y n hx hy hn ho w hT)) hT
theorem kText_is (f : Int) (hf : yT f) (x y n : Nat) (v : ByteArray) (hx : x < 18446744073709551616) (hy : y < 18446744073709551616) (hn : y + 18446744073709551616 * x = n) (ho : okB f n = true) (hv : (⟨(kTx f n).toArray⟩ : ByteArray) = v) (w : World) (hT : yF w) (hP : P10 w) : Calls Tryz.prog 6 #[.int .u8 f, .agg #[.int .u64 x, .int .u64 y]] w fun r w' => r = .returned (.tuple #[.string v, .int .i64 0]) ∧ Below w.heap.size w w' := by
 subst hv
 have KU : zP (∀ w, yF w → Calls Tryz.prog 29 #[.int .u8 f, .agg #[.int .u64 x, .int .u64 y]] w fun r w' => r = .returned (.tuple #[.agg (pt (kC f n) (kS f n) (kX f n) (kF f n)), .int .i64 0]) ∧ Below w.heap.size w w') := zK (fun w hT => kUnpack_yes f hf x y n _ _ _ _ hx hy hn ho rfl w hT)
 have KM : zP (∀ w, P10 w → Calls Tryz.prog 31 #[.agg (pt (kC f n) (kS f n) (kX f n) (kF f n))] w fun r w' => r = .returned (.string ⟨(mTx (kC f n) (kS f n) (kX f n) (kF f n)).toArray⟩) ∧ Below w.heap.size w w') := zK (fun w hP => kMag_is f hf n w hP)
 have ml := (mTx_len f hf n).1
 obtain ⟨neg, hneg⟩ : ∃ o, kN f n = o := ⟨_, rfl⟩
 have KS : zP (∀ w, yF w → Calls Tryz.prog 30 #[.int .u8 f, .agg #[.int .u64 x, .int .u64 y]] w fun r w' => r = .returned (.bool neg) ∧ Below w.heap.size w w') := zK (fun w hT => ksign_is f hf x y n _ hx hy hn hneg w hT)
 unfold kTx sTx
 rw [hneg]
 cases neg
 ·
  exact ktext_pos f x y _ _ _ _ _ w KU KS KM hT hP
 ·
  exact ktext_neg f x y _ _ _ _ _ _ w KU KS KM (xZ [45] _) (by rw [yJ]; omega) hT hP
def z7 (w : World) : Prop := (∃ t p, w.var? Tryz.prog "strconv.ErrSyntax" = some #[.iface t p]) ∧ (∃ t p, w.var? Tryz.prog "strconv.ErrRange" = some #[.iface t p]) ∧ ∃ m, w.cell? ⟨1, 0, none⟩ = some (.int .i64 m)
theorem varB {w w' : World} {n : String} {g : Nat} {cs : Array Value} (hg : Tryz.prog.globalNamed n = some g) (h : w.var? Tryz.prog n = some cs) (hb : Below w.heap.size w w') : w'.var? Tryz.prog n = some cs := by
 unfold World.var? at h ⊢
 rw [hg] at h ⊢
 simp only [Option.bind_some] at h ⊢
 have h0 : g < w.heap.size := by
  rcases Nat.lt_or_ge g w.heap.size with e | e
  ·
   exact e
  ·
   have : w.heap[g]? = none := Array.getElem?_eq_none e
   rw [this] at h
   cases h
 rw [hb.block g h0]
 exact h
theorem gSyn : Tryz.prog.globalNamed "strconv.ErrSyntax" = some 2 := by kernel_rfl
theorem gRng : Tryz.prog.globalNamed "strconv.ErrRange" = some 3 := by kernel_rfl
theorem atB {w w' : World} (h : z7 w) (hb : Below w.heap.size w w') : z7 w' := by
 obtain ⟨⟨t, p, h1⟩, ⟨t2, p2, h2⟩, m, h3⟩ := h
 exact ⟨⟨t, p, varB gSyn h1 hb⟩, ⟨t2, p2, varB gRng h2 hb⟩, m, by rw [hb.cell (p := ⟨1, 0, none⟩) (World.block_lt_of_cell? w _ h3)]; exact h3⟩
theorem kmr_zero (f : Int) (w : World)
  (hT : yF w) : Calls Tryz.prog 40 #[.int .u8 f, .string ⟨#[48]⟩] w fun r w' => r = .returned (.agg #[.int .u64 0, .int .u64 0]) ∧ Below w.heap.size w w' := by
 have hat := zU 6
 have hz := yB
 have hff := z8
 have hs0 := xO
 have hcs : ∀ x, ((cw 6 x).size = 6) = True := fun x => eq_true (zR 6 x)
 have FF := zK hT
 clear hT
 obtain ⟨Aa, B0⟩ := xJ w (Obj.cells #[.int .u64 0, .int .u64 0] 25)
 go_enter Tryz.func40, Tryz.ntmps40
 clear B0 Aa
 go_wp2
 exact bodyPost_ret (v := .agg #[.int .u64 0, .int .u64 0]) (by simp [results, Tryz.results40, go_sem]) rfl ⟨rfl, ((Below.refl _ _).alloc (by first | omega | (simp only [zT]; omega)) _)⟩
theorem kmr_inf (f : Int) (u v : Nat) (w : World)
  (KI : zP (∀ w, yF w → Calls Tryz.prog 96 #[.int .u8 f, .bool false] w fun r w' => r = .returned (.agg #[.int .u64 u, .int .u64 v]) ∧ Below w.heap.size w w'))
  (hT : yF w) : Calls Tryz.prog 40 #[.int .u8 f, .string ⟨#[105, 110, 102]⟩] w fun r w' => r = .returned (.agg #[.int .u64 u, .int .u64 v]) ∧ Below w.heap.size w w' := by
 have hat := zU 6
 have hz := yB
 have hff := z8
 have hs0 := xO
 have hcs : ∀ x, ((cw 6 x).size = 6) = True := fun x => eq_true (zR 6 x)
 have FF := zK hT
 clear hT
 obtain ⟨Ab, B0⟩ := xJ w (Obj.cells #[.int .u64 0, .int .u64 0] 25)
 go_enter Tryz.func40, Tryz.ntmps40
 go_wp2_with fail
 refine (KI.out _ (zY FF.out B0)).mono ?_
 rintro r w1 ⟨rfl, b1⟩
 have B1 := yD B0 b1
 have Aa := zA b1 _ _ _ Ab
 clear b1 B0 Ab
 obtain ⟨Ac, Ad⟩ := zG Aa
 have q0 := fz (k := 0) Aa
 have q1 := fz (k := 1) Aa
 obtain ⟨E0, E1⟩ := zM Aa (.int .u64 u) (.int .u64 v)
 go_wp2
 exact bodyPost_ret (v := .agg #[.int .u64 u, .int .u64 v]) (by simp [results, Tryz.results40, go_sem, E0, E1]) rfl ⟨rfl, zI B1 (by first | exact Nat.le_refl _ | omega | (skip; omega)) _ _⟩
theorem kmr_nan (f : Int) (s d0 d1 : ByteArray) (V u v : Nat) (E : Int) (w : World)
  (n0 : (s.toList == [48]) = false) (n1 : (s.toList == [105, 110, 102]) = false)
  (KC : zP (∀ w, z7 w → Calls Tryz.prog 97 #[.string s, .string ⟨#[110, 97, 110, 58]⟩] w fun r w' => r = .returned (.tuple #[.string d0, .string d1, .bool true]) ∧ Below w.heap.size w w'))
  (KR : zP (∀ w, Calls Tryz.prog 98 #[.string d1] w fun r w' => r = .returned (.tuple #[.agg (cw 6 V), .int .i64 E]) ∧ Below w.heap.size w w'))
  (KE : zP (∀ w, yF w → Calls Tryz.prog 99 #[.int .u8 f, .agg (cw 6 V)] w fun r w' => r = .returned (.agg #[.int .u64 u, .int .u64 v]) ∧ Below w.heap.size w w')) (hA : z7 w)
  (hT : yF w) : Calls Tryz.prog 40 #[.int .u8 f, .string s] w fun r w' => r = .returned (.agg #[.int .u64 u, .int .u64 v]) ∧ Below w.heap.size w w' := by
 have hat := zU 6
 have hz := yB
 have hff := z8
 have hs0 := xO
 have hcs : ∀ x, ((cw 6 x).size = 6) = True := fun x => eq_true (zR 6 x)
 have FF := zK hT
 clear hT
 have AA := zK hA
 clear hA
 obtain ⟨Af, B0⟩ := xJ w (Obj.cells #[.int .u64 0, .int .u64 0] 25)
 go_enter Tryz.func40, Tryz.ntmps40
 go_wp2_with fail
 refine (KC.out _ (atB AA.out B0)).mono ?_
 rintro r w1 ⟨rfl, b1⟩
 have B1 := yD B0 b1
 have Ac := zA b1 _ _ _ Af
 clear b1 B0 Af
 obtain ⟨Ag, Ah⟩ := zG Ac
 go_wp2_with fail
 refine (KR.out _).mono ?_
 rintro r w2 ⟨rfl, b2⟩
 have B2 := yD B1 b2
 have Aa := zA b2 _ _ _ Ac
 clear b2 B1 Ac Ag Ah
 obtain ⟨Ai, Aj⟩ := zG Aa
 have S3 := zK B2.size
 have Ak := yA Aa
 have Ad := heap_alloc_last w2 (Obj.cells (cw 6 V) 66)
 have B3 := yD B2 (xY w2 (Obj.cells (cw 6 V) 66))
 have Ae := zA (xY w2 (Obj.cells (cw 6 V) 66)) _ _ _ Aa
 clear B2 Aa Ai Aj
 obtain ⟨Al, Am⟩ := zG Ae
 have An := zE Ad
 go_wp2_with fail
 refine (KE.out _ (zY FF.out B3)).mono ?_
 rintro r w4 ⟨rfl, b4⟩
 have B4 := yD B3 b4
 obtain ⟨Ab, Ao⟩ := zV b4 Ae Ad
 clear b4 B3 Ae Al Am Ad An
 obtain ⟨Ap, Aq⟩ := zG Ab
 have Ar := zE Ao
 have q0 := fz (k := 0) Ab
 have q1 := fz (k := 1) Ab
 obtain ⟨E0, E1⟩ := zM Ab (.int .u64 u) (.int .u64 v)
 go_wp2
 exact bodyPost_ret (v := .agg #[.int .u64 u, .int .u64 v]) (by simp [results, Tryz.results40, go_sem, E0, E1]) rfl ⟨rfl, zI B4 (by first | exact Nat.le_refl _ | omega | (have := S3.out; have := Ak.out; omega)) _ _⟩
theorem kmr_num (f : Int) (s d0 d1 c0 c1 : ByteArray) (is : Bool) (V u v : Nat) (E X : Int) (w : World)
  (n0 : (s.toList == [48]) = false) (n1 : (s.toList == [105, 110, 102]) = false)
  (KC : zP (∀ w, z7 w → Calls Tryz.prog 97 #[.string s, .string ⟨#[110, 97, 110, 58]⟩] w fun r w' => r = .returned (.tuple #[.string d0, .string d1, .bool false]) ∧ Below w.heap.size w w'))
  (KD : zP (∀ w, z7 w → Calls Tryz.prog 97 #[.string s, .string ⟨#[112]⟩] w fun r w' => r = .returned (.tuple #[.string c0, .string c1, .bool is]) ∧ Below w.heap.size w w'))
  (KR : zP (∀ w, Calls Tryz.prog 98 #[.string c0] w fun r w' => r = .returned (.tuple #[.agg (cw 6 V), .int .i64 E]) ∧ Below w.heap.size w w'))
  (KA : zP (∀ w, z7 w → Calls Tryz.prog 100 #[.string c1] w fun r w' => ∃ ev, r = .returned (.tuple #[.int .i64 X, ev]) ∧ Below w.heap.size w w'))
  (KE : zP (∀ w, yF w → Calls Tryz.prog 101 #[.int .u8 f, .agg (cw 6 V), .int .i64 X] w fun r w' => r = .returned (.agg #[.int .u64 u, .int .u64 v]) ∧ Below w.heap.size w w')) (hA : z7 w)
  (hT : yF w) : Calls Tryz.prog 40 #[.int .u8 f, .string s] w fun r w' => r = .returned (.agg #[.int .u64 u, .int .u64 v]) ∧ Below w.heap.size w w' := by
 have hat := zU 6
 have hz := yB
 have hff := z8
 have hs0 := xO
 have hcs : ∀ x, ((cw 6 x).size = 6) = True := fun x => eq_true (zR 6 x)
 have FF := zK hT
 clear hT
 have AA := zK hA
 clear hA
 obtain ⟨Ai, B0⟩ := xJ w (Obj.cells #[.int .u64 0, .int .u64 0] 25)
 go_enter Tryz.func40, Tryz.ntmps40
 go_wp2_with fail
 refine (KC.out _ (atB AA.out B0)).mono ?_
 rintro r w1 ⟨rfl, b1⟩
 have B1 := yD B0 b1
 have Ac := zA b1 _ _ _ Ai
 clear b1 B0 Ai
 obtain ⟨Aj, Ak⟩ := zG Ac
 go_wp2_with fail
 refine (KD.out _ (atB AA.out B1)).mono ?_
 rintro r w2 ⟨rfl, b2⟩
 have B2 := yD B1 b2
 have Ad := zA b2 _ _ _ Ac
 clear b2 B1 Ac Aj Ak
 obtain ⟨Al, Am⟩ := zG Ad
 go_wp2_with fail
 refine (KR.out _).mono ?_
 rintro r w3 ⟨rfl, b3⟩
 have B3 := yD B2 b3
 have Aa := zA b3 _ _ _ Ad
 clear b3 B2 Ad Al Am
 obtain ⟨An, Ao⟩ := zG Aa
 have S4 := zK B3.size
 have Ap := yA Aa
 have Ae := heap_alloc_last w3 (Obj.cells (cw 6 V) 66)
 have B4 := yD B3 (xY w3 (Obj.cells (cw 6 V) 66))
 have Af := zA (xY w3 (Obj.cells (cw 6 V) 66)) _ _ _ Aa
 clear B3 Aa An Ao
 obtain ⟨Aq, Ar⟩ := zG Af
 have As := zE Ae
 go_wp2_with fail
 refine (KA.out _ (atB AA.out B4)).mono ?_
 rintro r w5 ⟨ev, rfl, b5⟩
 have B5 := yD B4 b5
 obtain ⟨Ag, Ah⟩ := zV b5 Af Ae
 clear b5 B4 Af Aq Ar Ae As
 obtain ⟨At, Au⟩ := zG Ag
 have Av := zE Ah
 go_wp2_with fail
 refine (KE.out _ (zY FF.out B5)).mono ?_
 rintro r w6 ⟨rfl, b6⟩
 have B6 := yD B5 b6
 obtain ⟨Ab, Aw⟩ := zV b6 Ag Ah
 clear b6 B5 Ag At Au Ah Av
 obtain ⟨Ax, Ay⟩ := zG Ab
 have Az := zE Aw
 have q0 := fz (k := 0) Ab
 have q1 := fz (k := 1) Ab
 obtain ⟨E0, E1⟩ := zM Ab (.int .u64 u) (.int .u64 v)
 go_wp2
 exact bodyPost_ret (v := .agg #[.int .u64 u, .int .u64 v]) (by simp [results, Tryz.results40, go_sem, E0, E1]) rfl ⟨rfl, zI B6 (by first | exact Nat.le_refl _ | omega | (have := S4.out; have := Ap.out; omega)) _ _⟩
theorem kread_none (f : Int) (s : ByteArray) (w : World)
  (K0 : zP (∀ w, Calls Tryz.prog 37 #[.int .u8 f] w fun r w' => r = .returned (.int .i64 2) ∧ Below w.heap.size w w'))
  (hT : yF w) (hP : P10 w) (hA : z7 w) : Calls Tryz.prog 9 #[.int .u8 f, .string s] w fun r w' => r = .returned (.tuple #[.agg #[.int .u64 0, .int .u64 0], .int .i64 2]) ∧ Below w.heap.size w w' := by
 have hat := zU 6
 have hz := yB
 have hff := z8
 have hs0 := xO
 have hcs : ∀ x, ((cw 6 x).size = 6) = True := fun x => eq_true (zR 6 x)
 have FF := zK hT
 have PP := zK hP
 have AA := zK hA
 clear hT hP hA
 obtain ⟨Ab, B0⟩ := xJ w (Obj.cells #[.int .u64 0, .int .u64 0] 25)
 go_enter Tryz.func9, Tryz.ntmps9
 go_wp2_with fail
 refine (K0.out _).mono ?_
 rintro r w1 ⟨rfl, b1⟩
 have B1 := yD B0 b1
 have Aa := zA b1 _ _ _ Ab
 clear b1 B0 Ab
 obtain ⟨Ac, Ad⟩ := zG Aa
 have q0 := fz (k := 0) Aa
 have q1 := fz (k := 1) Aa
 obtain ⟨E0, E1⟩ := zM Aa (.int .u64 0) (.int .u64 0)
 go_wp2
 exact bodyPost_ret (v := .tuple #[.agg #[.int .u64 0, .int .u64 0], .int .i64 2]) (by simp [results, Tryz.results9, go_sem, E0, E1]) rfl ⟨rfl, zI B1 (by first | exact Nat.le_refl _ | omega | (skip; omega)) _ _⟩
theorem kread_err (f : Int) (s : ByteArray) (m : ByteArray) (neg : Bool) (i j x y : Nat) (w : World)
  (K0 : zP (∀ w, Calls Tryz.prog 37 #[.int .u8 f] w fun r w' => r = .returned (.int .i64 0) ∧ Below w.heap.size w w'))
  (KP : zP (∀ w, Calls Tryz.prog 38 #[.string s, .string ⟨#[45]⟩] w fun r w' => r = .returned (.tuple #[.string m, .bool neg]) ∧ Below w.heap.size w w'))
  (KM : zP (∀ w, yF w → z7 w → Calls Tryz.prog 40 #[.int .u8 f, .string m] w fun r w' => r = .returned (.agg #[.int .u64 i, .int .u64 j]) ∧ Below w.heap.size w w'))
  (KS : zP (∀ w, yF w → Calls Tryz.prog 39 #[.int .u8 f, .agg #[.int .u64 i, .int .u64 j], .bool neg] w fun r w' => r = .returned (.agg #[.int .u64 x, .int .u64 y]) ∧ Below w.heap.size w w'))
  (KT : zP (∀ w, yF w → P10 w → Calls Tryz.prog 6 #[.int .u8 f, .agg #[.int .u64 x, .int .u64 y]] w fun r w' => r = .returned (.tuple #[.string ⟨#[]⟩, .int .i64 2]) ∧ Below w.heap.size w w'))
  (hT : yF w) (hP : P10 w) (hA : z7 w) : Calls Tryz.prog 9 #[.int .u8 f, .string s] w fun r w' => r = .returned (.tuple #[.agg #[.int .u64 0, .int .u64 0], .int .i64 80]) ∧ Below w.heap.size w w' := by
 have hat := zU 6
 have hz := yB
 have hff := z8
 have hs0 := xO
 have hcs : ∀ x, ((cw 6 x).size = 6) = True := fun x => eq_true (zR 6 x)
 have FF := zK hT
 have PP := zK hP
 have AA := zK hA
 clear hT hP hA
 obtain ⟨Ah, B0⟩ := xJ w (Obj.cells #[.int .u64 0, .int .u64 0] 25)
 go_enter Tryz.func9, Tryz.ntmps9
 go_wp2_with fail
 refine (K0.out _).mono ?_
 rintro r w1 ⟨rfl, b1⟩
 have B1 := yD B0 b1
 have Ac := zA b1 _ _ _ Ah
 clear b1 B0 Ah
 obtain ⟨Ai, Aj⟩ := zG Ac
 go_wp2_with fail
 refine (KP.out _).mono ?_
 rintro r w2 ⟨rfl, b2⟩
 have B2 := yD B1 b2
 have Ad := zA b2 _ _ _ Ac
 clear b2 B1 Ac Ai Aj
 obtain ⟨Ak, Al⟩ := zG Ad
 go_wp2_with fail
 refine (KM.out _ (zY FF.out B2) (atB AA.out B2)).mono ?_
 rintro r w3 ⟨rfl, b3⟩
 have B3 := yD B2 b3
 have Ae := zA b3 _ _ _ Ad
 clear b3 B2 Ad Ak Al
 obtain ⟨Am, An⟩ := zG Ae
 go_wp2_with fail
 refine (KS.out _ (zY FF.out B3)).mono ?_
 rintro r w4 ⟨rfl, b4⟩
 have B4 := yD B3 b4
 have Aa := zA b4 _ _ _ Ae
 clear b4 B3 Ae Am An
 obtain ⟨Ao, Ap⟩ := zG Aa
 have S5 := zK B4.size
 have Aq := yA Aa
 have Af := heap_alloc_last w4 (Obj.cells #[.int .u64 x, .int .u64 y] 25)
 have B5 := yD B4 (xY w4 (Obj.cells #[.int .u64 x, .int .u64 y] 25))
 have Ag := zA (xY w4 (Obj.cells #[.int .u64 x, .int .u64 y] 25)) _ _ _ Aa
 clear B4 Aa Ao Ap
 obtain ⟨Ar, As⟩ := zG Ag
 obtain ⟨At, Au⟩ := zG Af
 go_wp2_with fail
 refine (KT.out _ (zY FF.out B5) (p10B PP.out B5)).mono ?_
 rintro r w6 ⟨rfl, b6⟩
 have B6 := yD B5 b6
 obtain ⟨Ab, Av⟩ := zV b6 Ag Af
 clear b6 B5 Ag Ar As Af At Au
 obtain ⟨Aw, Ax⟩ := zG Ab
 obtain ⟨Ay, Az⟩ := zG Av
 have q0 := fz (k := 0) Ab
 have q1 := fz (k := 1) Ab
 obtain ⟨E0, E1⟩ := zM Ab (.int .u64 0) (.int .u64 0)
 go_wp2
 exact bodyPost_ret (v := .tuple #[.agg #[.int .u64 0, .int .u64 0], .int .i64 80]) (by simp [results, Tryz.results9, go_sem, E0, E1]) rfl ⟨rfl, zI B6 (by first | exact Nat.le_refl _ | omega | (have := S5.out; have := Aq.out; omega)) _ _⟩
theorem kread_other (f : Int) (s : ByteArray) (m : ByteArray) (neg : Bool) (i j x y : Nat) (t : ByteArray) (w : World)
  (K0 : zP (∀ w, Calls Tryz.prog 37 #[.int .u8 f] w fun r w' => r = .returned (.int .i64 0) ∧ Below w.heap.size w w'))
  (KP : zP (∀ w, Calls Tryz.prog 38 #[.string s, .string ⟨#[45]⟩] w fun r w' => r = .returned (.tuple #[.string m, .bool neg]) ∧ Below w.heap.size w w'))
  (KM : zP (∀ w, yF w → z7 w → Calls Tryz.prog 40 #[.int .u8 f, .string m] w fun r w' => r = .returned (.agg #[.int .u64 i, .int .u64 j]) ∧ Below w.heap.size w w'))
  (KS : zP (∀ w, yF w → Calls Tryz.prog 39 #[.int .u8 f, .agg #[.int .u64 i, .int .u64 j], .bool neg] w fun r w' => r = .returned (.agg #[.int .u64 x, .int .u64 y]) ∧ Below w.heap.size w w'))
  (KT : zP (∀ w, yF w → P10 w → Calls Tryz.prog 6 #[.int .u8 f, .agg #[.int .u64 x, .int .u64 y]] w fun r w' => r = .returned (.tuple #[.string t, .int .i64 0]) ∧ Below w.heap.size w w'))
  (hne : (t.toList == s.toList) = false)
  (hT : yF w) (hP : P10 w) (hA : z7 w) : Calls Tryz.prog 9 #[.int .u8 f, .string s] w fun r w' => r = .returned (.tuple #[.agg #[.int .u64 0, .int .u64 0], .int .i64 80]) ∧ Below w.heap.size w w' := by
 have hat := zU 6
 have hz := yB
 have hff := z8
 have hs0 := xO
 have hcs : ∀ x, ((cw 6 x).size = 6) = True := fun x => eq_true (zR 6 x)
 have FF := zK hT
 have PP := zK hP
 have AA := zK hA
 clear hT hP hA
 obtain ⟨Ah, B0⟩ := xJ w (Obj.cells #[.int .u64 0, .int .u64 0] 25)
 go_enter Tryz.func9, Tryz.ntmps9
 go_wp2_with fail
 refine (K0.out _).mono ?_
 rintro r w1 ⟨rfl, b1⟩
 have B1 := yD B0 b1
 have Ac := zA b1 _ _ _ Ah
 clear b1 B0 Ah
 obtain ⟨Ai, Aj⟩ := zG Ac
 go_wp2_with fail
 refine (KP.out _).mono ?_
 rintro r w2 ⟨rfl, b2⟩
 have B2 := yD B1 b2
 have Ad := zA b2 _ _ _ Ac
 clear b2 B1 Ac Ai Aj
 obtain ⟨Ak, Al⟩ := zG Ad
 go_wp2_with fail
 refine (KM.out _ (zY FF.out B2) (atB AA.out B2)).mono ?_
 rintro r w3 ⟨rfl, b3⟩
 have B3 := yD B2 b3
 have Ae := zA b3 _ _ _ Ad
 clear b3 B2 Ad Ak Al
 obtain ⟨Am, An⟩ := zG Ae
 go_wp2_with fail
 refine (KS.out _ (zY FF.out B3)).mono ?_
 rintro r w4 ⟨rfl, b4⟩
 have B4 := yD B3 b4
 have Aa := zA b4 _ _ _ Ae
 clear b4 B3 Ae Am An
 obtain ⟨Ao, Ap⟩ := zG Aa
 have S5 := zK B4.size
 have Aq := yA Aa
 have Af := heap_alloc_last w4 (Obj.cells #[.int .u64 x, .int .u64 y] 25)
 have B5 := yD B4 (xY w4 (Obj.cells #[.int .u64 x, .int .u64 y] 25))
 have Ag := zA (xY w4 (Obj.cells #[.int .u64 x, .int .u64 y] 25)) _ _ _ Aa
 clear B4 Aa Ao Ap
 obtain ⟨Ar, As⟩ := zG Ag
 obtain ⟨At, Au⟩ := zG Af
 go_wp2_with fail
 refine (KT.out _ (zY FF.out B5) (p10B PP.out B5)).mono ?_
 rintro r w6 ⟨rfl, b6⟩
 have B6 := yD B5 b6
 obtain ⟨Ab, Av⟩ := zV b6 Ag Af
 clear b6 B5 Ag Ar As Af At Au
 obtain ⟨Aw, Ax⟩ := zG Ab
 obtain ⟨Ay, Az⟩ := zG Av
 have q0 := fz (k := 0) Ab
 have q1 := fz (k := 1) Ab
 obtain ⟨E0, E1⟩ := zM Ab (.int .u64 0) (.int .u64 0)
 go_wp2
 exact bodyPost_ret (v := .tuple #[.agg #[.int .u64 0, .int .u64 0], .int .i64 80]) (by simp [results, Tryz.results9, go_sem, E0, E1]) rfl ⟨rfl, zI B6 (by first | exact Nat.le_refl _ | omega | (have := S5.out; have := Aq.out; omega)) _ _⟩
theorem kread_yes (f : Int) (s : ByteArray) (m : ByteArray) (neg : Bool) (i j x y : Nat) (w : World)
  (K0 : zP (∀ w, Calls Tryz.prog 37 #[.int .u8 f] w fun r w' => r = .returned (.int .i64 0) ∧ Below w.heap.size w w'))
  (KP : zP (∀ w, Calls Tryz.prog 38 #[.string s, .string ⟨#[45]⟩] w fun r w' => r = .returned (.tuple #[.string m, .bool neg]) ∧ Below w.heap.size w w'))
  (KM : zP (∀ w, yF w → z7 w → Calls Tryz.prog 40 #[.int .u8 f, .string m] w fun r w' => r = .returned (.agg #[.int .u64 i, .int .u64 j]) ∧ Below w.heap.size w w'))
  (KS : zP (∀ w, yF w → Calls Tryz.prog 39 #[.int .u8 f, .agg #[.int .u64 i, .int .u64 j], .bool neg] w fun r w' => r = .returned (.agg #[.int .u64 x, .int .u64 y]) ∧ Below w.heap.size w w'))
  (KT : zP (∀ w, yF w → P10 w → Calls Tryz.prog 6 #[.int .u8 f, .agg #[.int .u64 x, .int .u64 y]] w fun r w' => r = .returned (.tuple #[.string s, .int .i64 0]) ∧ Below w.heap.size w w'))
  (hT : yF w) (hP : P10 w) (hA : z7 w) : Calls Tryz.prog 9 #[.int .u8 f, .string s] w fun r w' => r = .returned (.tuple #[.agg #[.int .u64 x, .int .u64 y], .int .i64 0]) ∧ Below w.heap.size w w' := by
 have hat := zU 6
 have hz := yB
 have hff := z8
 have hs0 := xO
 have hcs : ∀ x, ((cw 6 x).size = 6) = True := fun x => eq_true (zR 6 x)
 have FF := zK hT
 have PP := zK hP
 have AA := zK hA
 clear hT hP hA
 obtain ⟨Ah, B0⟩ := xJ w (Obj.cells #[.int .u64 0, .int .u64 0] 25)
 go_enter Tryz.func9, Tryz.ntmps9
 go_wp2_with fail
 refine (K0.out _).mono ?_
 rintro r w1 ⟨rfl, b1⟩
 have B1 := yD B0 b1
 have Ac := zA b1 _ _ _ Ah
 clear b1 B0 Ah
 obtain ⟨Ai, Aj⟩ := zG Ac
 go_wp2_with fail
 refine (KP.out _).mono ?_
 rintro r w2 ⟨rfl, b2⟩
 have B2 := yD B1 b2
 have Ad := zA b2 _ _ _ Ac
 clear b2 B1 Ac Ai Aj
 obtain ⟨Ak, Al⟩ := zG Ad
 go_wp2_with fail
 refine (KM.out _ (zY FF.out B2) (atB AA.out B2)).mono ?_
 rintro r w3 ⟨rfl, b3⟩
 have B3 := yD B2 b3
 have Ae := zA b3 _ _ _ Ad
 clear b3 B2 Ad Ak Al
 obtain ⟨Am, An⟩ := zG Ae
 go_wp2_with fail
 refine (KS.out _ (zY FF.out B3)).mono ?_
 rintro r w4 ⟨rfl, b4⟩
 have B4 := yD B3 b4
 have Aa := zA b4 _ _ _ Ae
 clear b4 B3 Ae Am An
 obtain ⟨Ao, Ap⟩ := zG Aa
 have S5 := zK B4.size
 have Aq := yA Aa
 have Af := heap_alloc_last w4 (Obj.cells #[.int .u64 x, .int .u64 y] 25)
 have B5 := yD B4 (xY w4 (Obj.cells #[.int .u64 x, .int .u64 y] 25))
 have Ag := zA (xY w4 (Obj.cells #[.int .u64 x, .int .u64 y] 25)) _ _ _ Aa
 clear B4 Aa Ao Ap
 obtain ⟨Ar, As⟩ := zG Ag
 obtain ⟨At, Au⟩ := zG Af
 go_wp2_with fail
 refine (KT.out _ (zY FF.out B5) (p10B PP.out B5)).mono ?_
 rintro r w6 ⟨rfl, b6⟩
 have B6 := yD B5 b6
 obtain ⟨Ab, Av⟩ := zV b6 Ag Af
 clear b6 B5 Ag Ar As Af At Au
 obtain ⟨Aw, Ax⟩ := zG Ab
 obtain ⟨Ay, Az⟩ := zG Av
 have q0 := fz (k := 0) Ab
 have q1 := fz (k := 1) Ab
 obtain ⟨E0, E1⟩ := zM Ab (.int .u64 x) (.int .u64 y)
 go_wp2
 exact bodyPost_ret (v := .tuple #[.agg #[.int .u64 x, .int .u64 y], .int .i64 0]) (by simp [results, Tryz.results9, go_sem, E0, E1]) rfl ⟨rfl, zI B6 (by first | exact Nat.le_refl _ | omega | (have := S5.out; have := Aq.out; omega)) _ _⟩
theorem dg_byte (d : Nat) : dg d ≠ 110 ∧ dg d ≠ 112 ∧ dg d ≠ 45 ∧ dg d ≠ 105 ∧ dg d ≠ 115 := by
 by_cases h : d < 16
 ·
  have key : ∀ d : Fin 16, dg d.val ≠ 110 ∧ dg d.val ≠ 112 ∧ dg d.val ≠ 45 ∧ dg d.val ≠ 105 ∧ dg d.val ≠ 115 := by decide +kernel
  exact key ⟨d, h⟩
 ·
  have : dg d = 0 := by
   unfold dg
   rw [List.getD_eq_getElem?_getD, List.getElem?_eq_none (by show 16 ≤ d; omega)]
   rfl
  rw [this]
  decide
theorem tx_byte (n : Nat) (b : UInt8) (h : b ∈ tx n) : b ≠ 110 ∧ b ≠ 112 ∧ b ≠ 45 ∧ b ≠ 105 ∧ b ≠ 115 := by
 unfold tx hxs at h
 rw [List.mem_map] at h
 obtain ⟨i, _, rfl⟩ := h
 exact dg_byte _
theorem dec_byte (n : Nat) (b : UInt8) (h : b ∈ Lib.decDigits n) : b ≠ 110 ∧ b ≠ 112 ∧ b ≠ 45 ∧ b ≠ 43 := by
 rw [Lib.decDigits] at h
 have key : ∀ d : Fin 10, UInt8.ofNat (48 + d.val) ≠ 110 ∧ UInt8.ofNat (48 + d.val) ≠ 112 ∧ UInt8.ofNat (48 + d.val) ≠ 45 ∧ UInt8.ofNat (48 + d.val) ≠ 43 := by decide +kernel
 split at h
 ·
  rename_i hn
  rw [List.mem_singleton] at h
  subst h
  exact key ⟨n, hn⟩
 ·
  rename_i hn
  rw [List.mem_append, List.mem_singleton] at h
  rcases h with h | h
  ·
   have : n / 10 < n := by omega
   exact dec_byte (n / 10) b h
  ·
   subst h
   exact key ⟨n % 10, by omega⟩
termination_by n
decreasing_by omega
theorem itoa_byte (X : Int) (b : UInt8) (h : b ∈ Lib.itoa X) : b ≠ 110 ∧ b ≠ 112 := by
 unfold Lib.itoa at h
 split at h
 ·
  rw [List.mem_cons] at h
  rcases h with h | h
  ·
   subst h; decide
  ·
   exact ⟨(dec_byte _ b h).1, (dec_byte _ b h).2.1⟩
 ·
  exact ⟨(dec_byte _ b h).1, (dec_byte _ b h).2.1⟩
theorem index_first (c : UInt8) (p b : List UInt8) : ∀ a : List UInt8, c ∉ a → Lib.index (a ++ (c :: p) ++ b) (c :: p) = a.length
 | [], _ => by
  show Lib.index (c :: (p ++ b)) (c :: p) = 0
  rw [Lib.index, if_pos]
  show (c :: p).isPrefixOf (c :: (p ++ b)) = true
  simp
 | x :: a, h => by
  have hx : c ≠ x := fun e => h (by rw [e]; exact List.mem_cons_self ..)
  have ih := index_first c p b a (fun k => h (List.mem_cons_of_mem _ k))
  show Lib.index (x :: (a ++ (c :: p) ++ b)) (c :: p) = _
  rw [Lib.index, if_neg (by
   show ¬ ((c :: p).isPrefixOf (x :: (a ++ (c :: p) ++ b)) = true)
   simp [List.isPrefixOf, hx]), ih, if_neg (by simp)]
  simp
theorem index_none (c : UInt8) (p : List UInt8) : ∀ a : List UInt8, c ∉ a → Lib.index a (c :: p) = -1
 | [], _ => by rw [Lib.index]; simp
 | x :: a, h => by
  have hx : c ≠ x := fun e => h (by rw [e]; exact List.mem_cons_self ..)
  have ih := index_none c p a (fun k => h (List.mem_cons_of_mem _ k))
  rw [Lib.index, if_neg (by simp [List.isPrefixOf, hx]), ih, if_pos (by decide)]
theorem cut_first (c : UInt8) (p a b : List UInt8) (h : c ∉ a) : Lib.cut (a ++ (c :: p) ++ b) (c :: p) = (a, b, true) := by
 have e := index_first c p b a h
 unfold Lib.cut
 rw [e, if_pos (by omega), Int.toNat_natCast]
 congr 1
 ·
  simp
 ·
  congr 1
  rw [List.append_assoc, show a.length + (c :: p).length = (a ++ (c :: p)).length by simp, ← List.append_assoc, List.drop_left]
theorem cut_none (c : UInt8) (p a : List UInt8) (h : c ∉ a) : Lib.cut a (c :: p) = (a, [], false) := by
 unfold Lib.cut
 rw [index_none c p a h, if_neg (by decide)]
theorem digitVal_of (r : Nat) (h : r < 10) : Lib.digitVal (UInt8.ofNat (48 + r)) = some r := by
 have key : ∀ d : Fin 10, Lib.digitVal (UInt8.ofNat (48 + d.val)) = some d.val := by decide +kernel
 exact key ⟨r, h⟩
theorem decFrom_snoc (b : UInt8) (d : Nat) (hb : Lib.digitVal b = some d) : ∀ (l : List UInt8) (acc n : Nat), Lib.decFrom acc l = some n → Lib.decFrom acc (l ++ [b]) = some (n * 10 + d)
 | [], acc, n, h => by
  rw [Lib.decFrom] at h
  injection h with h
  subst h
  show Lib.decFrom acc [b] = _
  rw [Lib.decFrom, hb]
  rfl
 | c :: l, acc, n, h => by
  rw [Lib.decFrom] at h
  show Lib.decFrom acc (c :: (l ++ [b])) = _
  rw [Lib.decFrom]
  cases hc : Lib.digitVal c with
  | none => rw [hc] at h; exact absurd h (by simp)
  | some e =>
   rw [hc] at h
   exact decFrom_snoc b d hb l _ n h
theorem dec_val (u : Nat) : Lib.decFrom 0 (Lib.decDigits u) = some u := by
 rw [Lib.decDigits]
 split
 ·
  rename_i h
  rw [Lib.decFrom, digitVal_of u h]
  show Lib.decFrom (0 * 10 + u) [] = some u
  rw [Lib.decFrom]
  simp
 ·
  rename_i h
  have ih := dec_val (u / 10)
  rw [decFrom_snoc _ (u % 10) (digitVal_of _ (by omega)) _ _ _ ih]
  congr 1
  omega
termination_by u
decreasing_by omega
theorem dec_ne (u : Nat) : Lib.decDigits u ≠ [] := by
 intro h
 have := Lib.decDigits_length u
 rw [h, Lib.nDigits] at this
 split at this <;> simp at this
theorem decNat_dec (u : Nat) : Lib.decNat (Lib.decDigits u) = some u := by
 unfold Lib.decNat
 rw [if_neg (by rw [List.isEmpty_iff]; exact dec_ne u), dec_val]
theorem atoi_itoa (X : Int) : Lib.atoi (Lib.itoa X) = some X := by
 by_cases h : X < 0
 ·
  have e : Lib.itoa X = 45 :: Lib.decDigits X.natAbs := by unfold Lib.itoa; rw [if_pos h]
  rw [e, Lib.atoi, if_pos (by decide), decNat_dec]
  show some (-(X.natAbs : Int)) = some X
  congr 1
  omega
 ·
  have e : Lib.itoa X = Lib.decDigits X.toNat := by unfold Lib.itoa; rw [if_neg h]
  rw [e]
  have hb := fun b hb => dec_byte X.toNat b hb
  have hv := decNat_dec X.toNat
  cases hl : Lib.decDigits X.toNat with
  | nil => exact absurd hl (dec_ne _)
  | cons b r =>
   rw [hl] at hb hv
   obtain ⟨_, _, h45, h43⟩ := hb b (List.mem_cons_self ..)
   rw [Lib.atoi, if_neg (by simpa using h45), if_neg (by simpa using h43), hv]
   show some ((X.toNat : Nat) : Int) = some X
   congr 1
   omega
theorem atoiAll_itoa (X : Int) (hl : (Lib.itoa X).length ≤ 18) : Lib.atoiAll (Lib.itoa X) = .ok X := by
 rw [Lib.atoiAll_short _ hl, atoi_itoa]
 rfl
theorem itoa_18 (e : Int) (h0 : -20000 ≤ e) (h1 : e ≤ 20000) : (Lib.itoa e).length ≤ 18 := by
 by_cases hn : 0 ≤ e
 ·
  obtain ⟨n, rfl⟩ := Int.eq_ofNat_of_zero_le hn
  rw [Lib.itoa_nonneg, Lib.decDigits_length]
  have := dec_le 10 n (by decide) (by omega)
  omega
 ·
  obtain ⟨n, rfl⟩ : ∃ n : Nat, e = -(n : Int) := ⟨e.natAbs, by omega⟩
  rw [Lib.itoa_neg n (by omega), List.length_cons, Lib.decDigits_length]
  have := dec_le 10 n (by decide) (by omega)
  omega
theorem m_head (c s : Nat) (X : Int) (r : Nat) : Lib.hasPrefix (mTx c s X r) [45] = false := by
 have ht : ∀ (n : Nat) (t : List UInt8), Lib.hasPrefix (tx n ++ t) [45] = false := fun n t => by
  have hb := fun b hb => tx_byte n b hb
  cases hl : tx n with
  | nil => exact absurd hl (tx_ne n)
  | cons b l =>
   rw [hl] at hb
   have := (hb b (List.mem_cons_self ..)).2.2.1
   unfold Lib.hasPrefix
   show List.isPrefixOf [45] (b :: (l ++ t)) = false
   simp [List.isPrefixOf, Ne.symm this]
 unfold mTx
 (repeat' split) <;> first | (rw [List.append_assoc]; exact ht _ _) | rfl
theorem cut_sign (neg : Bool) (l : List UInt8) (h : Lib.hasPrefix l [45] = false) : Lib.trimPrefix (sTx neg l) [45] = l ∧ Lib.hasPrefix (sTx neg l) [45] = neg := by
 unfold sTx
 cases neg
 ·
  exact ⟨by unfold Lib.trimPrefix; rw [if_neg Bool.false_ne_true, if_neg (by rw [h]; decide)], by rw [if_neg Bool.false_ne_true]; exact h⟩
 ·
  have : Lib.hasPrefix (45 :: l) [45] = true := by unfold Lib.hasPrefix; simp [List.isPrefixOf]
  rw [if_pos rfl]
  exact ⟨by unfold Lib.trimPrefix; rw [if_pos this]; rfl, this⟩
theorem sig_back {f : Int} (hf : yT f) {n : Nat} (hn : Fit f n) : sgB f (mg f (kC f n) (kS f n) (kX f n) (kF f n)) (kN f n) = n := by
 have h := gP_kp hf (kN f n) (kE f n) (kT f n) (kE_le n) (xR n)
 rw [k_enc hf hn] at h
 unfold gP kp at h
 simp only [] at h
 have hC := kC_cases hf (kN f n) (kE f n) (kT f n) (kE_le n) (xR n)
 rw [k_enc hf hn] at hC
 by_cases h8 : 8 ≤ kC f n
 ·
  rw [if_pos h8, decide_eq_false (by omega)] at h
  unfold sgB at h
  rw [if_neg Bool.false_ne_true] at h
  rw [h]
  unfold sgB
  cases hb : kN f n
  ·
   rw [if_neg Bool.false_ne_true, ← hb, k_enc hf hn]
  ·
   rw [if_pos rfl, flip_enc hf false (kE_le n) (xR n)]
   show yK f true _ _ = n
   rw [← hb, k_enc hf hn]
 ·
  rw [if_neg h8] at h
  have hd : decide (kC f n ≤ 3) = kN f n := by
   rw [hC] at h8 ⊢
   cases kN f n <;> (repeat' split) <;> simp_all
  rw [hd] at h
  exact h
theorem t_cut (s p l0 l1 : List UInt8) (o : Bool) (hs : s.length < 4294967281) (h : Lib.cut s p = (l0, l1, o)) (w : World) (hA : z7 w) : Calls Tryz.prog 97 #[.string ⟨s.toArray⟩, .string ⟨p.toArray⟩] w fun r w' => r = .returned (.tuple #[.string ⟨l0.toArray⟩, .string ⟨l1.toArray⟩, .bool o]) ∧ Below w.heap.size w w' := by
 obtain ⟨_, _, m, hm⟩ := hA
 have k := Any.strings_Cut Tryz.laysCut ⟨s.toArray⟩ ⟨p.toArray⟩ m w hs hm
 refine k.mono ?_
 rintro r w' ⟨rfl, n, rfl⟩
 refine ⟨?_, below_drewN (Below.refl _ _) n⟩
 show Ending.returned (.tuple #[.string ⟨(Lib.cut s p).1.toArray⟩, .string ⟨(Lib.cut s p).2.1.toArray⟩, .bool (Lib.cut s p).2.2]) = _
 rw [h]
theorem t_cutPrefix (s p l : List UInt8) (o : Bool) (h1 : Lib.trimPrefix s p = l) (h2 : Lib.hasPrefix s p = o) (w : World) : Calls Tryz.prog 38 #[.string ⟨s.toArray⟩, .string ⟨p.toArray⟩] w fun r w' => r = .returned (.tuple #[.string ⟨l.toArray⟩, .bool o]) ∧ Below w.heap.size w w' := by
 have k := Any.strings_CutPrefix Tryz.laysCutPrefix ⟨s.toArray⟩ ⟨p.toArray⟩ w
 refine k.mono ?_
 rintro r w' ⟨rfl, rfl⟩
 refine ⟨?_, Below.refl _ _⟩
 show Ending.returned (.tuple #[.string ⟨(Lib.trimPrefix s p).toArray⟩, .bool (Lib.hasPrefix s p)]) = _
 rw [h1, h2]



theorem t_atoi (s : List UInt8) (hl : s.length ≤ 281474976710656) : ∃ X : Int, (-9223372036854775808 ≤ X ∧ X ≤ 9223372036854775807) ∧ (∀ v, Lib.atoiAll s = .ok v → X = v) ∧ ∀ w, z7 w → Calls Tryz.prog 100 #[.string ⟨s.toArray⟩] w fun r w' => ∃ ev, r = .returned (.tuple #[.int .i64 X, ev]) ∧ Below w.heap.size w w' := by
 cases h : Lib.atoiAll s with
 | ok v =>
  refine ⟨v, Lib.atoiAll_bounds h, fun u hu => by injection hu, fun w hA => ?_⟩
  refine (Any.strconv_Atoi_ok Tryz.laysAtoi ⟨s.toArray⟩ (by show s.length ≤ 9223372036854775806; omega) v h w).mono ?_
  rintro r w' ⟨rfl, hw⟩
  refine ⟨_, rfl, ?_⟩
  rcases hw with rfl | ⟨t, rfl⟩
  ·
   exact Below.refl _ _
  ·
   exact Lib.bytesWorld_below _ _ _
 | «syntax» =>
  refine ⟨0, by omega, fun u hu => by injection hu, fun w hA => ?_⟩
  obtain ⟨⟨t, p, h1⟩, _⟩ := hA
  refine (Any.strconv_Atoi_syntax_var Tryz.laysAtoi ⟨s.toArray⟩ hl h t p w h1).mono ?_
  rintro r w' ⟨N, rfl, _, _, b⟩
  exact ⟨_, rfl, b⟩
 | range =>
  refine ⟨Lib.atoiSat s, by unfold Lib.atoiSat; split <;> omega, fun u hu => by injection hu, fun w hA => ?_⟩
  obtain ⟨_, ⟨t, p, h1⟩, _⟩ := hA
  refine (Any.strconv_Atoi_range_var Tryz.laysAtoi ⟨s.toArray⟩ hl h t p w h1).mono ?_
  rintro r w' ⟨N, rfl, _, _, b⟩
  exact ⟨_, rfl, b⟩
theorem xT (l k : List UInt8) (h : l ≠ k) : ((⟨l.toArray⟩ : ByteArray).toList == k) = false := by
 rw [beq_eq_false_iff_ne, ByteArray.toList_eq]
 exact h
theorem rd_tx (n : Nat) (hn : n < Q) : rd (tx n) = (n, 0) := rd_good _ n (tx_len n hn) (vals_tx n) rfl
theorem kF_lim {f : Int} (hf : yT f) (n : Nat) : kF f n < 340282366920938463463374607431768211456 := by
 obtain ⟨g1, g2, g3, g4, g5, g6, g7⟩ := fm hf
 have tl := xR (f := f) n
 unfold kF
 rw [g1, Nat.add_mul] at g7
 split <;> omega
theorem mg_lim {f : Int} (hf : yT f) (c s : Nat) (X : Int) (r : Nat) : mg f c s X r < 340282366920938463463374607431768211456 := by
 unfold mg fb eb
 (repeat' split) <;> first | decide | exact Nat.mod_lt _ (by decide)
theorem kMR_back (f : Int) (hf : yT f) (n i j : Nat) (hv : xL (mg f (kC f n) (kS f n) (kX f n) (kF f n)) = (i, j)) (w : World) (hT : yF w) (hA : z7 w) : Calls Tryz.prog 40 #[.int .u8 f, .string ⟨(mTx (kC f n) (kS f n) (kX f n) (kF f n)).toArray⟩] w fun r w' => r = .returned (.agg #[.int .u64 i, .int .u64 j]) ∧ Below w.heap.size w w' := by
 obtain ⟨s1, s2, s3⟩ := kS_lim hf n
 have r1 := kF_lim hf n
 obtain ⟨_, l1, l2, l3⟩ := mTx_len f hf n
 have z0 : (kC f n = 0 ∨ kC f n = 7) → kF f n = 0 := fun h => by unfold kF; rw [if_neg (by omega)]
 have cl := kC_lt f n
 generalize kS f n = s at *
 generalize kX f n = X at *
 generalize kF f n = r at *
 generalize kC f n = c at *
 unfold mTx
 unfold mg at hv
 by_cases c9 : c = 9
 ·
  subst c9
  rw [if_pos rfl]
  rw [if_neg (by omega), if_neg (by omega)] at hv
  refine kmr_nan f _ ⟨([] : List UInt8).toArray⟩ ⟨(tx r).toArray⟩ r i j 0 w (xT _ _ (by simp)) (xT _ _ (by simp)) (zK (fun w hA => t_cut _ [110, 97, 110, 58] [] (tx r) true (by rw [List.length_append]; show 4 + _ < _; omega) ?_ w hA)) (zK (fun w => wread_is _ (tx r) r 0 (by rw [yJ]; omega) rfl (rd_tx r (yR r1)) w)) (zK (fun w hT => kendless_is f hf r i j (yR r1) hv w hT)) hA hT
  have := cut_first 110 [97, 110, 58] [] (tx r) (by simp)
  simpa using this
 rw [if_neg c9]
 by_cases c8 : c = 8
 ·
  subst c8
  rw [if_pos rfl]
  rw [if_neg (by omega), if_neg (by omega)] at hv
  refine kmr_nan f _ ⟨([115] : List UInt8).toArray⟩ ⟨(tx r).toArray⟩ r i j 0 w (xT _ _ (by simp)) (xT _ _ (by simp)) (zK (fun w hA => t_cut _ [110, 97, 110, 58] [115] (tx r) true (by rw [List.length_append]; show 5 + _ < _; omega) ?_ w hA)) (zK (fun w => wread_is _ (tx r) r 0 (by rw [yJ]; omega) rfl (rd_tx r (yR r1)) w)) (zK (fun w hT => kendless_is f hf r i j (yR r1) hv w hT)) hA hT
  have := cut_first 110 [97, 110, 58] [115] (tx r) (by decide)
  simpa using this
 rw [if_neg c8]
 by_cases c0 : c = 0 ∨ c = 7
 ·
  rw [if_pos c0]
  rw [if_neg (by omega), if_neg (by omega), z0 c0] at hv
  refine kmr_inf f i j w (zK (fun w hT => sk_inf f false hf i j ?_ w hT)) hT
  rw [← hv]
  congr 1
  rw [eb_is hf 0 (Nat.two_pow_pos _)]
  unfold eInf yK
  simp
 rw [if_neg c0]
 by_cases c3 : c = 3 ∨ c = 4
 ·
  rw [if_pos c3]
  rw [if_pos c3] at hv
  injection hv with q1 q2
  subst q1 q2
  exact kmr_zero f w hT
 rw [if_neg c3]
 rw [if_neg c3, if_pos (by omega)] at hv
 have ht : tx s ≠ [] := tx_ne s
 have hn1 : (110 : UInt8) ∉ tx s ++ [112] ++ Lib.itoa X := by
  intro h
  rw [List.mem_append, List.mem_append, List.mem_singleton] at h
  rcases h with (h | h) | h
  ·
   exact (tx_byte s _ h).1 rfl
  ·
   exact absurd h (by decide)
  ·
   exact (itoa_byte X _ h).1 rfl
 have hn2 : (112 : UInt8) ∉ tx s := fun h => (tx_byte s _ h).2.1 rfl
 have q1 : tx s ++ [112] ++ Lib.itoa X ≠ [48] := by
  intro h
  have : (112 : UInt8) ∈ [48] := by rw [← h]; simp
  exact absurd this (by decide)
 have q2 : tx s ++ [112] ++ Lib.itoa X ≠ [105, 110, 102] := by
  intro h
  have : (112 : UInt8) ∈ [105, 110, 102] := by rw [← h]; simp
  exact absurd this (by decide)
 have ll : (tx s ++ [112] ++ Lib.itoa X).length < 4294967281 := by rw [List.length_append, List.length_append]; show _ + 1 + _ < _; omega
 obtain ⟨X', _, hX, KA⟩ := t_atoi (Lib.itoa X) (by omega)
 have hXX := hX X (atoiAll_itoa X (itoa_18 X s2 s3))
 subst hXX
 exact kmr_num f _ _ _ ⟨(tx s).toArray⟩ ⟨(Lib.itoa X').toArray⟩ true s i j 0 X' w (xT _ _ q1) (xT _ _ q2) (zK (fun w hA => t_cut _ [110, 97, 110, 58] _ _ false ll (cut_none 110 _ _ hn1) w hA)) (zK (fun w hA => t_cut _ [112] (tx s) (Lib.itoa X') true ll (cut_first 112 [] (tx s) (Lib.itoa X') hn2) w hA)) (zK (fun w => wread_is _ (tx s) s 0 (by rw [yJ]; omega) rfl (rd_tx s (yR s1)) w)) (zK KA) (zK (fun w hT => kfinite_is f hf s i j X' (yR s1) (by omega) (by omega) hv w hT)) hA hT
theorem kRead_back (f : Int) (hf : yT f) (x y n : Nat) (v : ByteArray) (hx : x < 18446744073709551616) (hy : y < 18446744073709551616) (hn : y + 18446744073709551616 * x = n) (ho : okB f n = true) (hv : (⟨(kTx f n).toArray⟩ : ByteArray) = v) (w : World) (hT : yF w) (hP : P10 w) (hA : z7 w) : Calls Tryz.prog 9 #[.int .u8 f, .string v] w fun r w' => r = .returned (.tuple #[.agg #[.int .u64 x, .int .u64 y], .int .i64 0]) ∧ Below w.heap.size w w' := by
 have f4 := yL hf
 have fit := (okB_yes f4.1 ho).2
 obtain ⟨c1, c2⟩ := cut_sign (kN f n) _ (m_head (kC f n) (kS f n) (kX f n) (kF f n))
 obtain ⟨i, j, hij⟩ : ∃ i j, xL (mg f (kC f n) (kS f n) (kX f n) (kF f n)) = (i, j) := ⟨_, _, rfl⟩
 obtain ⟨i1, j1, ij⟩ := bv_lt (mg_lim hf _ _ _ _) hij
 have bn : xL n = (x, y) := by
  unfold xL
  rw [← hn]
  congr 1 <;> omega
 have KT := fun w hT hP => kText_is f hf x y n v hx hy hn ho hv w hT hP
 refine kread_yes f v ⟨(mTx (kC f n) (kS f n) (kX f n) (kF f n)).toArray⟩ (kN f n) i j x y w (zK (fun w => bel_same (yM f 0 f4.1 f4.2.1 (fC_yes hf) w))) (zK (fun w => ?_)) (zK (fun w hT hA => kMR_back f hf n i j hij w hT hA)) (zK (fun w hT => ksigned_is f hf i j _ x y (kN f n) i1 j1 ij (by rw [sig_back hf fit]; exact bn) w hT)) (zK KT) hT hP hA
 rw [← hv]
 exact t_cutPrefix (kTx f n) [45] _ _ c1 c2 w
end Go.Proofs.YtkblmpmkchkpjaaGreatDoor
