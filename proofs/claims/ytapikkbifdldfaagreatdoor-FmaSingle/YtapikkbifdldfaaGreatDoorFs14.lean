/-
  What the functions that the statement reaches return: part 14 (A0).
-/
import Derived.Test.YtapikkbifdldfaaGreatDoorFs13
namespace Go.Proofs.YtapikkbifdldfaaGreatDoor
set_option maxRecDepth 100000
set_option maxHeartbeats 40000000
set_option maxRecDepth 100000
open Go.RowKit WMath XMath
set_option linter.unusedSimpArgs false
set_option linter.unusedVariables false
theorem three_up (N : Nat) : N * 2 ^ 3 = 8 * N := by omega
theorem sum_exact (P S N n : Nat) (S0 : S ≠ 0) (N0 : N ≠ 0) (h : S * 2 ^ n = 8 * N) : blen S + n = blen N + 3 ∧ qW P S = qW P N ∧ qM P S false = qM P N false := by
  have b1 := blen_shift S n S0
  have b2 := blen_shift N 3 N0
  have q1 := q_longer P S n S0
  have q2 := q_longer P N 3 N0
  rw [three_up] at b2 q2
  rw [h] at b1 q1
  exact ⟨by omega, by rw [← q1.1, q2.1], by rw [← q1.2, q2.2]⟩
theorem sum_lost (P s N n r : Nat) (N0 : N ≠ 0) (hs : P + 2 ≤ blen s) (r0 : r ≠ 0) (hr : r < 2 ^ n) (h : s * 2 ^ n + r = 8 * N) : blen (s / 2 * 2 + 1) + n = blen N + 3 ∧ qW P (s / 2 * 2 + 1) = qW P N ∧ qM P (s / 2 * 2 + 1) false = qM P N false := by
  have s0 : s ≠ 0 := by intro e; subst e; rw [blen_zero] at hs; omega
  obtain ⟨j1, j2, j3, j4⟩ := q_jam P s hs
  have b1 := blen_more s n r s0 hr
  have b2 := blen_shift N 3 N0
  have q1 := q_more P s n r s0 hr (fun _ => by omega)
  have q2 := q_longer P N 3 N0
  rw [three_up] at b2 q2
  rw [h] at b1 q1
  rw [decide_eq_true r0] at q1
  exact ⟨by omega, by rw [j2, ← q1.1, q2.1], by rw [j3, ← q2.2, q1.2, j4]⟩
theorem lost_four (Y n : Nat) (h : 8 * Y % 2 ^ n ≠ 0) : 4 ≤ n := by
  rcases Nat.lt_or_ge n 4 with c | c
  · exfalso
    apply h
    have : n = 0 ∨ n = 1 ∨ n = 2 ∨ n = 3 := by omega
    rcases this with rfl | rfl | rfl | rfl <;> omega
  · exact c
theorem sum_like (p X Y n : Nat) (X0 : X ≠ 0) (hl : 8 * Y % 2 ^ n ≠ 0 → 2 ^ p ≤ X) : blen (8 * X + jr (8 * Y) n) + n = blen (X * 2 ^ n + Y) + 3 ∧ qW (p + 1) (8 * X + jr (8 * Y) n) = qW (p + 1) (X * 2 ^ n + Y) ∧ qM (p + 1) (8 * X + jr (8 * Y) n) false = qM (p + 1) (X * 2 ^ n + Y) false := by
  have p0 := Nat.two_pow_pos n
  have dm := Nat.div_add_mod (8 * Y) (2 ^ n)
  have lt := Nat.mod_lt (8 * Y) p0
  have XN : X * 2 ^ n + Y ≠ 0 := by
    have := Nat.mul_pos (Nat.pos_of_ne_zero X0) p0
    omega
  obtain ⟨A, hA⟩ : ∃ A, 8 * Y / 2 ^ n = A := ⟨_, rfl⟩
  obtain ⟨r, hr⟩ : ∃ r, 8 * Y % 2 ^ n = r := ⟨_, rfl⟩
  have e8 : (8 * X + A) * 2 ^ n + r = 8 * (X * 2 ^ n + Y) := by
    rw [hA, hr, Nat.mul_comm] at dm
    rw [Nat.add_mul, Nat.mul_assoc, Nat.mul_add]
    omega
  by_cases c : 8 * Y % 2 ^ n = 0
  · rw [jr_even _ _ c, hA]
    rw [hr] at c
    rw [c, Nat.add_zero] at e8
    exact sum_exact (p + 1) _ _ n (by omega) XN e8
  · rw [jr_odd _ _ c, hA]
    have hX := hl c
    rw [hr] at c lt
    have e : 8 * X + (A / 2 * 2 + 1) = (8 * X + A) / 2 * 2 + 1 := by omega
    rw [e]
    refine sum_lost (p + 1) _ _ n r XN ?_ c lt e8
    have := (blen_low (8 * X + A) (by omega)).2.2
    have l : 2 ^ (p + 3) ≤ 8 * X + A := by rw [Nat.pow_add]; omega
    have : 2 ^ (p + 3) < 2 ^ blen (8 * X + A) := by omega
    have := (Nat.pow_lt_pow_iff_right (show 1 < 2 by decide)).1 this
    omega
theorem sum_unlike (p X Y n : Nat) (hl : 8 * Y % 2 ^ n ≠ 0 → 2 ^ p ≤ X) (hY : Y < 2 * 2 ^ p) (hg : Y ≤ X * 2 ^ n) :
    jr (8 * Y) n ≤ 8 * X ∧ (X * 2 ^ n - Y = 0 ↔ 8 * X - jr (8 * Y) n = 0) ∧ (X * 2 ^ n - Y ≠ 0 → blen (8 * X - jr (8 * Y) n) + n = blen (X * 2 ^ n - Y) + 3 ∧ qW (p + 1) (8 * X - jr (8 * Y) n) = qW (p + 1) (X * 2 ^ n - Y) ∧ qM (p + 1) (8 * X - jr (8 * Y) n) false = qM (p + 1) (X * 2 ^ n - Y) false) := by
  have p0 := Nat.two_pow_pos n
  have dm := Nat.div_add_mod (8 * Y) (2 ^ n)
  have lt := Nat.mod_lt (8 * Y) p0
  obtain ⟨A, hA⟩ : ∃ A, 8 * Y / 2 ^ n = A := ⟨_, rfl⟩
  obtain ⟨r, hr⟩ : ∃ r, 8 * Y % 2 ^ n = r := ⟨_, rfl⟩
  obtain ⟨N, hN⟩ : ∃ N, X * 2 ^ n - Y = N := ⟨_, rfl⟩
  have eX : 8 * (X * 2 ^ n) = 8 * X * 2 ^ n := (Nat.mul_assoc 8 X (2 ^ n)).symm
  have eN : 8 * N + 8 * Y = 8 * X * 2 ^ n := by omega
  rw [hA, hr, Nat.mul_comm] at dm
  by_cases c : 8 * Y % 2 ^ n = 0
  · rw [jr_even _ _ c, hA, hN]
    rw [hr] at c
    rw [c, Nat.add_zero] at dm
    have le : A ≤ 8 * X := by
      have : A * 2 ^ n ≤ 8 * X * 2 ^ n := by omega
      exact Nat.le_of_mul_le_mul_right this p0
    have eS : (8 * X - A) * 2 ^ n = 8 * N := by
      rw [Nat.sub_mul]
      omega
    refine ⟨le, ⟨fun h => ?_, fun h => ?_⟩, fun N0 => ?_⟩
    · rw [h] at eS
      rcases Nat.mul_eq_zero.1 (eS.trans (Nat.mul_zero 8)) with q | q
      · exact q
      · omega
    · rw [h, Nat.zero_mul] at eS
      omega
    · refine sum_exact (p + 1) _ _ n (fun h => ?_) N0 eS
      rw [h, Nat.zero_mul] at eS
      omega
  · have n4 := lost_four Y n c
    have hX := hl c
    rw [jr_odd _ _ c, hA, hN]
    rw [hr] at c lt
    have AY : A < 2 ^ p := by
      have h16 : 2 ^ 4 ≤ 2 ^ n := Nat.pow_le_pow_right (by decide) n4
      have h1 : A * 2 ^ 4 ≤ A * 2 ^ n := Nat.mul_le_mul_left A h16
      omega
    have X8 : 2 ^ (p + 3) ≤ 8 * X := by rw [Nat.pow_add]; omega
    have P3 : 2 ^ (p + 3) = 8 * 2 ^ p := by rw [Nat.pow_add]; omega
    have e8 : (8 * X - A - 1) * 2 ^ n + (2 ^ n - r) = 8 * N := by
      rw [Nat.sub_mul, Nat.sub_mul, Nat.one_mul]
      have : A * 2 ^ n + 2 ^ n ≤ 8 * X * 2 ^ n := by
        have := Nat.mul_le_mul_right (2 ^ n) (show A + 1 ≤ 8 * X by omega)
        rw [Nat.add_mul, Nat.one_mul] at this
        exact this
      omega
    have N0 : N ≠ 0 := by omega
    have e : 8 * X - (A / 2 * 2 + 1) = (8 * X - A - 1) / 2 * 2 + 1 := by omega
    refine ⟨by omega, ⟨fun h => absurd h N0, fun h => ?_⟩, fun _ => ?_⟩
    · exfalso
      omega
    · rw [e]
      refine sum_lost (p + 1) _ _ n (2 ^ n - r) N0 ?_ (by omega) (by omega) e8
      have := (blen_low (8 * X - A - 1) (by omega)).2.2
      have l : 2 ^ (p + 2) ≤ 8 * X - A - 1 := by
        have : 2 ^ (p + 2) = 4 * 2 ^ p := by rw [Nat.pow_add]; omega
        omega
      have : 2 ^ (p + 2) < 2 ^ blen (8 * X - A - 1) := by omega
      have := (Nat.pow_lt_pow_iff_right (show 1 < 2 by decide)).1 this
      omega
def sumN (sa sb : Bool) (X Y n : Nat) : Nat := if sa = sb then X * 2 ^ n + Y else X * 2 ^ n - Y
theorem sum_rat (sa sb : Bool) (X Y n : Nat) (ey : Int) (hg : Y ≤ X * 2 ^ n) : sgn sa * ((X : Rat) / ((1 : Nat) : Rat)) * (2 : Rat) ^ (ey + (n : Int)) + sgn sb * ((Y : Rat) / ((1 : Nat) : Rat)) * (2 : Rat) ^ ey = sgn sa * (((sumN sa sb X Y n : Nat) : Rat) / ((1 : Nat) : Rat)) * (2 : Rat) ^ ey := by
  have one : ∀ z : Rat, z / ((1 : Nat) : Rat) = z := fun z => by
    rw [show ((1 : Nat) : Rat) = 1 from rfl, Rat.div_def, show (1 : Rat)⁻¹ = 1 by decide +kernel, Rat.mul_one]
  rw [one, one, one, p2add, p2nat]
  generalize (2 : Rat) ^ ey = E
  unfold sumN
  by_cases c : sa = sb
  · subst c
    rw [if_pos rfl, Rat.natCast_add, Rat.natCast_mul]
    generalize ((2 ^ n : Nat) : Rat) = H
    grind
  · rw [if_neg c]
    have hs : sgn sb = - sgn sa := by
      unfold sgn
      cases sa <;> cases sb <;> first | exact absurd rfl c | decide +kernel
    have hN : ((X * 2 ^ n - Y : Nat) : Rat) + (Y : Rat) = (X : Rat) * ((2 ^ n : Nat) : Rat) := by
      rw [← Rat.natCast_add, ← Rat.natCast_mul, Nat.sub_add_cancel hg]
    rw [hs]
    generalize ((2 ^ n : Nat) : Rat) = H at *
    generalize ((X * 2 ^ n - Y : Nat) : Rat) = K at *
    grind
theorem bd_whole (b : Bool) (A : Nat) (x : Int) (A0 : A ≠ 0) (hA : A < 2 ^ 128) (x1 : -20000 ≤ x) (x2 : x ≤ 20000) : Bd ⟨b, od A, 1, x + (tz A : Int)⟩ 128 20200 := by
  have tA := tz_blen A
  have bA := (blen_iff A 128).2 hA
  obtain ⟨o1, o2⟩ := od_is A A0
  have le : od A ≤ A := by
    have p := Nat.two_pow_pos (tz A)
    have := Nat.mul_le_mul_left (od A) p
    rw [Nat.mul_one] at this
    omega
  exact ⟨Nat.lt_of_le_of_lt le hA, by show 1 < 2 ^ 128; decide, by show -((20200 : Nat) : Int) ≤ x + (tz A : Int); omega, by show x + (tz A : Int) ≤ ((20200 : Nat) : Int); omega⟩
theorem add_num {f : Int} (hf : Is4 f) (m : Int) (sa sb : Bool) (X Y n : Nat) (ex ey : Int) (X0 : X ≠ 0) (Y0 : Y ≠ 0) (hX : X < 2 ^ 128) (hY : Y < 2 ^ 128) (hn : ex = ey + (n : Int)) (hg : Y ≤ X * 2 ^ n) (x1 : -20000 ≤ ex) (x2 : ex ≤ 20000) (y1 : -20000 ≤ ey) (y2 : ey ≤ 20000) (N : Nat) (hN : sumN sa sb X Y n = N) (N0 : N ≠ 0) :
    ∃ (k : Nat) (e : Int), addX ⟨sa, od X, 1, ex + (tz X : Int)⟩ ⟨sb, od Y, 1, ey + (tz Y : Int)⟩ = (⟨sa, k, 1, e⟩, 0) ∧ addX ⟨sb, od Y, 1, ey + (tz Y : Int)⟩ ⟨sa, od X, 1, ex + (tz X : Int)⟩ = (⟨sa, k, 1, e⟩, 0) ∧ (XN.mk sa k 1 e).can ∧ nl k ≤ 8192 ∧ k ≠ 0 ∧
      rnd f m ⟨sa, k, 1, e⟩ = dlv f m sa (ey + (blen N : Int) - 1) (qW (pV f + 1) N) (qM (pV f + 1) N false) := by
  have bX := (blen_iff X 128).2 hX
  have bY := (blen_iff Y 128).2 hY
  have bN : blen N ≤ 45000 := by
    have : blen N ≤ 128 + n + 1 := by
      apply blen_le_of
      have h1 : X * 2 ^ n < 2 ^ (128 + n) := by rw [Nat.pow_add]; exact (Nat.mul_lt_mul_right (Nat.two_pow_pos n)).2 hX
      have h2 : N ≤ X * 2 ^ n + X * 2 ^ n := by rw [← hN]; unfold sumN; split <;> omega
      rw [Nat.pow_succ]
      omega
    omega
  obtain ⟨w1, w2, w3, w4, w5, w6, w7⟩ := x_whole hf sa N ey N0 bN (by omega) (by omega)
  obtain ⟨u1, u2, u3, u4, u5, u6, u7⟩ := x_whole hf sa X ex X0 (by omega) (by omega) (by omega)
  obtain ⟨v1, v2, v3, v4, v5, v6, v7⟩ := x_whole hf sb Y ey Y0 (by omega) (by omega) (by omega)
  have wv := mk_val sa N 1 ey (by decide) (by rw [w1])
  have uv := mk_val sa X 1 ex (by decide) (by rw [u1])
  have vv := mk_val sb Y 1 ey (by decide) (by rw [v1])
  rw [w1] at wv
  rw [u1] at uv
  rw [v1] at vv
  have sr := sum_rat sa sb X Y n ey hg
  rw [← hn, hN] at sr
  have hv : (XN.mk sa (od X) 1 (ex + (tz X : Int))).val + (XN.mk sb (od Y) 1 (ey + (tz Y : Int))).val = (XN.mk sa (od N) 1 (ey + (tz N : Int))).val := by
    rw [uv, vv, wv]
    exact sr
  have B1 := bd_whole sa X ex X0 hX x1 x2
  have B2 := bd_whole sb Y ey Y0 hY y1 y2
  refine ⟨od N, ey + (tz N : Int), addX_is _ _ _ u2 v2 w2 B1 B2 hv, addX_is _ _ _ v2 u2 w2 B2 B1 (by rw [Rat.add_comm]; exact hv), w2, w4, w3, ?_⟩
  unfold rnd
  rw [if_neg w3, w5, w6, w7]
theorem add_null {f : Int} (hf : Is4 f) (sa sb : Bool) (X Y n : Nat) (ex ey : Int) (X0 : X ≠ 0) (Y0 : Y ≠ 0) (hX : X < 2 ^ 128) (hY : Y < 2 ^ 128) (hn : ex = ey + (n : Int)) (hg : Y ≤ X * 2 ^ n) (x1 : -20000 ≤ ex) (x2 : ex ≤ 20000) (y1 : -20000 ≤ ey) (y2 : ey ≤ 20000) (hN : sumN sa sb X Y n = 0) :
    addX ⟨sa, od X, 1, ex + (tz X : Int)⟩ ⟨sb, od Y, 1, ey + (tz Y : Int)⟩ = (XMath.X0, 0) ∧ addX ⟨sb, od Y, 1, ey + (tz Y : Int)⟩ ⟨sa, od X, 1, ex + (tz X : Int)⟩ = (XMath.X0, 0) := by
  have bX := (blen_iff X 128).2 hX
  have bY := (blen_iff Y 128).2 hY
  obtain ⟨u1, u2, u3, u4, u5, u6, u7⟩ := x_whole hf sa X ex X0 (by omega) (by omega) (by omega)
  obtain ⟨v1, v2, v3, v4, v5, v6, v7⟩ := x_whole hf sb Y ey Y0 (by omega) (by omega) (by omega)
  have uv := mk_val sa X 1 ex (by decide) (by rw [u1])
  have vv := mk_val sb Y 1 ey (by decide) (by rw [v1])
  rw [u1] at uv
  rw [v1] at vv
  have sr := sum_rat sa sb X Y n ey hg
  rw [← hn, hN] at sr
  have z : (XMath.X0).val = 0 := by
    show sgn false * (((0 : Nat) : Rat) / ((1 : Nat) : Rat)) * (2 : Rat) ^ (0 : Int) = 0
    rw [show ((0 : Nat) : Rat) = 0 from rfl, Rat.div_def, Rat.zero_mul, Rat.mul_zero, Rat.zero_mul]
  have hv : (XN.mk sa (od X) 1 (ex + (tz X : Int))).val + (XN.mk sb (od Y) 1 (ey + (tz Y : Int))).val = (XMath.X0).val := by
    rw [uv, vv, z, sr, show ((0 : Nat) : Rat) = 0 from rfl, Rat.div_def, Rat.zero_mul, Rat.mul_zero, Rat.zero_mul]
  have B1 := bd_whole sa X ex X0 hX x1 x2
  have B2 := bd_whole sb Y ey Y0 hY y1 y2
  exact ⟨addX_is _ _ _ u2 v2 x0_can B1 B2 hv, addX_is _ _ _ v2 u2 x0_can B2 B1 (by rw [Rat.add_comm]; exact hv)⟩
end Go.Proofs.YtapikkbifdldfaaGreatDoor
