/-
  What the functions Sqrt and Gcd of the document's answer for layer 5 return.
-/
import Derived.Test.YtjedplbhhohfmaaNat7
namespace Go.Proofs.Ytjedplbhhohfmaa
open Go.RowKit WMath

/-- Ahead of the pair of bits at k - 1: the root so far, and what is left. -/
def NsqSt (a k p r : Nat) : Prop := a / 2 ^ (2 * k) = p * p + r ∧ r ≤ 2 * p
theorem nsq_start (a k : Nat) (h : blen a ≤ 2 * k) : NsqSt a k 0 0 := by
  refine ⟨?_, by omega⟩
  rw [Nat.div_eq_of_lt (Nat.lt_of_lt_of_le (blen_lt a) (Nat.pow_le_pow_right (by decide) h))]
theorem nsq_bits (a k : Nat) : a / 2 ^ (2 * k) = 4 * (a / 2 ^ (2 * (k + 1))) + 2 * (a.testBit (2 * k + 1)).toNat + (a.testBit (2 * k)).toNat := by
  have h1 := bit_nat a (2 * k)
  have h2 := bit_nat a (2 * k + 1)
  rw [show 2 * (k + 1) = 2 * k + 1 + 1 by omega]
  omega
theorem nsq_step (a k p r x : Nat) (S : NsqSt a (k + 1) p r) (hx : 2 * (2 * r + (a.testBit (2 * k + 1)).toNat) + (a.testBit (2 * k)).toNat = x) :
    (x < 2 * (2 * p + 0) + 1 → NsqSt a k (2 * p + 0) x) ∧ (2 * (2 * p + 0) + 1 ≤ x → NsqSt a k (2 * p + 0 + 1) (x - (2 * (2 * p + 0) + 1))) := by
  obtain ⟨h1, h2⟩ := S
  have hb := nsq_bits a k
  rw [h1] at hb
  have t1 : (a.testBit (2 * k + 1)).toNat ≤ 1 := by cases a.testBit (2 * k + 1) <;> decide
  have t0 : (a.testBit (2 * k)).toNat ≤ 1 := by cases a.testBit (2 * k) <;> decide
  have e : a / 2 ^ (2 * k) = 4 * (p * p) + x := by rw [hb, ← hx]; omega
  have e2 : 2 * p * (2 * p) = 4 * (p * p) := by rw [Nat.mul_mul_mul_comm]
  have e3 : (2 * p + 1) * (2 * p + 1) = 4 * (p * p) + 4 * p + 1 := by
    have := sq_add (2 * p) 1
    rw [e2] at this
    omega
  refine ⟨fun h => ⟨?_, by omega⟩, fun h => ⟨?_, by omega⟩⟩
  · rw [Nat.add_zero, e2, e]
  · rw [Nat.add_zero, e3, e]; omega
theorem nsq_end (a p r : Nat) (S : NsqSt a 0 p r) : RootIs a p ∧ a - p * p = r := by
  obtain ⟨h1, h2⟩ := S
  rw [Nat.mul_zero, Nat.pow_zero, Nat.div_one] at h1
  have e3 := sq_add p 1
  exact ⟨⟨by omega, by omega⟩, by omega⟩
theorem nsq_small (a k p r : Nat) (S : NsqSt a k p r) : p ≤ a ∧ r ≤ 2 * a := by
  obtain ⟨h1, h2⟩ := S
  have h3 : a / 2 ^ (2 * k) ≤ a := Nat.div_le_self _ _
  have h4 := Nat.le_mul_self p
  omega
theorem nl_few (a x : Nat) (h : x ≤ 16 * a + 16) : nl x ≤ nl a + 2 := nl_le_of x _ (by
  have := nl_lt a
  have h2 : 2 ^ (8 * (nl a + 2)) = 2 ^ (8 * nl a) * 65536 := by rw [Nat.mul_add, Nat.pow_add]
  have h3 : 0 < 2 ^ (8 * nl a) := Nat.two_pow_pos _
  omega)

set_option maxHeartbeats 4000000 in
set_option maxRecDepth 100000 in
theorem nat_Sqrt (a p r : Nat) (s pv rv : ByteArray) (hs : nbA a = s) (ha : nl a ≤ 16384) (hp : RootIs a p) (hr : a - p * p = r) (hpv : nbA p = pv) (hrv : nbA r = rv) (w : World) :
    Calls Try.prog 22 #[.string s] w fun e w' => e = .returned (.tuple #[.string pv, .string rv]) ∧ Below w.heap.size w w' := by
  obtain ⟨n, hn⟩ : ∃ n, blen a = n := ⟨_, rfl⟩
  have n8 : n ≤ 131072 := by rw [← hn]; have := ha; unfold nl at this; omega
  obtain ⟨K, hK⟩ : ∃ K, (n + 1) / 2 = K := ⟨_, rfl⟩
  have HS := box hs
  have HA := box ha
  have HN := box hn
  have HP := box hp
  have HR := box hr
  have HPV := box hpv
  have HRV := box hrv
  have NA : Box (nl a ≤ 100000) := box (by omega)
  have N2 : ∀ x, x ≤ 16 * a + 16 → Box (nl x ≤ 20000) := fun x h => box (by have := nl_few a x h; omega)
  have w1 : IntKind.i64.wrap ((n : Int) + 1) = (n : Int) + 1 := wrap_i64_is _ (by omega) (by omega)
  have w2 : ((n : Int) + 1) / 2 = (K : Int) := by omega
  have S0 : Box (NsqSt a (K + 1) 0 0) := box (nsq_start a (K + 1) (by omega))
  have Z0 : Box (nbA 0 = ⟨#[]⟩) := box nbA_zero
  have ONE : Box (nbA 1 = nbA 1) := box rfl
  obtain ⟨V1, hV1⟩ : ∃ V1, nbA 1 = V1 := ⟨_, rfl⟩
  have HV1 := box hV1
  have L1 : Box (nl 1 ≤ 20000) := N2 1 (by omega)
  have K2 : K ≤ 70000 := by omega
  clear hs ha hn hp hr hpv hrv hK ONE hV1
  go_enter Try.func22, Try.ntmps22
  go_wp2_with fail
  refine (nat_Len a n s HS.out HA.out HN.out _).mono ?_
  rintro e w0 ⟨rfl, hw0⟩
  subst hw0
  go_wp2
  clear w1
  go_loopw [4, 5, 6] (fun pv rv iv wr => ∃ (k x y : Nat) (X Y : ByteArray), iv = .int .i64 ((k : Int) - 1) ∧ pv = .string X ∧ rv = .string Y ∧ k ≤ K + 1 ∧ Below w0.heap.size w0 wr ∧ Box (nbA x = X) ∧ Box (nbA y = Y) ∧ Box (NsqSt a k x y)) (fun _ _ iv _ => (intOf iv + 1).toNat)
  case atStart => exact ⟨K + 1, 0, 0, ⟨#[]⟩, ⟨#[]⟩, congrArg (Value.int .i64) (by omega), rfl, rfl, by omega, Below.refl _ _, Z0, Z0, S0⟩
  case round =>
    clear S0 Z0 w2
    obtain ⟨k, x, y, X, Y, rfl, rfl, rfl, hk, hbw, HX, HY, HST⟩ := hrel
    by_cases hk0 : k = 0
    · subst hk0
      obtain ⟨e1, e2⟩ := nsq_end a x y HST.out
      have e3 := root_one e1 HP.out
      subst e3
      have eX : X = pv := by rw [← HX.out, ← HPV.out]
      have eY : Y = rv := by rw [← HY.out, ← HRV.out, ← HR.out, e2]
      subst eX eY
      clear e1 e2 HST
      go_wp2
      go_ret2
      exact ⟨rfl, hbw⟩
    · obtain ⟨j, rfl⟩ : ∃ j, k = j + 1 := ⟨k - 1, by omega⟩
      have ej : (((j + 1 : Nat) : Int) - 1) = (j : Int) := by omega
      rw [ej]
      obtain ⟨xs, ys⟩ := nsq_small a (j + 1) x y HST.out
      obtain ⟨i0, hi0⟩ : ∃ i0, 2 * j = i0 := ⟨_, rfl⟩
      obtain ⟨i1, hi1⟩ : ∃ i1, i0 + 1 = i1 := ⟨_, rfl⟩
      obtain ⟨b1, hb1⟩ : ∃ b1, (a.testBit (2 * j + 1)).toNat = b1 := ⟨_, rfl⟩
      obtain ⟨b0, hb0⟩ : ∃ b0, (a.testBit (2 * j)).toNat = b0 := ⟨_, rfl⟩
      have b12 : b1 < 2 := by rw [← hb1]; cases a.testBit (2 * j + 1) <;> decide
      have b02 : b0 < 2 := by rw [← hb0]; cases a.testBit (2 * j) <;> decide
      have HB1 : Box ((a.testBit i1).toNat = b1) := box (by rw [← hi1, ← hi0]; exact hb1)
      have HB0 : Box ((a.testBit i0).toNat = b0) := box (by rw [← hi0]; exact hb0)
      have m1 : IntKind.i64.wrap (2 * (j : Int)) = (i0 : Int) := by rw [wrap_i64_is _ (by omega) (by omega)]; omega
      have m2 : IntKind.i64.wrap ((i0 : Int) + 1) = (i1 : Int) := by rw [wrap_i64_is _ (by omega) (by omega)]; omega
      obtain ⟨y1, hy1⟩ : ∃ y1, 2 * y + b1 = y1 := ⟨_, rfl⟩
      obtain ⟨y2, hy2⟩ : ∃ y2, 2 * y1 + b0 = y2 := ⟨_, rfl⟩
      obtain ⟨x1, hx1⟩ : ∃ x1, 2 * x + 0 = x1 := ⟨_, rfl⟩
      obtain ⟨x2, hx2⟩ : ∃ x2, 2 * x1 + 1 = x2 := ⟨_, rfl⟩
      have ST := nsq_step a j x y y2 HST.out (by rw [hb1, hb0, hy1]; exact hy2)
      rw [hx1, hx2] at ST
      obtain ⟨Y1, hY1⟩ : ∃ Y1, nbA (2 * y + b1) = Y1 := ⟨_, rfl⟩
      obtain ⟨Y2, hY2⟩ : ∃ Y2, nbA (2 * y1 + b0) = Y2 := ⟨_, rfl⟩
      obtain ⟨X1, hX1⟩ : ∃ X1, nbA (2 * x + 0) = X1 := ⟨_, rfl⟩
      obtain ⟨X2, hX2⟩ : ∃ X2, nbA (2 * x1 + 1) = X2 := ⟨_, rfl⟩
      have A1 := box hY1
      have A2 := box hY2
      have A3 := box hX1
      have A4 := box hX2
      have C1 : Box (nbA y1 = Y1) := box (by rw [← hy1]; exact hY1)
      have C2 : Box (nbA y2 = Y2) := box (by rw [← hy2]; exact hY2)
      have C3 : Box (nbA x1 = X1) := box (by rw [← hx1]; exact hX1)
      have C4 : Box (nbA x2 = X2) := box (by rw [← hx2]; exact hX2)
      have D1 := N2 y (by omega)
      have D2 := N2 y1 (by omega)
      have D3 := N2 x (by omega)
      have D4 := N2 x1 (by omega)
      have D5 := N2 y2 (by omega)
      obtain ⟨c, hc⟩ : ∃ c, cmpv y2 x2 = c := ⟨_, rfl⟩
      have HC := box hc
      have jb : i1 ≤ 10000000 := by omega
      have jb0 : i0 ≤ 10000000 := by omega
      have z2 : (0 : Nat) < 2 := by decide
      have o2 : (1 : Nat) < 2 := by decide
      by_cases hlt : y2 < x2
      · have dc : decide (0 ≤ c) = false := by rw [← hc]; unfold cmpv; rw [if_neg (by omega), if_pos hlt]; rfl
        have NS := box (ST.1 hlt)
        clear hi0 hi1 hb1 hb0 hy1 hy2 hx1 hx2 hY1 hY2 hX1 hX2 hc hlt ST xs ys
        go_wp2_with fail
        refine (nat_bit a i1 s b1 HS.out HB1.out NA.out jb _).mono ?_
        rintro e w1 ⟨rfl, hw1⟩
        subst hw1
        go_wp2_with fail
        refine (nat_double y b1 Y Y1 HY.out b12 A1.out D1.out _).mono ?_
        rintro e w2 ⟨rfl, hb2⟩
        have B2 : Below w0.heap.size w0 w2 := hbw.trans (hb2.mono hbw.size)
        clear hb2 hbw
        go_wp2_with fail
        refine (nat_bit a i0 s b0 HS.out HB0.out NA.out jb0 _).mono ?_
        rintro e w3 ⟨rfl, hw3⟩
        subst hw3
        go_wp2_with fail
        refine (nat_double y1 b0 Y1 Y2 C1.out b02 A2.out D2.out _).mono ?_
        rintro e w4 ⟨rfl, hb4⟩
        have B4 : Below w0.heap.size w0 w4 := B2.trans (hb4.mono B2.size)
        clear hb4 B2
        go_wp2_with fail
        refine (nat_double x 0 X X1 HX.out z2 A3.out D3.out _).mono ?_
        rintro e w5 ⟨rfl, hb5⟩
        have B5 : Below w0.heap.size w0 w5 := B4.trans (hb5.mono B4.size)
        clear hb5 B4
        go_wp2_with fail
        refine (nat_double x1 1 X1 X2 C3.out o2 A4.out D4.out _).mono ?_
        rintro e w6 ⟨rfl, hb6⟩
        have B6 : Below w0.heap.size w0 w6 := B5.trans (hb6.mono B5.size)
        clear hb6 B5
        go_wp2_with fail
        refine (nat_double x 0 X X1 HX.out z2 A3.out D3.out _).mono ?_
        rintro e w7 ⟨rfl, hb7⟩
        have B7 : Below w0.heap.size w0 w7 := B6.trans (hb7.mono B6.size)
        clear hb7 B6
        go_wp2_with fail
        refine (nat_cmp y2 x2 Y2 X2 c C2.out C4.out HC.out _).mono ?_
        rintro e w8 ⟨rfl, hw8⟩
        subst hw8
        go_wp2
        go_roundw
        case rel => exact ⟨j, x1, y2, X1, Y2, by first | rfl | go_num, rfl, rfl, by omega, B7, C3, C2, NS⟩
        case measure => simp [intOf] <;> omega
      · have dc : decide (0 ≤ c) = true := by
          rw [← hc]; unfold cmpv
          by_cases e : y2 = x2
          · rw [if_pos e]; rfl
          · rw [if_neg e, if_neg hlt]; rfl
        have NS0 := ST.2 (by omega)
        obtain ⟨Y3, hY3⟩ : ∃ Y3, nbA (y2 - x2) = Y3 := ⟨_, rfl⟩
        obtain ⟨X3, hX3⟩ : ∃ X3, nbA (x1 + 1) = X3 := ⟨_, rfl⟩
        have A5 := box hY3
        have A6 := box hX3
        have NS := box NS0
        have HBX : Box (x2 ≤ y2) := box (by omega)
        clear hi0 hi1 hb1 hb0 hy1 hy2 hx1 hx2 hY1 hY2 hX1 hX2 hc hlt ST xs ys hY3 hX3 NS0
        go_wp2_with fail
        refine (nat_bit a i1 s b1 HS.out HB1.out NA.out jb _).mono ?_
        rintro e w1 ⟨rfl, hw1⟩
        subst hw1
        go_wp2_with fail
        refine (nat_double y b1 Y Y1 HY.out b12 A1.out D1.out _).mono ?_
        rintro e w2 ⟨rfl, hb2⟩
        have B2 : Below w0.heap.size w0 w2 := hbw.trans (hb2.mono hbw.size)
        clear hb2 hbw
        go_wp2_with fail
        refine (nat_bit a i0 s b0 HS.out HB0.out NA.out jb0 _).mono ?_
        rintro e w3 ⟨rfl, hw3⟩
        subst hw3
        go_wp2_with fail
        refine (nat_double y1 b0 Y1 Y2 C1.out b02 A2.out D2.out _).mono ?_
        rintro e w4 ⟨rfl, hb4⟩
        have B4 : Below w0.heap.size w0 w4 := B2.trans (hb4.mono B2.size)
        clear hb4 B2
        go_wp2_with fail
        refine (nat_double x 0 X X1 HX.out z2 A3.out D3.out _).mono ?_
        rintro e w5 ⟨rfl, hb5⟩
        have B5 : Below w0.heap.size w0 w5 := B4.trans (hb5.mono B4.size)
        clear hb5 B4
        go_wp2_with fail
        refine (nat_double x1 1 X1 X2 C3.out o2 A4.out D4.out _).mono ?_
        rintro e w6 ⟨rfl, hb6⟩
        have B6 : Below w0.heap.size w0 w6 := B5.trans (hb6.mono B5.size)
        clear hb6 B5
        go_wp2_with fail
        refine (nat_double x 0 X X1 HX.out z2 A3.out D3.out _).mono ?_
        rintro e w7 ⟨rfl, hb7⟩
        have B7 : Below w0.heap.size w0 w7 := B6.trans (hb7.mono B6.size)
        clear hb7 B6
        go_wp2_with fail
        refine (nat_cmp y2 x2 Y2 X2 c C2.out C4.out HC.out _).mono ?_
        rintro e w8 ⟨rfl, hw8⟩
        subst hw8
        go_wp2_with fail
        refine (nat_sub y2 x2 Y2 X2 Y3 C2.out C4.out A5.out HBX.out D5.out _).mono ?_
        rintro e w9 ⟨rfl, hb9⟩
        have B9 : Below w0.heap.size w0 w9 := B7.trans (hb9.mono B7.size)
        clear hb9 B7
        go_wp2_with fail
        refine (nat_Of 1 V1 (by decide) HV1.out _).mono ?_
        rintro e w10 ⟨rfl, hb10⟩
        have B10 : Below w0.heap.size w0 w10 := B9.trans (hb10.mono B9.size)
        clear hb10 B9
        go_wp2_with fail
        refine (nat_add x1 1 X1 V1 X3 C3.out HV1.out A6.out D4.out L1.out _).mono ?_
        rintro e w11 ⟨rfl, hb11⟩
        have B11 : Below w0.heap.size w0 w11 := B10.trans (hb11.mono B10.size)
        clear hb11 B10
        go_wp2
        go_roundw
        case rel => exact ⟨j, x1 + 1, y2 - x2, X3, Y3, by first | rfl | go_num, rfl, rfl, by omega, B11, A6, A5, NS⟩
        case measure => simp [intOf] <;> omega

/-- What a value says, if it is a string. -/
def strV (v : Value) : Nat := match v with | .string s => bvl s.data.toList | _ => 0
theorem strV_nb (n : Nat) (s : ByteArray) (h : nbA n = s) : strV (.string s) = n := by
  subst h
  exact bvl_nbL n

set_option maxHeartbeats 4000000 in
theorem nat_Gcd (a b : Nat) (s t v : ByteArray) (hs : nbA a = s) (ht : nbA b = t) (ha : nl a ≤ 16384) (hb : nl b ≤ 16384) (hv : nbA (Nat.gcd a b) = v) (w : World) :
    Calls Try.prog 24 #[.string s, .string t] w fun e w' => e = .returned (.string v) ∧ Below w.heap.size w w' := by
  have HS := box hs
  have HT := box ht
  have HV := box hv
  have HA := box ha
  have HB := box hb
  clear hs ht hv ha hb
  go_enter Try.func24, Try.ntmps24
  go_wp2
  go_loopw [0, 1] (fun av bv wr => ∃ (x y : Nat) (X Y : ByteArray), av = .string X ∧ bv = .string Y ∧ Below w.heap.size w wr ∧ Box (nbA x = X) ∧ Box (nbA y = Y) ∧ Box (nl x ≤ 16384) ∧ Box (nl y ≤ 16384) ∧ Box (Nat.gcd x y = Nat.gcd a b)) (fun _ bv _ => strV bv)
  case atStart => exact ⟨a, b, s, t, rfl, rfl, Below.refl _ _, HS, HT, HA, HB, box rfl⟩
  case round =>
    obtain ⟨x, y, X, Y, rfl, rfl, hbw, HX, HY, LX, LY, HG⟩ := hrel
    have e2 := eq_empty Y
    have hz : Y.size = nl y := by rw [← HY.out, nbA_size]
    by_cases hy : y = 0
    · rw [decide_eq_true (by rw [hz, hy, nl_zero])] at e2
      have eX : X = v := by
        have h := HG.out
        rw [hy, Nat.gcd_zero_right] at h
        rw [← HX.out, ← HV.out, h]
      subst eX
      clear hz hy
      go_wp2
      go_ret
      exact ⟨rfl, hbw⟩
    · have hp := nl_pos y hy
      rw [decide_eq_false (by omega)] at e2
      obtain ⟨q, hq⟩ : ∃ q, nbA (x / y) = q := ⟨_, rfl⟩
      obtain ⟨r, hr⟩ : ∃ r, x % y = r := ⟨_, rfl⟩
      obtain ⟨R, hR⟩ : ∃ R, nbA (x % y) = R := ⟨_, rfl⟩
      have rl : r < y := by rw [← hr]; exact Nat.mod_lt _ (by omega)
      have HQ := box hq
      have HR := box hR
      have HR2 : Box (nbA r = R) := box (by rw [← hr]; exact hR)
      have HY0 := box hy
      have LR : Box (nl r ≤ 16384) := box (by have := nl_mono r y (by omega); have := LY.out; omega)
      have NG : Box (Nat.gcd y r = Nat.gcd a b) := box (by rw [← HG.out, ← hr, Nat.gcd_comm y, ← Nat.gcd_rec, Nat.gcd_comm])
      have M1 := box (strV_nb y Y HY.out)
      have M2 := box (strV_nb r R HR2.out)
      clear hz hy hq hr hR hp
      go_wp2_with fail
      refine (nat_Div x y X Y q R HX.out HY.out LX.out HY0.out HQ.out HR.out _).mono ?_
      rintro e w1 ⟨rfl, hb1⟩
      go_wp2
      go_roundw
      case rel => exact ⟨y, r, Y, R, rfl, rfl, hbw.trans (hb1.mono hbw.size), HY, HR2, LY, LR, NG⟩
      case measure => rw [M1.out, M2.out]; exact rl
end Go.Proofs.Ytjedplbhhohfmaa
