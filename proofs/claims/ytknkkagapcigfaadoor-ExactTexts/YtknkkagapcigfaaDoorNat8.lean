/-
  What the functions Sqrt and Gcd of the document's answer for layer 5 return.
-/
import Derived.Test.YtknkkagapcigfaaDoorNat7
namespace Go.Proofs.YtknkkagapcigfaaDoor
open Go.RowKit WMath

/-- Ahead of the pair of bits at k - 1: the root so far, and what is left. -/
def NsqSt (a k p r : Nat) : Prop := a / 2 ^ (2 * k) = p * p + r ∧ r ≤ 2 * p
theorem nsq_start (a k : Nat) (h : blen a ≤ 2 * k) : NsqSt a k 0 0 := by
  refine ⟨?_, by omega⟩
  rw [Nat.div_eq_of_lt (Nat.lt_of_lt_of_le (blen_lt a) (Nat.pow_le_pow_right (by decide) h))]
theorem nsq_bits (a k : Nat) : a / 2 ^ (2 * k) = 4 * (a / 2 ^ (2 * (k + 1))) + 2 * (a.testBit (2 * k + 1)).toNat + (a.testBit (2 * k)).toNat := by
  have h1 := bit_nat a (2 * k)
  have h2 := bit_nat a (2 * k + 1)
  rw [show 2 * (k + 1) = 2 * k + 1 + 1 by omega]
  omega
theorem nsq_step (a k p r x : Nat) (S : NsqSt a (k + 1) p r) (hx : 2 * (2 * r + (a.testBit (2 * k + 1)).toNat) + (a.testBit (2 * k)).toNat = x) :
    (x < 2 * (2 * p + 0) + 1 → NsqSt a k (2 * p + 0) x) ∧ (2 * (2 * p + 0) + 1 ≤ x → NsqSt a k (2 * p + 0 + 1) (x - (2 * (2 * p + 0) + 1))) := by
  obtain ⟨h1, h2⟩ := S
  have hb := nsq_bits a k
  rw [h1] at hb
  have t1 : (a.testBit (2 * k + 1)).toNat ≤ 1 := by cases a.testBit (2 * k + 1) <;> decide
  have t0 : (a.testBit (2 * k)).toNat ≤ 1 := by cases a.testBit (2 * k) <;> decide
  have e : a / 2 ^ (2 * k) = 4 * (p * p) + x := by rw [hb, ← hx]; omega
  have e2 : 2 * p * (2 * p) = 4 * (p * p) := by rw [Nat.mul_mul_mul_comm]
  have e3 : (2 * p + 1) * (2 * p + 1) = 4 * (p * p) + 4 * p + 1 := by
    have := sq_add (2 * p) 1
    rw [e2] at this
    omega
  refine ⟨fun h => ⟨?_, by omega⟩, fun h => ⟨?_, by omega⟩⟩
  · rw [Nat.add_zero, e2, e]
  · rw [Nat.add_zero, e3, e]; omega
theorem nsq_end (a p r : Nat) (S : NsqSt a 0 p r) : RootIs a p ∧ a - p * p = r := by
  obtain ⟨h1, h2⟩ := S
  rw [Nat.mul_zero, Nat.pow_zero, Nat.div_one] at h1
  have e3 := sq_add p 1
  exact ⟨⟨by omega, by omega⟩, by omega⟩
theorem nsq_small (a k p r : Nat) (S : NsqSt a k p r) : p ≤ a ∧ r ≤ 2 * a := by
  obtain ⟨h1, h2⟩ := S
  have h3 : a / 2 ^ (2 * k) ≤ a := Nat.div_le_self _ _
  have h4 := Nat.le_mul_self p
  omega
theorem nl_few (a x : Nat) (h : x ≤ 16 * a + 16) : nl x ≤ nl a + 2 := nl_le_of x _ (by
  have := nl_lt a
  have h2 : 2 ^ (8 * (nl a + 2)) = 2 ^ (8 * nl a) * 65536 := by rw [Nat.mul_add, Nat.pow_add]
  have h3 : 0 < 2 ^ (8 * nl a) := Nat.two_pow_pos _
  omega)

/-- What a value says, if it is a string. -/
def strV (v : Value) : Nat := match v with | .string s => bvl s.data.toList | _ => 0
theorem strV_nb (n : Nat) (s : ByteArray) (h : nbA n = s) : strV (.string s) = n := by
  subst h
  exact bvl_nbL n

set_option maxHeartbeats 4000000 in
theorem nat_Gcd (a b : Nat) (s t v : ByteArray) (hs : nbA a = s) (ht : nbA b = t) (ha : nl a ≤ 16384) (hb : nl b ≤ 16384) (hv : nbA (Nat.gcd a b) = v) (w : World) :
    Calls Tryd.prog 16 #[.string s, .string t] w fun e w' => e = .returned (.string v) ∧ Below w.heap.size w w' := by
  have HS := box hs
  have HT := box ht
  have HV := box hv
  have HA := box ha
  have HB := box hb
  clear hs ht hv ha hb
  go_enter Tryd.func16, Tryd.ntmps16
  go_wp2
  go_loopw [0, 1] (fun av bv wr => ∃ (x y : Nat) (X Y : ByteArray), av = .string X ∧ bv = .string Y ∧ Below w.heap.size w wr ∧ Box (nbA x = X) ∧ Box (nbA y = Y) ∧ Box (nl x ≤ 16384) ∧ Box (nl y ≤ 16384) ∧ Box (Nat.gcd x y = Nat.gcd a b)) (fun _ bv _ => strV bv)
  case atStart => exact ⟨a, b, s, t, rfl, rfl, Below.refl _ _, HS, HT, HA, HB, box rfl⟩
  case round =>
    obtain ⟨x, y, X, Y, rfl, rfl, hbw, HX, HY, LX, LY, HG⟩ := hrel
    have e2 := eq_empty Y
    have hz : Y.size = nl y := by rw [← HY.out, nbA_size]
    by_cases hy : y = 0
    · rw [decide_eq_true (by rw [hz, hy, nl_zero])] at e2
      have eX : X = v := by
        have h := HG.out
        rw [hy, Nat.gcd_zero_right] at h
        rw [← HX.out, ← HV.out, h]
      subst eX
      clear hz hy
      go_wp2
      go_ret
      exact ⟨rfl, hbw⟩
    · have hp := nl_pos y hy
      rw [decide_eq_false (by omega)] at e2
      obtain ⟨q, hq⟩ : ∃ q, nbA (x / y) = q := ⟨_, rfl⟩
      obtain ⟨r, hr⟩ : ∃ r, x % y = r := ⟨_, rfl⟩
      obtain ⟨R, hR⟩ : ∃ R, nbA (x % y) = R := ⟨_, rfl⟩
      have rl : r < y := by rw [← hr]; exact Nat.mod_lt _ (by omega)
      have HQ := box hq
      have HR := box hR
      have HR2 : Box (nbA r = R) := box (by rw [← hr]; exact hR)
      have HY0 := box hy
      have LR : Box (nl r ≤ 16384) := box (by have := nl_mono r y (by omega); have := LY.out; omega)
      have NG : Box (Nat.gcd y r = Nat.gcd a b) := box (by rw [← HG.out, ← hr, Nat.gcd_comm y, ← Nat.gcd_rec, Nat.gcd_comm])
      have M1 := box (strV_nb y Y HY.out)
      have M2 := box (strV_nb r R HR2.out)
      clear hz hy hq hr hR hp
      go_wp2_with fail
      refine (nat_Div x y X Y q R HX.out HY.out LX.out HY0.out HQ.out HR.out _).mono ?_
      rintro e w1 ⟨rfl, hb1⟩
      go_wp2
      go_roundw
      case rel => exact ⟨y, r, Y, R, rfl, rfl, hbw.trans (hb1.mono hbw.size), HY, HR2, LY, LR, NG⟩
      case measure => rw [M1.out, M2.out]; exact rl
end Go.Proofs.YtknkkagapcigfaaDoor
