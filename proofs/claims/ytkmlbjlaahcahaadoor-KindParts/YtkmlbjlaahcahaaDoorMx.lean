/-
  The mathematics: numbers as rows of words and of bytes, sums, products, quotients, roots, texts.
-/
import Derived.Laws.MathBits
import Derived.Laws.Bits64b
import Derived.Laws.BitsAllLaws
import Derived.Laws.ShiftsVarLaws
import Derived.WalkKit
import Derived.ProofKit
import Derived.Lib.BitFns
namespace Go.Proofs.YtkmlbjlaahcahaaDoor.WMath

theorem testBit_toNat (x k : Nat) : (x.testBit k).toNat = x / 2 ^ k % 2 := by
  rw [Nat.testBit_eq_decide_div_mod_eq]
  have : x / 2 ^ k % 2 = 0 ∨ x / 2 ^ k % 2 = 1 := by omega
  rcases this with h | h <;> simp [h]

theorem bit_and (x k : Nat) : ((x / 2 ^ k) &&& 1 == 1) = x.testBit k := by
  rw [Nat.and_one_is_mod, Nat.testBit_eq_decide_div_mod_eq]
  rfl

theorem div_succ (x k : Nat) : x / 2 ^ k = 2 * (x / 2 ^ (k + 1)) + (x.testBit k).toNat := by
  rw [testBit_toNat, Nat.pow_succ, ← Nat.div_div_eq_div_mul]
  omega

theorem mod_succ (x k : Nat) : x % 2 ^ (k + 1) = x % 2 ^ k + 2 ^ k * (x.testBit k).toNat := by
  rw [testBit_toNat, Nat.mod_pow_succ]

theorem or_pow (s k : Nat) (h : s < 2 ^ k) : s ||| 2 ^ k = s + 2 ^ k := by
  have := Nat.two_pow_add_eq_or_of_lt h 1
  rw [Nat.mul_one] at this
  rw [Nat.or_comm, ← this, Nat.add_comm]

theorem or_one (s : Nat) (h : s % 2 = 0) : s ||| 1 = s + 1 := by
  have := Nat.two_pow_add_eq_or_of_lt (i := 1) (b := 1) (by decide) (s / 2)
  have e : 2 ^ 1 * (s / 2) = s := by omega
  rw [e] at this
  exact this.symm

theorem or_bit (s t : Nat) (h : s % 2 = 0) (ht : t < 2) : s ||| t = s + t := by
  rcases (by omega : t = 0 ∨ t = 1) with rfl | rfl
  · simp
  · exact or_one s h

theorem two64 : (18446744073709551616 : Nat) = 2 ^ 64 := by decide
theorem pow_lt_64 (k : Nat) (h : k < 64) : 2 ^ k < 18446744073709551616 := by
  rw [two64]; exact Nat.pow_lt_pow_right (by decide) h
theorem pow_le_64 (k : Nat) (h : k ≤ 64) : 2 ^ k ≤ 18446744073709551616 := by
  rw [two64]; exact Nat.pow_le_pow_right (by decide) h

theorem add_num (P A B c0 s : Nat) (x y c : Bool) (hs : s < P) (h : s + P * c.toNat = A + B + c0) :
    (if (x != y) != c then s + P else s) < P * 2 ∧ (if (x != y) != c then s + P else s) + P * 2 * ((x && y || x && c) || y && c).toNat = (A + P * x.toNat) + (B + P * y.toNat) + c0 := by
  cases x <;> cases y <;> cases c <;> simp at h ⊢ <;> omega
theorem sub_num (P A B c0 s : Nat) (x y c : Bool) (hs : s < P) (h : s + B + c0 = A + P * c.toNat) :
    (if (x != y) != c then s + P else s) < P * 2 ∧ (if (x != y) != c then s + P else s) + (B + P * y.toNat) + c0 = (A + P * x.toNat) + P * 2 * ((!x && y || !x && c) || y && c).toNat := by
  cases x <;> cases y <;> cases c <;> simp at h ⊢ <;> omega
/-- One step of the adder. -/
theorem add_step (a b s k : Nat) (c0 : Nat) (c : Bool) (hs : s < 2 ^ k) (h : s + 2 ^ k * c.toNat = a % 2 ^ k + b % 2 ^ k + c0) :
    (if (a.testBit k != b.testBit k) != c then s + 2 ^ k else s) < 2 ^ (k + 1) ∧ (if (a.testBit k != b.testBit k) != c then s + 2 ^ k else s) + 2 ^ (k + 1) * ((a.testBit k && b.testBit k || a.testBit k && c) || b.testBit k && c).toNat = a % 2 ^ (k + 1) + b % 2 ^ (k + 1) + c0 := by
  rw [mod_succ, mod_succ, Nat.pow_succ]
  exact add_num _ _ _ _ _ _ _ _ hs h
/-- One step of the subtracter. -/
theorem sub_step (a b s k : Nat) (c0 : Nat) (c : Bool) (hs : s < 2 ^ k) (h : s + b % 2 ^ k + c0 = a % 2 ^ k + 2 ^ k * c.toNat) :
    (if (a.testBit k != b.testBit k) != c then s + 2 ^ k else s) < 2 ^ (k + 1) ∧ (if (a.testBit k != b.testBit k) != c then s + 2 ^ k else s) + b % 2 ^ (k + 1) + c0 = a % 2 ^ (k + 1) + 2 ^ (k + 1) * ((!a.testBit k && b.testBit k || !a.testBit k && c) || b.testBit k && c).toNat := by
  rw [mod_succ, mod_succ, Nat.pow_succ]
  exact sub_num _ _ _ _ _ _ _ _ hs h

theorem add_end (a b s : Nat) (c c0 : Bool) (hs : s < 18446744073709551616) (h : s + 18446744073709551616 * c.toNat = a + b + c0.toNat) :
    s = (a + b + c0.toNat) % 18446744073709551616 ∧ c = decide (18446744073709551616 ≤ a + b + c0.toNat) := by
  cases c <;> simp at h ⊢ <;> omega
theorem sub_end (a b s : Nat) (c c0 : Bool) (ha : a < 18446744073709551616) (hb : b < 18446744073709551616) (hs : s < 18446744073709551616) (h : s + b + c0.toNat = a + 18446744073709551616 * c.toNat) :
    s = (a + 18446744073709551616 - b - c0.toNat) % 18446744073709551616 ∧ c = decide (a < b + c0.toNat) := by
  cases c <;> cases c0 <;> simp at h ⊢ <;> omega

theorem mul_n0 (hi lo A2 : Nat) (e : A2 = 2 * (hi * 18446744073709551616 + lo)) (hm : A2 ≤ 340282366920938463426481119284349108225) :
    hi * 2 + 1 < 18446744073709551616 ∧ (hi * 2 + lo / 9223372036854775808) * 18446744073709551616 + lo * 2 % 18446744073709551616 = A2 :=
  ⟨by omega, by omega⟩
theorem mul_n1 (hi lo a A2 : Nat) (e : A2 = 2 * (hi * 18446744073709551616 + lo) + a) (hm : A2 ≤ 340282366920938463426481119284349108225) :
    hi * 2 + 1 < 18446744073709551616 := by omega
theorem mul_n2 (hi lo a A2 : Nat) (ha : a < 18446744073709551616) (e : A2 = 2 * (hi * 18446744073709551616 + lo) + a)
    (h : 18446744073709551616 ≤ lo * 2 % 18446744073709551616 + a) :
    (hi * 2 + lo / 9223372036854775808 + 1) * 18446744073709551616 + (lo * 2 % 18446744073709551616 + a) % 18446744073709551616 = A2 := by omega
theorem mul_n3 (hi lo a A2 : Nat) (e : A2 = 2 * (hi * 18446744073709551616 + lo) + a) (hm : A2 ≤ 340282366920938463426481119284349108225) : hi * 2 + lo / 9223372036854775808 + 1 < 18446744073709551616 := by omega
theorem mul_n4 (hi lo a A2 : Nat) (e : A2 = 2 * (hi * 18446744073709551616 + lo) + a)
    (h : lo * 2 % 18446744073709551616 + a < 18446744073709551616) :
    (hi * 2 + lo / 9223372036854775808) * 18446744073709551616 + (lo * 2 % 18446744073709551616 + a) % 18446744073709551616 = A2 := by omega

theorem mul_bool (hi lo a A2 : Nat) (t : Bool) (ha : a < 18446744073709551616) (e2 : A2 = 2 * (hi * 18446744073709551616 + lo) + a * t.toNat)
    (hm : A2 ≤ 340282366920938463426481119284349108225) :
    hi * 2 + 1 < 18446744073709551616 ∧
    (t = false → (hi * 2 + lo / 9223372036854775808) * 18446744073709551616 + lo * 2 % 18446744073709551616 = A2) ∧
    (t = true → (18446744073709551616 ≤ lo * 2 % 18446744073709551616 + a → hi * 2 + lo / 9223372036854775808 + 1 < 18446744073709551616 ∧ (hi * 2 + lo / 9223372036854775808 + 1) * 18446744073709551616 + (lo * 2 % 18446744073709551616 + a) % 18446744073709551616 = A2)) ∧
    (t = true → (lo * 2 % 18446744073709551616 + a < 18446744073709551616 → (hi * 2 + lo / 9223372036854775808) * 18446744073709551616 + (lo * 2 % 18446744073709551616 + a) % 18446744073709551616 = A2)) := by
  cases t
  · have e3 : A2 = 2 * (hi * 18446744073709551616 + lo) := by rw [e2, Bool.toNat_false, Nat.mul_zero, Nat.add_zero]
    have n := mul_n0 hi lo A2 e3 hm
    exact ⟨n.1, fun _ => n.2, fun h => (by cases h), fun h => (by cases h)⟩
  · have e3 : A2 = 2 * (hi * 18446744073709551616 + lo) + a := by rw [e2, Bool.toNat_true, Nat.mul_one]
    exact ⟨mul_n1 hi lo a A2 e3 hm, fun h => (by cases h), fun _ h => ⟨mul_n3 hi lo a A2 e3 hm, mul_n2 hi lo a A2 ha e3 h⟩, fun _ h => mul_n4 hi lo a A2 e3 h⟩

theorem mul_bound (a x : Nat) (ha : a < 18446744073709551616) (hx : x ≤ 18446744073709551615) : a * x ≤ 340282366920938463426481119284349108225 := by
  have hm0 : a * x ≤ 18446744073709551615 * 18446744073709551615 := Nat.mul_le_mul (by omega) hx
  omega

/-- One step of the multiplication: the next bit of b comes in. -/
theorem mul_step (a b k hi lo : Nat) (ha : a < 18446744073709551616) (hb : b < 18446744073709551616)
    (h : hi * 18446744073709551616 + lo = a * (b / 2 ^ (k + 1))) :
    hi * 2 + 1 < 18446744073709551616 ∧
    (b.testBit k = false → (hi * 2 + lo / 9223372036854775808) * 18446744073709551616 + lo * 2 % 18446744073709551616 = a * (b / 2 ^ k)) ∧
    (b.testBit k = true → (18446744073709551616 ≤ lo * 2 % 18446744073709551616 + a → hi * 2 + lo / 9223372036854775808 + 1 < 18446744073709551616 ∧ (hi * 2 + lo / 9223372036854775808 + 1) * 18446744073709551616 + (lo * 2 % 18446744073709551616 + a) % 18446744073709551616 = a * (b / 2 ^ k))) ∧
    (b.testBit k = true → (lo * 2 % 18446744073709551616 + a < 18446744073709551616 → (hi * 2 + lo / 9223372036854775808) * 18446744073709551616 + (lo * 2 % 18446744073709551616 + a) % 18446744073709551616 = a * (b / 2 ^ k))) :=
  mul_bool hi lo a _ _ ha (by rw [h, div_succ b k, Nat.mul_add, Nat.mul_left_comm]) (mul_bound a _ ha (Nat.le_trans (Nat.div_le_self _ _) (Nat.le_of_lt_succ hb)))

/-- After j bits of the division of hi, lo by d: the quotient so far is q, what is left r. -/
def DivSt (hi lo d j q r : Nat) : Prop := hi * 2 ^ j + lo / 2 ^ (64 - j) = q * d + r ∧ r < d ∧ q < 2 ^ j

theorem div_step (hi lo d j q r t : Nat) (hj : j < 64) (ht : t = (lo.testBit (63 - j)).toNat) (S : DivSt hi lo d j q r) :
    (2 * r + t < d → DivSt hi lo d (j + 1) (q * 2) (2 * r + t)) ∧ (d ≤ 2 * r + t → DivSt hi lo d (j + 1) (q * 2 + 1) (2 * r + t - d)) := by
  obtain ⟨h, hr, hq⟩ := S
  have e := div_succ lo (63 - j)
  rw [← ht] at e
  have e0 : 63 - j + 1 = 64 - j := by omega
  have e1 : 64 - (j + 1) = 63 - j := by omega
  have hb : t ≤ 1 := by rw [ht]; cases lo.testBit (63 - j) <;> decide
  rw [e0] at e
  unfold DivSt
  rw [e1, Nat.pow_succ, e]
  have e2 : hi * (2 ^ j * 2) = 2 * (hi * 2 ^ j) := by rw [← Nat.mul_assoc]; omega
  have e3 : q * 2 * d = 2 * (q * d) := by rw [Nat.mul_right_comm]; omega
  have e4 : (q * 2 + 1) * d = 2 * (q * d) + d := by rw [Nat.add_mul, e3]; omega
  rw [e2, e3, e4]
  clear e e0 e1 e2 e3 e4 ht
  generalize q * d = Q at *
  generalize hi * 2 ^ j = H at *
  generalize lo / 2 ^ (64 - j) = L at *
  generalize 2 ^ j = P at *
  refine ⟨fun h => ⟨by omega, by omega, by omega⟩, fun h => ⟨by omega, by omega, by omega⟩⟩

theorem div_start (hi lo d : Nat) (hl : lo < 18446744073709551616) (hh : hi < d) : DivSt hi lo d 0 0 hi := by
  refine ⟨?_, hh, by decide⟩
  rw [Nat.pow_zero, Nat.mul_one, Nat.sub_zero, ← two64, Nat.div_eq_of_lt hl, Nat.zero_mul, Nat.zero_add, Nat.add_zero]

theorem div_end (hi lo d q r : Nat) (S : DivSt hi lo d 64 q r) : q = (hi * 18446744073709551616 + lo) / d ∧ r = (hi * 18446744073709551616 + lo) % d := by
  obtain ⟨h, hr, _⟩ := S
  rw [Nat.sub_self, Nat.pow_zero, Nat.div_one, ← two64] at h
  have hd : 0 < d := by omega
  have h' : hi * 18446744073709551616 + lo = r + d * q := by rw [h, Nat.mul_comm q d]; omega
  constructor
  · rw [h', Nat.add_mul_div_left _ _ hd, Nat.div_eq_of_lt hr, Nat.zero_add]
  · rw [h', Nat.add_mul_mod_self_left, Nat.mod_eq_of_lt hr]

/-- The highest bit of what is shifted to the left. -/
theorem top_bit (lo j : Nat) (hj : j < 64) : lo * 2 ^ j % 18446744073709551616 / 9223372036854775808 = (lo.testBit (63 - j)).toNat := by
  have e1 : (18446744073709551616 : Nat) = 2 ^ j * (2 ^ (63 - j) * 2) := by
    rw [← Nat.pow_succ, ← Nat.pow_add, two64]; congr 1; omega
  have e2 : (9223372036854775808 : Nat) = 2 ^ j * 2 ^ (63 - j) := by
    rw [← Nat.pow_add, show j + (63 - j) = 63 by omega]
  rw [testBit_toNat, e1, e2, Nat.mul_comm lo, Nat.mul_mod_mul_left, Nat.mul_div_mul_left _ _ (Nat.two_pow_pos j), Nat.mod_mul_right_div_self]

theorem div_lt_pow (lo k : Nat) (h : lo < 18446744073709551616) (hk : k ≤ 64) : lo / 2 ^ k < 2 ^ (64 - k) := by
  rw [Nat.div_lt_iff_lt_mul (Nat.two_pow_pos _), ← Nat.pow_add, Nat.sub_add_cancel hk, ← two64]
  exact h

theorem xor_pow (L m : Nat) (h : L < 2 ^ m) : L ^^^ 2 ^ m = L + 2 ^ m := by
  rw [← or_pow L m h]
  apply Nat.eq_of_testBit_eq
  intro i
  rw [Nat.testBit_xor, Nat.testBit_or, Nat.testBit_two_pow]
  by_cases e : m = i
  · subst e
    simp [Nat.testBit_lt_two_pow h]
  · simp [e]
theorem xor_pow' (L m : Nat) (h : L < 2 ^ m) : (L + 2 ^ m) ^^^ 2 ^ m = L := by
  rw [← xor_pow L m h, Nat.xor_assoc, Nat.xor_self, Nat.xor_zero]

/-- x, its bits from e on all like the bit below e. -/
def sx (x e : Nat) : Nat := if x.testBit (e - 1) then x % 2 ^ e + (18446744073709551616 - 2 ^ e) else x % 2 ^ e

theorem low_split (x m : Nat) : x % 2 ^ (m + 1) = x % 2 ^ m + 2 ^ m * (x.testBit m).toNat := mod_succ x m

theorem sx_xor (x e : Nat) (h1 : 1 ≤ e) (h2 : e ≤ 64) :
    (x % 2 ^ e ^^^ 2 ^ (e - 1)) + (18446744073709551616 - 2 ^ (e - 1)) = sx x e ∨ (x % 2 ^ e ^^^ 2 ^ (e - 1)) + (18446744073709551616 - 2 ^ (e - 1)) = sx x e + 18446744073709551616 := by
  obtain ⟨m, rfl⟩ : ∃ m, e = m + 1 := ⟨e - 1, by omega⟩
  unfold sx
  have hp := pow_le_64 (m + 1) h2
  have hl : x % 2 ^ m < 2 ^ m := Nat.mod_lt _ (Nat.two_pow_pos m)
  rw [Nat.add_sub_cancel, low_split]
  rw [Nat.pow_succ] at hp ⊢
  cases x.testBit m
  · simp only [Bool.toNat_false, Nat.mul_zero, Nat.add_zero, xor_pow _ _ hl]
    right; simp; omega
  · simp only [Bool.toNat_true, Nat.mul_one, xor_pow' _ _ hl, if_true]
    left; omega

theorem sx_or (x e : Nat) (h2 : e ≤ 64) : x % 2 ^ e ||| (18446744073709551616 - 2 ^ e) = x % 2 ^ e + (18446744073709551616 - 2 ^ e) := by
  have hl : x % 2 ^ e < 2 ^ e := Nat.mod_lt _ (Nat.two_pow_pos e)
  have e1 : 18446744073709551616 - 2 ^ e = 2 ^ e * (2 ^ (64 - e) - 1) := by
    rw [Nat.mul_sub, ← Nat.pow_add, Nat.mul_one, Nat.add_sub_cancel' h2, ← two64]
  rw [e1, Nat.or_comm, ← Nat.two_pow_add_eq_or_of_lt hl, Nat.add_comm]

theorem sx_lt (x e : Nat) (h2 : e ≤ 64) : sx x e < 18446744073709551616 := by
  have hl : x % 2 ^ e < 2 ^ e := Nat.mod_lt _ (Nat.two_pow_pos e)
  have hp := pow_le_64 e h2
  unfold sx
  split <;> omega

theorem sx64 (x : Nat) (hx : x < 18446744073709551616) : sx x 64 = x := by
  unfold sx
  rw [← two64, Nat.mod_eq_of_lt hx, Nat.sub_self, Nat.add_zero, ite_self]
theorem sx_mod (x e : Nat) (h2 : e ≤ 64) : sx x e % 2 ^ e = x % 2 ^ e := by
  have e1 : 18446744073709551616 - 2 ^ e = 2 ^ e * (2 ^ (64 - e) - 1) := by
    rw [Nat.mul_sub, ← Nat.pow_add, Nat.mul_one, Nat.add_sub_cancel' h2, ← two64]
  unfold sx
  split
  · rw [e1, Nat.add_mul_mod_self_left, Nat.mod_mod]
  · rw [Nat.mod_mod]
theorem sx_sx (x e : Nat) (h1 : 1 ≤ e) (h2 : e ≤ 64) : sx (sx x e) e = sx x e := by
  have hm := sx_mod x e h2
  have hb : (sx x e).testBit (e - 1) = x.testBit (e - 1) := by
    have h3 := Nat.testBit_mod_two_pow (sx x e) e (e - 1)
    have h4 := Nat.testBit_mod_two_pow x e (e - 1)
    rw [hm, h4] at h3
    simpa [show e - 1 < e by omega] using h3.symm
  generalize hy : sx x e = y at *
  unfold sx
  rw [hm, hb]
  unfold sx at hy
  exact hy

theorem mul_mod_step (x k X : Nat) (h : X = x * 2 ^ k % 18446744073709551616) : X * 2 % 18446744073709551616 = x * 2 ^ (k + 1) % 18446744073709551616 := by
  rw [h, Nat.pow_succ, ← Nat.mul_assoc]
  exact Nat.mod_mul_mod _ _ _
theorem div_step2 (x k X : Nat) (h : X = x / 2 ^ k) : X / 2 = x / 2 ^ (k + 1) := by
  rw [h, Nat.pow_succ, Nat.div_div_eq_div_mul]

theorem mask_lt (c : Nat) (h : c ≤ 64) : 2 ^ c - 1 < 18446744073709551616 := by
  have := pow_le_64 c h
  have := Nat.two_pow_pos c
  omega

end Go.Proofs.YtkmlbjlaahcahaaDoor.WMath
namespace Go.Proofs.YtkmlbjlaahcahaaDoor.WMath

/-- A fact that is kept, and that no step of a walk looks into. -/
def Box (p : Prop) : Prop := p ∨ False
theorem box {p : Prop} (h : p) : Box p := Or.inl h
theorem Box.out {p : Prop} (h : Box p) : p := h.elim id False.elim

def wd (n k : Nat) : Nat := n / 2 ^ (64 * k) % 18446744073709551616
theorem wd_lt (n k : Nat) : wd n k < 18446744073709551616 := Nat.mod_lt _ (by decide)
theorem wd_bit (n k j : Nat) : (wd n k).testBit j = (decide (j < 64) && n.testBit (64 * k + j)) := by
  unfold wd
  rw [two64, Nat.testBit_mod_two_pow, Nat.testBit_div_two_pow, Nat.add_comm j]
theorem wd_zero (k : Nat) : wd 0 k = 0 := by unfold wd; rw [Nat.zero_div, Nat.zero_mod]

theorem bit_of_wd (n i : Nat) : n.testBit i = (wd n (i / 64)).testBit (i % 64) := by
  rw [wd_bit, Nat.div_add_mod]
  simp [Nat.mod_lt]

theorem lt_bit {n q i : Nat} (h : n < 2 ^ q) (hi : q ≤ i) : n.testBit i = false := Nat.testBit_lt_two_pow (Nat.lt_of_lt_of_le h (Nat.pow_le_pow_right (by decide) hi))

theorem wd_ext {L n m : Nat} (hn : n < 2 ^ (64 * L)) (hm : m < 2 ^ (64 * L)) (h : ∀ k, k < L → wd n k = wd m k) : n = m := by
  apply Nat.eq_of_testBit_eq
  intro i
  by_cases hi : i < 64 * L
  · rw [bit_of_wd, bit_of_wd m, h (i / 64) (by omega)]
  · rw [lt_bit hn (by omega), lt_bit hm (by omega)]

theorem pow64 (p : Nat) : 2 ^ (64 * (p + 1)) = 2 ^ (64 * p) * 18446744073709551616 := by
  rw [Nat.mul_add, Nat.pow_add]

theorem wd_high {n q k : Nat} (h : n < 2 ^ (64 * q)) (hk : q ≤ k) : wd n k = 0 := by
  unfold wd
  rw [Nat.div_eq_of_lt (Nat.lt_of_lt_of_le h (Nat.pow_le_pow_right (by decide) (by omega)))]

/-- The word at the place p replaced by x. -/
def setw (n p x : Nat) : Nat := n % 2 ^ (64 * p) + 2 ^ (64 * p) * (x + 18446744073709551616 * (n / 2 ^ (64 * (p + 1))))

theorem wd_split (n p : Nat) : n = n % 2 ^ (64 * p) + 2 ^ (64 * p) * (wd n p + 18446744073709551616 * (n / 2 ^ (64 * (p + 1)))) := by
  unfold wd
  rw [pow64, ← Nat.div_div_eq_div_mul]
  have h1 := Nat.div_add_mod n (2 ^ (64 * p))
  have h2 := Nat.div_add_mod (n / 2 ^ (64 * p)) 18446744073709551616
  generalize n / 2 ^ (64 * p) = q at *
  have h3 : q % 18446744073709551616 + 18446744073709551616 * (q / 18446744073709551616) = q := by omega
  rw [h3]
  omega

theorem mod_wd (n p : Nat) : n % 2 ^ (64 * (p + 1)) = n % 2 ^ (64 * p) + 2 ^ (64 * p) * wd n p := by
  unfold wd
  rw [pow64, Nat.mod_mul]

theorem setw_add (n p x : Nat) : setw n p x + 2 ^ (64 * p) * wd n p = n + 2 ^ (64 * p) * x := by
  have h := wd_split n p
  unfold setw
  generalize n / 2 ^ (64 * (p + 1)) = D at *
  generalize n % 2 ^ (64 * p) = A at *
  generalize wd n p = u at *
  generalize 2 ^ (64 * p) = P at *
  rw [Nat.mul_add] at h
  rw [Nat.mul_add, h]
  omega

theorem setw_low (n p x : Nat) (h : n < 2 ^ (64 * p)) : setw n p x = n + 2 ^ (64 * p) * x := by
  have := setw_add n p x
  rw [wd_high h (Nat.le_refl _)] at this
  simpa using this

theorem setw_bit (n p x i : Nat) (hx : x < 18446744073709551616) : (setw n p x).testBit i = if i / 64 = p then x.testBit (i % 64) else n.testBit i := by
  unfold setw
  rw [Nat.add_comm, Nat.testBit_two_pow_mul_add _ (Nat.mod_lt _ (Nat.two_pow_pos _))]
  split
  · rename_i h
    rw [if_neg (by omega), Nat.testBit_mod_two_pow, decide_eq_true h, Bool.true_and]
  · rename_i h
    rw [Nat.add_comm, two64, Nat.testBit_two_pow_mul_add _ (by rw [← two64]; exact hx)]
    split
    · rename_i h2
      rw [if_pos (by omega)]
      congr 1; omega
    · rename_i h2
      rw [if_neg (by omega), Nat.testBit_div_two_pow]
      congr 1; omega

theorem wd_setw (n p x k : Nat) (hx : x < 18446744073709551616) : wd (setw n p x) k = if k = p then x else wd n k := by
  apply Nat.eq_of_testBit_eq
  intro j
  rw [wd_bit, setw_bit _ _ _ _ hx]
  by_cases hj : j < 64
  · rw [decide_eq_true hj, Bool.true_and, show (64 * k + j) / 64 = k by omega, show (64 * k + j) % 64 = j by omega]
    split
    · rfl
    · rw [wd_bit, decide_eq_true hj, Bool.true_and]
  · rw [decide_eq_false hj, Bool.false_and]
    have e : ∀ y, y < 18446744073709551616 → y.testBit j = false := fun y hy => lt_bit (q := 64) (by rw [← two64]; exact hy) (by omega)
    split
    · rw [e x hx]
    · rw [e _ (wd_lt _ _)]

theorem setw_lt (n p x q : Nat) (hn : n < 2 ^ (64 * q)) (hp : p < q) (hx : x < 18446744073709551616) : setw n p x < 2 ^ (64 * q) := by
  apply Nat.lt_pow_two_of_testBit
  intro i hi
  rw [setw_bit _ _ _ _ hx, if_neg (by omega), lt_bit hn hi]

theorem setw_or (n p x q : Nat) (hx : x < 18446744073709551616) (hq : q = p) : setw n p (wd n q ||| x) = n ||| x * 2 ^ (64 * p) := by
  subst hq
  apply Nat.eq_of_testBit_eq
  intro i
  have hlt : wd n q ||| x < 18446744073709551616 := by rw [two64]; exact Nat.or_lt_two_pow (by rw [← two64]; exact wd_lt _ _) (by rw [← two64]; exact hx)
  rw [setw_bit _ _ _ _ hlt, Nat.testBit_or n, Nat.testBit_mul_two_pow]
  split
  · rename_i h
    rw [Nat.testBit_or, wd_bit, decide_eq_true (Nat.mod_lt _ (by decide)), Bool.true_and, ← h, Nat.div_add_mod, decide_eq_true (by omega), Bool.true_and]
    congr 2; omega
  · rename_i h
    by_cases h2 : 64 * q ≤ i
    · rw [decide_eq_true h2, Bool.true_and, lt_bit (n := x) (q := 64) (by rw [← two64]; exact hx) (by omega), Bool.or_false]
    · rw [decide_eq_false h2, Bool.false_and, Bool.or_false]

/-- The cells of a number of L words. -/
def cw (L n : Nat) : Array Value := ((List.range L).map fun k => Value.int .u64 (wd n k : Nat)).toArray
theorem cw_size (L n : Nat) : (cw L n).size = L := by simp [cw]
theorem cw_at (L n k : Nat) (h : k < L) : (cw L n)[k]? = some (.int .u64 (wd n k : Nat)) := by simp [cw, h]
theorem cw_set (L n p x : Nat) (hp : p < L) (hx : x < 18446744073709551616) : (cw L n).setIfInBounds p (.int .u64 (x : Nat)) = cw L (setw n p x) := by
  apply Array.ext_getElem?
  intro k
  rw [Array.getElem?_setIfInBounds]
  by_cases hk : k < L
  · rw [cw_at L (setw n p x) k hk, cw_at L n k hk, wd_setw _ _ _ _ hx, cw_size]
    by_cases e : p = k
    · subst e; rw [if_pos rfl, if_pos hp, if_pos rfl]
    · rw [if_neg e, if_neg (fun h => e h.symm)]
  · have e1 : ∀ m, (cw L m)[k]? = none := fun m => by rw [Array.getElem?_eq_none]; rw [cw_size]; omega
    rw [e1, e1, if_neg (by omega)]
theorem cw6 (n : Nat) : cw 6 n = #[.int .u64 (wd n 0 : Nat), .int .u64 (wd n 1 : Nat), .int .u64 (wd n 2 : Nat), .int .u64 (wd n 3 : Nat), .int .u64 (wd n 4 : Nat), .int .u64 (wd n 5 : Nat)] := rfl
theorem cw6z : #[Value.int .u64 0, .int .u64 0, .int .u64 0, .int .u64 0, .int .u64 0, .int .u64 0] = cw 6 0 := by rw [cw6]; simp [wd_zero]
theorem cw6f (n : Nat) : #[Value.int .u64 (wd n 0 : Nat), .int .u64 (wd n 1 : Nat), .int .u64 (wd n 2 : Nat), .int .u64 (wd n 3 : Nat), .int .u64 (wd n 4 : Nat), .int .u64 (wd n 5 : Nat)] = cw 6 n := rfl
theorem cw_ext {L n m : Nat} (hn : n < 2 ^ (64 * L)) (hm : m < 2 ^ (64 * L)) (h : cw L n = cw L m) : n = m := by
  apply wd_ext hn hm
  intro k hk
  have := congrArg (fun a => a[k]?) h
  simp only [cw_at L _ k hk, Option.some.injEq, Value.int.injEq, true_and] at this
  omega
theorem cw_oneCell (L n : Nat) : (cw L n).all (·.oneCell') = true := by
  rw [Array.all_eq_true]
  intro i hi
  rw [cw_size] at hi
  have := cw_at L n i hi
  rw [Array.getElem?_eq_getElem (by rw [cw_size]; exact hi)] at this
  injection this with this
  rw [this]; rfl

/-- Two to the power 384. -/
def pw (L : Nat) : Nat := 2 ^ (64 * L)
def Qn (k : Nat) : Nat := if h : k = 0 then pw 6 else Qn (k - 1)
  termination_by k
  decreasing_by omega
def Q : Nat := Qn 0
theorem Q_pw : ∃ L, L = 6 ∧ Q = pw L := by
  refine ⟨6, rfl, ?_⟩
  unfold Q
  rw [Qn, dif_pos rfl]
theorem Q_of : ∃ L, L = 6 ∧ Q = 2 ^ (64 * L) := by
  obtain ⟨L, hL, h⟩ := Q_pw
  exact ⟨L, hL, h⟩
theorem Q_pos : 0 < Q := by
  obtain ⟨L, _, h⟩ := Q_of
  rw [h]
  exact Nat.two_pow_pos _
/-- A number of 384 bits, as a value. -/
def W (n : Nat) : Value := .agg (cw 6 n)

theorem w6 (a0 a1 a2 a3 a4 a5 : Nat) (h0 : a0 < 18446744073709551616) (h1 : a1 < 18446744073709551616) (h2 : a2 < 18446744073709551616) (h3 : a3 < 18446744073709551616) (h4 : a4 < 18446744073709551616) (h5 : a5 < 18446744073709551616) :
    ∃ n, n < Q ∧ cw 6 n = #[.int .u64 a0, .int .u64 a1, .int .u64 a2, .int .u64 a3, .int .u64 a4, .int .u64 a5] := by
  refine ⟨setw (setw (setw (setw (setw (setw 0 0 a0) 1 a1) 2 a2) 3 a3) 4 a4) 5 a5, ?_, ?_⟩
  · obtain ⟨L, hL, h⟩ := Q_of
    rw [h]
    repeat (refine setw_lt _ _ _ L ?_ (by omega) (by assumption))
    exact Nat.two_pow_pos _
  · rw [cw6]
    simp only [wd_setw _ _ _ _ h0, wd_setw _ _ _ _ h1, wd_setw _ _ _ _ h2, wd_setw _ _ _ _ h3, wd_setw _ _ _ _ h4, wd_setw _ _ _ _ h5]
    rfl
theorem wd_mod (n L k : Nat) (h : k < L) : wd (n % 2 ^ (64 * L)) k = wd n k := by
  apply Nat.eq_of_testBit_eq
  intro j
  rw [wd_bit, wd_bit, Nat.testBit_mod_two_pow]
  by_cases hj : j < 64
  · rw [decide_eq_true (show 64 * k + j < 64 * L by omega), Bool.true_and]
  · rw [decide_eq_false hj, Bool.false_and, Bool.false_and]
theorem wd_div (n L k : Nat) : wd (n / 2 ^ (64 * L)) k = wd n (L + k) := by
  unfold wd
  rw [Nat.div_div_eq_div_mul, ← Nat.pow_add, ← Nat.mul_add]
theorem cw_seti (L n p y : Nat) (x : Int) (hp : p < L) (hx : y < 18446744073709551616) (h : x = (y : Int)) : (cw L n).setIfInBounds p (.int .u64 x) = cw L (setw n p y) := by
  rw [h]; exact cw_set L n p y hp hx
theorem cw_push (L n p y : Nat) (x : Int) (hp : p < L) (hn : n < 2 ^ (64 * p)) (hx : y < 18446744073709551616) (h : x = (y : Int)) : (cw L n).setIfInBounds p (.int .u64 x) = cw L (n + 2 ^ (64 * p) * y) := by
  rw [cw_seti L n p y x hp hx h, setw_low n p y hn]
theorem push_lt (n p y : Nat) (hn : n < 2 ^ (64 * p)) (hx : y < 18446744073709551616) : n + 2 ^ (64 * p) * y < 2 ^ (64 * (p + 1)) := by
  rw [pow64]
  have h : 2 ^ (64 * p) * (y + 1) ≤ 2 ^ (64 * p) * 18446744073709551616 := Nat.mul_le_mul_left _ (by omega)
  rw [Nat.mul_add] at h
  omega

theorem wadd_step (n m S k x : Nat) (C : Bool) (hE : S + 2 ^ (64 * k) * C.toNat = n % 2 ^ (64 * k) + m % 2 ^ (64 * k)) (hx : x = (wd n k + wd m k + C.toNat) % 18446744073709551616) :
    S + 2 ^ (64 * k) * x + 2 ^ (64 * (k + 1)) * (decide (18446744073709551616 ≤ wd n k + wd m k + C.toNat)).toNat = n % 2 ^ (64 * (k + 1)) + m % 2 ^ (64 * (k + 1)) := by
  have e : x + 18446744073709551616 * (decide (18446744073709551616 ≤ wd n k + wd m k + C.toNat)).toNat = wd n k + wd m k + C.toNat := by
    have := wd_lt n k
    have := wd_lt m k
    have : C.toNat ≤ 1 := by cases C <;> decide
    by_cases h : 18446744073709551616 ≤ wd n k + wd m k + C.toNat
    · rw [decide_eq_true h, Bool.toNat_true]; omega
    · rw [decide_eq_false h, Bool.toNat_false]; omega
  rw [mod_wd, mod_wd, pow64, Nat.mul_assoc]
  have e2 := congrArg (fun t => 2 ^ (64 * k) * t) e
  simp only [Nat.mul_add] at e2
  omega
theorem pwQ (k : Nat) (h : k = 6) : 2 ^ (64 * k) = Q := by
  obtain ⟨L, hL, hQ⟩ := Q_of
  rw [hQ, show L = k by omega]
theorem wadd_end (n m S k : Nat) (C : Bool) (h6 : k = 6) (hn : n < Q) (hm : m < Q) (hS : S < 2 ^ (64 * k)) (hE : S + 2 ^ (64 * k) * C.toNat = n % 2 ^ (64 * k) + m % 2 ^ (64 * k)) :
    S = (n + m) % Q ∧ C = decide (Q ≤ n + m) := by
  rw [pwQ k h6] at hS hE
  rw [Nat.mod_eq_of_lt hn, Nat.mod_eq_of_lt hm] at hE
  cases C
  · rw [Bool.toNat_false, Nat.mul_zero, Nat.add_zero] at hE
    rw [← hE, Nat.mod_eq_of_lt hS, decide_eq_false (by omega)]
    exact ⟨rfl, rfl⟩
  · rw [Bool.toNat_true, Nat.mul_one] at hE
    rw [← hE, Nat.add_mod_right, Nat.mod_eq_of_lt hS, decide_eq_true (by omega)]
    exact ⟨rfl, rfl⟩
theorem wsub_step (n m S k x : Nat) (C : Bool) (hE : S + m % 2 ^ (64 * k) = n % 2 ^ (64 * k) + 2 ^ (64 * k) * C.toNat) (hx : x = (wd n k + 18446744073709551616 - wd m k - C.toNat) % 18446744073709551616) :
    S + 2 ^ (64 * k) * x + m % 2 ^ (64 * (k + 1)) = n % 2 ^ (64 * (k + 1)) + 2 ^ (64 * (k + 1)) * (decide (wd n k < wd m k + C.toNat)).toNat := by
  have e : x + wd m k + C.toNat = wd n k + 18446744073709551616 * (decide (wd n k < wd m k + C.toNat)).toNat := by
    have := wd_lt n k
    have := wd_lt m k
    have : C.toNat ≤ 1 := by cases C <;> decide
    by_cases h : wd n k < wd m k + C.toNat
    · rw [decide_eq_true h, Bool.toNat_true]; omega
    · rw [decide_eq_false h, Bool.toNat_false]; omega
  rw [mod_wd, mod_wd, pow64, Nat.mul_assoc]
  have e2 := congrArg (fun t => 2 ^ (64 * k) * t) e
  simp only [Nat.mul_add] at e2
  omega
theorem wsub_end (n m S k : Nat) (C : Bool) (h6 : k = 6) (hn : n < Q) (hm : m < Q) (hS : S < 2 ^ (64 * k)) (hE : S + m % 2 ^ (64 * k) = n % 2 ^ (64 * k) + 2 ^ (64 * k) * C.toNat) :
    S = (n + Q - m) % Q ∧ C = decide (n < m) := by
  rw [pwQ k h6] at hS hE
  rw [Nat.mod_eq_of_lt hn, Nat.mod_eq_of_lt hm] at hE
  cases C
  · rw [Bool.toNat_false, Nat.mul_zero, Nat.add_zero] at hE
    rw [show n + Q - m = S + Q by omega, Nat.add_mod_right, Nat.mod_eq_of_lt hS, decide_eq_false (by omega)]
    exact ⟨rfl, rfl⟩
  · rw [Bool.toNat_true, Nat.mul_one] at hE
    rw [show n + Q - m = S by omega, Nat.mod_eq_of_lt hS, decide_eq_true (by omega)]
    exact ⟨rfl, rfl⟩

/-- The words below k are those of f, the others those of n. -/
def Part (X n k : Nat) (f : Nat → Nat) : Prop := X < Q ∧ ∀ j, j < 6 → wd X j = if j < k then f j else wd n j
theorem part_start (n : Nat) (f : Nat → Nat) (h : n < Q) : Part n n 0 f := ⟨h, fun j _ => by rw [if_neg (by omega)]⟩
theorem setw_ltQ (n p x : Nat) (hn : n < Q) (hp : p < 6) (hx : x < 18446744073709551616) : setw n p x < Q := by
  obtain ⟨L, hL, hQ⟩ := Q_of
  rw [hQ] at hn ⊢
  exact setw_lt _ _ _ _ hn (by omega) hx
theorem part_step {X n k : Nat} {f : Nat → Nat} (h : Part X n k f) (hk : k < 6) (x : Nat) (hx : x < 18446744073709551616) (hf : f k = x) : Part (setw X k x) n (k + 1) f := by
  refine ⟨setw_ltQ _ _ _ h.1 hk hx, fun j hj => ?_⟩
  rw [wd_setw _ _ _ _ hx, h.2 j hj]
  by_cases e : j = k
  · subst e; rw [if_pos rfl, if_pos (by omega), hf]
  · rw [if_neg e]
    by_cases e2 : j < k
    · rw [if_pos e2, if_pos (by omega)]
    · rw [if_neg e2, if_neg (by omega)]
theorem part_end {X n k : Nat} {f : Nat → Nat} (h : Part X n k f) (hk : k = 6) (r : Nat) (hr : r < Q) (hw : ∀ j, j < 6 → wd r j = f j) : X = r := by
  obtain ⟨L, hL, hQ⟩ := Q_of
  have hX := h.1
  rw [hQ] at hX hr
  exact wd_ext hX hr (fun j hj => by rw [h.2 j (by omega), if_pos (by omega), hw j (by omega)])
theorem part_wd {X n k : Nat} {f : Nat → Nat} (h : Part X n k f) (hk : k < 6) : wd X k = wd n k := by rw [h.2 k hk, if_neg (by omega)]

theorem or_ltQ (n m : Nat) (hn : n < Q) (hm : m < Q) : n ||| m < Q := by
  obtain ⟨L, hL, hQ⟩ := Q_of
  rw [hQ] at hn hm ⊢
  exact Nat.or_lt_two_pow hn hm
theorem and_ltQ (n m : Nat) (hn : n < Q) : n &&& m < Q := Nat.lt_of_le_of_lt Nat.and_le_left hn
theorem wd_or (n m k : Nat) : wd (n ||| m) k = wd n k ||| wd m k := by
  apply Nat.eq_of_testBit_eq
  intro j
  rw [wd_bit, Nat.testBit_or, Nat.testBit_or, wd_bit, wd_bit, Bool.and_or_distrib_left]
theorem wd_and (n m k : Nat) : wd (n &&& m) k = wd n k &&& wd m k := by
  apply Nat.eq_of_testBit_eq
  intro j
  rw [wd_bit, Nat.testBit_and, Nat.testBit_and, wd_bit, wd_bit]
  cases decide (j < 64) <;> simp
theorem wd_not (n k : Nat) (hk : k < 6) (hn : n < Q) : wd (Q - 1 - n) k = 18446744073709551615 - wd n k := by
  obtain ⟨L, hL, hQ⟩ := Q_of
  apply Nat.eq_of_testBit_eq
  intro j
  rw [hQ] at hn
  rw [wd_bit, hQ, show 2 ^ (64 * L) - 1 - n = 2 ^ (64 * L) - (n + 1) by omega, Nat.testBit_two_pow_sub_succ hn]
  rw [show 18446744073709551615 - wd n k = 2 ^ 64 - (wd n k + 1) by rw [← two64]; omega, Nat.testBit_two_pow_sub_succ (by rw [← two64]; exact wd_lt n k), wd_bit]
  by_cases hj : j < 64
  · rw [decide_eq_true hj, decide_eq_true (show 64 * k + j < 64 * L by omega)]; simp
  · rw [decide_eq_false hj]; simp
theorem or_lt64 (a b : Nat) (ha : a < 18446744073709551616) (hb : b < 18446744073709551616) : a ||| b < 18446744073709551616 := by
  rw [two64] at *; exact Nat.or_lt_two_pow ha hb

theorem or_modQ (a b : Nat) : (a ||| b) % Q = a % Q ||| b % Q := by
  obtain ⟨L, hL, hQ⟩ := Q_of
  rw [hQ, Nat.or_mod_two_pow]
theorem sh_small (v t : Nat) (hv : v < 18446744073709551616) (ht : t < 6) : v * 2 ^ (64 * t) < Q := by
  obtain ⟨L, hL, hQ⟩ := Q_of
  rw [hQ]
  have h1 : 2 ^ (64 * (t + 1)) ≤ 2 ^ (64 * L) := Nat.pow_le_pow_right (by decide) (by omega)
  have h2 := push_lt 0 t v (Nat.two_pow_pos _) hv
  rw [Nat.mul_comm] at h2
  omega
theorem sh_big (v t : Nat) (ht : 6 ≤ t) : v * 2 ^ (64 * t) % Q = 0 := by
  obtain ⟨L, hL, hQ⟩ := Q_of
  rw [hQ, show 64 * t = (64 * t - 64 * L) + 64 * L by omega, Nat.pow_add, ← Nat.mul_assoc, Nat.mul_mod_left]
theorem or_disj (a b i : Nat) (h : a < 2 ^ i) : a + b * 2 ^ i = a ||| b * 2 ^ i := by
  rw [Nat.mul_comm, Nat.add_comm, Nat.two_pow_add_eq_or_of_lt h, Nat.or_comm]
theorem lohi (x r : Nat) (hr : r ≤ 64) : x * 2 ^ r = x * 2 ^ r % 18446744073709551616 ||| x / 2 ^ (64 - r) * 2 ^ 64 := by
  have h1 : x / 2 ^ (64 - r) = x * 2 ^ r / 18446744073709551616 := by
    rw [show 18446744073709551616 = 2 ^ (64 - r) * 2 ^ r by rw [← Nat.pow_add, two64]; congr 1; omega, Nat.mul_div_mul_right _ _ (Nat.two_pow_pos _)]
  rw [← or_disj _ _ 64 (by rw [← two64]; exact Nat.mod_lt _ (by decide)), h1, ← two64]
  omega
theorem or_sh (a b i : Nat) : (a ||| b) * 2 ^ i = a * 2 ^ i ||| b * 2 ^ i := by
  rw [← Nat.shiftLeft_eq, ← Nat.shiftLeft_eq, ← Nat.shiftLeft_eq, Nat.shiftLeft_or_distrib]
theorem or_dv (a b i : Nat) : (a ||| b) / 2 ^ i = a / 2 ^ i ||| b / 2 ^ i := by
  rw [← Nat.shiftRight_eq_div_pow, ← Nat.shiftRight_eq_div_pow, ← Nat.shiftRight_eq_div_pow, Nat.shiftRight_or_distrib]
theorem mod_or (n k : Nat) : n % 2 ^ (64 * (k + 1)) = n % 2 ^ (64 * k) ||| wd n k * 2 ^ (64 * k) := by
  rw [mod_wd, ← or_disj _ _ _ (Nat.mod_lt _ (Nat.two_pow_pos _)), Nat.mul_comm (wd n k)]

theorem up_step (n k s q r t X lo hi : Nat) (hs : s = 64 * q + r) (hr : r < 64) (ht : t = k + q) (hX : X = (n % 2 ^ (64 * k)) * 2 ^ s % Q) (hlo : wd n k * 2 ^ r % 18446744073709551616 = lo) (hhi : wd n k / 2 ^ (64 - r) = hi) :
    (n % 2 ^ (64 * (k + 1))) * 2 ^ s % Q = X ||| (lo * 2 ^ (64 * t) % Q ||| hi * 2 ^ (64 * (t + 1)) % Q) := by
  have e : wd n k * 2 ^ (64 * k) * 2 ^ s = lo * 2 ^ (64 * t) ||| hi * 2 ^ (64 * (t + 1)) := by
    rw [show wd n k * 2 ^ (64 * k) * 2 ^ s = wd n k * 2 ^ r * 2 ^ (64 * t) by rw [Nat.mul_assoc, Nat.mul_assoc, ← Nat.pow_add, ← Nat.pow_add]; congr 2; omega]
    rw [lohi (wd n k) r (by omega), hlo, hhi, or_sh, Nat.mul_assoc, ← Nat.pow_add]
    congr 3; omega
  rw [mod_or, or_sh, or_modQ, ← hX, e, or_modQ]
theorem cw_or (L X t v X' : Nat) (ht : t < L) (hv : v < 18446744073709551616) (hX : X' = X ||| v * 2 ^ (64 * t)) : (cw L X).setIfInBounds t (.int .u64 (wd X t ||| v : Nat)) = cw L X' := by
  rw [cw_set L X t _ ht (or_lt64 _ _ (wd_lt _ _) hv), setw_or X t v t hv rfl, hX]
theorem bor (X t v : Nat) (hv : v < 18446744073709551616) : bits .or .u64 (wd X t : Nat) (v : Nat) = ((wd X t ||| v : Nat) : Int) := bits_or_u64_nat _ _ (wd_lt _ _) hv
theorem wlow (n k : Nat) (h : n < Q) (hk : k = 6) : n % 2 ^ (64 * k) = n := by
  rw [pwQ k hk, Nat.mod_eq_of_lt h]

theorem down_step (n k s q r X lo hi : Nat) (hs : s = 64 * q + r) (hr : r < 64) (hX : X = (n % 2 ^ (64 * k)) / 2 ^ s) (hlo : wd n k * 2 ^ (64 - r) % 18446744073709551616 = lo) (hhi : wd n k / 2 ^ r = hi) :
    (n % 2 ^ (64 * (k + 1))) / 2 ^ s = if q < k then X ||| (hi * 2 ^ (64 * (k - q)) ||| lo * 2 ^ (64 * (k - q - 1))) else if q = k then X ||| hi else X := by
  rw [mod_or, or_dv, ← hX]
  split
  · rename_i h
    congr 1
    rw [show wd n k * 2 ^ (64 * k) = wd n k * 2 ^ (64 - r) * 2 ^ (64 * (k - q - 1)) * 2 ^ s by rw [Nat.mul_assoc, Nat.mul_assoc, ← Nat.pow_add, ← Nat.pow_add]; congr 2; omega]
    rw [Nat.mul_div_cancel _ (Nat.two_pow_pos _), lohi (wd n k) (64 - r) (by omega), hlo, show 64 - (64 - r) = r by omega, hhi, or_sh, Nat.mul_assoc, ← Nat.pow_add, Nat.or_comm]
    congr 3; omega
  · split
    · rename_i h1 h
      congr 1
      rw [hs, h, Nat.pow_add, Nat.mul_comm (2 ^ (64 * k)), Nat.mul_div_mul_right _ _ (Nat.two_pow_pos _), hhi]
    · rename_i h1 h
      have h2 := push_lt 0 k (wd n k) (Nat.two_pow_pos _) (wd_lt n k)
      rw [Nat.mul_comm, Nat.zero_add] at h2
      rw [Nat.div_eq_of_lt (Nat.lt_of_lt_of_le h2 (Nat.pow_le_pow_right (by decide) (by omega))), Nat.or_zero]
end Go.Proofs.YtkmlbjlaahcahaaDoor.WMath
namespace Go.Proofs.YtkmlbjlaahcahaaDoor.WMath

theorem mulAdd_num (x y u v H L l1 c1 h1 l2 c2 h2 : Nat) (hx : x < 18446744073709551616) (hy : y < 18446744073709551616) (hu : u < 18446744073709551616) (hv : v < 18446744073709551616)
    (hH : H = x * y / 18446744073709551616) (hL : L = x * y % 18446744073709551616) (e1 : l1 + 18446744073709551616 * c1 = L + u) (f1 : h1 = (H + c1) % 18446744073709551616) (e2 : l2 + 18446744073709551616 * c2 = l1 + v) (f2 : h2 = (h1 + c2) % 18446744073709551616)
    (b1 : l1 < 18446744073709551616) (b2 : l2 < 18446744073709551616) :
    l2 = (x * y + u + v) % 18446744073709551616 ∧ h2 = (x * y + u + v) / 18446744073709551616 := by
  have hb : x * y ≤ 18446744073709551615 * 18446744073709551615 := Nat.mul_le_mul (by omega) (by omega)
  generalize x * y = p at *
  omega

theorem carry_num (a b s : Nat) (c o : Bool) (ha : a < 18446744073709551616) (hb : b < 18446744073709551616) (hs : (a + b + c.toNat) % 18446744073709551616 = s) (ho : decide (18446744073709551616 ≤ a + b + c.toNat) = o) :
    s + 18446744073709551616 * o.toNat = a + b + c.toNat ∧ s < 18446744073709551616 := by
  have : c.toNat ≤ 1 := by cases c <;> decide
  subst ho
  by_cases h : 18446744073709551616 ≤ a + b + c.toNat
  · rw [decide_eq_true h, Bool.toNat_true]; omega
  · rw [decide_eq_false h, Bool.toNat_false]; omega

theorem mul_lt128 (x y u v : Nat) (hx : x < 18446744073709551616) (hy : y < 18446744073709551616) (hu : u < 18446744073709551616) (hv : v < 18446744073709551616) : (x * y + u + v) / 18446744073709551616 < 18446744073709551616 := by
  have hb : x * y ≤ 18446744073709551615 * 18446744073709551615 := Nat.mul_le_mul (by omega) (by omega)
  generalize x * y = p at *
  omega

theorem mul_in_step (n m L L' i j p c lo hi : Nat) (hp : p = i + j) (hE : L + 2 ^ (64 * p) * c = (n % 2 ^ (64 * i)) * m + wd n i * 2 ^ (64 * i) * (m % 2 ^ (64 * j)))
    (hL : L' = setw L p lo) (ht : lo + 18446744073709551616 * hi = wd n i * wd m j + wd L p + c) :
    L' + 2 ^ (64 * (p + 1)) * hi = (n % 2 ^ (64 * i)) * m + wd n i * 2 ^ (64 * i) * (m % 2 ^ (64 * (j + 1))) := by
  have h1 := setw_add L p lo
  rw [← hL] at h1
  have h2 := congrArg (fun t => 2 ^ (64 * p) * t) ht
  simp only [Nat.mul_add] at h2
  rw [mod_wd m j, Nat.mul_add (wd n i * 2 ^ (64 * i)), ← Nat.add_assoc, ← hE]
  have h3 : wd n i * 2 ^ (64 * i) * (2 ^ (64 * j) * wd m j) = 2 ^ (64 * p) * (wd n i * wd m j) := by
    rw [hp, Nat.mul_add, Nat.pow_add]
    simp only [Nat.mul_assoc, Nat.mul_comm, Nat.mul_left_comm]
  rw [h3, pow64, Nat.mul_assoc]
  omega

theorem mul_out (n m L i c : Nat) (j : Nat) (h6 : j = 6) (hm : m < Q) (hL : L < 2 ^ (64 * (i + 6))) (hE : L + 2 ^ (64 * (i + j)) * c = (n % 2 ^ (64 * i)) * m + wd n i * 2 ^ (64 * i) * (m % 2 ^ (64 * j))) :
    setw L (i + 6) c = (n % 2 ^ (64 * (i + 1))) * m := by
  rw [setw_low _ _ _ hL]
  rw [wlow m j hm h6, h6] at hE
  rw [hE, mod_wd, Nat.add_mul, Nat.mul_comm (wd n i)]

theorem mul_bd (n m i : Nat) (hm : m < Q) : (n % 2 ^ (64 * i)) * m < 2 ^ (64 * (i + 6)) := by
  obtain ⟨L, hL, hQ⟩ := Q_of
  rw [hQ, hL] at hm
  rw [Nat.mul_add, Nat.pow_add]
  exact Nat.mul_lt_mul'' (Nat.mod_lt _ (Nat.two_pow_pos _)) hm
end Go.Proofs.YtkmlbjlaahcahaaDoor.WMath
namespace Go.Proofs.YtkmlbjlaahcahaaDoor.WMath

def blen (n : Nat) : Nat := if n = 0 then 0 else Nat.log2 n + 1
theorem blen_zero : blen 0 = 0 := rfl
theorem blen_lt (n : Nat) : n < 2 ^ blen n := by
  unfold blen
  split
  · rename_i h; subst h; decide
  · rename_i h; exact (Nat.log2_lt h).1 (by omega)
theorem blen_le (n : Nat) (h : n ≠ 0) : 2 ^ (blen n - 1) ≤ n := by
  unfold blen
  rw [if_neg h]
  exact (Nat.le_log2 h).1 (by omega)
theorem blen_pos (n : Nat) (h : n ≠ 0) : 0 < blen n := by unfold blen; rw [if_neg h]; omega
theorem blen_of (n l : Nat) (h1 : 2 ^ l ≤ n) (h2 : n < 2 ^ (l + 1)) : blen n = l + 1 := by
  have h0 : n ≠ 0 := by have := Nat.two_pow_pos l; omega
  unfold blen
  rw [if_neg h0]
  have a := (Nat.le_log2 h0).2 h1
  have b := (Nat.log2_lt h0).2 h2
  omega
theorem bitLen_blen (x : Nat) (hx : x < 18446744073709551616) : Lib.bitLen x = blen x := by
  by_cases h : x = 0
  · subst h; decide
  · have h1 := blen_le x h
    have h2 := blen_lt x
    have h3 := blen_pos x h
    obtain ⟨k, hk⟩ : ∃ k, blen x = k + 1 := ⟨blen x - 1, by omega⟩
    rw [hk] at h1 h2 ⊢
    rw [Nat.add_sub_cancel] at h1
    rw [Lib.bitLen_shift k x h1 hx, show x / 2 ^ k = 1 by
      apply Nat.div_eq_of_lt_le
      · omega
      · rw [Nat.pow_succ] at h2; omega]
    have : Lib.bitLen 1 = 1 := by decide
    omega
theorem blen_push (A k x : Nat) (hA : A < 2 ^ k) (hx : x ≠ 0) : blen (A + 2 ^ k * x) = k + blen x := by
  have h1 := blen_le x hx
  have h2 := blen_lt x
  have h3 := blen_pos x hx
  obtain ⟨l, hl⟩ : ∃ l, blen x = l + 1 := ⟨blen x - 1, by omega⟩
  rw [hl] at h1 h2 ⊢
  rw [Nat.add_sub_cancel] at h1
  refine blen_of _ (k + l) ?_ ?_
  · rw [Nat.pow_add]
    have := Nat.mul_le_mul_left (2 ^ k) h1
    omega
  · rw [show k + l + 1 = k + (l + 1) by omega, Nat.pow_add]
    have := Nat.mul_le_mul_left (2 ^ k) h2
    rw [Nat.succ_eq_add_one, Nat.mul_add] at this
    omega
theorem blen_step (n k : Nat) : blen (n % 2 ^ (64 * (k + 1))) = if wd n k = 0 then blen (n % 2 ^ (64 * k)) else 64 * k + blen (wd n k) := by
  rw [mod_wd]
  split
  · rename_i h; rw [h, Nat.mul_zero, Nat.add_zero]
  · rename_i h; exact blen_push _ _ _ (Nat.mod_lt _ (Nat.two_pow_pos _)) h
theorem blen_le_of (n l : Nat) (h : n < 2 ^ l) : blen n ≤ l := by
  by_cases h0 : n = 0
  · subst h0; rw [blen_zero]; omega
  · have := blen_le n h0
    have := Nat.lt_of_le_of_lt this h
    have := (Nat.pow_lt_pow_iff_right (a := 2) (by decide)).1 this
    omega
theorem blen_16 (n : Nat) (h : 16 ≤ n) : blen n = blen (n / 16) + 4 := by
  have e := blen_push (n % 16) 4 (n / 16) (Nat.mod_lt _ (by decide)) (by omega)
  rw [show n % 16 + 2 ^ 4 * (n / 16) = n by omega] at e
  omega

theorem field_num (n q r c low : Nat) (hl : low = 64 * q + r) (h : r + c ≤ 64) : wd n q / 2 ^ r % 2 ^ c = n / 2 ^ low % 2 ^ c := by
  apply Nat.eq_of_testBit_eq
  intro j
  rw [Nat.testBit_mod_two_pow, Nat.testBit_mod_two_pow, Nat.testBit_div_two_pow, Nat.testBit_div_two_pow, wd_bit, hl]
  by_cases hj : j < c
  · rw [decide_eq_true (show j + r < 64 by omega), Bool.true_and]
    congr 2; omega
  · rw [decide_eq_false hj, Bool.false_and, Bool.false_and]

/-- The digits of a number below 16, as letters. -/
def dgl : List UInt8 := [48, 49, 50, 51, 52, 53, 54, 55, 56, 57, 97, 98, 99, 100, 101, 102]
def dg (d : Nat) : UInt8 := dgl.getD d 0
def hxs (L n : Nat) : List UInt8 := (List.range L).map fun i => dg (n / 16 ^ (L - 1 - i) % 16)
def nd (n : Nat) : Nat := max 1 ((blen n + 3) / 4)
def tx (n : Nat) : List UInt8 := hxs (nd n) n

theorem hxs_len (L n : Nat) : (hxs L n).length = L := by simp [hxs]
theorem hxs_at (L n i : Nat) (h : i < L) : (hxs L n)[i]? = some (dg (n / 16 ^ (L - 1 - i) % 16)) := by simp [hxs, h]
theorem hxs_succ (L n : Nat) : hxs (L + 1) n = hxs L (n / 16) ++ [dg (n % 16)] := by
  unfold hxs
  rw [List.range_succ, List.map_append]
  congr 1
  · apply List.map_congr_left
    intro i hi
    rw [List.mem_range] at hi
    rw [Nat.div_div_eq_div_mul, show L + 1 - 1 - i = (L - 1 - i) + 1 by omega, Nat.pow_succ, Nat.mul_comm 16]
  · simp
theorem nd_small (n : Nat) (h : n < 16) : nd n = 1 := by
  unfold nd
  have := blen_le_of n 4 h
  omega
theorem nd_big (n : Nat) (h : 16 ≤ n) : nd n = nd (n / 16) + 1 := by
  unfold nd
  have h1 := blen_16 n h
  have h2 := blen_pos (n / 16) (by omega)
  omega
theorem tx_small (n : Nat) (h : n < 16) : tx n = [dg n] := by
  unfold tx
  rw [nd_small n h, hxs_succ]
  simp [hxs, Nat.mod_eq_of_lt h]
theorem tx_big (n : Nat) (h : 16 ≤ n) : tx n = tx (n / 16) ++ [dg (n % 16)] := by
  unfold tx
  rw [nd_big n h, hxs_succ]
theorem nd_le (n : Nat) (h : n < Q) : nd n ≤ 96 ∧ 1 ≤ nd n := by
  obtain ⟨L, hL, hQ⟩ := Q_of
  rw [hQ, hL] at h
  have := blen_le_of n _ h
  unfold nd
  omega
end Go.Proofs.YtkmlbjlaahcahaaDoor.WMath
namespace Go.Proofs.YtkmlbjlaahcahaaDoor.WMath

theorem Q384 (t : Nat) (ht : t < 384) : 2 ^ (t + 1) ≤ Q := by
  obtain ⟨L, hL, hQ⟩ := Q_of
  rw [hQ]
  exact Nat.pow_le_pow_right (by decide) (by omega)
theorem Q384' (t : Nat) (ht : 384 ≤ t) : 2 ^ t % Q = 0 := by
  obtain ⟨L, hL, hQ⟩ := Q_of
  rw [hQ, show t = (t - 64 * L) + 64 * L by omega, Nat.pow_add, Nat.mul_mod_left]
theorem Q384'' (t : Nat) (ht : 384 ≤ t) : Q ≤ 2 ^ t := by
  obtain ⟨L, hL, hQ⟩ := Q_of
  rw [hQ]
  exact Nat.pow_le_pow_right (by decide) (by omega)
theorem mod384 (n i : Nat) (hn : n < Q) (hi : 384 ≤ i) : n % 2 ^ i = n := Nat.mod_eq_of_lt (Nat.lt_of_lt_of_le hn (Q384'' i hi))
theorem v_word (r : Nat) (hr : r < 64) : 2 ^ r < 18446744073709551616 := pow_lt_64 r hr

theorem left_bit0 (n i : Nat) (h : n.testBit i = false) : n % 2 ^ (i + 1) = n % 2 ^ i := by
  rw [mod_succ, h, Bool.toNat_false, Nat.mul_zero, Nat.add_zero]
theorem left_bit1 (n i : Nat) (h : n.testBit i = true) : n % 2 ^ (i + 1) = n % 2 ^ i + 2 ^ i := by
  rw [mod_succ, h, Bool.toNat_true, Nat.mul_one]
/-- What a bit that stays within does to the sum and to what is lost. -/
theorem left_in (n i c t q r B : Nat) (h : n.testBit i = true) (ht : t = i + c) (hlt : t < 384) (hq : t = 64 * q + r) (hB : B = (n % 2 ^ i) * 2 ^ c % Q) :
    (n % 2 ^ (i + 1)) * 2 ^ c % Q = B ||| 2 ^ r * 2 ^ (64 * q) ∧ ¬ Q ≤ (n % 2 ^ (i + 1)) * 2 ^ c ∧ ¬ Q ≤ (n % 2 ^ i) * 2 ^ c := by
  have hl : n % 2 ^ i < 2 ^ i := Nat.mod_lt _ (Nat.two_pow_pos _)
  have e1 : 2 ^ i * 2 ^ c = 2 ^ t := by rw [← Nat.pow_add, ht]
  have h1 : (n % 2 ^ i) * 2 ^ c < 2 ^ t := by rw [← e1]; exact Nat.mul_lt_mul_of_pos_right hl (Nat.two_pow_pos _)
  have h2 := Q384 t hlt
  rw [Nat.pow_succ] at h2
  rw [left_bit1 n i h, Nat.add_mul, e1]
  have e2 : B = (n % 2 ^ i) * 2 ^ c := by rw [hB, Nat.mod_eq_of_lt (by omega)]
  refine ⟨?_, by omega, by omega⟩
  rw [Nat.mod_eq_of_lt (by omega), e2, ← Nat.pow_add, show r + 64 * q = t by omega]
  have := or_disj ((n % 2 ^ i) * 2 ^ c) 1 t h1
  rw [Nat.one_mul] at this
  exact this
theorem left_out (n i c t B : Nat) (h : n.testBit i = true) (ht : t = i + c) (hge : 384 ≤ t) (hB : B = (n % 2 ^ i) * 2 ^ c % Q) :
    (n % 2 ^ (i + 1)) * 2 ^ c % Q = B ∧ Q ≤ (n % 2 ^ (i + 1)) * 2 ^ c := by
  have e1 : 2 ^ i * 2 ^ c = 2 ^ t := by rw [← Nat.pow_add, ht]
  have h2 := Q384'' t hge
  rw [left_bit1 n i h, Nat.add_mul, e1]
  refine ⟨?_, by omega⟩
  rw [Nat.add_mod, Q384' t hge, Nat.add_zero, Nat.mod_mod, hB]

theorem right_in (n i c t q r B : Nat) (h : n.testBit i = true) (ht : i = t + c) (hq : t = 64 * q + r) (hB : B = (n % 2 ^ i) / 2 ^ c) :
    (n % 2 ^ (i + 1)) / 2 ^ c = B ||| 2 ^ r * 2 ^ (64 * q) ∧ (n % 2 ^ (i + 1)) % 2 ^ c = (n % 2 ^ i) % 2 ^ c := by
  have hl : n % 2 ^ i < 2 ^ i := Nat.mod_lt _ (Nat.two_pow_pos _)
  have e1 : 2 ^ i = 2 ^ t * 2 ^ c := by rw [← Nat.pow_add, ht]
  rw [left_bit1 n i h]
  have e2 : n % 2 ^ i + 2 ^ i = n % 2 ^ i + 2 ^ t * 2 ^ c := by rw [← e1]
  rw [e2, Nat.add_mul_div_right _ _ (Nat.two_pow_pos _), Nat.add_mul_mod_self_right]
  refine ⟨?_, rfl⟩
  have hB2 : B < 2 ^ t := by rw [hB]; exact Nat.div_lt_of_lt_mul (by rw [Nat.mul_comm, ← e1]; exact hl)
  rw [← hB, ← Nat.pow_add, show r + 64 * q = t by omega]
  have := or_disj B 1 t hB2
  rw [Nat.one_mul] at this
  exact this
theorem right_out (n i c B : Nat) (h : n.testBit i = true) (ht : i < c) (hB : B = (n % 2 ^ i) / 2 ^ c) :
    (n % 2 ^ (i + 1)) / 2 ^ c = B ∧ (n % 2 ^ (i + 1)) % 2 ^ c ≠ 0 := by
  have hl : n % 2 ^ i < 2 ^ i := Nat.mod_lt _ (Nat.two_pow_pos _)
  have h1 : 2 ^ (i + 1) ≤ 2 ^ c := Nat.pow_le_pow_right (by decide) (by omega)
  rw [Nat.pow_succ] at h1
  have h2 := Nat.two_pow_pos i
  rw [left_bit1 n i h, hB, Nat.div_eq_of_lt (by omega), Nat.div_eq_of_lt (by omega), Nat.mod_eq_of_lt (by omega)]
  exact ⟨rfl, by omega⟩
end Go.Proofs.YtkmlbjlaahcahaaDoor.WMath
namespace Go.Proofs.YtkmlbjlaahcahaaDoor.WMath

theorem mask_wd (c k d : Nat) (hd : d = min (c - 64 * k) 64) : wd (2 ^ c - 1) k = 2 ^ d - 1 := by
  apply Nat.eq_of_testBit_eq
  intro j
  rw [wd_bit, Nat.testBit_two_pow_sub_one, Nat.testBit_two_pow_sub_one]
  by_cases h1 : j < d
  · rw [decide_eq_true h1, decide_eq_true (show j < 64 by omega), decide_eq_true (show 64 * k + j < c by omega)]; rfl
  · rw [decide_eq_false h1]
    by_cases h2 : j < 64
    · rw [decide_eq_false (show ¬ 64 * k + j < c by omega)]; simp
    · rw [decide_eq_false h2]; simp
theorem mask_ltQ (c : Nat) (h : c ≤ 384) : 2 ^ c - 1 < Q := by
  obtain ⟨L, hL, hQ⟩ := Q_of
  have h1 : 2 ^ c ≤ 2 ^ (64 * L) := Nat.pow_le_pow_right (by decide) (by omega)
  have := Nat.two_pow_pos c
  omega
theorem mask_lt64 (d : Nat) (h : d ≤ 64) : 2 ^ d - 1 < 18446744073709551616 := mask_lt d h
theorem mask_or (i q r : Nat) (h : i = 64 * q + r) : (2 ^ i - 1) ||| 2 ^ r * 2 ^ (64 * q) = 2 ^ (i + 1) - 1 := by
  have h1 := or_disj (2 ^ i - 1) 1 i (by have := Nat.two_pow_pos i; omega)
  rw [← Nat.pow_add, show r + 64 * q = i by omega]
  rw [Nat.one_mul] at h1
  rw [← h1, Nat.pow_succ]
  have := Nat.two_pow_pos i
  omega
theorem rlen_step (n j : Nat) (h : n < 2 ^ (64 * (j + 1))) : (wd n j ≠ 0 → blen n = 64 * j + blen (wd n j)) ∧ (wd n j = 0 → n < 2 ^ (64 * j)) := by
  have e := mod_wd n j
  rw [Nat.mod_eq_of_lt h] at e
  have hl : n % 2 ^ (64 * j) < 2 ^ (64 * j) := Nat.mod_lt _ (Nat.two_pow_pos _)
  constructor
  · intro h0
    rw [e]
    have := blen_push (n % 2 ^ (64 * j)) (64 * j) (wd n j) hl h0
    rw [← e] at this ⊢
    exact this
  · intro h0
    rw [h0, Nat.mul_zero, Nat.add_zero] at e
    omega
theorem bit_field (n i : Nat) : (n / 2 ^ i % 2 ^ 1 == 1) = n.testBit i := by
  rw [Nat.pow_one, Bool.eq_iff_iff, beq_iff_eq, Nat.testBit_eq_decide_div_mod_eq]
  simp
theorem first_word (n : Nat) : ∀ k, (∀ i, i < k → wd n i = 0) ∨ ∃ j, j < k ∧ wd n j ≠ 0 ∧ ∀ i, i < j → wd n i = 0
  | 0 => Or.inl (fun i h => by omega)
  | k + 1 => by
    rcases first_word n k with h | ⟨j, h1, h2, h3⟩
    · by_cases h0 : wd n k = 0
      · left
        intro i hi
        by_cases e : i = k
        · rw [e]; exact h0
        · exact h i (by omega)
      · exact Or.inr ⟨k, by omega, h0, h⟩
    · exact Or.inr ⟨j, by omega, h2, h3⟩
end Go.Proofs.YtkmlbjlaahcahaaDoor.WMath
namespace Go.Proofs.YtkmlbjlaahcahaaDoor.WMath

theorem Qq384 : ∃ L, L = 384 ∧ Q = 2 ^ L := by
  obtain ⟨L, hL, hQ⟩ := Q_of
  exact ⟨64 * L, by omega, hQ⟩

theorem qor_add (a i b : Nat) (h : 2 ^ i ∣ a) (hb : b < 2 ^ i) : a ||| b = a + b := by
  obtain ⟨c, rfl⟩ := h
  exact (Nat.two_pow_add_eq_or_of_lt hb c).symm

theorem qor_pow (a k : Nat) (h : 2 ^ (k + 1) ∣ a) : a ||| 2 ^ k = a + 2 ^ k :=
  qor_add a (k + 1) _ h (Nat.pow_lt_pow_right (by decide) (by omega))

theorem blen_le384 (n : Nat) (hn : n < Q) : blen n ≤ 384 := by
  obtain ⟨L, hL, hQ⟩ := Qq384
  rw [hQ] at hn
  have := blen_le_of n L hn
  omega

theorem pow_ltQ (k : Nat) (h : k < 384) : 2 ^ k < Q := by
  obtain ⟨L, hL, hQ⟩ := Qq384
  rw [hQ]
  exact Nat.pow_lt_pow_right (by decide) (by omega)

/-- Ahead of the bit at k - 1: the quotient so far, and what is left. -/
def QdivSt (a b k q r : Nat) : Prop := q * b + r = a ∧ r < b * 2 ^ k ∧ 2 ^ k ∣ q

theorem qdiv_start (a b : Nat) (n : Int) (hb : b ≠ 0) (hn : n = (blen a : Int) - (blen b : Int)) : QdivSt a b (n + 1).toNat 0 a := by
  have h1 := blen_lt a
  have h2 := blen_le b hb
  have h3 := blen_pos b hb
  refine ⟨by omega, ?_, Nat.dvd_zero _⟩
  refine Nat.lt_of_lt_of_le h1 ?_
  refine Nat.le_trans ?_ (Nat.mul_le_mul_right _ h2)
  rw [← Nat.pow_add]
  exact Nat.pow_le_pow_right (by decide) (by omega)

theorem qdiv_step (a b k q r : Nat) (S : QdivSt a b (k + 1) q r) :
    (r < b * 2 ^ k → QdivSt a b k q r) ∧ (b * 2 ^ k ≤ r → QdivSt a b k (q ||| 2 ^ k) (r - b * 2 ^ k)) := by
  obtain ⟨h1, h2, h3⟩ := S
  have h4 : 2 ^ k ∣ q := Nat.dvd_trans (Nat.pow_dvd_pow 2 (by omega)) h3
  have h5 : b * 2 ^ (k + 1) = b * 2 ^ k + b * 2 ^ k := by rw [Nat.pow_succ, ← Nat.mul_assoc]; omega
  refine ⟨fun h => ⟨h1, h, h4⟩, fun h => ?_⟩
  rw [qor_pow q k h3]
  refine ⟨?_, by omega, Nat.dvd_add h4 (Nat.dvd_refl _)⟩
  rw [Nat.add_mul, Nat.mul_comm (2 ^ k) b]
  omega

theorem qdiv_end (a b k q r : Nat) (hk : k = 0) (S : QdivSt a b k q r) : q = a / b ∧ r = a % b := by
  subst hk
  obtain ⟨h1, h2, _⟩ := S
  rw [Nat.pow_zero, Nat.mul_one] at h2
  have h3 : 0 < b := by omega
  rw [← h1, Nat.mul_comm q b, Nat.mul_add_div h3, Nat.div_eq_of_lt h2, Nat.mul_add_mod, Nat.mod_eq_of_lt h2]
  exact ⟨by omega, rfl⟩

theorem qdiv_r_le {a b k q r : Nat} (S : QdivSt a b k q r) : r ≤ a := by have := S.1; omega

theorem qdiv_shift (a b k : Nat) (ha : a < Q) (n : Int) (hn : (k : Int) ≤ n) (hn2 : n = (blen a : Int) - (blen b : Int)) : b * 2 ^ k < Q := by
  obtain ⟨L, hL, hQ⟩ := Qq384
  have h1 := blen_lt b
  have h2 := blen_le384 a ha
  rw [hQ]
  refine Nat.lt_of_lt_of_le (Nat.mul_lt_mul_of_pos_right h1 (Nat.two_pow_pos _)) ?_
  rw [← Nat.pow_add]
  exact Nat.pow_le_pow_right (by decide) (by omega)

/-- The document's way: behind the bit at k, the quotient and the rest of the bits from k on. -/
def RdivSt (a b k q r : Nat) : Prop := q = a / 2 ^ k / b * 2 ^ k ∧ r = a / 2 ^ k % b

theorem rdiv_start (a b k : Nat) (hk : k = blen a) : RdivSt a b k 0 0 := by
  unfold RdivSt
  rw [hk, Nat.div_eq_of_lt (blen_lt a), Nat.zero_div, Nat.zero_mod, Nat.zero_mul]
  exact ⟨rfl, rfl⟩

theorem bit_nat (a k : Nat) : a / 2 ^ k = 2 * (a / 2 ^ (k + 1)) + (a.testBit k).toNat := by
  rw [Nat.pow_succ, ← Nat.div_div_eq_div_mul]
  have : (a.testBit k).toNat = a / 2 ^ k % 2 := by
    rw [Nat.testBit_eq_decide_div_mod_eq]
    rcases Nat.mod_two_eq_zero_or_one (a / 2 ^ k) with h | h <;> rw [h] <;> rfl
  rw [this]
  omega

theorem rdiv_q_lt {a b k q r : Nat} (S : RdivSt a b k q r) : q ≤ a := by
  rw [S.1]
  exact Nat.le_trans (Nat.mul_le_mul_right _ (Nat.div_le_self _ _)) (Nat.div_mul_le_self _ _)

theorem rdiv_step (a b k q r s : Nat) (o : Bool) (hb : 0 < b) (hbQ : b < Q) (S : RdivSt a b (k + 1) q r) (hs : (r + r) % Q = s) (ho : decide (Q ≤ r + r) = o) :
    ((o || decide (b ≤ s + (a.testBit k).toNat)) = false → RdivSt a b k q (s + (a.testBit k).toNat)) ∧
    ((o || decide (b ≤ s + (a.testBit k).toNat)) = true → RdivSt a b k (q ||| 2 ^ k) ((s + (a.testBit k).toNat + Q - b) % Q)) ∧ s % 2 = 0 ∧ s + (a.testBit k).toNat < Q := by
  obtain ⟨hq, hr⟩ := S
  have e := bit_nat a k
  have hrb : r < b := by rw [hr]; exact Nat.mod_lt _ hb
  have ht : (a.testBit k).toNat ≤ 1 := by cases a.testBit k <;> decide
  have hd := Nat.div_add_mod (a / 2 ^ (k + 1)) b
  rw [← hr] at hd
  have hQ2 : Q % 2 = 0 := by
    obtain ⟨L, hL, hQ⟩ := Qq384
    rw [hQ, show L = (L - 1) + 1 by omega, Nat.pow_succ]
    omega
  have h3 : 2 ^ (k + 1) ∣ q := ⟨_, by rw [hq, Nat.mul_comm]⟩
  have hq' : ∀ x, a / 2 ^ (k + 1) / b * 2 = x → q = x * 2 ^ k := fun x hx => by rw [hq, ← hx, show 2 ^ (k + 1) = 2 * 2 ^ k by rw [Nat.pow_succ, Nat.mul_comm], ← Nat.mul_assoc]
  unfold RdivSt
  rw [qor_pow q k h3, e]
  generalize a / 2 ^ (k + 1) = x at *
  generalize (a.testBit k).toNat = t at *
  obtain ⟨y, hy⟩ : ∃ y, y = x / b := ⟨_, rfl⟩
  rw [← hy] at hd hq'
  have e2 : 2 * x + t = b * (2 * y) + (2 * r + t) := by
    rw [← hd, Nat.mul_left_comm]; omega
  have e3 : ∀ m u, 2 * x + t = b * m + u → u < b → (2 * x + t) / b = m ∧ (2 * x + t) % b = u := fun m u h1 h2 => by
    rw [h1, Nat.mul_add_div hb, Nat.mul_add_mod, Nat.div_eq_of_lt h2, Nat.mod_eq_of_lt h2]; exact ⟨by omega, rfl⟩
  have e4 : b * (2 * y + 1) = b * (2 * y) + b := by rw [Nat.mul_add, Nat.mul_one]
  have q0 : q = 2 * y * 2 ^ k := hq' _ (by omega)
  by_cases hc : Q ≤ r + r
  · have e5 : s = r + r - Q := by rw [← hs, Nat.mod_eq_sub_mod hc, Nat.mod_eq_of_lt (by omega)]
    have o1 : o = true := by rw [← ho]; exact decide_eq_true hc
    subst o1
    obtain ⟨f1, f2⟩ := e3 (2 * y + 1) (2 * r + t - b) (by omega) (by omega)
    refine ⟨fun h => by simp at h, fun _ => ⟨?_, ?_⟩, by omega, by omega⟩
    · rw [f1, Nat.add_mul, Nat.one_mul, q0]
    · rw [f2, Nat.mod_eq_of_lt (by omega)]; omega
  · have e5 : s = r + r := by rw [← hs, Nat.mod_eq_of_lt (by omega)]
    have o1 : o = false := by rw [← ho]; exact decide_eq_false hc
    subst o1
    refine ⟨fun h => ?_, fun h => ?_, by omega, by omega⟩
    · have h5 : s + t < b := by simpa using h
      obtain ⟨f1, f2⟩ := e3 (2 * y) (2 * r + t) (by omega) (by omega)
      exact ⟨by rw [f1, q0], by rw [f2]; omega⟩
    · have h5 : b ≤ s + t := by simpa using h
      obtain ⟨f1, f2⟩ := e3 (2 * y + 1) (2 * r + t - b) (by omega) (by omega)
      refine ⟨?_, ?_⟩
      · rw [f1, Nat.add_mul, Nat.one_mul, q0]
      · rw [f2, show s + t + Q - b = (2 * r + t - b) + Q by omega, Nat.add_mod_right, Nat.mod_eq_of_lt (by omega)]

theorem rdiv_end (a b k q r : Nat) (hk : k = 0) (S : RdivSt a b k q r) : q = a / b ∧ r = a % b := by
  subst hk
  obtain ⟨h1, h2⟩ := S
  rw [Nat.pow_zero, Nat.div_one] at h1 h2
  exact ⟨by omega, h2⟩

/-- The greatest number whose square is at most a. -/
def RootIs (a r : Nat) : Prop := r * r ≤ a ∧ a < (r + 1) * (r + 1)
theorem root_one {a r s : Nat} (h : RootIs a r) (k : RootIs a s) : r = s := by
  obtain ⟨h1, h2⟩ := h
  obtain ⟨k1, k2⟩ := k
  rcases Nat.lt_trichotomy r s with h | h | h
  · have := Nat.mul_self_le_mul_self (show r + 1 ≤ s from h)
    omega
  · exact h
  · have := Nat.mul_self_le_mul_self (show s + 1 ≤ r from h)
    omega

theorem sq_add (x y : Nat) : (x + y) * (x + y) = x * x + 2 * (x * y) + y * y := by
  rw [Nat.add_mul, Nat.mul_add, Nat.mul_add, Nat.mul_comm y x]; omega

/-- Ahead of the bit at k - 1 of a root: f was found so far. -/
def SqrSt (a k f : Nat) : Prop := f * f ≤ a ∧ a < (f + 2 ^ k) * (f + 2 ^ k) ∧ 2 ^ k ∣ f

theorem sqr_step (a k f : Nat) (S : SqrSt a (k + 1) f) :
    (a < (f + 2 ^ k) * (f + 2 ^ k) → SqrSt a k f) ∧ ((f + 2 ^ k) * (f + 2 ^ k) ≤ a → SqrSt a k (f + 2 ^ k)) := by
  obtain ⟨h1, h2, h3⟩ := S
  have h4 : 2 ^ k ∣ f := Nat.dvd_trans (Nat.pow_dvd_pow 2 (by omega)) h3
  refine ⟨fun h => ⟨h1, h, h4⟩, fun h => ⟨h, ?_, Nat.dvd_add h4 (Nat.dvd_refl _)⟩⟩
  rw [show f + 2 ^ k + 2 ^ k = f + 2 ^ (k + 1) by rw [Nat.pow_succ]; omega]
  exact h2

theorem sqr_end (a k f : Nat) (hk : k = 0) (S : SqrSt a k f) : RootIs a f := by
  subst hk
  exact ⟨S.1, S.2.1⟩

theorem sqr_lt {a k f : Nat} (ha : a < Q) (S : SqrSt a k f) : ∃ L, L = 192 ∧ f < 2 ^ L := by
  refine ⟨192, rfl, ?_⟩
  obtain ⟨L, hL, hQ⟩ := Qq384
  obtain ⟨M, hM⟩ : ∃ M, M = 192 := ⟨_, rfl⟩
  rw [← hM]
  apply Nat.lt_of_not_le
  intro h
  have h1 := Nat.mul_self_le_mul_self h
  rw [← Nat.pow_add, show M + M = L by omega, ← hQ] at h1
  have := S.1
  omega

/-- The program's way: ahead of the bit at k - 1, root is what was found times 2^k, and rest is what is left. -/
def PsqSt (a k root rest : Nat) : Prop := ∃ f, SqrSt a k f ∧ root = f * 2 ^ k ∧ f * f + rest = a

theorem psq_start (a k : Nat) (hk : blen a ≤ 2 * k) : PsqSt a k 0 a := by
  refine ⟨0, ⟨by omega, ?_, Nat.dvd_zero _⟩, by omega, by omega⟩
  rw [Nat.zero_add, ← Nat.pow_add]
  exact Nat.lt_of_lt_of_le (blen_lt a) (Nat.pow_le_pow_right (by decide) (by omega))

theorem psq_step (a k root rest : Nat) (ha : a < Q) (hk : k < 192) (S : PsqSt a (k + 1) root rest) :
    ∃ step h : Nat, root ||| 2 ^ (2 * k) = step ∧ root / 2 ^ 1 = h ∧ step < Q ∧ h < Q ∧ 2 ^ (2 * k) < Q ∧ root < Q ∧ h ||| 2 ^ (2 * k) < Q ∧
    (rest < step → PsqSt a k h rest) ∧ (step ≤ rest → PsqSt a k (h ||| 2 ^ (2 * k)) (rest - step)) := by
  obtain ⟨f, S1, hf, hr⟩ := S
  obtain ⟨L, hL, hfL⟩ := sqr_lt ha S1
  obtain ⟨L2, hL2, hQ⟩ := Qq384
  have h3 := S1.2.2
  have hst := sqr_step a k f S1
  have hsq := sq_add f (2 ^ k)
  have e1 : root = f * 2 ^ k * 2 := by rw [hf, show 2 ^ (k + 1) = 2 ^ k * 2 from Nat.pow_succ .., ← Nat.mul_assoc]
  have hhalf : root / 2 ^ 1 = f * 2 ^ k := by rw [e1, Nat.pow_one, Nat.mul_div_cancel _ (by decide)]
  have d2 : 2 ^ (2 * k + 1) ∣ f * 2 ^ k := by
    obtain ⟨c, hc⟩ := h3
    exact ⟨c, by rw [hc, show 2 * k + 1 = (k + 1) + k by omega, Nat.pow_add 2 (k + 1) k, Nat.mul_assoc, Nat.mul_comm c, ← Nat.mul_assoc]⟩
  have d1 : 2 ^ (2 * k + 1) ∣ root := by rw [e1]; exact Nat.dvd_mul_right_of_dvd d2 2
  have rQ : root < Q := by
    rw [hf, hQ]
    refine Nat.lt_of_lt_of_le (Nat.mul_lt_mul_of_pos_right hfL (Nat.two_pow_pos _)) ?_
    rw [← Nat.pow_add]
    exact Nat.pow_le_pow_right (by decide) (by omega)
  have pQ := pow_ltQ (2 * k) (by omega)
  have hQ2 : root / 2 ^ 1 < Q := Nat.lt_of_le_of_lt (Nat.div_le_self _ _) rQ
  refine ⟨_, _, rfl, rfl, or_ltQ _ _ rQ pQ, hQ2, pQ, rQ, or_ltQ _ _ hQ2 pQ, ?_, ?_⟩
  all_goals
    rw [qor_pow root (2 * k) d1, hhalf]
    have e2 : 2 ^ (2 * k) = 2 ^ k * 2 ^ k := by rw [← Nat.pow_add]; congr 1; omega
    rw [e1, e2]
    intro h
  · exact ⟨f, hst.1 (by omega), rfl, hr⟩
  · refine ⟨f + 2 ^ k, hst.2 (by omega), ?_, by omega⟩
    rw [← e2, qor_pow _ (2 * k) d2, e2, Nat.add_mul]

theorem psq_end (a k root rest : Nat) (hk : k = 0) (S : PsqSt a k root rest) : RootIs a root ∧ a - root * root = rest := by
  subst hk
  obtain ⟨f, S1, hf, hr⟩ := S
  rw [Nat.pow_zero, Nat.mul_one] at hf
  subst hf
  exact ⟨sqr_end a 0 root rfl S1, by omega⟩
theorem psq_rest_le {a k root rest : Nat} (S : PsqSt a k root rest) : rest ≤ a := by
  obtain ⟨f, _, _, h⟩ := S
  omega
/-- Every number has a root. -/
theorem root_any : ∀ a : Nat, ∃ r, RootIs a r
  | 0 => ⟨0, Nat.le_refl _, by decide⟩
  | a + 1 => by
    obtain ⟨r, h1, h2⟩ := root_any a
    by_cases h : a + 1 < (r + 1) * (r + 1)
    · exact ⟨r, by omega, h⟩
    · refine ⟨r + 1, by omega, ?_⟩
      have e1 := sq_add (r + 1) 1
      have e2 : a + 1 = (r + 1) * (r + 1) := by omega
      rw [e1, e2]
      omega
end Go.Proofs.YtkmlbjlaahcahaaDoor.WMath
