/-
  Plain arithmetic of words of 64 bits: what the loops of the Go texts keep, one step each. Nothing of a program is imported.
-/
import Derived.Laws.MathBits
import Derived.Laws.Bits64b
import Derived.Laws.BitsAllLaws
import Derived.Laws.ShiftsVarLaws
namespace Go.Proofs.Ytgiehfecljampaa.WMath

theorem testBit_toNat (x k : Nat) : (x.testBit k).toNat = x / 2 ^ k % 2 := by
  rw [Nat.testBit_eq_decide_div_mod_eq]
  have : x / 2 ^ k % 2 = 0 ∨ x / 2 ^ k % 2 = 1 := by omega
  rcases this with h | h <;> simp [h]

theorem bit_and (x k : Nat) : ((x / 2 ^ k) &&& 1 == 1) = x.testBit k := by
  rw [Nat.and_one_is_mod, Nat.testBit_eq_decide_div_mod_eq]
  rfl

theorem div_succ (x k : Nat) : x / 2 ^ k = 2 * (x / 2 ^ (k + 1)) + (x.testBit k).toNat := by
  rw [testBit_toNat, Nat.pow_succ, ← Nat.div_div_eq_div_mul]
  omega

theorem mod_succ (x k : Nat) : x % 2 ^ (k + 1) = x % 2 ^ k + 2 ^ k * (x.testBit k).toNat := by
  rw [testBit_toNat, Nat.mod_pow_succ]

theorem or_pow (s k : Nat) (h : s < 2 ^ k) : s ||| 2 ^ k = s + 2 ^ k := by
  have := Nat.two_pow_add_eq_or_of_lt h 1
  rw [Nat.mul_one] at this
  rw [Nat.or_comm, ← this, Nat.add_comm]

theorem or_one (s : Nat) (h : s % 2 = 0) : s ||| 1 = s + 1 := by
  have := Nat.two_pow_add_eq_or_of_lt (i := 1) (b := 1) (by decide) (s / 2)
  have e : 2 ^ 1 * (s / 2) = s := by omega
  rw [e] at this
  exact this.symm

theorem or_bit (s t : Nat) (h : s % 2 = 0) (ht : t < 2) : s ||| t = s + t := by
  rcases (by omega : t = 0 ∨ t = 1) with rfl | rfl
  · simp
  · exact or_one s h

theorem two64 : (18446744073709551616 : Nat) = 2 ^ 64 := by decide
theorem pow_lt_64 (k : Nat) (h : k < 64) : 2 ^ k < 18446744073709551616 := by
  rw [two64]; exact Nat.pow_lt_pow_right (by decide) h
theorem pow_le_64 (k : Nat) (h : k ≤ 64) : 2 ^ k ≤ 18446744073709551616 := by
  rw [two64]; exact Nat.pow_le_pow_right (by decide) h

theorem add_num (P A B c0 s : Nat) (x y c : Bool) (hs : s < P) (h : s + P * c.toNat = A + B + c0) :
    (if (x != y) != c then s + P else s) < P * 2 ∧ (if (x != y) != c then s + P else s) + P * 2 * ((x && y || x && c) || y && c).toNat = (A + P * x.toNat) + (B + P * y.toNat) + c0 := by
  cases x <;> cases y <;> cases c <;> simp at h ⊢ <;> omega
theorem sub_num (P A B c0 s : Nat) (x y c : Bool) (hs : s < P) (h : s + B + c0 = A + P * c.toNat) :
    (if (x != y) != c then s + P else s) < P * 2 ∧ (if (x != y) != c then s + P else s) + (B + P * y.toNat) + c0 = (A + P * x.toNat) + P * 2 * ((!x && y || !x && c) || y && c).toNat := by
  cases x <;> cases y <;> cases c <;> simp at h ⊢ <;> omega
/-- One step of the adder. -/
theorem add_step (a b s k : Nat) (c0 : Nat) (c : Bool) (hs : s < 2 ^ k) (h : s + 2 ^ k * c.toNat = a % 2 ^ k + b % 2 ^ k + c0) :
    (if (a.testBit k != b.testBit k) != c then s + 2 ^ k else s) < 2 ^ (k + 1) ∧ (if (a.testBit k != b.testBit k) != c then s + 2 ^ k else s) + 2 ^ (k + 1) * ((a.testBit k && b.testBit k || a.testBit k && c) || b.testBit k && c).toNat = a % 2 ^ (k + 1) + b % 2 ^ (k + 1) + c0 := by
  rw [mod_succ, mod_succ, Nat.pow_succ]
  exact add_num _ _ _ _ _ _ _ _ hs h
/-- One step of the subtracter. -/
theorem sub_step (a b s k : Nat) (c0 : Nat) (c : Bool) (hs : s < 2 ^ k) (h : s + b % 2 ^ k + c0 = a % 2 ^ k + 2 ^ k * c.toNat) :
    (if (a.testBit k != b.testBit k) != c then s + 2 ^ k else s) < 2 ^ (k + 1) ∧ (if (a.testBit k != b.testBit k) != c then s + 2 ^ k else s) + b % 2 ^ (k + 1) + c0 = a % 2 ^ (k + 1) + 2 ^ (k + 1) * ((!a.testBit k && b.testBit k || !a.testBit k && c) || b.testBit k && c).toNat := by
  rw [mod_succ, mod_succ, Nat.pow_succ]
  exact sub_num _ _ _ _ _ _ _ _ hs h

theorem add_end (a b s : Nat) (c c0 : Bool) (hs : s < 18446744073709551616) (h : s + 18446744073709551616 * c.toNat = a + b + c0.toNat) :
    s = (a + b + c0.toNat) % 18446744073709551616 ∧ c = decide (18446744073709551616 ≤ a + b + c0.toNat) := by
  cases c <;> simp at h ⊢ <;> omega
theorem sub_end (a b s : Nat) (c c0 : Bool) (ha : a < 18446744073709551616) (hb : b < 18446744073709551616) (hs : s < 18446744073709551616) (h : s + b + c0.toNat = a + 18446744073709551616 * c.toNat) :
    s = (a + 18446744073709551616 - b - c0.toNat) % 18446744073709551616 ∧ c = decide (a < b + c0.toNat) := by
  cases c <;> cases c0 <;> simp at h ⊢ <;> omega

theorem mul_n0 (hi lo A2 : Nat) (e : A2 = 2 * (hi * 18446744073709551616 + lo)) (hm : A2 ≤ 340282366920938463426481119284349108225) :
    hi * 2 + 1 < 18446744073709551616 ∧ (hi * 2 + lo / 9223372036854775808) * 18446744073709551616 + lo * 2 % 18446744073709551616 = A2 :=
  ⟨by omega, by omega⟩
theorem mul_n1 (hi lo a A2 : Nat) (e : A2 = 2 * (hi * 18446744073709551616 + lo) + a) (hm : A2 ≤ 340282366920938463426481119284349108225) :
    hi * 2 + 1 < 18446744073709551616 := by omega
theorem mul_n2 (hi lo a A2 : Nat) (ha : a < 18446744073709551616) (e : A2 = 2 * (hi * 18446744073709551616 + lo) + a)
    (h : 18446744073709551616 ≤ lo * 2 % 18446744073709551616 + a) :
    (hi * 2 + lo / 9223372036854775808 + 1) * 18446744073709551616 + (lo * 2 % 18446744073709551616 + a) % 18446744073709551616 = A2 := by omega
theorem mul_n3 (hi lo a A2 : Nat) (e : A2 = 2 * (hi * 18446744073709551616 + lo) + a) (hm : A2 ≤ 340282366920938463426481119284349108225) : hi * 2 + lo / 9223372036854775808 + 1 < 18446744073709551616 := by omega
theorem mul_n4 (hi lo a A2 : Nat) (e : A2 = 2 * (hi * 18446744073709551616 + lo) + a)
    (h : lo * 2 % 18446744073709551616 + a < 18446744073709551616) :
    (hi * 2 + lo / 9223372036854775808) * 18446744073709551616 + (lo * 2 % 18446744073709551616 + a) % 18446744073709551616 = A2 := by omega

theorem mul_bool (hi lo a A2 : Nat) (t : Bool) (ha : a < 18446744073709551616) (e2 : A2 = 2 * (hi * 18446744073709551616 + lo) + a * t.toNat)
    (hm : A2 ≤ 340282366920938463426481119284349108225) :
    hi * 2 + 1 < 18446744073709551616 ∧
    (t = false → (hi * 2 + lo / 9223372036854775808) * 18446744073709551616 + lo * 2 % 18446744073709551616 = A2) ∧
    (t = true → (18446744073709551616 ≤ lo * 2 % 18446744073709551616 + a → hi * 2 + lo / 9223372036854775808 + 1 < 18446744073709551616 ∧ (hi * 2 + lo / 9223372036854775808 + 1) * 18446744073709551616 + (lo * 2 % 18446744073709551616 + a) % 18446744073709551616 = A2)) ∧
    (t = true → (lo * 2 % 18446744073709551616 + a < 18446744073709551616 → (hi * 2 + lo / 9223372036854775808) * 18446744073709551616 + (lo * 2 % 18446744073709551616 + a) % 18446744073709551616 = A2)) := by
  cases t
  · have e3 : A2 = 2 * (hi * 18446744073709551616 + lo) := by rw [e2, Bool.toNat_false, Nat.mul_zero, Nat.add_zero]
    have n := mul_n0 hi lo A2 e3 hm
    exact ⟨n.1, fun _ => n.2, fun h => (by cases h), fun h => (by cases h)⟩
  · have e3 : A2 = 2 * (hi * 18446744073709551616 + lo) + a := by rw [e2, Bool.toNat_true, Nat.mul_one]
    exact ⟨mul_n1 hi lo a A2 e3 hm, fun h => (by cases h), fun _ h => ⟨mul_n3 hi lo a A2 e3 hm, mul_n2 hi lo a A2 ha e3 h⟩, fun _ h => mul_n4 hi lo a A2 e3 h⟩

theorem mul_bound (a x : Nat) (ha : a < 18446744073709551616) (hx : x ≤ 18446744073709551615) : a * x ≤ 340282366920938463426481119284349108225 := by
  have hm0 : a * x ≤ 18446744073709551615 * 18446744073709551615 := Nat.mul_le_mul (by omega) hx
  omega

/-- One step of the multiplication: the next bit of b comes in. -/
theorem mul_step (a b k hi lo : Nat) (ha : a < 18446744073709551616) (hb : b < 18446744073709551616)
    (h : hi * 18446744073709551616 + lo = a * (b / 2 ^ (k + 1))) :
    hi * 2 + 1 < 18446744073709551616 ∧
    (b.testBit k = false → (hi * 2 + lo / 9223372036854775808) * 18446744073709551616 + lo * 2 % 18446744073709551616 = a * (b / 2 ^ k)) ∧
    (b.testBit k = true → (18446744073709551616 ≤ lo * 2 % 18446744073709551616 + a → hi * 2 + lo / 9223372036854775808 + 1 < 18446744073709551616 ∧ (hi * 2 + lo / 9223372036854775808 + 1) * 18446744073709551616 + (lo * 2 % 18446744073709551616 + a) % 18446744073709551616 = a * (b / 2 ^ k))) ∧
    (b.testBit k = true → (lo * 2 % 18446744073709551616 + a < 18446744073709551616 → (hi * 2 + lo / 9223372036854775808) * 18446744073709551616 + (lo * 2 % 18446744073709551616 + a) % 18446744073709551616 = a * (b / 2 ^ k))) :=
  mul_bool hi lo a _ _ ha (by rw [h, div_succ b k, Nat.mul_add, Nat.mul_left_comm]) (mul_bound a _ ha (Nat.le_trans (Nat.div_le_self _ _) (Nat.le_of_lt_succ hb)))

/-- After j bits of the division of hi, lo by d: the quotient so far is q, what is left r. -/
def DivSt (hi lo d j q r : Nat) : Prop := hi * 2 ^ j + lo / 2 ^ (64 - j) = q * d + r ∧ r < d ∧ q < 2 ^ j

theorem div_step (hi lo d j q r t : Nat) (hj : j < 64) (ht : t = (lo.testBit (63 - j)).toNat) (S : DivSt hi lo d j q r) :
    (2 * r + t < d → DivSt hi lo d (j + 1) (q * 2) (2 * r + t)) ∧ (d ≤ 2 * r + t → DivSt hi lo d (j + 1) (q * 2 + 1) (2 * r + t - d)) := by
  obtain ⟨h, hr, hq⟩ := S
  have e := div_succ lo (63 - j)
  rw [← ht] at e
  have e0 : 63 - j + 1 = 64 - j := by omega
  have e1 : 64 - (j + 1) = 63 - j := by omega
  have hb : t ≤ 1 := by rw [ht]; cases lo.testBit (63 - j) <;> decide
  rw [e0] at e
  unfold DivSt
  rw [e1, Nat.pow_succ, e]
  have e2 : hi * (2 ^ j * 2) = 2 * (hi * 2 ^ j) := by rw [← Nat.mul_assoc]; omega
  have e3 : q * 2 * d = 2 * (q * d) := by rw [Nat.mul_right_comm]; omega
  have e4 : (q * 2 + 1) * d = 2 * (q * d) + d := by rw [Nat.add_mul, e3]; omega
  rw [e2, e3, e4]
  clear e e0 e1 e2 e3 e4 ht
  generalize q * d = Q at *
  generalize hi * 2 ^ j = H at *
  generalize lo / 2 ^ (64 - j) = L at *
  generalize 2 ^ j = P at *
  refine ⟨fun h => ⟨by omega, by omega, by omega⟩, fun h => ⟨by omega, by omega, by omega⟩⟩

theorem div_start (hi lo d : Nat) (hl : lo < 18446744073709551616) (hh : hi < d) : DivSt hi lo d 0 0 hi := by
  refine ⟨?_, hh, by decide⟩
  rw [Nat.pow_zero, Nat.mul_one, Nat.sub_zero, ← two64, Nat.div_eq_of_lt hl, Nat.zero_mul, Nat.zero_add, Nat.add_zero]

theorem div_end (hi lo d q r : Nat) (S : DivSt hi lo d 64 q r) : q = (hi * 18446744073709551616 + lo) / d ∧ r = (hi * 18446744073709551616 + lo) % d := by
  obtain ⟨h, hr, _⟩ := S
  rw [Nat.sub_self, Nat.pow_zero, Nat.div_one, ← two64] at h
  have hd : 0 < d := by omega
  have h' : hi * 18446744073709551616 + lo = r + d * q := by rw [h, Nat.mul_comm q d]; omega
  constructor
  · rw [h', Nat.add_mul_div_left _ _ hd, Nat.div_eq_of_lt hr, Nat.zero_add]
  · rw [h', Nat.add_mul_mod_self_left, Nat.mod_eq_of_lt hr]

/-- The highest bit of what is shifted to the left. -/
theorem top_bit (lo j : Nat) (hj : j < 64) : lo * 2 ^ j % 18446744073709551616 / 9223372036854775808 = (lo.testBit (63 - j)).toNat := by
  have e1 : (18446744073709551616 : Nat) = 2 ^ j * (2 ^ (63 - j) * 2) := by
    rw [← Nat.pow_succ, ← Nat.pow_add, two64]; congr 1; omega
  have e2 : (9223372036854775808 : Nat) = 2 ^ j * 2 ^ (63 - j) := by
    rw [← Nat.pow_add, show j + (63 - j) = 63 by omega]
  rw [testBit_toNat, e1, e2, Nat.mul_comm lo, Nat.mul_mod_mul_left, Nat.mul_div_mul_left _ _ (Nat.two_pow_pos j), Nat.mod_mul_right_div_self]

theorem div_lt_pow (lo k : Nat) (h : lo < 18446744073709551616) (hk : k ≤ 64) : lo / 2 ^ k < 2 ^ (64 - k) := by
  rw [Nat.div_lt_iff_lt_mul (Nat.two_pow_pos _), ← Nat.pow_add, Nat.sub_add_cancel hk, ← two64]
  exact h

theorem xor_pow (L m : Nat) (h : L < 2 ^ m) : L ^^^ 2 ^ m = L + 2 ^ m := by
  rw [← or_pow L m h]
  apply Nat.eq_of_testBit_eq
  intro i
  rw [Nat.testBit_xor, Nat.testBit_or, Nat.testBit_two_pow]
  by_cases e : m = i
  · subst e
    simp [Nat.testBit_lt_two_pow h]
  · simp [e]
theorem xor_pow' (L m : Nat) (h : L < 2 ^ m) : (L + 2 ^ m) ^^^ 2 ^ m = L := by
  rw [← xor_pow L m h, Nat.xor_assoc, Nat.xor_self, Nat.xor_zero]

/-- x, its bits from e on all like the bit below e. -/
def sx (x e : Nat) : Nat := if x.testBit (e - 1) then x % 2 ^ e + (18446744073709551616 - 2 ^ e) else x % 2 ^ e

theorem low_split (x m : Nat) : x % 2 ^ (m + 1) = x % 2 ^ m + 2 ^ m * (x.testBit m).toNat := mod_succ x m

theorem sx_xor (x e : Nat) (h1 : 1 ≤ e) (h2 : e ≤ 64) :
    (x % 2 ^ e ^^^ 2 ^ (e - 1)) + (18446744073709551616 - 2 ^ (e - 1)) = sx x e ∨ (x % 2 ^ e ^^^ 2 ^ (e - 1)) + (18446744073709551616 - 2 ^ (e - 1)) = sx x e + 18446744073709551616 := by
  obtain ⟨m, rfl⟩ : ∃ m, e = m + 1 := ⟨e - 1, by omega⟩
  unfold sx
  have hp := pow_le_64 (m + 1) h2
  have hl : x % 2 ^ m < 2 ^ m := Nat.mod_lt _ (Nat.two_pow_pos m)
  rw [Nat.add_sub_cancel, low_split]
  rw [Nat.pow_succ] at hp ⊢
  cases x.testBit m
  · simp only [Bool.toNat_false, Nat.mul_zero, Nat.add_zero, xor_pow _ _ hl]
    right; simp; omega
  · simp only [Bool.toNat_true, Nat.mul_one, xor_pow' _ _ hl, if_true]
    left; omega

theorem sx_or (x e : Nat) (h2 : e ≤ 64) : x % 2 ^ e ||| (18446744073709551616 - 2 ^ e) = x % 2 ^ e + (18446744073709551616 - 2 ^ e) := by
  have hl : x % 2 ^ e < 2 ^ e := Nat.mod_lt _ (Nat.two_pow_pos e)
  have e1 : 18446744073709551616 - 2 ^ e = 2 ^ e * (2 ^ (64 - e) - 1) := by
    rw [Nat.mul_sub, ← Nat.pow_add, Nat.mul_one, Nat.add_sub_cancel' h2, ← two64]
  rw [e1, Nat.or_comm, ← Nat.two_pow_add_eq_or_of_lt hl, Nat.add_comm]

theorem sx_lt (x e : Nat) (h2 : e ≤ 64) : sx x e < 18446744073709551616 := by
  have hl : x % 2 ^ e < 2 ^ e := Nat.mod_lt _ (Nat.two_pow_pos e)
  have hp := pow_le_64 e h2
  unfold sx
  split <;> omega

theorem sx64 (x : Nat) (hx : x < 18446744073709551616) : sx x 64 = x := by
  unfold sx
  rw [← two64, Nat.mod_eq_of_lt hx, Nat.sub_self, Nat.add_zero, ite_self]
theorem sx_mod (x e : Nat) (h2 : e ≤ 64) : sx x e % 2 ^ e = x % 2 ^ e := by
  have e1 : 18446744073709551616 - 2 ^ e = 2 ^ e * (2 ^ (64 - e) - 1) := by
    rw [Nat.mul_sub, ← Nat.pow_add, Nat.mul_one, Nat.add_sub_cancel' h2, ← two64]
  unfold sx
  split
  · rw [e1, Nat.add_mul_mod_self_left, Nat.mod_mod]
  · rw [Nat.mod_mod]
theorem sx_sx (x e : Nat) (h1 : 1 ≤ e) (h2 : e ≤ 64) : sx (sx x e) e = sx x e := by
  have hm := sx_mod x e h2
  have hb : (sx x e).testBit (e - 1) = x.testBit (e - 1) := by
    have h3 := Nat.testBit_mod_two_pow (sx x e) e (e - 1)
    have h4 := Nat.testBit_mod_two_pow x e (e - 1)
    rw [hm, h4] at h3
    simpa [show e - 1 < e by omega] using h3.symm
  generalize hy : sx x e = y at *
  unfold sx
  rw [hm, hb]
  unfold sx at hy
  exact hy

theorem mul_mod_step (x k X : Nat) (h : X = x * 2 ^ k % 18446744073709551616) : X * 2 % 18446744073709551616 = x * 2 ^ (k + 1) % 18446744073709551616 := by
  rw [h, Nat.pow_succ, ← Nat.mul_assoc]
  exact Nat.mod_mul_mod _ _ _
theorem div_step2 (x k X : Nat) (h : X = x / 2 ^ k) : X / 2 = x / 2 ^ (k + 1) := by
  rw [h, Nat.pow_succ, Nat.div_div_eq_div_mul]

theorem mask_lt (c : Nat) (h : c ≤ 64) : 2 ^ c - 1 < 18446744073709551616 := by
  have := pow_le_64 c h
  have := Nat.two_pow_pos c
  omega

end Go.Proofs.Ytgiehfecljampaa.WMath
