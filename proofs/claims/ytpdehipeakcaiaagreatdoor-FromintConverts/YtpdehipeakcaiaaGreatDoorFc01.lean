/-
  What the functions that the statement reaches return: part 1 (Mx, Word1, Word2, Word5, Pop).
-/
import Derived.Laws.MathBits
import Derived.Laws.Bits64b
import Derived.Laws.BitsAllLaws
import Derived.Laws.ShiftsVarLaws
import Derived.WalkKit
import Derived.ProofKit
import Derived.Lib.BitFns
import Derived.Test.YtpdehipeakcaiaaGreatDoorRows
import Derived.WalkLawsBesides
import Derived.ScopeJumps
namespace Go.Proofs.YtpdehipeakcaiaaGreatDoor.WMath
set_option maxRecDepth 100000
set_option maxHeartbeats 40000000
set_option maxRecDepth 100000
theorem testBit_toNat (x k : Nat) : (x.testBit k).toNat = x / 2 ^ k % 2 := by
  rw [Nat.testBit_eq_decide_div_mod_eq]
  have : x / 2 ^ k % 2 = 0 ∨ x / 2 ^ k % 2 = 1 := by omega
  rcases this with h | h <;> simp [h]

theorem bit_and (x k : Nat) : ((x / 2 ^ k) &&& 1 == 1) = x.testBit k := by
  rw [Nat.and_one_is_mod, Nat.testBit_eq_decide_div_mod_eq]
  rfl

theorem mod_succ (x k : Nat) : x % 2 ^ (k + 1) = x % 2 ^ k + 2 ^ k * (x.testBit k).toNat := by
  rw [testBit_toNat, Nat.mod_pow_succ]

theorem or_pow (s k : Nat) (h : s < 2 ^ k) : s ||| 2 ^ k = s + 2 ^ k := by
  have := Nat.two_pow_add_eq_or_of_lt h 1
  rw [Nat.mul_one] at this
  rw [Nat.or_comm, ← this, Nat.add_comm]

theorem or_one (s : Nat) (h : s % 2 = 0) : s ||| 1 = s + 1 := by
  have := Nat.two_pow_add_eq_or_of_lt (i := 1) (b := 1) (by decide) (s / 2)
  have e : 2 ^ 1 * (s / 2) = s := by omega
  rw [e] at this
  exact this.symm

theorem two64 : (18446744073709551616 : Nat) = 2 ^ 64 := by decide
theorem pow_lt_64 (k : Nat) (h : k < 64) : 2 ^ k < 18446744073709551616 := by
  rw [two64]; exact Nat.pow_lt_pow_right (by decide) h
theorem pow_le_64 (k : Nat) (h : k ≤ 64) : 2 ^ k ≤ 18446744073709551616 := by
  rw [two64]; exact Nat.pow_le_pow_right (by decide) h

theorem add_num (P A B c0 s : Nat) (x y c : Bool) (hs : s < P) (h : s + P * c.toNat = A + B + c0) :
    (if (x != y) != c then s + P else s) < P * 2 ∧ (if (x != y) != c then s + P else s) + P * 2 * ((x && y || x && c) || y && c).toNat = (A + P * x.toNat) + (B + P * y.toNat) + c0 := by
  cases x <;> cases y <;> cases c <;> simp at h ⊢ <;> omega
theorem add_step (a b s k : Nat) (c0 : Nat) (c : Bool) (hs : s < 2 ^ k) (h : s + 2 ^ k * c.toNat = a % 2 ^ k + b % 2 ^ k + c0) :
    (if (a.testBit k != b.testBit k) != c then s + 2 ^ k else s) < 2 ^ (k + 1) ∧ (if (a.testBit k != b.testBit k) != c then s + 2 ^ k else s) + 2 ^ (k + 1) * ((a.testBit k && b.testBit k || a.testBit k && c) || b.testBit k && c).toNat = a % 2 ^ (k + 1) + b % 2 ^ (k + 1) + c0 := by
  rw [mod_succ, mod_succ, Nat.pow_succ]
  exact add_num _ _ _ _ _ _ _ _ hs h
theorem add_end (a b s : Nat) (c c0 : Bool) (hs : s < 18446744073709551616) (h : s + 18446744073709551616 * c.toNat = a + b + c0.toNat) :
    s = (a + b + c0.toNat) % 18446744073709551616 ∧ c = decide (18446744073709551616 ≤ a + b + c0.toNat) := by
  cases c <;> simp at h ⊢ <;> omega
def sx (x e : Nat) : Nat := if x.testBit (e - 1) then x % 2 ^ e + (18446744073709551616 - 2 ^ e) else x % 2 ^ e

theorem sx_or (x e : Nat) (h2 : e ≤ 64) : x % 2 ^ e ||| (18446744073709551616 - 2 ^ e) = x % 2 ^ e + (18446744073709551616 - 2 ^ e) := by
  have hl : x % 2 ^ e < 2 ^ e := Nat.mod_lt _ (Nat.two_pow_pos e)
  have e1 : 18446744073709551616 - 2 ^ e = 2 ^ e * (2 ^ (64 - e) - 1) := by
    rw [Nat.mul_sub, ← Nat.pow_add, Nat.mul_one, Nat.add_sub_cancel' h2, ← two64]
  rw [e1, Nat.or_comm, ← Nat.two_pow_add_eq_or_of_lt hl, Nat.add_comm]

theorem mul_mod_step (x k X : Nat) (h : X = x * 2 ^ k % 18446744073709551616) : X * 2 % 18446744073709551616 = x * 2 ^ (k + 1) % 18446744073709551616 := by
  rw [h, Nat.pow_succ, ← Nat.mul_assoc]
  exact Nat.mod_mul_mod _ _ _
theorem div_step2 (x k X : Nat) (h : X = x / 2 ^ k) : X / 2 = x / 2 ^ (k + 1) := by
  rw [h, Nat.pow_succ, Nat.div_div_eq_div_mul]

theorem mask_lt (c : Nat) (h : c ≤ 64) : 2 ^ c - 1 < 18446744073709551616 := by
  have := pow_le_64 c h
  have := Nat.two_pow_pos c
  omega

end Go.Proofs.YtpdehipeakcaiaaGreatDoor.WMath
namespace Go.Proofs.YtpdehipeakcaiaaGreatDoor.WMath
set_option maxRecDepth 100000
set_option maxHeartbeats 40000000
set_option maxRecDepth 100000

def Box (p : Prop) : Prop := p ∨ False
theorem box {p : Prop} (h : p) : Box p := Or.inl h
theorem Box.out {p : Prop} (h : Box p) : p := h.elim id False.elim

def wd (n k : Nat) : Nat := n / 2 ^ (64 * k) % 18446744073709551616
theorem wd_lt (n k : Nat) : wd n k < 18446744073709551616 := Nat.mod_lt _ (by decide)
theorem wd_bit (n k j : Nat) : (wd n k).testBit j = (decide (j < 64) && n.testBit (64 * k + j)) := by
  unfold wd
  rw [two64, Nat.testBit_mod_two_pow, Nat.testBit_div_two_pow, Nat.add_comm j]
theorem wd_zero (k : Nat) : wd 0 k = 0 := by unfold wd; rw [Nat.zero_div, Nat.zero_mod]

theorem bit_of_wd (n i : Nat) : n.testBit i = (wd n (i / 64)).testBit (i % 64) := by
  rw [wd_bit, Nat.div_add_mod]
  simp [Nat.mod_lt]

theorem lt_bit {n q i : Nat} (h : n < 2 ^ q) (hi : q ≤ i) : n.testBit i = false := Nat.testBit_lt_two_pow (Nat.lt_of_lt_of_le h (Nat.pow_le_pow_right (by decide) hi))

theorem wd_ext {L n m : Nat} (hn : n < 2 ^ (64 * L)) (hm : m < 2 ^ (64 * L)) (h : ∀ k, k < L → wd n k = wd m k) : n = m := by
  apply Nat.eq_of_testBit_eq
  intro i
  by_cases hi : i < 64 * L
  · rw [bit_of_wd, bit_of_wd m, h (i / 64) (by omega)]
  · rw [lt_bit hn (by omega), lt_bit hm (by omega)]

theorem pow64 (p : Nat) : 2 ^ (64 * (p + 1)) = 2 ^ (64 * p) * 18446744073709551616 := by
  rw [Nat.mul_add, Nat.pow_add]

theorem wd_high {n q k : Nat} (h : n < 2 ^ (64 * q)) (hk : q ≤ k) : wd n k = 0 := by
  unfold wd
  rw [Nat.div_eq_of_lt (Nat.lt_of_lt_of_le h (Nat.pow_le_pow_right (by decide) (by omega)))]

def setw (n p x : Nat) : Nat := n % 2 ^ (64 * p) + 2 ^ (64 * p) * (x + 18446744073709551616 * (n / 2 ^ (64 * (p + 1))))

theorem wd_split (n p : Nat) : n = n % 2 ^ (64 * p) + 2 ^ (64 * p) * (wd n p + 18446744073709551616 * (n / 2 ^ (64 * (p + 1)))) := by
  unfold wd
  rw [pow64, ← Nat.div_div_eq_div_mul]
  have h1 := Nat.div_add_mod n (2 ^ (64 * p))
  have h2 := Nat.div_add_mod (n / 2 ^ (64 * p)) 18446744073709551616
  generalize n / 2 ^ (64 * p) = q at *
  have h3 : q % 18446744073709551616 + 18446744073709551616 * (q / 18446744073709551616) = q := by omega
  rw [h3]
  omega

theorem mod_wd (n p : Nat) : n % 2 ^ (64 * (p + 1)) = n % 2 ^ (64 * p) + 2 ^ (64 * p) * wd n p := by
  unfold wd
  rw [pow64, Nat.mod_mul]

theorem setw_add (n p x : Nat) : setw n p x + 2 ^ (64 * p) * wd n p = n + 2 ^ (64 * p) * x := by
  have h := wd_split n p
  unfold setw
  generalize n / 2 ^ (64 * (p + 1)) = D at *
  generalize n % 2 ^ (64 * p) = A at *
  generalize wd n p = u at *
  generalize 2 ^ (64 * p) = P at *
  rw [Nat.mul_add] at h
  rw [Nat.mul_add, h]
  omega

theorem setw_low (n p x : Nat) (h : n < 2 ^ (64 * p)) : setw n p x = n + 2 ^ (64 * p) * x := by
  have := setw_add n p x
  rw [wd_high h (Nat.le_refl _)] at this
  simpa using this

theorem setw_bit (n p x i : Nat) (hx : x < 18446744073709551616) : (setw n p x).testBit i = if i / 64 = p then x.testBit (i % 64) else n.testBit i := by
  unfold setw
  rw [Nat.add_comm, Nat.testBit_two_pow_mul_add _ (Nat.mod_lt _ (Nat.two_pow_pos _))]
  split
  · rename_i h
    rw [if_neg (by omega), Nat.testBit_mod_two_pow, decide_eq_true h, Bool.true_and]
  · rename_i h
    rw [Nat.add_comm, two64, Nat.testBit_two_pow_mul_add _ (by rw [← two64]; exact hx)]
    split
    · rename_i h2
      rw [if_pos (by omega)]
      congr 1; omega
    · rename_i h2
      rw [if_neg (by omega), Nat.testBit_div_two_pow]
      congr 1; omega

theorem wd_setw (n p x k : Nat) (hx : x < 18446744073709551616) : wd (setw n p x) k = if k = p then x else wd n k := by
  apply Nat.eq_of_testBit_eq
  intro j
  rw [wd_bit, setw_bit _ _ _ _ hx]
  by_cases hj : j < 64
  · rw [decide_eq_true hj, Bool.true_and, show (64 * k + j) / 64 = k by omega, show (64 * k + j) % 64 = j by omega]
    split
    · rfl
    · rw [wd_bit, decide_eq_true hj, Bool.true_and]
  · rw [decide_eq_false hj, Bool.false_and]
    have e : ∀ y, y < 18446744073709551616 → y.testBit j = false := fun y hy => lt_bit (q := 64) (by rw [← two64]; exact hy) (by omega)
    split
    · rw [e x hx]
    · rw [e _ (wd_lt _ _)]

theorem setw_lt (n p x q : Nat) (hn : n < 2 ^ (64 * q)) (hp : p < q) (hx : x < 18446744073709551616) : setw n p x < 2 ^ (64 * q) := by
  apply Nat.lt_pow_two_of_testBit
  intro i hi
  rw [setw_bit _ _ _ _ hx, if_neg (by omega), lt_bit hn hi]

theorem setw_or (n p x q : Nat) (hx : x < 18446744073709551616) (hq : q = p) : setw n p (wd n q ||| x) = n ||| x * 2 ^ (64 * p) := by
  subst hq
  apply Nat.eq_of_testBit_eq
  intro i
  have hlt : wd n q ||| x < 18446744073709551616 := by rw [two64]; exact Nat.or_lt_two_pow (by rw [← two64]; exact wd_lt _ _) (by rw [← two64]; exact hx)
  rw [setw_bit _ _ _ _ hlt, Nat.testBit_or n, Nat.testBit_mul_two_pow]
  split
  · rename_i h
    rw [Nat.testBit_or, wd_bit, decide_eq_true (Nat.mod_lt _ (by decide)), Bool.true_and, ← h, Nat.div_add_mod, decide_eq_true (by omega), Bool.true_and]
    congr 2; omega
  · rename_i h
    by_cases h2 : 64 * q ≤ i
    · rw [decide_eq_true h2, Bool.true_and, lt_bit (n := x) (q := 64) (by rw [← two64]; exact hx) (by omega), Bool.or_false]
    · rw [decide_eq_false h2, Bool.false_and, Bool.or_false]

def cw (L n : Nat) : Array Value := ((List.range L).map fun k => Value.int .u64 (wd n k : Nat)).toArray
theorem cw_size (L n : Nat) : (cw L n).size = L := by simp [cw]
theorem cw_at (L n k : Nat) (h : k < L) : (cw L n)[k]? = some (.int .u64 (wd n k : Nat)) := by simp [cw, h]
theorem cw_set (L n p x : Nat) (hp : p < L) (hx : x < 18446744073709551616) : (cw L n).setIfInBounds p (.int .u64 (x : Nat)) = cw L (setw n p x) := by
  apply Array.ext_getElem?
  intro k
  rw [Array.getElem?_setIfInBounds]
  by_cases hk : k < L
  · rw [cw_at L (setw n p x) k hk, cw_at L n k hk, wd_setw _ _ _ _ hx, cw_size]
    by_cases e : p = k
    · subst e; rw [if_pos rfl, if_pos hp, if_pos rfl]
    · rw [if_neg e, if_neg (fun h => e h.symm)]
  · have e1 : ∀ m, (cw L m)[k]? = none := fun m => by rw [Array.getElem?_eq_none]; rw [cw_size]; omega
    rw [e1, e1, if_neg (by omega)]
theorem cw6 (n : Nat) : cw 6 n = #[.int .u64 (wd n 0 : Nat), .int .u64 (wd n 1 : Nat), .int .u64 (wd n 2 : Nat), .int .u64 (wd n 3 : Nat), .int .u64 (wd n 4 : Nat), .int .u64 (wd n 5 : Nat)] := rfl
theorem cw6z : #[Value.int .u64 0, .int .u64 0, .int .u64 0, .int .u64 0, .int .u64 0, .int .u64 0] = cw 6 0 := by rw [cw6]; simp [wd_zero]
theorem cw6f (n : Nat) : #[Value.int .u64 (wd n 0 : Nat), .int .u64 (wd n 1 : Nat), .int .u64 (wd n 2 : Nat), .int .u64 (wd n 3 : Nat), .int .u64 (wd n 4 : Nat), .int .u64 (wd n 5 : Nat)] = cw 6 n := rfl
theorem cw_oneCell (L n : Nat) : (cw L n).all (·.oneCell') = true := by
  rw [Array.all_eq_true]
  intro i hi
  rw [cw_size] at hi
  have := cw_at L n i hi
  rw [Array.getElem?_eq_getElem (by rw [cw_size]; exact hi)] at this
  injection this with this
  rw [this]; rfl

def pw (L : Nat) : Nat := 2 ^ (64 * L)
def Qn (k : Nat) : Nat := if h : k = 0 then pw 6 else Qn (k - 1)
  termination_by k
  decreasing_by omega
def Q : Nat := Qn 0
theorem Q_pw : ∃ L, L = 6 ∧ Q = pw L := by
  refine ⟨6, rfl, ?_⟩
  unfold Q
  rw [Qn, dif_pos rfl]
theorem Q_of : ∃ L, L = 6 ∧ Q = 2 ^ (64 * L) := by
  obtain ⟨L, hL, h⟩ := Q_pw
  exact ⟨L, hL, h⟩
theorem Q_pos : 0 < Q := by
  obtain ⟨L, _, h⟩ := Q_of
  rw [h]
  exact Nat.two_pow_pos _
def W (n : Nat) : Value := .agg (cw 6 n)

theorem w6 (a0 a1 a2 a3 a4 a5 : Nat) (h0 : a0 < 18446744073709551616) (h1 : a1 < 18446744073709551616) (h2 : a2 < 18446744073709551616) (h3 : a3 < 18446744073709551616) (h4 : a4 < 18446744073709551616) (h5 : a5 < 18446744073709551616) :
    ∃ n, n < Q ∧ cw 6 n = #[.int .u64 a0, .int .u64 a1, .int .u64 a2, .int .u64 a3, .int .u64 a4, .int .u64 a5] := by
  refine ⟨setw (setw (setw (setw (setw (setw 0 0 a0) 1 a1) 2 a2) 3 a3) 4 a4) 5 a5, ?_, ?_⟩
  · obtain ⟨L, hL, h⟩ := Q_of
    rw [h]
    repeat (refine setw_lt _ _ _ L ?_ (by omega) (by assumption))
    exact Nat.two_pow_pos _
  · rw [cw6]
    simp only [wd_setw _ _ _ _ h0, wd_setw _ _ _ _ h1, wd_setw _ _ _ _ h2, wd_setw _ _ _ _ h3, wd_setw _ _ _ _ h4, wd_setw _ _ _ _ h5]
    rfl
theorem cw_seti (L n p y : Nat) (x : Int) (hp : p < L) (hx : y < 18446744073709551616) (h : x = (y : Int)) : (cw L n).setIfInBounds p (.int .u64 x) = cw L (setw n p y) := by
  rw [h]; exact cw_set L n p y hp hx
theorem cw_push (L n p y : Nat) (x : Int) (hp : p < L) (hn : n < 2 ^ (64 * p)) (hx : y < 18446744073709551616) (h : x = (y : Int)) : (cw L n).setIfInBounds p (.int .u64 x) = cw L (n + 2 ^ (64 * p) * y) := by
  rw [cw_seti L n p y x hp hx h, setw_low n p y hn]
theorem push_lt (n p y : Nat) (hn : n < 2 ^ (64 * p)) (hx : y < 18446744073709551616) : n + 2 ^ (64 * p) * y < 2 ^ (64 * (p + 1)) := by
  rw [pow64]
  have h : 2 ^ (64 * p) * (y + 1) ≤ 2 ^ (64 * p) * 18446744073709551616 := Nat.mul_le_mul_left _ (by omega)
  rw [Nat.mul_add] at h
  omega

theorem wadd_step (n m S k x : Nat) (C : Bool) (hE : S + 2 ^ (64 * k) * C.toNat = n % 2 ^ (64 * k) + m % 2 ^ (64 * k)) (hx : x = (wd n k + wd m k + C.toNat) % 18446744073709551616) :
    S + 2 ^ (64 * k) * x + 2 ^ (64 * (k + 1)) * (decide (18446744073709551616 ≤ wd n k + wd m k + C.toNat)).toNat = n % 2 ^ (64 * (k + 1)) + m % 2 ^ (64 * (k + 1)) := by
  have e : x + 18446744073709551616 * (decide (18446744073709551616 ≤ wd n k + wd m k + C.toNat)).toNat = wd n k + wd m k + C.toNat := by
    have := wd_lt n k
    have := wd_lt m k
    have : C.toNat ≤ 1 := by cases C <;> decide
    by_cases h : 18446744073709551616 ≤ wd n k + wd m k + C.toNat
    · rw [decide_eq_true h, Bool.toNat_true]; omega
    · rw [decide_eq_false h, Bool.toNat_false]; omega
  rw [mod_wd, mod_wd, pow64, Nat.mul_assoc]
  have e2 := congrArg (fun t => 2 ^ (64 * k) * t) e
  simp only [Nat.mul_add] at e2
  omega
theorem pwQ (k : Nat) (h : k = 6) : 2 ^ (64 * k) = Q := by
  obtain ⟨L, hL, hQ⟩ := Q_of
  rw [hQ, show L = k by omega]
theorem wadd_end (n m S k : Nat) (C : Bool) (h6 : k = 6) (hn : n < Q) (hm : m < Q) (hS : S < 2 ^ (64 * k)) (hE : S + 2 ^ (64 * k) * C.toNat = n % 2 ^ (64 * k) + m % 2 ^ (64 * k)) :
    S = (n + m) % Q ∧ C = decide (Q ≤ n + m) := by
  rw [pwQ k h6] at hS hE
  rw [Nat.mod_eq_of_lt hn, Nat.mod_eq_of_lt hm] at hE
  cases C
  · rw [Bool.toNat_false, Nat.mul_zero, Nat.add_zero] at hE
    rw [← hE, Nat.mod_eq_of_lt hS, decide_eq_false (by omega)]
    exact ⟨rfl, rfl⟩
  · rw [Bool.toNat_true, Nat.mul_one] at hE
    rw [← hE, Nat.add_mod_right, Nat.mod_eq_of_lt hS, decide_eq_true (by omega)]
    exact ⟨rfl, rfl⟩
theorem wsub_step (n m S k x : Nat) (C : Bool) (hE : S + m % 2 ^ (64 * k) = n % 2 ^ (64 * k) + 2 ^ (64 * k) * C.toNat) (hx : x = (wd n k + 18446744073709551616 - wd m k - C.toNat) % 18446744073709551616) :
    S + 2 ^ (64 * k) * x + m % 2 ^ (64 * (k + 1)) = n % 2 ^ (64 * (k + 1)) + 2 ^ (64 * (k + 1)) * (decide (wd n k < wd m k + C.toNat)).toNat := by
  have e : x + wd m k + C.toNat = wd n k + 18446744073709551616 * (decide (wd n k < wd m k + C.toNat)).toNat := by
    have := wd_lt n k
    have := wd_lt m k
    have : C.toNat ≤ 1 := by cases C <;> decide
    by_cases h : wd n k < wd m k + C.toNat
    · rw [decide_eq_true h, Bool.toNat_true]; omega
    · rw [decide_eq_false h, Bool.toNat_false]; omega
  rw [mod_wd, mod_wd, pow64, Nat.mul_assoc]
  have e2 := congrArg (fun t => 2 ^ (64 * k) * t) e
  simp only [Nat.mul_add] at e2
  omega
theorem wsub_end (n m S k : Nat) (C : Bool) (h6 : k = 6) (hn : n < Q) (hm : m < Q) (hS : S < 2 ^ (64 * k)) (hE : S + m % 2 ^ (64 * k) = n % 2 ^ (64 * k) + 2 ^ (64 * k) * C.toNat) :
    S = (n + Q - m) % Q ∧ C = decide (n < m) := by
  rw [pwQ k h6] at hS hE
  rw [Nat.mod_eq_of_lt hn, Nat.mod_eq_of_lt hm] at hE
  cases C
  · rw [Bool.toNat_false, Nat.mul_zero, Nat.add_zero] at hE
    rw [show n + Q - m = S + Q by omega, Nat.add_mod_right, Nat.mod_eq_of_lt hS, decide_eq_false (by omega)]
    exact ⟨rfl, rfl⟩
  · rw [Bool.toNat_true, Nat.mul_one] at hE
    rw [show n + Q - m = S by omega, Nat.mod_eq_of_lt hS, decide_eq_true (by omega)]
    exact ⟨rfl, rfl⟩

def Part (X n k : Nat) (f : Nat → Nat) : Prop := X < Q ∧ ∀ j, j < 6 → wd X j = if j < k then f j else wd n j
theorem part_start (n : Nat) (f : Nat → Nat) (h : n < Q) : Part n n 0 f := ⟨h, fun j _ => by rw [if_neg (by omega)]⟩
theorem setw_ltQ (n p x : Nat) (hn : n < Q) (hp : p < 6) (hx : x < 18446744073709551616) : setw n p x < Q := by
  obtain ⟨L, hL, hQ⟩ := Q_of
  rw [hQ] at hn ⊢
  exact setw_lt _ _ _ _ hn (by omega) hx
theorem part_step {X n k : Nat} {f : Nat → Nat} (h : Part X n k f) (hk : k < 6) (x : Nat) (hx : x < 18446744073709551616) (hf : f k = x) : Part (setw X k x) n (k + 1) f := by
  refine ⟨setw_ltQ _ _ _ h.1 hk hx, fun j hj => ?_⟩
  rw [wd_setw _ _ _ _ hx, h.2 j hj]
  by_cases e : j = k
  · subst e; rw [if_pos rfl, if_pos (by omega), hf]
  · rw [if_neg e]
    by_cases e2 : j < k
    · rw [if_pos e2, if_pos (by omega)]
    · rw [if_neg e2, if_neg (by omega)]
theorem part_end {X n k : Nat} {f : Nat → Nat} (h : Part X n k f) (hk : k = 6) (r : Nat) (hr : r < Q) (hw : ∀ j, j < 6 → wd r j = f j) : X = r := by
  obtain ⟨L, hL, hQ⟩ := Q_of
  have hX := h.1
  rw [hQ] at hX hr
  exact wd_ext hX hr (fun j hj => by rw [h.2 j (by omega), if_pos (by omega), hw j (by omega)])
theorem part_wd {X n k : Nat} {f : Nat → Nat} (h : Part X n k f) (hk : k < 6) : wd X k = wd n k := by rw [h.2 k hk, if_neg (by omega)]

theorem or_ltQ (n m : Nat) (hn : n < Q) (hm : m < Q) : n ||| m < Q := by
  obtain ⟨L, hL, hQ⟩ := Q_of
  rw [hQ] at hn hm ⊢
  exact Nat.or_lt_two_pow hn hm
theorem and_ltQ (n m : Nat) (hn : n < Q) : n &&& m < Q := Nat.lt_of_le_of_lt Nat.and_le_left hn
theorem wd_or (n m k : Nat) : wd (n ||| m) k = wd n k ||| wd m k := by
  apply Nat.eq_of_testBit_eq
  intro j
  rw [wd_bit, Nat.testBit_or, Nat.testBit_or, wd_bit, wd_bit, Bool.and_or_distrib_left]
theorem wd_and (n m k : Nat) : wd (n &&& m) k = wd n k &&& wd m k := by
  apply Nat.eq_of_testBit_eq
  intro j
  rw [wd_bit, Nat.testBit_and, Nat.testBit_and, wd_bit, wd_bit]
  cases decide (j < 64) <;> simp
theorem or_lt64 (a b : Nat) (ha : a < 18446744073709551616) (hb : b < 18446744073709551616) : a ||| b < 18446744073709551616 := by
  rw [two64] at *; exact Nat.or_lt_two_pow ha hb

theorem or_modQ (a b : Nat) : (a ||| b) % Q = a % Q ||| b % Q := by
  obtain ⟨L, hL, hQ⟩ := Q_of
  rw [hQ, Nat.or_mod_two_pow]
theorem sh_small (v t : Nat) (hv : v < 18446744073709551616) (ht : t < 6) : v * 2 ^ (64 * t) < Q := by
  obtain ⟨L, hL, hQ⟩ := Q_of
  rw [hQ]
  have h1 : 2 ^ (64 * (t + 1)) ≤ 2 ^ (64 * L) := Nat.pow_le_pow_right (by decide) (by omega)
  have h2 := push_lt 0 t v (Nat.two_pow_pos _) hv
  rw [Nat.mul_comm] at h2
  omega
theorem sh_big (v t : Nat) (ht : 6 ≤ t) : v * 2 ^ (64 * t) % Q = 0 := by
  obtain ⟨L, hL, hQ⟩ := Q_of
  rw [hQ, show 64 * t = (64 * t - 64 * L) + 64 * L by omega, Nat.pow_add, ← Nat.mul_assoc, Nat.mul_mod_left]
theorem or_disj (a b i : Nat) (h : a < 2 ^ i) : a + b * 2 ^ i = a ||| b * 2 ^ i := by
  rw [Nat.mul_comm, Nat.add_comm, Nat.two_pow_add_eq_or_of_lt h, Nat.or_comm]
theorem lohi (x r : Nat) (hr : r ≤ 64) : x * 2 ^ r = x * 2 ^ r % 18446744073709551616 ||| x / 2 ^ (64 - r) * 2 ^ 64 := by
  have h1 : x / 2 ^ (64 - r) = x * 2 ^ r / 18446744073709551616 := by
    rw [show 18446744073709551616 = 2 ^ (64 - r) * 2 ^ r by rw [← Nat.pow_add, two64]; congr 1; omega, Nat.mul_div_mul_right _ _ (Nat.two_pow_pos _)]
  rw [← or_disj _ _ 64 (by rw [← two64]; exact Nat.mod_lt _ (by decide)), h1, ← two64]
  omega
theorem or_sh (a b i : Nat) : (a ||| b) * 2 ^ i = a * 2 ^ i ||| b * 2 ^ i := by
  rw [← Nat.shiftLeft_eq, ← Nat.shiftLeft_eq, ← Nat.shiftLeft_eq, Nat.shiftLeft_or_distrib]
theorem or_dv (a b i : Nat) : (a ||| b) / 2 ^ i = a / 2 ^ i ||| b / 2 ^ i := by
  rw [← Nat.shiftRight_eq_div_pow, ← Nat.shiftRight_eq_div_pow, ← Nat.shiftRight_eq_div_pow, Nat.shiftRight_or_distrib]
theorem mod_or (n k : Nat) : n % 2 ^ (64 * (k + 1)) = n % 2 ^ (64 * k) ||| wd n k * 2 ^ (64 * k) := by
  rw [mod_wd, ← or_disj _ _ _ (Nat.mod_lt _ (Nat.two_pow_pos _)), Nat.mul_comm (wd n k)]

theorem up_step (n k s q r t X lo hi : Nat) (hs : s = 64 * q + r) (hr : r < 64) (ht : t = k + q) (hX : X = (n % 2 ^ (64 * k)) * 2 ^ s % Q) (hlo : wd n k * 2 ^ r % 18446744073709551616 = lo) (hhi : wd n k / 2 ^ (64 - r) = hi) :
    (n % 2 ^ (64 * (k + 1))) * 2 ^ s % Q = X ||| (lo * 2 ^ (64 * t) % Q ||| hi * 2 ^ (64 * (t + 1)) % Q) := by
  have e : wd n k * 2 ^ (64 * k) * 2 ^ s = lo * 2 ^ (64 * t) ||| hi * 2 ^ (64 * (t + 1)) := by
    rw [show wd n k * 2 ^ (64 * k) * 2 ^ s = wd n k * 2 ^ r * 2 ^ (64 * t) by rw [Nat.mul_assoc, Nat.mul_assoc, ← Nat.pow_add, ← Nat.pow_add]; congr 2; omega]
    rw [lohi (wd n k) r (by omega), hlo, hhi, or_sh, Nat.mul_assoc, ← Nat.pow_add]
    congr 3; omega
  rw [mod_or, or_sh, or_modQ, ← hX, e, or_modQ]
theorem cw_or (L X t v X' : Nat) (ht : t < L) (hv : v < 18446744073709551616) (hX : X' = X ||| v * 2 ^ (64 * t)) : (cw L X).setIfInBounds t (.int .u64 (wd X t ||| v : Nat)) = cw L X' := by
  rw [cw_set L X t _ ht (or_lt64 _ _ (wd_lt _ _) hv), setw_or X t v t hv rfl, hX]
theorem bor (X t v : Nat) (hv : v < 18446744073709551616) : bits .or .u64 (wd X t : Nat) (v : Nat) = ((wd X t ||| v : Nat) : Int) := bits_or_u64_nat _ _ (wd_lt _ _) hv
theorem wlow (n k : Nat) (h : n < Q) (hk : k = 6) : n % 2 ^ (64 * k) = n := by
  rw [pwQ k hk, Nat.mod_eq_of_lt h]

theorem down_step (n k s q r X lo hi : Nat) (hs : s = 64 * q + r) (hr : r < 64) (hX : X = (n % 2 ^ (64 * k)) / 2 ^ s) (hlo : wd n k * 2 ^ (64 - r) % 18446744073709551616 = lo) (hhi : wd n k / 2 ^ r = hi) :
    (n % 2 ^ (64 * (k + 1))) / 2 ^ s = if q < k then X ||| (hi * 2 ^ (64 * (k - q)) ||| lo * 2 ^ (64 * (k - q - 1))) else if q = k then X ||| hi else X := by
  rw [mod_or, or_dv, ← hX]
  split
  · rename_i h
    congr 1
    rw [show wd n k * 2 ^ (64 * k) = wd n k * 2 ^ (64 - r) * 2 ^ (64 * (k - q - 1)) * 2 ^ s by rw [Nat.mul_assoc, Nat.mul_assoc, ← Nat.pow_add, ← Nat.pow_add]; congr 2; omega]
    rw [Nat.mul_div_cancel _ (Nat.two_pow_pos _), lohi (wd n k) (64 - r) (by omega), hlo, show 64 - (64 - r) = r by omega, hhi, or_sh, Nat.mul_assoc, ← Nat.pow_add, Nat.or_comm]
    congr 3; omega
  · split
    · rename_i h1 h
      congr 1
      rw [hs, h, Nat.pow_add, Nat.mul_comm (2 ^ (64 * k)), Nat.mul_div_mul_right _ _ (Nat.two_pow_pos _), hhi]
    · rename_i h1 h
      have h2 := push_lt 0 k (wd n k) (Nat.two_pow_pos _) (wd_lt n k)
      rw [Nat.mul_comm, Nat.zero_add] at h2
      rw [Nat.div_eq_of_lt (Nat.lt_of_lt_of_le h2 (Nat.pow_le_pow_right (by decide) (by omega))), Nat.or_zero]
end Go.Proofs.YtpdehipeakcaiaaGreatDoor.WMath
namespace Go.Proofs.YtpdehipeakcaiaaGreatDoor.WMath
set_option maxRecDepth 100000
set_option maxHeartbeats 40000000
set_option maxRecDepth 100000

end Go.Proofs.YtpdehipeakcaiaaGreatDoor.WMath
namespace Go.Proofs.YtpdehipeakcaiaaGreatDoor.WMath
set_option maxRecDepth 100000
set_option maxHeartbeats 40000000
set_option maxRecDepth 100000

def blen (n : Nat) : Nat := if n = 0 then 0 else Nat.log2 n + 1
theorem blen_zero : blen 0 = 0 := rfl
theorem blen_lt (n : Nat) : n < 2 ^ blen n := by
  unfold blen
  split
  · rename_i h; subst h; decide
  · rename_i h; exact (Nat.log2_lt h).1 (by omega)
theorem blen_le (n : Nat) (h : n ≠ 0) : 2 ^ (blen n - 1) ≤ n := by
  unfold blen
  rw [if_neg h]
  exact (Nat.le_log2 h).1 (by omega)
theorem blen_pos (n : Nat) (h : n ≠ 0) : 0 < blen n := by unfold blen; rw [if_neg h]; omega
theorem blen_of (n l : Nat) (h1 : 2 ^ l ≤ n) (h2 : n < 2 ^ (l + 1)) : blen n = l + 1 := by
  have h0 : n ≠ 0 := by have := Nat.two_pow_pos l; omega
  unfold blen
  rw [if_neg h0]
  have a := (Nat.le_log2 h0).2 h1
  have b := (Nat.log2_lt h0).2 h2
  omega
theorem bitLen_blen (x : Nat) (hx : x < 18446744073709551616) : Lib.bitLen x = blen x := by
  by_cases h : x = 0
  · subst h; decide
  · have h1 := blen_le x h
    have h2 := blen_lt x
    have h3 := blen_pos x h
    obtain ⟨k, hk⟩ : ∃ k, blen x = k + 1 := ⟨blen x - 1, by omega⟩
    rw [hk] at h1 h2 ⊢
    rw [Nat.add_sub_cancel] at h1
    rw [Lib.bitLen_shift k x h1 hx, show x / 2 ^ k = 1 by
      apply Nat.div_eq_of_lt_le
      · omega
      · rw [Nat.pow_succ] at h2; omega]
    have : Lib.bitLen 1 = 1 := by decide
    omega
theorem blen_push (A k x : Nat) (hA : A < 2 ^ k) (hx : x ≠ 0) : blen (A + 2 ^ k * x) = k + blen x := by
  have h1 := blen_le x hx
  have h2 := blen_lt x
  have h3 := blen_pos x hx
  obtain ⟨l, hl⟩ : ∃ l, blen x = l + 1 := ⟨blen x - 1, by omega⟩
  rw [hl] at h1 h2 ⊢
  rw [Nat.add_sub_cancel] at h1
  refine blen_of _ (k + l) ?_ ?_
  · rw [Nat.pow_add]
    have := Nat.mul_le_mul_left (2 ^ k) h1
    omega
  · rw [show k + l + 1 = k + (l + 1) by omega, Nat.pow_add]
    have := Nat.mul_le_mul_left (2 ^ k) h2
    rw [Nat.succ_eq_add_one, Nat.mul_add] at this
    omega
theorem blen_step (n k : Nat) : blen (n % 2 ^ (64 * (k + 1))) = if wd n k = 0 then blen (n % 2 ^ (64 * k)) else 64 * k + blen (wd n k) := by
  rw [mod_wd]
  split
  · rename_i h; rw [h, Nat.mul_zero, Nat.add_zero]
  · rename_i h; exact blen_push _ _ _ (Nat.mod_lt _ (Nat.two_pow_pos _)) h
theorem blen_le_of (n l : Nat) (h : n < 2 ^ l) : blen n ≤ l := by
  by_cases h0 : n = 0
  · subst h0; rw [blen_zero]; omega
  · have := blen_le n h0
    have := Nat.lt_of_le_of_lt this h
    have := (Nat.pow_lt_pow_iff_right (a := 2) (by decide)).1 this
    omega
theorem field_num (n q r c low : Nat) (hl : low = 64 * q + r) (h : r + c ≤ 64) : wd n q / 2 ^ r % 2 ^ c = n / 2 ^ low % 2 ^ c := by
  apply Nat.eq_of_testBit_eq
  intro j
  rw [Nat.testBit_mod_two_pow, Nat.testBit_mod_two_pow, Nat.testBit_div_two_pow, Nat.testBit_div_two_pow, wd_bit, hl]
  by_cases hj : j < c
  · rw [decide_eq_true (show j + r < 64 by omega), Bool.true_and]
    congr 2; omega
  · rw [decide_eq_false hj, Bool.false_and, Bool.false_and]

end Go.Proofs.YtpdehipeakcaiaaGreatDoor.WMath
namespace Go.Proofs.YtpdehipeakcaiaaGreatDoor.WMath
set_option maxRecDepth 100000
set_option maxHeartbeats 40000000
set_option maxRecDepth 100000

theorem Q384 (t : Nat) (ht : t < 384) : 2 ^ (t + 1) ≤ Q := by
  obtain ⟨L, hL, hQ⟩ := Q_of
  rw [hQ]
  exact Nat.pow_le_pow_right (by decide) (by omega)
theorem Q384' (t : Nat) (ht : 384 ≤ t) : 2 ^ t % Q = 0 := by
  obtain ⟨L, hL, hQ⟩ := Q_of
  rw [hQ, show t = (t - 64 * L) + 64 * L by omega, Nat.pow_add, Nat.mul_mod_left]
theorem Q384'' (t : Nat) (ht : 384 ≤ t) : Q ≤ 2 ^ t := by
  obtain ⟨L, hL, hQ⟩ := Q_of
  rw [hQ]
  exact Nat.pow_le_pow_right (by decide) (by omega)
theorem mod384 (n i : Nat) (hn : n < Q) (hi : 384 ≤ i) : n % 2 ^ i = n := Nat.mod_eq_of_lt (Nat.lt_of_lt_of_le hn (Q384'' i hi))
theorem v_word (r : Nat) (hr : r < 64) : 2 ^ r < 18446744073709551616 := pow_lt_64 r hr

theorem left_bit0 (n i : Nat) (h : n.testBit i = false) : n % 2 ^ (i + 1) = n % 2 ^ i := by
  rw [mod_succ, h, Bool.toNat_false, Nat.mul_zero, Nat.add_zero]
theorem left_bit1 (n i : Nat) (h : n.testBit i = true) : n % 2 ^ (i + 1) = n % 2 ^ i + 2 ^ i := by
  rw [mod_succ, h, Bool.toNat_true, Nat.mul_one]
theorem left_in (n i c t q r B : Nat) (h : n.testBit i = true) (ht : t = i + c) (hlt : t < 384) (hq : t = 64 * q + r) (hB : B = (n % 2 ^ i) * 2 ^ c % Q) :
    (n % 2 ^ (i + 1)) * 2 ^ c % Q = B ||| 2 ^ r * 2 ^ (64 * q) ∧ ¬ Q ≤ (n % 2 ^ (i + 1)) * 2 ^ c ∧ ¬ Q ≤ (n % 2 ^ i) * 2 ^ c := by
  have hl : n % 2 ^ i < 2 ^ i := Nat.mod_lt _ (Nat.two_pow_pos _)
  have e1 : 2 ^ i * 2 ^ c = 2 ^ t := by rw [← Nat.pow_add, ht]
  have h1 : (n % 2 ^ i) * 2 ^ c < 2 ^ t := by rw [← e1]; exact Nat.mul_lt_mul_of_pos_right hl (Nat.two_pow_pos _)
  have h2 := Q384 t hlt
  rw [Nat.pow_succ] at h2
  rw [left_bit1 n i h, Nat.add_mul, e1]
  have e2 : B = (n % 2 ^ i) * 2 ^ c := by rw [hB, Nat.mod_eq_of_lt (by omega)]
  refine ⟨?_, by omega, by omega⟩
  rw [Nat.mod_eq_of_lt (by omega), e2, ← Nat.pow_add, show r + 64 * q = t by omega]
  have := or_disj ((n % 2 ^ i) * 2 ^ c) 1 t h1
  rw [Nat.one_mul] at this
  exact this
theorem left_out (n i c t B : Nat) (h : n.testBit i = true) (ht : t = i + c) (hge : 384 ≤ t) (hB : B = (n % 2 ^ i) * 2 ^ c % Q) :
    (n % 2 ^ (i + 1)) * 2 ^ c % Q = B ∧ Q ≤ (n % 2 ^ (i + 1)) * 2 ^ c := by
  have e1 : 2 ^ i * 2 ^ c = 2 ^ t := by rw [← Nat.pow_add, ht]
  have h2 := Q384'' t hge
  rw [left_bit1 n i h, Nat.add_mul, e1]
  refine ⟨?_, by omega⟩
  rw [Nat.add_mod, Q384' t hge, Nat.add_zero, Nat.mod_mod, hB]

end Go.Proofs.YtpdehipeakcaiaaGreatDoor.WMath
namespace Go.Proofs.YtpdehipeakcaiaaGreatDoor.WMath
set_option maxRecDepth 100000
set_option maxHeartbeats 40000000
set_option maxRecDepth 100000

theorem mask_wd (c k d : Nat) (hd : d = min (c - 64 * k) 64) : wd (2 ^ c - 1) k = 2 ^ d - 1 := by
  apply Nat.eq_of_testBit_eq
  intro j
  rw [wd_bit, Nat.testBit_two_pow_sub_one, Nat.testBit_two_pow_sub_one]
  by_cases h1 : j < d
  · rw [decide_eq_true h1, decide_eq_true (show j < 64 by omega), decide_eq_true (show 64 * k + j < c by omega)]; rfl
  · rw [decide_eq_false h1]
    by_cases h2 : j < 64
    · rw [decide_eq_false (show ¬ 64 * k + j < c by omega)]; simp
    · rw [decide_eq_false h2]; simp
theorem mask_ltQ (c : Nat) (h : c ≤ 384) : 2 ^ c - 1 < Q := by
  obtain ⟨L, hL, hQ⟩ := Q_of
  have h1 : 2 ^ c ≤ 2 ^ (64 * L) := Nat.pow_le_pow_right (by decide) (by omega)
  have := Nat.two_pow_pos c
  omega
theorem mask_lt64 (d : Nat) (h : d ≤ 64) : 2 ^ d - 1 < 18446744073709551616 := mask_lt d h
theorem mask_or (i q r : Nat) (h : i = 64 * q + r) : (2 ^ i - 1) ||| 2 ^ r * 2 ^ (64 * q) = 2 ^ (i + 1) - 1 := by
  have h1 := or_disj (2 ^ i - 1) 1 i (by have := Nat.two_pow_pos i; omega)
  rw [← Nat.pow_add, show r + 64 * q = i by omega]
  rw [Nat.one_mul] at h1
  rw [← h1, Nat.pow_succ]
  have := Nat.two_pow_pos i
  omega
theorem rlen_step (n j : Nat) (h : n < 2 ^ (64 * (j + 1))) : (wd n j ≠ 0 → blen n = 64 * j + blen (wd n j)) ∧ (wd n j = 0 → n < 2 ^ (64 * j)) := by
  have e := mod_wd n j
  rw [Nat.mod_eq_of_lt h] at e
  have hl : n % 2 ^ (64 * j) < 2 ^ (64 * j) := Nat.mod_lt _ (Nat.two_pow_pos _)
  constructor
  · intro h0
    rw [e]
    have := blen_push (n % 2 ^ (64 * j)) (64 * j) (wd n j) hl h0
    rw [← e] at this ⊢
    exact this
  · intro h0
    rw [h0, Nat.mul_zero, Nat.add_zero] at e
    omega
end Go.Proofs.YtpdehipeakcaiaaGreatDoor.WMath
namespace Go.Proofs.YtpdehipeakcaiaaGreatDoor.WMath
set_option maxRecDepth 100000
set_option maxHeartbeats 40000000
set_option maxRecDepth 100000

theorem Qq384 : ∃ L, L = 384 ∧ Q = 2 ^ L := by
  obtain ⟨L, hL, hQ⟩ := Q_of
  exact ⟨64 * L, by omega, hQ⟩

theorem qor_add (a i b : Nat) (h : 2 ^ i ∣ a) (hb : b < 2 ^ i) : a ||| b = a + b := by
  obtain ⟨c, rfl⟩ := h
  exact (Nat.two_pow_add_eq_or_of_lt hb c).symm

theorem qor_pow (a k : Nat) (h : 2 ^ (k + 1) ∣ a) : a ||| 2 ^ k = a + 2 ^ k :=
  qor_add a (k + 1) _ h (Nat.pow_lt_pow_right (by decide) (by omega))

theorem pow_ltQ (k : Nat) (h : k < 384) : 2 ^ k < Q := by
  obtain ⟨L, hL, hQ⟩ := Qq384
  rw [hQ]
  exact Nat.pow_lt_pow_right (by decide) (by omega)

theorem bit_nat (a k : Nat) : a / 2 ^ k = 2 * (a / 2 ^ (k + 1)) + (a.testBit k).toNat := by
  rw [Nat.pow_succ, ← Nat.div_div_eq_div_mul]
  have : (a.testBit k).toNat = a / 2 ^ k % 2 := by
    rw [Nat.testBit_eq_decide_div_mod_eq]
    rcases Nat.mod_two_eq_zero_or_one (a / 2 ^ k) with h | h <;> rw [h] <;> rfl
  rw [this]
  omega

def RootIs (a r : Nat) : Prop := r * r ≤ a ∧ a < (r + 1) * (r + 1)
end Go.Proofs.YtpdehipeakcaiaaGreatDoor.WMath
namespace Go.Proofs.YtpdehipeakcaiaaGreatDoor.WMath
set_option maxRecDepth 100000
set_option maxHeartbeats 40000000
set_option maxRecDepth 100000

theorem two8 : (256 : Nat) = 2 ^ 8 := by decide
def d8 (n k : Nat) : Nat := n / 2 ^ (8 * k) % 256
theorem d8_lt (n k : Nat) : d8 n k < 256 := Nat.mod_lt _ (by decide)
theorem d8_bit (n k j : Nat) : (d8 n k).testBit j = (decide (j < 8) && n.testBit (8 * k + j)) := by
  unfold d8
  rw [two8, Nat.testBit_mod_two_pow, Nat.testBit_div_two_pow, Nat.add_comm j]
theorem d8_zero (k : Nat) : d8 0 k = 0 := by unfold d8; rw [Nat.zero_div, Nat.zero_mod]
theorem bit_of_d8 (n i : Nat) : n.testBit i = (d8 n (i / 8)).testBit (i % 8) := by
  rw [d8_bit, Nat.div_add_mod]
  simp [Nat.mod_lt]
theorem d8_ext {L n m : Nat} (hn : n < 2 ^ (8 * L)) (hm : m < 2 ^ (8 * L)) (h : ∀ k, k < L → d8 n k = d8 m k) : n = m := by
  apply Nat.eq_of_testBit_eq
  intro i
  by_cases hi : i < 8 * L
  · rw [bit_of_d8, bit_of_d8 m, h (i / 8) (by omega)]
  · rw [lt_bit hn (by omega), lt_bit hm (by omega)]
theorem pow8 (p : Nat) : 2 ^ (8 * (p + 1)) = 2 ^ (8 * p) * 256 := by
  rw [Nat.mul_add, Nat.pow_add]
theorem d8_high {n q k : Nat} (h : n < 2 ^ (8 * q)) (hk : q ≤ k) : d8 n k = 0 := by
  unfold d8
  rw [Nat.div_eq_of_lt (Nat.lt_of_lt_of_le h (Nat.pow_le_pow_right (by decide) (by omega)))]
def set8 (n p x : Nat) : Nat := n % 2 ^ (8 * p) + 2 ^ (8 * p) * (x + 256 * (n / 2 ^ (8 * (p + 1))))
theorem d8_split (n p : Nat) : n = n % 2 ^ (8 * p) + 2 ^ (8 * p) * (d8 n p + 256 * (n / 2 ^ (8 * (p + 1)))) := by
  unfold d8
  rw [pow8, ← Nat.div_div_eq_div_mul]
  have h1 := Nat.div_add_mod n (2 ^ (8 * p))
  have h2 := Nat.div_add_mod (n / 2 ^ (8 * p)) 256
  generalize n / 2 ^ (8 * p) = q at *
  have h3 : q % 256 + 256 * (q / 256) = q := by omega
  rw [h3]
  omega
theorem mod_d8 (n p : Nat) : n % 2 ^ (8 * (p + 1)) = n % 2 ^ (8 * p) + 2 ^ (8 * p) * d8 n p := by
  unfold d8
  rw [pow8, Nat.mod_mul]
theorem set8_add (n p x : Nat) : set8 n p x + 2 ^ (8 * p) * d8 n p = n + 2 ^ (8 * p) * x := by
  have h := d8_split n p
  unfold set8
  generalize n / 2 ^ (8 * (p + 1)) = D at *
  generalize n % 2 ^ (8 * p) = A at *
  generalize d8 n p = u at *
  generalize 2 ^ (8 * p) = P at *
  rw [Nat.mul_add] at h
  rw [Nat.mul_add, h]
  omega
theorem set8_low (n p x : Nat) (h : n < 2 ^ (8 * p)) : set8 n p x = n + 2 ^ (8 * p) * x := by
  have := set8_add n p x
  rw [d8_high h (Nat.le_refl _)] at this
  simpa using this
theorem set8_bit (n p x i : Nat) (hx : x < 256) : (set8 n p x).testBit i = if i / 8 = p then x.testBit (i % 8) else n.testBit i := by
  unfold set8
  rw [Nat.add_comm, Nat.testBit_two_pow_mul_add _ (Nat.mod_lt _ (Nat.two_pow_pos _))]
  split
  · rename_i h
    rw [if_neg (by omega), Nat.testBit_mod_two_pow, decide_eq_true h, Bool.true_and]
  · rename_i h
    rw [Nat.add_comm, two8, Nat.testBit_two_pow_mul_add _ (by rw [← two8]; exact hx)]
    split
    · rename_i h2
      rw [if_pos (by omega)]
      congr 1; omega
    · rename_i h2
      rw [if_neg (by omega), Nat.testBit_div_two_pow]
      congr 1; omega
theorem d8_set8 (n p x k : Nat) (hx : x < 256) : d8 (set8 n p x) k = if k = p then x else d8 n k := by
  apply Nat.eq_of_testBit_eq
  intro j
  rw [d8_bit, set8_bit _ _ _ _ hx]
  by_cases hj : j < 8
  · rw [decide_eq_true hj, Bool.true_and, show (8 * k + j) / 8 = k by omega, show (8 * k + j) % 8 = j by omega]
    split
    · rfl
    · rw [d8_bit, decide_eq_true hj, Bool.true_and]
  · rw [decide_eq_false hj, Bool.false_and]
    have e : ∀ y, y < 256 → y.testBit j = false := fun y hy => lt_bit (q := 8) (by rw [← two8]; exact hy) (by omega)
    split
    · rw [e x hx]
    · rw [e _ (d8_lt _ _)]
theorem set8_or (n p x q : Nat) (hx : x < 256) (hq : q = p) : set8 n p (d8 n q ||| x) = n ||| x * 2 ^ (8 * p) := by
  subst hq
  apply Nat.eq_of_testBit_eq
  intro i
  have hlt : d8 n q ||| x < 256 := by rw [two8]; exact Nat.or_lt_two_pow (by rw [← two8]; exact d8_lt _ _) (by rw [← two8]; exact hx)
  rw [set8_bit _ _ _ _ hlt, Nat.testBit_or n, Nat.testBit_mul_two_pow]
  split
  · rename_i h
    rw [Nat.testBit_or, d8_bit, decide_eq_true (Nat.mod_lt _ (by decide)), Bool.true_and, ← h, Nat.div_add_mod, decide_eq_true (by omega), Bool.true_and]
    congr 2; omega
  · rename_i h
    by_cases h2 : 8 * q ≤ i
    · rw [decide_eq_true h2, Bool.true_and, lt_bit (n := x) (q := 8) (by rw [← two8]; exact hx) (by omega), Bool.or_false]
    · rw [decide_eq_false h2, Bool.false_and, Bool.or_false]
def c8 (L n : Nat) : Array Value := ((List.range L).map fun k => Value.int .u8 (d8 n k : Nat)).toArray
theorem c8_size (L n : Nat) : (c8 L n).size = L := by simp [c8]
theorem c8_at (L n k : Nat) (h : k < L) : (c8 L n)[k]? = some (.int .u8 (d8 n k : Nat)) := by simp [c8, h]
theorem c8_set (L n p x : Nat) (hp : p < L) (hx : x < 256) : (c8 L n).setIfInBounds p (.int .u8 (x : Nat)) = c8 L (set8 n p x) := by
  apply Array.ext_getElem?
  intro k
  rw [Array.getElem?_setIfInBounds]
  by_cases hk : k < L
  · rw [c8_at L (set8 n p x) k hk, c8_at L n k hk, d8_set8 _ _ _ _ hx, c8_size]
    by_cases e : p = k
    · subst e; rw [if_pos rfl, if_pos hp, if_pos rfl]
    · rw [if_neg e, if_neg (fun h => e h.symm)]
  · have e1 : ∀ m, (c8 L m)[k]? = none := fun m => by rw [Array.getElem?_eq_none]; rw [c8_size]; omega
    rw [e1, e1, if_neg (by omega)]
theorem c8_seti (L n p y : Nat) (x : Int) (hp : p < L) (hx : y < 256) (h : x = (y : Int)) : (c8 L n).setIfInBounds p (.int .u8 x) = c8 L (set8 n p y) := by
  rw [h]; exact c8_set L n p y hp hx
theorem c8_push (L n p y : Nat) (x : Int) (hp : p < L) (hn : n < 2 ^ (8 * p)) (hx : y < 256) (h : x = (y : Int)) : (c8 L n).setIfInBounds p (.int .u8 x) = c8 L (n + 2 ^ (8 * p) * y) := by
  rw [c8_seti L n p y x hp hx h, set8_low n p y hn]
theorem push8_lt (n p y : Nat) (hn : n < 2 ^ (8 * p)) (hx : y < 256) : n + 2 ^ (8 * p) * y < 2 ^ (8 * (p + 1)) := by
  rw [pow8]
  have h : 2 ^ (8 * p) * (y + 1) ≤ 2 ^ (8 * p) * 256 := Nat.mul_le_mul_left _ (by omega)
  rw [Nat.mul_add] at h
  omega
theorem or_lt8 (a b : Nat) (ha : a < 256) (hb : b < 256) : a ||| b < 256 := by
  rw [two8] at *; exact Nat.or_lt_two_pow ha hb
theorem c8_or (L X t v X' : Nat) (ht : t < L) (hv : v < 256) (hX : X' = X ||| v * 2 ^ (8 * t)) : (c8 L X).setIfInBounds t (.int .u8 (d8 X t ||| v : Nat)) = c8 L X' := by
  rw [c8_set L X t _ ht (or_lt8 _ _ (d8_lt _ _) hv), set8_or X t v t hv rfl, hX]
end Go.Proofs.YtpdehipeakcaiaaGreatDoor.WMath
namespace Go.Proofs.YtpdehipeakcaiaaGreatDoor.WMath
set_option maxRecDepth 100000
set_option maxHeartbeats 40000000
set_option maxRecDepth 100000

def nl (n : Nat) : Nat := (blen n + 7) / 8
theorem nl_zero : nl 0 = 0 := by unfold nl; rw [blen_zero]
theorem nl_lt (n : Nat) : n < 2 ^ (8 * nl n) := Nat.lt_of_lt_of_le (blen_lt n) (Nat.pow_le_pow_right (by decide) (by unfold nl; omega))
theorem nl_pos (n : Nat) (h : n ≠ 0) : 0 < nl n := by have := blen_pos n h; unfold nl; omega
theorem nl_le (n : Nat) (h : n ≠ 0) : 2 ^ (8 * (nl n - 1)) ≤ n := Nat.le_trans (Nat.pow_le_pow_right (by decide) (by have := blen_pos n h; unfold nl; omega)) (blen_le n h)
theorem nl_le_of (n L : Nat) (h : n < 2 ^ (8 * L)) : nl n ≤ L := by have := blen_le_of n _ h; unfold nl; omega
theorem nl_eq0 (n : Nat) (h : nl n = 0) : n = 0 := by
  have := nl_lt n
  rw [h, Nat.mul_zero, Nat.pow_zero] at this
  omega
theorem nl_mono (a b : Nat) (h : a ≤ b) : nl a ≤ nl b := nl_le_of a _ (Nat.lt_of_le_of_lt h (nl_lt b))
theorem nl_top (n : Nat) (h : n ≠ 0) : d8 n (nl n - 1) ≠ 0 := by
  intro e
  have h1 := nl_le n h
  have h2 := nl_lt n
  have h3 := nl_pos n h
  obtain ⟨L, hL⟩ : ∃ L, nl n = L + 1 := ⟨nl n - 1, by omega⟩
  rw [hL, Nat.add_sub_cancel] at e h1
  rw [hL] at h2
  have h4 := mod_d8 n L
  rw [Nat.mod_eq_of_lt h2, e, Nat.mul_zero, Nat.add_zero] at h4
  have := Nat.mod_lt n (Nat.two_pow_pos (8 * L))
  omega
theorem nl_is (n L : Nat) (h1 : n < 2 ^ (8 * L)) (h2 : L = 0 ∨ d8 n (L - 1) ≠ 0) : nl n = L := by
  rcases h2 with rfl | h2
  · have := nl_le_of n 0 h1; omega
  · have a := nl_le_of n L h1
    by_cases e : nl n ≤ L - 1
    · exact absurd (d8_high (nl_lt n) e) h2
    · omega

def nbL (n : Nat) : List UInt8 := (List.range (nl n)).map fun i => UInt8.ofNat (d8 n (nl n - 1 - i))
def nbA (n : Nat) : ByteArray := ⟨(nbL n).toArray⟩
theorem nbL_len (n : Nat) : (nbL n).length = nl n := by simp [nbL]
theorem nbA_size (n : Nat) : (nbA n).size = nl n := by show (nbL n).toArray.size = _; simp [nbL]
theorem nbA_get (n k : Nat) (h : k < (nbA n).size) : ((nbA n)[k]'h).toNat = d8 n (nl n - 1 - k) := by
  have e : (nbA n)[k]'h = UInt8.ofNat (d8 n (nl n - 1 - k)) := by
    show (nbL n).toArray[k]'_ = _
    simp [nbL]
  rw [e, UInt8.toNat_ofNat']
  exact Nat.mod_eq_of_lt (d8_lt _ _)
theorem nbA_zero : nbA 0 = ⟨#[]⟩ := by unfold nbA nbL; rw [nl_zero]; rfl
theorem nbA_inj (a b : Nat) (h : nbA a = nbA b) : a = b := by
  have hs : nl a = nl b := by rw [← nbA_size, ← nbA_size, h]
  have ha := nl_lt a
  have hb := nl_lt b
  rw [← hs] at hb
  refine d8_ext ha hb (fun k hk => ?_)
  have h1 : nl a - 1 - k < (nbA a).size := by rw [nbA_size]; omega
  have h2 : nl a - 1 - k < (nbA b).size := by rw [nbA_size]; omega
  have e1 := nbA_get a _ h1
  have e2 := nbA_get b _ h2
  have e3 : (nbA a)[nl a - 1 - k]'h1 = (nbA b)[nl a - 1 - k]'h2 := by simp only [h]
  rw [e3, e2, ← hs, show nl a - 1 - (nl a - 1 - k) = k by omega] at e1
  exact e1.symm
theorem byte_ext {s t : ByteArray} (hz : s.size = t.size) (h : ∀ (k : Nat) (h1 : k < s.size) (h2 : k < t.size), (s[k]'h1).toNat = (t[k]'h2).toNat) : s = t := by
  apply ByteArray.ext
  apply Array.ext
  · exact hz
  · intro k h1 h2
    have := h k h1 h2
    exact UInt8.toNat_inj.1 this
theorem nbA_is (s : ByteArray) (n : Nat) (hz : s.size = nl n) (h : ∀ (k : Nat) (h1 : k < s.size), (s[k]'h1).toNat = d8 n (nl n - 1 - k)) : s = nbA n :=
  byte_ext (by rw [hz, nbA_size]) (fun k h1 h2 => by rw [h k h1, nbA_get])

def bvl (l : List UInt8) : Nat := l.foldl (fun v b => 256 * v + b.toNat) 0
theorem bvl_snoc (l : List UInt8) (b : UInt8) : bvl (l ++ [b]) = 256 * bvl l + b.toNat := by unfold bvl; rw [List.foldl_append]; rfl
theorem d8_snoc0 (v b : Nat) (hb : b < 256) : d8 (256 * v + b) 0 = b := by unfold d8; rw [Nat.mul_zero, Nat.pow_zero, Nat.div_one]; omega
theorem d8_snocS (v b i : Nat) (hb : b < 256) : d8 (256 * v + b) (i + 1) = d8 v i := by
  unfold d8
  rw [show 8 * (i + 1) = 8 + 8 * i by omega, Nat.pow_add, ← Nat.div_div_eq_div_mul, show (256 * v + b) / 2 ^ 8 = v by omega]
theorem rev_ind {P : List UInt8 → Prop} (h0 : P []) (h1 : ∀ l b, P l → P (l ++ [b])) : ∀ l, P l := by
  have key : ∀ l : List UInt8, P l.reverse := by
    intro l
    induction l with
    | nil => exact h0
    | cons b l ih => rw [List.reverse_cons]; exact h1 _ _ ih
  intro l
  have := key l.reverse
  rwa [List.reverse_reverse] at this
theorem bvl_lt (l : List UInt8) : bvl l < 2 ^ (8 * l.length) := by
  refine rev_ind (P := fun l => bvl l < 2 ^ (8 * l.length)) (by decide) (fun l b ih => ?_) l
  rw [bvl_snoc, List.length_append, List.length_singleton, pow8]
  have := b.toNat_lt
  omega
theorem bvl_d8 (l : List UInt8) : ∀ (k : Nat) (h : k < l.length), d8 (bvl l) (l.length - 1 - k) = (l[k]'h).toNat := by
  refine rev_ind (P := fun l => ∀ (k : Nat) (h : k < l.length), d8 (bvl l) (l.length - 1 - k) = (l[k]'h).toNat) (fun k h => absurd h (by simp)) (fun l b ih k h => ?_) l
  have hl : (l ++ [b]).length = l.length + 1 := by simp
  rw [bvl_snoc, hl]
  by_cases e : k < l.length
  · rw [show l.length + 1 - 1 - k = (l.length - 1 - k) + 1 by omega, d8_snocS _ _ _ b.toNat_lt, ih k e, List.getElem_append_left e]
  · have e2 : k = l.length := by omega
    subst e2
    rw [show l.length + 1 - 1 - l.length = 0 by omega, d8_snoc0 _ _ b.toNat_lt]
    simp
theorem nbA_of (s : ByteArray) (h : s.size = 0 ∨ ∃ h : 0 < s.size, s[0]'h ≠ 0) : ∃ n, nbA n = s := by
  obtain ⟨l, hl⟩ : ∃ l, s.data.toList = l := ⟨_, rfl⟩
  have hz : s.size = l.length := by rw [← hl, Array.length_toList]; rfl
  have hg : ∀ (k : Nat) (h1 : k < s.size), s[k]'h1 = l[k]'(by rw [← hz]; exact h1) := by
    intro k h1
    subst hl
    rfl
  have hn : nl (bvl l) = l.length := by
    refine nl_is _ _ (bvl_lt l) ?_
    rcases h with h | ⟨h, h2⟩
    · left; omega
    · right
      have := bvl_d8 l 0 (by omega)
      rw [show l.length - 1 - 0 = l.length - 1 by omega] at this
      rw [this, ← hg 0 h]
      intro e
      exact h2 (UInt8.toNat_inj.1 e)
  refine ⟨bvl l, (nbA_is s _ (by rw [hn, hz]) (fun k h1 => ?_)).symm⟩
  rw [hn, bvl_d8 l k (by omega), hg k h1]
theorem nbA_first (n : Nat) (h : 0 < (nbA n).size) : ((nbA n)[0]'h).toNat ≠ 0 := by
  rw [nbA_get]
  rw [nbA_size] at h
  exact nl_top n (fun e => by rw [e, nl_zero] at h; omega)

theorem d8_nl (n i : Nat) (hi : nl n ≤ i) : d8 n i = 0 := d8_high (nl_lt n) hi
end Go.Proofs.YtpdehipeakcaiaaGreatDoor.WMath
namespace Go.Proofs.YtpdehipeakcaiaaGreatDoor.WMath
set_option maxRecDepth 100000
set_option maxHeartbeats 40000000
set_option maxRecDepth 100000

end Go.Proofs.YtpdehipeakcaiaaGreatDoor.WMath
namespace Go.Proofs.YtpdehipeakcaiaaGreatDoor
set_option maxRecDepth 100000
set_option maxHeartbeats 40000000
set_option maxRecDepth 100000
open Go.RowKit WMath
theorem hide {p : Prop} (h : p) : Hid p := h
theorem int_eq {k : IntKind} {a b : Int} (h : a = b) : Value.int k a = .int k b := by rw [h]
theorem ret_bool {a b : Bool} (h : a = b) : Ending.returned (.bool a) = .returned (.bool b) := by rw [h]
theorem ret_int {k : IntKind} {a b : Int} (h : a = b) : Ending.returned (.int k a) = .returned (.int k b) := by rw [h]
theorem ret_ib {k : IntKind} {a a' : Int} {b b' : Bool} (h : a = a') (h2 : b = b') : Ending.returned (.tuple #[.int k a, .bool b]) = .returned (.tuple #[.int k a', .bool b']) := by rw [h, h2]
theorem dec_eq {p q : Prop} [Decidable p] [Decidable q] (h : p ↔ q) : decide p = decide q := by simp [h]
theorem dec_or {p q : Prop} [Decidable p] [Decidable q] {x : Int} (h : p ∨ x = 0 ↔ q) : (decide p || x == 0) = decide q := by
  rw [Bool.eq_iff_iff]; simp [← h]
theorem dec_tt {q : Prop} [Decidable q] (h : q) : true = decide q := by simp [h]

theorem pow_cast (k : Nat) : (2 : Int) ^ k = ((2 ^ k : Nat) : Int) := by simp
theorem div_cast (x k : Nat) : (x : Int) / 2 ^ k = ((x / 2 ^ k : Nat) : Int) := by simp

theorem wrap_nat (n : Nat) (h : n < 18446744073709551616) : IntKind.u64.wrap (n : Int) = (n : Int) := by rw [IntKind.wrap_u64]; omega
theorem or_pow_i (S k : Nat) (hk : k < 64) (hS : S < 2 ^ k) : bits .or .u64 (S : Int) (IntKind.u64.wrap (2 ^ k)) = ((S + 2 ^ k : Nat) : Int) := by
  have h1 := pow_lt_64 k hk
  rw [pow_cast, wrap_nat _ h1, bits_or_u64_nat S _ (by omega) h1, or_pow S k hS]

theorem bit_any (x k : Nat) (hx : x < 18446744073709551616) (hk : k < 64) (w : World) :
    Calls Tryz.prog 48 #[.int .u64 x, .int .i64 k] w fun e w' => e = .returned (.bool (x.testBit k)) ∧ w' = w := by
  have h1 : x / 2 ^ k < 18446744073709551616 := Nat.lt_of_le_of_lt (Nat.div_le_self _ _) hx
  have H1 : Hid (bits .and .u64 ((x : Int) / 2 ^ k) 1 = ((x / 2 ^ k &&& 1 : Nat) : Int)) := by
    have := bits_and_u64_nat (x / 2 ^ k) 1 h1 (by omega)
    rw [← div_cast] at this
    exact this
  go_enter Tryz.func48, Tryz.ntmps48
  go_wp2
  go_ret
  refine ⟨ret_bool ?_, rfl⟩
  rw [H1.out, ← bit_and, Bool.eq_iff_iff]
  simp only [beq_iff_eq]
  omega

theorem add_any (a b : Nat) (c : Bool) (ha : a < 18446744073709551616) (hb : b < 18446744073709551616) (w : World) :
    Calls Tryz.prog 99 #[.int .u64 a, .int .u64 b, .bool c] w fun e w' => e = .returned (.tuple #[.int .u64 ((a + b + c.toNat) % 18446744073709551616 : Nat), .bool (decide (18446744073709551616 ≤ a + b + c.toNat))]) ∧ w' = w := by
  cases c
  · go_enter Tryz.func99, Tryz.ntmps99
    go_wp2
    go_ret2
    refine ⟨ret_ib ?_ (dec_eq ?_), rfl⟩ <;> rw [IntKind.wrap_u64, Bool.toNat_false] <;> omega
  · go_enter Tryz.func99, Tryz.ntmps99
    go_wp2
    all_goals go_ret2
    · refine ⟨ret_ib ?_ (dec_or ?_), rfl⟩ <;> rw [IntKind.wrap_u64, IntKind.wrap_u64, Bool.toNat_true] <;> omega
    · rename_i h
      rw [IntKind.wrap_u64] at h
      refine ⟨ret_ib ?_ (dec_tt ?_), rfl⟩
      · rw [IntKind.wrap_u64, IntKind.wrap_u64]; omega
      · omega

theorem sub_any (a b : Nat) (c : Bool) (ha : a < 18446744073709551616) (hb : b < 18446744073709551616) (w : World) :
    Calls Tryz.prog 141 #[.int .u64 a, .int .u64 b, .bool c] w fun e w' => e = .returned (.tuple #[.int .u64 ((a + 18446744073709551616 - b - c.toNat) % 18446744073709551616 : Nat), .bool (decide (a < b + c.toNat))]) ∧ w' = w := by
  cases c
  · go_enter Tryz.func141, Tryz.ntmps141
    go_wp2
    go_ret2
    refine ⟨ret_ib ?_ (dec_eq ?_), rfl⟩ <;> rw [IntKind.wrap_u64, Bool.toNat_false] <;> omega
  · go_enter Tryz.func141, Tryz.ntmps141
    go_wp2
    all_goals go_ret2
    · refine ⟨ret_ib ?_ (dec_or ?_), rfl⟩
      · rw [IntKind.wrap_u64, IntKind.wrap_u64, Bool.toNat_true]; omega
      · rw [IntKind.wrap_u64, Bool.toNat_true]; omega
    · rename_i h
      rw [IntKind.wrap_u64] at h
      refine ⟨ret_ib ?_ (dec_tt ?_), rfl⟩
      · rw [IntKind.wrap_u64, IntKind.wrap_u64]; omega
      · omega

theorem radd_any (a b : Nat) (c : Bool) (ha : a < 18446744073709551616) (hb : b < 18446744073709551616) (w : World) :
    Calls Tryz.prog 140 #[.int .u64 a, .int .u64 b, .bool c] w fun e w' => e = .returned (.tuple #[.int .u64 ((a + b + c.toNat) % 18446744073709551616 : Nat), .bool (decide (18446744073709551616 ≤ a + b + c.toNat))]) ∧ w' = w := by
  go_enter Tryz.func140, Tryz.ntmps140
  go_wp2
  go_loop [8, 9, 2] (fun s i cc => ∃ (k S : Nat) (C : Bool), k ≤ 64 ∧ i = .int .i64 k ∧ s = .int .u64 S ∧ cc = .bool C ∧ S < 2 ^ k ∧ S + 2 ^ k * C.toNat = a % 2 ^ k + b % 2 ^ k + c.toNat) (fun _ i _ => 64 - (intOf i).toNat)
  case atStart => exact ⟨0, 0, c, by omega, rfl, rfl, rfl, by decide, by simp [Nat.mod_one]⟩
  case round =>
    obtain ⟨k, S, C, hk, rfl, rfl, rfl, hS, hE⟩ := hrel
    have HE : Hid (S + 2 ^ k * C.toNat = a % 2 ^ k + b % 2 ^ k + c.toNat) := hE
    clear hE
    by_cases hlt : k < 64
    · have st := add_step a b S k c.toNat C hS HE.out
      cases hx : a.testBit k <;> cases hy : b.testBit k <;> cases C
      all_goals
        go_wp2_with (go_at_call 48; refine (bit_any _ _ ?_ ?_ _).mono ?_; assumption; assumption; rintro e w' ⟨rfl, rfl⟩)
        go_round
        case rel =>
          rw [hx, hy] at st
          first
            | exact ⟨k + 1, S, _, by omega, by go_num, rfl, rfl, st.1, st.2⟩
            | exact ⟨k + 1, S + 2 ^ k, _, by omega, by go_num, int_eq (or_pow_i S k hlt hS), rfl, st.1, st.2⟩
        case measure => simp [intOf]; omega
    · go_wp2
      go_ret2
      obtain rfl : k = 64 := by omega
      have hE := HE.out
      rw [← two64, Nat.mod_eq_of_lt ha, Nat.mod_eq_of_lt hb] at hE
      rw [← two64] at hS
      have he := add_end a b S C c hS hE
      exact ⟨ret_ib (by have := he.1; omega) he.2, rfl⟩
def cnt (n : Int) : Nat := min n.toNat 64
def ext (n : Int) : Nat := max (cnt n) 1
theorem cnt_le (n : Int) : cnt n ≤ 64 := by unfold cnt; omega
theorem ext_le (n : Int) : ext n ≤ 64 := by unfold ext cnt; omega
theorem ext_pos (n : Int) : 1 ≤ ext n := by unfold ext cnt; omega
theorem cnt_small (k : Nat) (h : k < 64) : cnt (k : Int) = k := by unfold cnt; omega
theorem count_any (n : Int) (w : World) :
    Calls Tryz.prog 136 #[.int .i64 n] w fun e w' => e = .returned (.int .u64 (cnt n : Nat)) ∧ w' = w := by
  go_enter Tryz.func136, Tryz.ntmps136
  go_wp2
  all_goals go_ret
  all_goals rename_i h1
  all_goals exact ⟨ret_int (by unfold cnt; split at h1 <;> omega), rfl⟩

theorem rcount_any (n : Int) (w : World) :
    Calls Tryz.prog 46 #[.int .i64 n] w fun e w' => e = .returned (.int .i64 (cnt n : Nat)) ∧ w' = w := by
  go_enter Tryz.func46, Tryz.ntmps46
  go_wp2
  all_goals go_ret
  all_goals exact ⟨ret_int (by unfold cnt; omega), rfl⟩

theorem left_any (x : Nat) (n : Int) (w : World) :
    Calls Tryz.prog 118 #[.int .u64 x, .int .i64 n] w fun e w' => e = .returned (.int .u64 (x * 2 ^ cnt n % 18446744073709551616 : Nat)) ∧ w' = w := by
  have hc := cnt_le n
  go_enter Tryz.func118, Tryz.ntmps118
  go_wp2_with (go_at_call 136; refine (count_any _ _).mono ?_; rintro e w' ⟨rfl, rfl⟩)
  go_ret
  exact ⟨ret_int (by rw [IntKind.wrap_u64]; simp), rfl⟩

theorem right_any (x : Nat) (n : Int) (w : World) :
    Calls Tryz.prog 119 #[.int .u64 x, .int .i64 n] w fun e w' => e = .returned (.int .u64 (x / 2 ^ cnt n : Nat)) ∧ w' = w := by
  have hc := cnt_le n
  go_enter Tryz.func119, Tryz.ntmps119
  go_wp2_with (go_at_call 136; refine (count_any _ _).mono ?_; rintro e w' ⟨rfl, rfl⟩)
  go_ret
  exact ⟨ret_int (by simp), rfl⟩

theorem rleft_any (x : Nat) (n : Int) (hx : x < 18446744073709551616) (w : World) :
    Calls Tryz.prog 84 #[.int .u64 x, .int .i64 n] w fun e w' => e = .returned (.int .u64 (x * 2 ^ cnt n % 18446744073709551616 : Nat)) ∧ w' = w := by
  have hc := cnt_le n
  have h0 : Hid (x = x * 2 ^ 0 % 18446744073709551616) := by show x = _; rw [Nat.pow_zero, Nat.mul_one, Nat.mod_eq_of_lt hx]
  go_enter Tryz.func84, Tryz.ntmps84
  go_wp2_with (go_at_call 46; refine (rcount_any _ _).mono ?_; rintro e w' ⟨rfl, rfl⟩)
  go_loop [0, 5] (fun v i => ∃ k X : Nat, k ≤ cnt n ∧ i = .int .i64 (cnt n - k : Nat) ∧ v = .int .u64 X ∧ Hid (X = x * 2 ^ k % 18446744073709551616)) (fun _ i => (intOf i).toNat)
  case atStart => exact ⟨0, x, by omega, rfl, rfl, h0⟩
  case round =>
    obtain ⟨k, X, hk, rfl, rfl, HX⟩ := hrel
    by_cases hlt : k < cnt n
    · go_wp2
      go_round
      case rel => exact ⟨k + 1, X * 2 % 18446744073709551616, by omega, int_eq (by omega), int_eq (by rw [IntKind.wrap_u64]; omega), mul_mod_step x k X HX.out⟩
      case measure => simp [intOf]; omega
    · go_wp2
      go_ret
      obtain rfl : k = cnt n := by omega
      exact ⟨ret_int (by rw [HX.out]; simp), rfl⟩

theorem rright_any (x : Nat) (n : Int) (hx : x < 18446744073709551616) (w : World) :
    Calls Tryz.prog 49 #[.int .u64 x, .int .i64 n] w fun e w' => e = .returned (.int .u64 (x / 2 ^ cnt n : Nat)) ∧ w' = w := by
  have hc := cnt_le n
  have h0 : Hid (x = x / 2 ^ 0) := by show x = _; rw [Nat.pow_zero, Nat.div_one]
  go_enter Tryz.func49, Tryz.ntmps49
  go_wp2_with (go_at_call 46; refine (rcount_any _ _).mono ?_; rintro e w' ⟨rfl, rfl⟩)
  go_loop [0, 5] (fun v i => ∃ k X : Nat, k ≤ cnt n ∧ i = .int .i64 (cnt n - k : Nat) ∧ v = .int .u64 X ∧ X < 18446744073709551616 ∧ Hid (X = x / 2 ^ k)) (fun _ i => (intOf i).toNat)
  case atStart => exact ⟨0, x, by omega, rfl, rfl, hx, h0⟩
  case round =>
    obtain ⟨k, X, hk, rfl, rfl, hX, HX⟩ := hrel
    by_cases hlt : k < cnt n
    · go_wp2
      go_round
      case rel => exact ⟨k + 1, X / 2, by omega, int_eq (by omega), int_eq (by omega), by omega, div_step2 x k X HX.out⟩
      case measure => simp [intOf]; omega
    · go_wp2
      go_ret
      obtain rfl : k = cnt n := by omega
      exact ⟨ret_int (by rw [HX.out]; simp), rfl⟩

theorem left1_any (n : Int) (w : World) :
    Calls Tryz.prog 118 #[.int .u64 1, .int .i64 n] w fun e w' => e = .returned (.int .u64 (2 ^ cnt n % 18446744073709551616 : Nat)) ∧ w' = w := by
  have h := left_any 1 n w
  rw [Nat.one_mul] at h
  exact h
theorem rleft1_any (n : Int) (w : World) :
    Calls Tryz.prog 84 #[.int .u64 1, .int .i64 n] w fun e w' => e = .returned (.int .u64 (2 ^ cnt n % 18446744073709551616 : Nat)) ∧ w' = w := by
  have h := rleft_any 1 n (by omega) w
  rw [Nat.one_mul] at h
  exact h

theorem mask_wrap (c : Nat) (h : c ≤ 64) : IntKind.u64.wrap (((2 ^ c % 18446744073709551616 : Nat) : Int) - 1) = ((2 ^ c - 1 : Nat) : Int) := by
  rw [IntKind.wrap_u64]
  have hp := Nat.two_pow_pos c
  rcases (by omega : c = 64 ∨ c < 64) with rfl | h2
  · rw [← two64]; omega
  · have := pow_lt_64 c h2
    omega

theorem mask_any (n : Int) (w : World) :
    Calls Tryz.prog 137 #[.int .i64 n] w fun e w' => e = .returned (.int .u64 (2 ^ cnt n - 1 : Nat)) ∧ w' = w := by
  have hc := cnt_le n
  go_enter Tryz.func137, Tryz.ntmps137
  go_wp2_with (go_at_call 118; refine (left1_any _ _).mono ?_; rintro e w' ⟨rfl, rfl⟩)
  go_ret
  exact ⟨ret_int (mask_wrap _ hc), rfl⟩
theorem rmask_any (n : Int) (w : World) :
    Calls Tryz.prog 47 #[.int .i64 n] w fun e w' => e = .returned (.int .u64 (2 ^ cnt n - 1 : Nat)) ∧ w' = w := by
  have hc := cnt_le n
  go_enter Tryz.func47, Tryz.ntmps47
  go_wp2_with (go_at_call 84; refine (rleft1_any _ _).mono ?_; rintro e w' ⟨rfl, rfl⟩)
  go_ret
  exact ⟨ret_int (mask_wrap _ hc), rfl⟩

theorem and_mask (x c : Nat) (hx : x < 18446744073709551616) (h : c ≤ 64) : bits .and .u64 (x : Int) ((2 ^ c - 1 : Nat) : Int) = ((x % 2 ^ c : Nat) : Int) := by
  rw [bits_and_u64_nat _ _ hx (mask_lt c h), Nat.and_two_pow_sub_one_eq_mod]

theorem field_any (x : Nat) (low n : Int) (hx : x < 18446744073709551616) (w : World) :
    Calls Tryz.prog 124 #[.int .u64 x, .int .i64 low, .int .i64 n] w fun e w' => e = .returned (.int .u64 (x / 2 ^ cnt low % 2 ^ cnt n : Nat)) ∧ w' = w := by
  have hc := cnt_le n
  have hl := cnt_le low
  have h1 : x / 2 ^ cnt low < 18446744073709551616 := Nat.lt_of_le_of_lt (Nat.div_le_self _ _) hx
  go_enter Tryz.func124, Tryz.ntmps124
  go_wp2_with (first | (go_at_call 136; refine (count_any _ _).mono ?_; rintro e w' ⟨rfl, rfl⟩) | (go_at_call 137; refine (mask_any _ _).mono ?_; rintro e w' ⟨rfl, rfl⟩))
  go_ret
  exact ⟨ret_int (by rw [div_cast]; exact and_mask _ _ h1 hc), rfl⟩
theorem rfield_any (x : Nat) (low n : Int) (hx : x < 18446744073709551616) (w : World) :
    Calls Tryz.prog 19 #[.int .u64 x, .int .i64 low, .int .i64 n] w fun e w' => e = .returned (.int .u64 (x / 2 ^ cnt low % 2 ^ cnt n : Nat)) ∧ w' = w := by
  have hc := cnt_le n
  have h1 : x / 2 ^ cnt low < 18446744073709551616 := Nat.lt_of_le_of_lt (Nat.div_le_self _ _) hx
  go_enter Tryz.func19, Tryz.ntmps19
  go_wp2_with (first | (go_at_call 49; refine (rright_any _ _ hx _).mono ?_; rintro e w' ⟨rfl, rfl⟩) | (go_at_call 47; refine (rmask_any _ _).mono ?_; rintro e w' ⟨rfl, rfl⟩))
  go_ret
  exact ⟨ret_int (and_mask _ _ h1 hc), rfl⟩

theorem not_num (x c e : Nat) (hc : c = e) (hx : x < 18446744073709551616) (h2 : e ≤ 64) :
    bits .or .u64 (bits .and .u64 (x : Int) ((2 ^ c - 1 : Nat) : Int)) (bits .xor .u64 18446744073709551615 ((2 ^ c - 1 : Nat) : Int)) = ((x % 2 ^ e + (18446744073709551616 - 2 ^ e) : Nat) : Int) := by
  subst hc
  have hq := pow_le_64 c h2
  have hp := Nat.two_pow_pos c
  have hl : x % 2 ^ c < 2 ^ c := Nat.mod_lt _ hp
  have hm : (18446744073709551615 ^^^ (2 ^ c - 1) : Nat) = 18446744073709551616 - 2 ^ c := by
    have e1 : 18446744073709551616 - 2 ^ c = 2 ^ c * (2 ^ (64 - c) - 1) := by
      rw [Nat.mul_sub, ← Nat.pow_add, Nat.mul_one, Nat.add_sub_cancel' h2, ← two64]
    have e2 := Nat.two_pow_add_eq_or_of_lt (i := c) (b := 2 ^ c - 1) (by omega) (2 ^ (64 - c) - 1)
    have e3 : (18446744073709551615 : Nat) = 2 ^ 64 - 1 := by rw [← two64]
    apply Nat.eq_of_testBit_eq
    intro i
    rw [Nat.testBit_xor, e3, Nat.testBit_two_pow_sub_one, Nat.testBit_two_pow_sub_one, e1, Nat.testBit_two_pow_mul, Nat.testBit_two_pow_sub_one, Bool.eq_iff_iff]
    simp
    omega
  have hx' := bits_xor_u64_nat 18446744073709551615 (2 ^ c - 1) (by omega) (mask_lt c h2)
  rw [hm] at hx'
  have hx2 : bits .xor .u64 18446744073709551615 ((2 ^ c - 1 : Nat) : Int) = ((18446744073709551616 - 2 ^ c : Nat) : Int) := hx'
  rw [hx2, and_mask _ _ hx h2, bits_or_u64_nat _ _ (by omega) (by omega), sx_or _ _ h2]

theorem sx_tt (x e : Nat) (h : x.testBit (e - 1) = true) : sx x e = x % 2 ^ e + (18446744073709551616 - 2 ^ e) := by unfold sx; rw [if_pos h]
theorem sx_ff (x e : Nat) (h : x.testBit (e - 1) = false) : sx x e = x % 2 ^ e := by unfold sx; rw [h]; rfl
theorem and_num (x c e : Nat) (hc : c = e) (hx : x < 18446744073709551616) (h2 : e ≤ 64) : bits .and .u64 (x : Int) ((2 ^ c - 1 : Nat) : Int) = ((x % 2 ^ e : Nat) : Int) := by
  subst hc; exact and_mask _ _ hx h2

theorem rextend_any (x : Nat) (n : Int) (hx : x < 18446744073709551616) (w : World) :
    Calls Tryz.prog 18 #[.int .u64 x, .int .i64 n] w fun e w' => e = .returned (.int .u64 (sx x (ext n) : Nat)) ∧ w' = w := by
  have hc := ext_le n
  have hcc := cnt_le n
  have h1 := ext_pos n
  have hb : ∀ (i : Int) (w : World), i = ((ext n - 1 : Nat) : Int) → Calls Tryz.prog 48 #[.int .u64 x, .int .i64 i] w fun e w' => e = .returned (.bool (x.testBit (ext n - 1))) ∧ w' = w := by
    intro i w h
    rw [h]
    exact bit_any x _ hx (by omega) w
  cases ht : x.testBit (ext n - 1)
  · go_enter Tryz.func18, Tryz.ntmps18
    go_wp2_with (first | (go_at_call 46; refine (rcount_any _ _).mono ?_; rintro e w' ⟨rfl, rfl⟩) | (go_at_call 47; refine (rmask_any _ _).mono ?_; rintro e w' ⟨rfl, rfl⟩) | (go_at_call 48; refine (hb _ _ ?_).mono ?_; (unfold ext; omega); rintro e w' ⟨rfl, rfl⟩))
    all_goals go_ret
    all_goals exact ⟨ret_int (by rw [sx_ff _ _ ht]; exact and_num _ _ _ (by unfold ext cnt at *; omega) hx hc), rfl⟩
  · go_enter Tryz.func18, Tryz.ntmps18
    go_wp2_with (first | (go_at_call 46; refine (rcount_any _ _).mono ?_; rintro e w' ⟨rfl, rfl⟩) | (go_at_call 47; refine (rmask_any _ _).mono ?_; rintro e w' ⟨rfl, rfl⟩) | (go_at_call 48; refine (hb _ _ ?_).mono ?_; (unfold ext; omega); rintro e w' ⟨rfl, rfl⟩))
    all_goals go_ret
    all_goals exact ⟨ret_int (by rw [sx_tt _ _ ht]; exact not_num _ _ _ (by unfold ext cnt at *; omega) hx hc), rfl⟩
theorem fold_len : (⟨(((List.append (List.append [0, 1, 2, 2, 3, 3, 3, 3, 4, 4, 4, 4, 4, 4, 4, 4, 5, 5, 5, 5, 5, 5, 5, 5, 5, 5, 5, 5, 5, 5, 5, 5, 6, 6, 6, 6, 6, 6, 6, 6, 6, 6, 6, 6, 6, 6, 6, 6, 6, 6, 6, 6, 6, 6, 6, 6, 6, 6, 6, 6, 6, 6, 6, 6] [7, 7, 7, 7, 7, 7, 7, 7, 7, 7, 7, 7, 7, 7, 7, 7, 7, 7, 7, 7, 7, 7, 7, 7, 7, 7, 7, 7, 7, 7, 7, 7, 7, 7, 7, 7, 7, 7, 7, 7, 7, 7, 7, 7, 7, 7, 7, 7, 7, 7, 7, 7, 7, 7, 7, 7, 7, 7, 7, 7, 7, 7, 7, 7]) (List.append [8, 8, 8, 8, 8, 8, 8, 8, 8, 8, 8, 8, 8, 8, 8, 8, 8, 8, 8, 8, 8, 8, 8, 8, 8, 8, 8, 8, 8, 8, 8, 8, 8, 8, 8, 8, 8, 8, 8, 8, 8, 8, 8, 8, 8, 8, 8, 8, 8, 8, 8, 8, 8, 8, 8, 8, 8, 8, 8, 8, 8, 8, 8, 8] [8, 8, 8, 8, 8, 8, 8, 8, 8, 8, 8, 8, 8, 8, 8, 8, 8, 8, 8, 8, 8, 8, 8, 8, 8, 8, 8, 8, 8, 8, 8, 8, 8, 8, 8, 8, 8, 8, 8, 8, 8, 8, 8, 8, 8, 8, 8, 8, 8, 8, 8, 8, 8, 8, 8, 8, 8, 8, 8, 8, 8, 8, 8, 8])) : List UInt8).toArray)⟩ : ByteArray) = Lib.len8tab := by decide +kernel

theorem len_fact {P : Program} (w : World) (t : TypeId) (i : Int) (h : P.underlying t = some .string) (h0 : 0 ≤ i) (h1 : i ≤ 255) :
    (Instr.index t (.string Lib.len8tab) (.int .u8 i)).run P w = .ok (.int .u8 (Lib.bitLen i.toNat : Nat)) w := by
  rw [Lib.run_index_len8tab w t .u8 i h h0 h1, Lib.len8_of i h0 h1]

set_option maxHeartbeats 4000000 in
set_option maxRecDepth 100000 in
theorem len64_int (x : Int) (h0 : 0 ≤ x) (h1 : x ≤ 18446744073709551615) (w : World) :
    Calls Tryz.prog 117 #[.int .u64 x] w fun e w' => e = .returned (.int .i64 (Lib.bitLen x.toNat : Nat)) ∧ w' = w := by
  go_enter Tryz.func117, Tryz.ntmps117
  rw [fold_len]
  by_cases c1 : 4294967296 ≤ x
  · by_cases c2 : 65536 ≤ x / 4294967296
    · by_cases c3 : 256 ≤ x / 4294967296 / 65536
      · have hx : ∀ w, (Instr.index 9 (.string Lib.len8tab) (.int .u8 (x / 4294967296 / 65536 / 256))).run Tryz.prog w = .ok (.int .u8 (Lib.bitLen (x / 4294967296 / 65536 / 256).toNat : Nat)) w := fun w => len_fact w 9 (x / 4294967296 / 65536 / 256) Tryz.underlying9 (by omega) (by omega)
        have l := Lib.bitLen_le8' (x / 4294967296 / 65536 / 256) (by omega) (by omega)
        have s := hide (Lib.bitLen_shift56 x.toNat (by omega) (by omega))
        have e := hide (show (x / 4294967296 / 65536 / 256).toNat = x.toNat / 72057594037927936 by omega)
        go_wp2
        go_ret
        exact ⟨ret_int (by have := s.out; have := e.out; rw [s.out, e.out]; omega), rfl⟩
      · have hx : ∀ w, (Instr.index 9 (.string Lib.len8tab) (.int .u8 (x / 4294967296 / 65536))).run Tryz.prog w = .ok (.int .u8 (Lib.bitLen (x / 4294967296 / 65536).toNat : Nat)) w := fun w => len_fact w 9 (x / 4294967296 / 65536) Tryz.underlying9 (by omega) (by omega)
        have l := Lib.bitLen_le8' (x / 4294967296 / 65536) (by omega) (by omega)
        have s := hide (Lib.bitLen_shift48 x.toNat (by omega) (by omega))
        have e := hide (show (x / 4294967296 / 65536).toNat = x.toNat / 281474976710656 by omega)
        go_wp2
        go_ret
        exact ⟨ret_int (by have := s.out; have := e.out; rw [s.out, e.out]; omega), rfl⟩
    · by_cases c3 : 256 ≤ x / 4294967296
      · have hx : ∀ w, (Instr.index 9 (.string Lib.len8tab) (.int .u8 (x / 4294967296 / 256))).run Tryz.prog w = .ok (.int .u8 (Lib.bitLen (x / 4294967296 / 256).toNat : Nat)) w := fun w => len_fact w 9 (x / 4294967296 / 256) Tryz.underlying9 (by omega) (by omega)
        have l := Lib.bitLen_le8' (x / 4294967296 / 256) (by omega) (by omega)
        have s := hide (Lib.bitLen_shift40 x.toNat (by omega) (by omega))
        have e := hide (show (x / 4294967296 / 256).toNat = x.toNat / 1099511627776 by omega)
        go_wp2
        go_ret
        exact ⟨ret_int (by have := s.out; have := e.out; rw [s.out, e.out]; omega), rfl⟩
      · have hx : ∀ w, (Instr.index 9 (.string Lib.len8tab) (.int .u8 (x / 4294967296))).run Tryz.prog w = .ok (.int .u8 (Lib.bitLen (x / 4294967296).toNat : Nat)) w := fun w => len_fact w 9 (x / 4294967296) Tryz.underlying9 (by omega) (by omega)
        have l := Lib.bitLen_le8' (x / 4294967296) (by omega) (by omega)
        have s := hide (Lib.bitLen_shift32 x.toNat (by omega) (by omega))
        have e := hide (show (x / 4294967296).toNat = x.toNat / 4294967296 by omega)
        go_wp2
        go_ret
        exact ⟨ret_int (by have := s.out; have := e.out; rw [s.out, e.out]; omega), rfl⟩
  · by_cases c2 : 65536 ≤ x
    · by_cases c3 : 256 ≤ x / 65536
      · have hx : ∀ w, (Instr.index 9 (.string Lib.len8tab) (.int .u8 (x / 65536 / 256))).run Tryz.prog w = .ok (.int .u8 (Lib.bitLen (x / 65536 / 256).toNat : Nat)) w := fun w => len_fact w 9 (x / 65536 / 256) Tryz.underlying9 (by omega) (by omega)
        have l := Lib.bitLen_le8' (x / 65536 / 256) (by omega) (by omega)
        have s := hide (Lib.bitLen_shift24 x.toNat (by omega) (by omega))
        have e := hide (show (x / 65536 / 256).toNat = x.toNat / 16777216 by omega)
        go_wp2
        go_ret
        exact ⟨ret_int (by have := s.out; have := e.out; rw [s.out, e.out]; omega), rfl⟩
      · have hx : ∀ w, (Instr.index 9 (.string Lib.len8tab) (.int .u8 (x / 65536))).run Tryz.prog w = .ok (.int .u8 (Lib.bitLen (x / 65536).toNat : Nat)) w := fun w => len_fact w 9 (x / 65536) Tryz.underlying9 (by omega) (by omega)
        have l := Lib.bitLen_le8' (x / 65536) (by omega) (by omega)
        have s := hide (Lib.bitLen_shift16 x.toNat (by omega) (by omega))
        have e := hide (show (x / 65536).toNat = x.toNat / 65536 by omega)
        go_wp2
        go_ret
        exact ⟨ret_int (by have := s.out; have := e.out; rw [s.out, e.out]; omega), rfl⟩
    · by_cases c3 : 256 ≤ x
      · have hx : ∀ w, (Instr.index 9 (.string Lib.len8tab) (.int .u8 (x / 256))).run Tryz.prog w = .ok (.int .u8 (Lib.bitLen (x / 256).toNat : Nat)) w := fun w => len_fact w 9 (x / 256) Tryz.underlying9 (by omega) (by omega)
        have l := Lib.bitLen_le8' (x / 256) (by omega) (by omega)
        have s := hide (Lib.bitLen_shift8 x.toNat (by omega) (by omega))
        have e := hide (show (x / 256).toNat = x.toNat / 256 by omega)
        go_wp2
        go_ret
        exact ⟨ret_int (by have := s.out; have := e.out; rw [s.out, e.out]; omega), rfl⟩
      · have hx : ∀ w, (Instr.index 9 (.string Lib.len8tab) (.int .u8 (x))).run Tryz.prog w = .ok (.int .u8 (Lib.bitLen (x).toNat : Nat)) w := fun w => len_fact w 9 (x) Tryz.underlying9 (by omega) (by omega)
        have l := Lib.bitLen_le8' (x) (by omega) (by omega)
        go_wp2
        go_ret
        exact ⟨ret_int (by omega), rfl⟩

theorem len64_any (x : Nat) (hx : x < 18446744073709551616) (w : World) :
    Calls Tryz.prog 117 #[.int .u64 x] w fun e w' => e = .returned (.int .i64 (Lib.bitLen x : Nat)) ∧ w' = w := by
  have h := len64_int (x : Int) (by omega) (by omega) w
  rw [Int.toNat_natCast] at h
  exact h

theorem len_any (x : Nat) (hx : x < 18446744073709551616) (w : World) :
    Calls Tryz.prog 85 #[.int .u64 x] w fun e w' => e = .returned (.int .i64 (Lib.bitLen x : Nat)) ∧ w' = w := by
  go_enter Tryz.func85, Tryz.ntmps85
  go_wp2_with (go_at_call 117; refine (len64_any _ hx _).mono ?_; rintro e w' ⟨rfl, rfl⟩)
  go_ret
  exact ⟨rfl, rfl⟩

end Go.Proofs.YtpdehipeakcaiaaGreatDoor
namespace Go.Proofs.YtpdehipeakcaiaaGreatDoor.WMath
set_option maxRecDepth 100000
set_option maxHeartbeats 40000000
set_option maxRecDepth 100000
def mask8 (c : Nat) : Nat → Nat
  | 0 => 0
  | n + 1 => c + 256 * mask8 c n
def fC (n x : Nat) : Nat := (x / 16 + x) &&& mask8 15 n
def sA (b : Nat) : Nat := ((b / 2) &&& 85) + (b &&& 85)
theorem t1 : ∀ b : Fin 256, ∀ c : Fin 2, ((b.val / 2 + 128 * c.val) &&& 85) = (b.val / 2 &&& 85) := by decide +kernel
theorem t2 : ∀ b : Fin 256, ∀ c : Fin 4, ((b.val / 4 + 64 * c.val) &&& 51) = (b.val / 4 &&& 51) := by decide +kernel
theorem sA_lt : ∀ b : Fin 256, sA b.val < 256 := by decide +kernel
end Go.Proofs.YtpdehipeakcaiaaGreatDoor.WMath
