/-
  What the functions that the statement reaches return: part 1 (Mx, Word1, Word2, Word5, Pop, Wide0, Wide1, Wide2, Wide3, Quiet2).
-/
import Derived.Laws.MathBits
import Derived.Laws.Bits64b
import Derived.Laws.BitsAllLaws
import Derived.Laws.ShiftsVarLaws
import Derived.WalkKit
import Derived.ProofKit
import Derived.Lib.BitFns
import Derived.Test.YtpdehipeakcaiaaDoorRows
import Derived.WalkLawsBesides
import Derived.ScopeJumps
import Derived.Deep.WholeRow
import Derived.Below
import Derived.Lib.TrailingZeros
import Derived.Deep.RegionWith
import Derived.Deep.QuietTactic
import Derived.BigQuiet
import Derived.ChangeKeysEq
namespace Go.Proofs.YtpdehipeakcaiaaDoor.WMath
set_option maxRecDepth 100000
set_option maxHeartbeats 40000000
set_option maxRecDepth 100000
theorem testBit_toNat (x k : Nat) : (x.testBit k).toNat = x / 2 ^ k % 2 := by
  rw [Nat.testBit_eq_decide_div_mod_eq]
  have : x / 2 ^ k % 2 = 0 ∨ x / 2 ^ k % 2 = 1 := by omega
  rcases this with h | h <;> simp [h]

theorem mod_succ (x k : Nat) : x % 2 ^ (k + 1) = x % 2 ^ k + 2 ^ k * (x.testBit k).toNat := by
  rw [testBit_toNat, Nat.mod_pow_succ]

theorem or_one (s : Nat) (h : s % 2 = 0) : s ||| 1 = s + 1 := by
  have := Nat.two_pow_add_eq_or_of_lt (i := 1) (b := 1) (by decide) (s / 2)
  have e : 2 ^ 1 * (s / 2) = s := by omega
  rw [e] at this
  exact this.symm

theorem two64 : (18446744073709551616 : Nat) = 2 ^ 64 := by decide
theorem pow_lt_64 (k : Nat) (h : k < 64) : 2 ^ k < 18446744073709551616 := by
  rw [two64]; exact Nat.pow_lt_pow_right (by decide) h
theorem pow_le_64 (k : Nat) (h : k ≤ 64) : 2 ^ k ≤ 18446744073709551616 := by
  rw [two64]; exact Nat.pow_le_pow_right (by decide) h

def sx (x e : Nat) : Nat := if x.testBit (e - 1) then x % 2 ^ e + (18446744073709551616 - 2 ^ e) else x % 2 ^ e

theorem mask_lt (c : Nat) (h : c ≤ 64) : 2 ^ c - 1 < 18446744073709551616 := by
  have := pow_le_64 c h
  have := Nat.two_pow_pos c
  omega

end Go.Proofs.YtpdehipeakcaiaaDoor.WMath
namespace Go.Proofs.YtpdehipeakcaiaaDoor.WMath
set_option maxRecDepth 100000
set_option maxHeartbeats 40000000
set_option maxRecDepth 100000

def Box (p : Prop) : Prop := p ∨ False
theorem box {p : Prop} (h : p) : Box p := Or.inl h
theorem Box.out {p : Prop} (h : Box p) : p := h.elim id False.elim

def wd (n k : Nat) : Nat := n / 2 ^ (64 * k) % 18446744073709551616
theorem wd_lt (n k : Nat) : wd n k < 18446744073709551616 := Nat.mod_lt _ (by decide)
theorem wd_bit (n k j : Nat) : (wd n k).testBit j = (decide (j < 64) && n.testBit (64 * k + j)) := by
  unfold wd
  rw [two64, Nat.testBit_mod_two_pow, Nat.testBit_div_two_pow, Nat.add_comm j]
theorem wd_zero (k : Nat) : wd 0 k = 0 := by unfold wd; rw [Nat.zero_div, Nat.zero_mod]

theorem bit_of_wd (n i : Nat) : n.testBit i = (wd n (i / 64)).testBit (i % 64) := by
  rw [wd_bit, Nat.div_add_mod]
  simp [Nat.mod_lt]

theorem lt_bit {n q i : Nat} (h : n < 2 ^ q) (hi : q ≤ i) : n.testBit i = false := Nat.testBit_lt_two_pow (Nat.lt_of_lt_of_le h (Nat.pow_le_pow_right (by decide) hi))

theorem wd_ext {L n m : Nat} (hn : n < 2 ^ (64 * L)) (hm : m < 2 ^ (64 * L)) (h : ∀ k, k < L → wd n k = wd m k) : n = m := by
  apply Nat.eq_of_testBit_eq
  intro i
  by_cases hi : i < 64 * L
  · rw [bit_of_wd, bit_of_wd m, h (i / 64) (by omega)]
  · rw [lt_bit hn (by omega), lt_bit hm (by omega)]

theorem pow64 (p : Nat) : 2 ^ (64 * (p + 1)) = 2 ^ (64 * p) * 18446744073709551616 := by
  rw [Nat.mul_add, Nat.pow_add]

theorem wd_high {n q k : Nat} (h : n < 2 ^ (64 * q)) (hk : q ≤ k) : wd n k = 0 := by
  unfold wd
  rw [Nat.div_eq_of_lt (Nat.lt_of_lt_of_le h (Nat.pow_le_pow_right (by decide) (by omega)))]

def setw (n p x : Nat) : Nat := n % 2 ^ (64 * p) + 2 ^ (64 * p) * (x + 18446744073709551616 * (n / 2 ^ (64 * (p + 1))))

theorem wd_split (n p : Nat) : n = n % 2 ^ (64 * p) + 2 ^ (64 * p) * (wd n p + 18446744073709551616 * (n / 2 ^ (64 * (p + 1)))) := by
  unfold wd
  rw [pow64, ← Nat.div_div_eq_div_mul]
  have h1 := Nat.div_add_mod n (2 ^ (64 * p))
  have h2 := Nat.div_add_mod (n / 2 ^ (64 * p)) 18446744073709551616
  generalize n / 2 ^ (64 * p) = q at *
  have h3 : q % 18446744073709551616 + 18446744073709551616 * (q / 18446744073709551616) = q := by omega
  rw [h3]
  omega

theorem mod_wd (n p : Nat) : n % 2 ^ (64 * (p + 1)) = n % 2 ^ (64 * p) + 2 ^ (64 * p) * wd n p := by
  unfold wd
  rw [pow64, Nat.mod_mul]

theorem setw_add (n p x : Nat) : setw n p x + 2 ^ (64 * p) * wd n p = n + 2 ^ (64 * p) * x := by
  have h := wd_split n p
  unfold setw
  generalize n / 2 ^ (64 * (p + 1)) = D at *
  generalize n % 2 ^ (64 * p) = A at *
  generalize wd n p = u at *
  generalize 2 ^ (64 * p) = P at *
  rw [Nat.mul_add] at h
  rw [Nat.mul_add, h]
  omega

theorem setw_low (n p x : Nat) (h : n < 2 ^ (64 * p)) : setw n p x = n + 2 ^ (64 * p) * x := by
  have := setw_add n p x
  rw [wd_high h (Nat.le_refl _)] at this
  simpa using this

theorem setw_bit (n p x i : Nat) (hx : x < 18446744073709551616) : (setw n p x).testBit i = if i / 64 = p then x.testBit (i % 64) else n.testBit i := by
  unfold setw
  rw [Nat.add_comm, Nat.testBit_two_pow_mul_add _ (Nat.mod_lt _ (Nat.two_pow_pos _))]
  split
  · rename_i h
    rw [if_neg (by omega), Nat.testBit_mod_two_pow, decide_eq_true h, Bool.true_and]
  · rename_i h
    rw [Nat.add_comm, two64, Nat.testBit_two_pow_mul_add _ (by rw [← two64]; exact hx)]
    split
    · rename_i h2
      rw [if_pos (by omega)]
      congr 1; omega
    · rename_i h2
      rw [if_neg (by omega), Nat.testBit_div_two_pow]
      congr 1; omega

theorem wd_setw (n p x k : Nat) (hx : x < 18446744073709551616) : wd (setw n p x) k = if k = p then x else wd n k := by
  apply Nat.eq_of_testBit_eq
  intro j
  rw [wd_bit, setw_bit _ _ _ _ hx]
  by_cases hj : j < 64
  · rw [decide_eq_true hj, Bool.true_and, show (64 * k + j) / 64 = k by omega, show (64 * k + j) % 64 = j by omega]
    split
    · rfl
    · rw [wd_bit, decide_eq_true hj, Bool.true_and]
  · rw [decide_eq_false hj, Bool.false_and]
    have e : ∀ y, y < 18446744073709551616 → y.testBit j = false := fun y hy => lt_bit (q := 64) (by rw [← two64]; exact hy) (by omega)
    split
    · rw [e x hx]
    · rw [e _ (wd_lt _ _)]

theorem setw_lt (n p x q : Nat) (hn : n < 2 ^ (64 * q)) (hp : p < q) (hx : x < 18446744073709551616) : setw n p x < 2 ^ (64 * q) := by
  apply Nat.lt_pow_two_of_testBit
  intro i hi
  rw [setw_bit _ _ _ _ hx, if_neg (by omega), lt_bit hn hi]

theorem setw_or (n p x q : Nat) (hx : x < 18446744073709551616) (hq : q = p) : setw n p (wd n q ||| x) = n ||| x * 2 ^ (64 * p) := by
  subst hq
  apply Nat.eq_of_testBit_eq
  intro i
  have hlt : wd n q ||| x < 18446744073709551616 := by rw [two64]; exact Nat.or_lt_two_pow (by rw [← two64]; exact wd_lt _ _) (by rw [← two64]; exact hx)
  rw [setw_bit _ _ _ _ hlt, Nat.testBit_or n, Nat.testBit_mul_two_pow]
  split
  · rename_i h
    rw [Nat.testBit_or, wd_bit, decide_eq_true (Nat.mod_lt _ (by decide)), Bool.true_and, ← h, Nat.div_add_mod, decide_eq_true (by omega), Bool.true_and]
    congr 2; omega
  · rename_i h
    by_cases h2 : 64 * q ≤ i
    · rw [decide_eq_true h2, Bool.true_and, lt_bit (n := x) (q := 64) (by rw [← two64]; exact hx) (by omega), Bool.or_false]
    · rw [decide_eq_false h2, Bool.false_and, Bool.or_false]

def cw (L n : Nat) : Array Value := ((List.range L).map fun k => Value.int .u64 (wd n k : Nat)).toArray
theorem cw_size (L n : Nat) : (cw L n).size = L := by simp [cw]
theorem cw_at (L n k : Nat) (h : k < L) : (cw L n)[k]? = some (.int .u64 (wd n k : Nat)) := by simp [cw, h]
theorem cw_set (L n p x : Nat) (hp : p < L) (hx : x < 18446744073709551616) : (cw L n).setIfInBounds p (.int .u64 (x : Nat)) = cw L (setw n p x) := by
  apply Array.ext_getElem?
  intro k
  rw [Array.getElem?_setIfInBounds]
  by_cases hk : k < L
  · rw [cw_at L (setw n p x) k hk, cw_at L n k hk, wd_setw _ _ _ _ hx, cw_size]
    by_cases e : p = k
    · subst e; rw [if_pos rfl, if_pos hp, if_pos rfl]
    · rw [if_neg e, if_neg (fun h => e h.symm)]
  · have e1 : ∀ m, (cw L m)[k]? = none := fun m => by rw [Array.getElem?_eq_none]; rw [cw_size]; omega
    rw [e1, e1, if_neg (by omega)]
theorem cw6 (n : Nat) : cw 6 n = #[.int .u64 (wd n 0 : Nat), .int .u64 (wd n 1 : Nat), .int .u64 (wd n 2 : Nat), .int .u64 (wd n 3 : Nat), .int .u64 (wd n 4 : Nat), .int .u64 (wd n 5 : Nat)] := rfl
theorem cw6z : #[Value.int .u64 0, .int .u64 0, .int .u64 0, .int .u64 0, .int .u64 0, .int .u64 0] = cw 6 0 := by rw [cw6]; simp [wd_zero]
theorem cw6f (n : Nat) : #[Value.int .u64 (wd n 0 : Nat), .int .u64 (wd n 1 : Nat), .int .u64 (wd n 2 : Nat), .int .u64 (wd n 3 : Nat), .int .u64 (wd n 4 : Nat), .int .u64 (wd n 5 : Nat)] = cw 6 n := rfl
theorem cw_oneCell (L n : Nat) : (cw L n).all (·.oneCell') = true := by
  rw [Array.all_eq_true]
  intro i hi
  rw [cw_size] at hi
  have := cw_at L n i hi
  rw [Array.getElem?_eq_getElem (by rw [cw_size]; exact hi)] at this
  injection this with this
  rw [this]; rfl

def pw (L : Nat) : Nat := 2 ^ (64 * L)
def Qn (k : Nat) : Nat := if h : k = 0 then pw 6 else Qn (k - 1)
  termination_by k
  decreasing_by omega
def Q : Nat := Qn 0
theorem Q_pw : ∃ L, L = 6 ∧ Q = pw L := by
  refine ⟨6, rfl, ?_⟩
  unfold Q
  rw [Qn, dif_pos rfl]
theorem Q_of : ∃ L, L = 6 ∧ Q = 2 ^ (64 * L) := by
  obtain ⟨L, hL, h⟩ := Q_pw
  exact ⟨L, hL, h⟩
theorem Q_pos : 0 < Q := by
  obtain ⟨L, _, h⟩ := Q_of
  rw [h]
  exact Nat.two_pow_pos _
def W (n : Nat) : Value := .agg (cw 6 n)

theorem w6 (a0 a1 a2 a3 a4 a5 : Nat) (h0 : a0 < 18446744073709551616) (h1 : a1 < 18446744073709551616) (h2 : a2 < 18446744073709551616) (h3 : a3 < 18446744073709551616) (h4 : a4 < 18446744073709551616) (h5 : a5 < 18446744073709551616) :
    ∃ n, n < Q ∧ cw 6 n = #[.int .u64 a0, .int .u64 a1, .int .u64 a2, .int .u64 a3, .int .u64 a4, .int .u64 a5] := by
  refine ⟨setw (setw (setw (setw (setw (setw 0 0 a0) 1 a1) 2 a2) 3 a3) 4 a4) 5 a5, ?_, ?_⟩
  · obtain ⟨L, hL, h⟩ := Q_of
    rw [h]
    repeat (refine setw_lt _ _ _ L ?_ (by omega) (by assumption))
    exact Nat.two_pow_pos _
  · rw [cw6]
    simp only [wd_setw _ _ _ _ h0, wd_setw _ _ _ _ h1, wd_setw _ _ _ _ h2, wd_setw _ _ _ _ h3, wd_setw _ _ _ _ h4, wd_setw _ _ _ _ h5]
    rfl
theorem cw_seti (L n p y : Nat) (x : Int) (hp : p < L) (hx : y < 18446744073709551616) (h : x = (y : Int)) : (cw L n).setIfInBounds p (.int .u64 x) = cw L (setw n p y) := by
  rw [h]; exact cw_set L n p y hp hx
theorem cw_push (L n p y : Nat) (x : Int) (hp : p < L) (hn : n < 2 ^ (64 * p)) (hx : y < 18446744073709551616) (h : x = (y : Int)) : (cw L n).setIfInBounds p (.int .u64 x) = cw L (n + 2 ^ (64 * p) * y) := by
  rw [cw_seti L n p y x hp hx h, setw_low n p y hn]
theorem push_lt (n p y : Nat) (hn : n < 2 ^ (64 * p)) (hx : y < 18446744073709551616) : n + 2 ^ (64 * p) * y < 2 ^ (64 * (p + 1)) := by
  rw [pow64]
  have h : 2 ^ (64 * p) * (y + 1) ≤ 2 ^ (64 * p) * 18446744073709551616 := Nat.mul_le_mul_left _ (by omega)
  rw [Nat.mul_add] at h
  omega

theorem wadd_step (n m S k x : Nat) (C : Bool) (hE : S + 2 ^ (64 * k) * C.toNat = n % 2 ^ (64 * k) + m % 2 ^ (64 * k)) (hx : x = (wd n k + wd m k + C.toNat) % 18446744073709551616) :
    S + 2 ^ (64 * k) * x + 2 ^ (64 * (k + 1)) * (decide (18446744073709551616 ≤ wd n k + wd m k + C.toNat)).toNat = n % 2 ^ (64 * (k + 1)) + m % 2 ^ (64 * (k + 1)) := by
  have e : x + 18446744073709551616 * (decide (18446744073709551616 ≤ wd n k + wd m k + C.toNat)).toNat = wd n k + wd m k + C.toNat := by
    have := wd_lt n k
    have := wd_lt m k
    have : C.toNat ≤ 1 := by cases C <;> decide
    by_cases h : 18446744073709551616 ≤ wd n k + wd m k + C.toNat
    · rw [decide_eq_true h, Bool.toNat_true]; omega
    · rw [decide_eq_false h, Bool.toNat_false]; omega
  rw [mod_wd, mod_wd, pow64, Nat.mul_assoc]
  have e2 := congrArg (fun t => 2 ^ (64 * k) * t) e
  simp only [Nat.mul_add] at e2
  omega
theorem pwQ (k : Nat) (h : k = 6) : 2 ^ (64 * k) = Q := by
  obtain ⟨L, hL, hQ⟩ := Q_of
  rw [hQ, show L = k by omega]
theorem wadd_end (n m S k : Nat) (C : Bool) (h6 : k = 6) (hn : n < Q) (hm : m < Q) (hS : S < 2 ^ (64 * k)) (hE : S + 2 ^ (64 * k) * C.toNat = n % 2 ^ (64 * k) + m % 2 ^ (64 * k)) :
    S = (n + m) % Q ∧ C = decide (Q ≤ n + m) := by
  rw [pwQ k h6] at hS hE
  rw [Nat.mod_eq_of_lt hn, Nat.mod_eq_of_lt hm] at hE
  cases C
  · rw [Bool.toNat_false, Nat.mul_zero, Nat.add_zero] at hE
    rw [← hE, Nat.mod_eq_of_lt hS, decide_eq_false (by omega)]
    exact ⟨rfl, rfl⟩
  · rw [Bool.toNat_true, Nat.mul_one] at hE
    rw [← hE, Nat.add_mod_right, Nat.mod_eq_of_lt hS, decide_eq_true (by omega)]
    exact ⟨rfl, rfl⟩
theorem wsub_step (n m S k x : Nat) (C : Bool) (hE : S + m % 2 ^ (64 * k) = n % 2 ^ (64 * k) + 2 ^ (64 * k) * C.toNat) (hx : x = (wd n k + 18446744073709551616 - wd m k - C.toNat) % 18446744073709551616) :
    S + 2 ^ (64 * k) * x + m % 2 ^ (64 * (k + 1)) = n % 2 ^ (64 * (k + 1)) + 2 ^ (64 * (k + 1)) * (decide (wd n k < wd m k + C.toNat)).toNat := by
  have e : x + wd m k + C.toNat = wd n k + 18446744073709551616 * (decide (wd n k < wd m k + C.toNat)).toNat := by
    have := wd_lt n k
    have := wd_lt m k
    have : C.toNat ≤ 1 := by cases C <;> decide
    by_cases h : wd n k < wd m k + C.toNat
    · rw [decide_eq_true h, Bool.toNat_true]; omega
    · rw [decide_eq_false h, Bool.toNat_false]; omega
  rw [mod_wd, mod_wd, pow64, Nat.mul_assoc]
  have e2 := congrArg (fun t => 2 ^ (64 * k) * t) e
  simp only [Nat.mul_add] at e2
  omega
theorem wsub_end (n m S k : Nat) (C : Bool) (h6 : k = 6) (hn : n < Q) (hm : m < Q) (hS : S < 2 ^ (64 * k)) (hE : S + m % 2 ^ (64 * k) = n % 2 ^ (64 * k) + 2 ^ (64 * k) * C.toNat) :
    S = (n + Q - m) % Q ∧ C = decide (n < m) := by
  rw [pwQ k h6] at hS hE
  rw [Nat.mod_eq_of_lt hn, Nat.mod_eq_of_lt hm] at hE
  cases C
  · rw [Bool.toNat_false, Nat.mul_zero, Nat.add_zero] at hE
    rw [show n + Q - m = S + Q by omega, Nat.add_mod_right, Nat.mod_eq_of_lt hS, decide_eq_false (by omega)]
    exact ⟨rfl, rfl⟩
  · rw [Bool.toNat_true, Nat.mul_one] at hE
    rw [show n + Q - m = S by omega, Nat.mod_eq_of_lt hS, decide_eq_true (by omega)]
    exact ⟨rfl, rfl⟩

def Part (X n k : Nat) (f : Nat → Nat) : Prop := X < Q ∧ ∀ j, j < 6 → wd X j = if j < k then f j else wd n j
theorem part_start (n : Nat) (f : Nat → Nat) (h : n < Q) : Part n n 0 f := ⟨h, fun j _ => by rw [if_neg (by omega)]⟩
theorem setw_ltQ (n p x : Nat) (hn : n < Q) (hp : p < 6) (hx : x < 18446744073709551616) : setw n p x < Q := by
  obtain ⟨L, hL, hQ⟩ := Q_of
  rw [hQ] at hn ⊢
  exact setw_lt _ _ _ _ hn (by omega) hx
theorem part_step {X n k : Nat} {f : Nat → Nat} (h : Part X n k f) (hk : k < 6) (x : Nat) (hx : x < 18446744073709551616) (hf : f k = x) : Part (setw X k x) n (k + 1) f := by
  refine ⟨setw_ltQ _ _ _ h.1 hk hx, fun j hj => ?_⟩
  rw [wd_setw _ _ _ _ hx, h.2 j hj]
  by_cases e : j = k
  · subst e; rw [if_pos rfl, if_pos (by omega), hf]
  · rw [if_neg e]
    by_cases e2 : j < k
    · rw [if_pos e2, if_pos (by omega)]
    · rw [if_neg e2, if_neg (by omega)]
theorem part_end {X n k : Nat} {f : Nat → Nat} (h : Part X n k f) (hk : k = 6) (r : Nat) (hr : r < Q) (hw : ∀ j, j < 6 → wd r j = f j) : X = r := by
  obtain ⟨L, hL, hQ⟩ := Q_of
  have hX := h.1
  rw [hQ] at hX hr
  exact wd_ext hX hr (fun j hj => by rw [h.2 j (by omega), if_pos (by omega), hw j (by omega)])
theorem part_wd {X n k : Nat} {f : Nat → Nat} (h : Part X n k f) (hk : k < 6) : wd X k = wd n k := by rw [h.2 k hk, if_neg (by omega)]

theorem or_ltQ (n m : Nat) (hn : n < Q) (hm : m < Q) : n ||| m < Q := by
  obtain ⟨L, hL, hQ⟩ := Q_of
  rw [hQ] at hn hm ⊢
  exact Nat.or_lt_two_pow hn hm
theorem and_ltQ (n m : Nat) (hn : n < Q) : n &&& m < Q := Nat.lt_of_le_of_lt Nat.and_le_left hn
theorem wd_or (n m k : Nat) : wd (n ||| m) k = wd n k ||| wd m k := by
  apply Nat.eq_of_testBit_eq
  intro j
  rw [wd_bit, Nat.testBit_or, Nat.testBit_or, wd_bit, wd_bit, Bool.and_or_distrib_left]
theorem wd_and (n m k : Nat) : wd (n &&& m) k = wd n k &&& wd m k := by
  apply Nat.eq_of_testBit_eq
  intro j
  rw [wd_bit, Nat.testBit_and, Nat.testBit_and, wd_bit, wd_bit]
  cases decide (j < 64) <;> simp
theorem or_lt64 (a b : Nat) (ha : a < 18446744073709551616) (hb : b < 18446744073709551616) : a ||| b < 18446744073709551616 := by
  rw [two64] at *; exact Nat.or_lt_two_pow ha hb

theorem or_modQ (a b : Nat) : (a ||| b) % Q = a % Q ||| b % Q := by
  obtain ⟨L, hL, hQ⟩ := Q_of
  rw [hQ, Nat.or_mod_two_pow]
theorem sh_small (v t : Nat) (hv : v < 18446744073709551616) (ht : t < 6) : v * 2 ^ (64 * t) < Q := by
  obtain ⟨L, hL, hQ⟩ := Q_of
  rw [hQ]
  have h1 : 2 ^ (64 * (t + 1)) ≤ 2 ^ (64 * L) := Nat.pow_le_pow_right (by decide) (by omega)
  have h2 := push_lt 0 t v (Nat.two_pow_pos _) hv
  rw [Nat.mul_comm] at h2
  omega
theorem sh_big (v t : Nat) (ht : 6 ≤ t) : v * 2 ^ (64 * t) % Q = 0 := by
  obtain ⟨L, hL, hQ⟩ := Q_of
  rw [hQ, show 64 * t = (64 * t - 64 * L) + 64 * L by omega, Nat.pow_add, ← Nat.mul_assoc, Nat.mul_mod_left]
theorem or_disj (a b i : Nat) (h : a < 2 ^ i) : a + b * 2 ^ i = a ||| b * 2 ^ i := by
  rw [Nat.mul_comm, Nat.add_comm, Nat.two_pow_add_eq_or_of_lt h, Nat.or_comm]
theorem lohi (x r : Nat) (hr : r ≤ 64) : x * 2 ^ r = x * 2 ^ r % 18446744073709551616 ||| x / 2 ^ (64 - r) * 2 ^ 64 := by
  have h1 : x / 2 ^ (64 - r) = x * 2 ^ r / 18446744073709551616 := by
    rw [show 18446744073709551616 = 2 ^ (64 - r) * 2 ^ r by rw [← Nat.pow_add, two64]; congr 1; omega, Nat.mul_div_mul_right _ _ (Nat.two_pow_pos _)]
  rw [← or_disj _ _ 64 (by rw [← two64]; exact Nat.mod_lt _ (by decide)), h1, ← two64]
  omega
theorem or_sh (a b i : Nat) : (a ||| b) * 2 ^ i = a * 2 ^ i ||| b * 2 ^ i := by
  rw [← Nat.shiftLeft_eq, ← Nat.shiftLeft_eq, ← Nat.shiftLeft_eq, Nat.shiftLeft_or_distrib]
theorem or_dv (a b i : Nat) : (a ||| b) / 2 ^ i = a / 2 ^ i ||| b / 2 ^ i := by
  rw [← Nat.shiftRight_eq_div_pow, ← Nat.shiftRight_eq_div_pow, ← Nat.shiftRight_eq_div_pow, Nat.shiftRight_or_distrib]
theorem mod_or (n k : Nat) : n % 2 ^ (64 * (k + 1)) = n % 2 ^ (64 * k) ||| wd n k * 2 ^ (64 * k) := by
  rw [mod_wd, ← or_disj _ _ _ (Nat.mod_lt _ (Nat.two_pow_pos _)), Nat.mul_comm (wd n k)]

theorem up_step (n k s q r t X lo hi : Nat) (hs : s = 64 * q + r) (hr : r < 64) (ht : t = k + q) (hX : X = (n % 2 ^ (64 * k)) * 2 ^ s % Q) (hlo : wd n k * 2 ^ r % 18446744073709551616 = lo) (hhi : wd n k / 2 ^ (64 - r) = hi) :
    (n % 2 ^ (64 * (k + 1))) * 2 ^ s % Q = X ||| (lo * 2 ^ (64 * t) % Q ||| hi * 2 ^ (64 * (t + 1)) % Q) := by
  have e : wd n k * 2 ^ (64 * k) * 2 ^ s = lo * 2 ^ (64 * t) ||| hi * 2 ^ (64 * (t + 1)) := by
    rw [show wd n k * 2 ^ (64 * k) * 2 ^ s = wd n k * 2 ^ r * 2 ^ (64 * t) by rw [Nat.mul_assoc, Nat.mul_assoc, ← Nat.pow_add, ← Nat.pow_add]; congr 2; omega]
    rw [lohi (wd n k) r (by omega), hlo, hhi, or_sh, Nat.mul_assoc, ← Nat.pow_add]
    congr 3; omega
  rw [mod_or, or_sh, or_modQ, ← hX, e, or_modQ]
theorem cw_or (L X t v X' : Nat) (ht : t < L) (hv : v < 18446744073709551616) (hX : X' = X ||| v * 2 ^ (64 * t)) : (cw L X).setIfInBounds t (.int .u64 (wd X t ||| v : Nat)) = cw L X' := by
  rw [cw_set L X t _ ht (or_lt64 _ _ (wd_lt _ _) hv), setw_or X t v t hv rfl, hX]
theorem bor (X t v : Nat) (hv : v < 18446744073709551616) : bits .or .u64 (wd X t : Nat) (v : Nat) = ((wd X t ||| v : Nat) : Int) := bits_or_u64_nat _ _ (wd_lt _ _) hv
theorem wlow (n k : Nat) (h : n < Q) (hk : k = 6) : n % 2 ^ (64 * k) = n := by
  rw [pwQ k hk, Nat.mod_eq_of_lt h]

theorem down_step (n k s q r X lo hi : Nat) (hs : s = 64 * q + r) (hr : r < 64) (hX : X = (n % 2 ^ (64 * k)) / 2 ^ s) (hlo : wd n k * 2 ^ (64 - r) % 18446744073709551616 = lo) (hhi : wd n k / 2 ^ r = hi) :
    (n % 2 ^ (64 * (k + 1))) / 2 ^ s = if q < k then X ||| (hi * 2 ^ (64 * (k - q)) ||| lo * 2 ^ (64 * (k - q - 1))) else if q = k then X ||| hi else X := by
  rw [mod_or, or_dv, ← hX]
  split
  · rename_i h
    congr 1
    rw [show wd n k * 2 ^ (64 * k) = wd n k * 2 ^ (64 - r) * 2 ^ (64 * (k - q - 1)) * 2 ^ s by rw [Nat.mul_assoc, Nat.mul_assoc, ← Nat.pow_add, ← Nat.pow_add]; congr 2; omega]
    rw [Nat.mul_div_cancel _ (Nat.two_pow_pos _), lohi (wd n k) (64 - r) (by omega), hlo, show 64 - (64 - r) = r by omega, hhi, or_sh, Nat.mul_assoc, ← Nat.pow_add, Nat.or_comm]
    congr 3; omega
  · split
    · rename_i h1 h
      congr 1
      rw [hs, h, Nat.pow_add, Nat.mul_comm (2 ^ (64 * k)), Nat.mul_div_mul_right _ _ (Nat.two_pow_pos _), hhi]
    · rename_i h1 h
      have h2 := push_lt 0 k (wd n k) (Nat.two_pow_pos _) (wd_lt n k)
      rw [Nat.mul_comm, Nat.zero_add] at h2
      rw [Nat.div_eq_of_lt (Nat.lt_of_lt_of_le h2 (Nat.pow_le_pow_right (by decide) (by omega))), Nat.or_zero]
end Go.Proofs.YtpdehipeakcaiaaDoor.WMath
namespace Go.Proofs.YtpdehipeakcaiaaDoor.WMath
set_option maxRecDepth 100000
set_option maxHeartbeats 40000000
set_option maxRecDepth 100000

end Go.Proofs.YtpdehipeakcaiaaDoor.WMath
namespace Go.Proofs.YtpdehipeakcaiaaDoor.WMath
set_option maxRecDepth 100000
set_option maxHeartbeats 40000000
set_option maxRecDepth 100000

def blen (n : Nat) : Nat := if n = 0 then 0 else Nat.log2 n + 1
theorem blen_zero : blen 0 = 0 := rfl
theorem blen_lt (n : Nat) : n < 2 ^ blen n := by
  unfold blen
  split
  · rename_i h; subst h; decide
  · rename_i h; exact (Nat.log2_lt h).1 (by omega)
theorem blen_le (n : Nat) (h : n ≠ 0) : 2 ^ (blen n - 1) ≤ n := by
  unfold blen
  rw [if_neg h]
  exact (Nat.le_log2 h).1 (by omega)
theorem blen_pos (n : Nat) (h : n ≠ 0) : 0 < blen n := by unfold blen; rw [if_neg h]; omega
theorem blen_of (n l : Nat) (h1 : 2 ^ l ≤ n) (h2 : n < 2 ^ (l + 1)) : blen n = l + 1 := by
  have h0 : n ≠ 0 := by have := Nat.two_pow_pos l; omega
  unfold blen
  rw [if_neg h0]
  have a := (Nat.le_log2 h0).2 h1
  have b := (Nat.log2_lt h0).2 h2
  omega
theorem bitLen_blen (x : Nat) (hx : x < 18446744073709551616) : Lib.bitLen x = blen x := by
  by_cases h : x = 0
  · subst h; decide
  · have h1 := blen_le x h
    have h2 := blen_lt x
    have h3 := blen_pos x h
    obtain ⟨k, hk⟩ : ∃ k, blen x = k + 1 := ⟨blen x - 1, by omega⟩
    rw [hk] at h1 h2 ⊢
    rw [Nat.add_sub_cancel] at h1
    rw [Lib.bitLen_shift k x h1 hx, show x / 2 ^ k = 1 by
      apply Nat.div_eq_of_lt_le
      · omega
      · rw [Nat.pow_succ] at h2; omega]
    have : Lib.bitLen 1 = 1 := by decide
    omega
theorem blen_push (A k x : Nat) (hA : A < 2 ^ k) (hx : x ≠ 0) : blen (A + 2 ^ k * x) = k + blen x := by
  have h1 := blen_le x hx
  have h2 := blen_lt x
  have h3 := blen_pos x hx
  obtain ⟨l, hl⟩ : ∃ l, blen x = l + 1 := ⟨blen x - 1, by omega⟩
  rw [hl] at h1 h2 ⊢
  rw [Nat.add_sub_cancel] at h1
  refine blen_of _ (k + l) ?_ ?_
  · rw [Nat.pow_add]
    have := Nat.mul_le_mul_left (2 ^ k) h1
    omega
  · rw [show k + l + 1 = k + (l + 1) by omega, Nat.pow_add]
    have := Nat.mul_le_mul_left (2 ^ k) h2
    rw [Nat.succ_eq_add_one, Nat.mul_add] at this
    omega
theorem blen_step (n k : Nat) : blen (n % 2 ^ (64 * (k + 1))) = if wd n k = 0 then blen (n % 2 ^ (64 * k)) else 64 * k + blen (wd n k) := by
  rw [mod_wd]
  split
  · rename_i h; rw [h, Nat.mul_zero, Nat.add_zero]
  · rename_i h; exact blen_push _ _ _ (Nat.mod_lt _ (Nat.two_pow_pos _)) h
theorem blen_le_of (n l : Nat) (h : n < 2 ^ l) : blen n ≤ l := by
  by_cases h0 : n = 0
  · subst h0; rw [blen_zero]; omega
  · have := blen_le n h0
    have := Nat.lt_of_le_of_lt this h
    have := (Nat.pow_lt_pow_iff_right (a := 2) (by decide)).1 this
    omega
theorem field_num (n q r c low : Nat) (hl : low = 64 * q + r) (h : r + c ≤ 64) : wd n q / 2 ^ r % 2 ^ c = n / 2 ^ low % 2 ^ c := by
  apply Nat.eq_of_testBit_eq
  intro j
  rw [Nat.testBit_mod_two_pow, Nat.testBit_mod_two_pow, Nat.testBit_div_two_pow, Nat.testBit_div_two_pow, wd_bit, hl]
  by_cases hj : j < c
  · rw [decide_eq_true (show j + r < 64 by omega), Bool.true_and]
    congr 2; omega
  · rw [decide_eq_false hj, Bool.false_and, Bool.false_and]

def dgl : List UInt8 := [48, 49, 50, 51, 52, 53, 54, 55, 56, 57, 97, 98, 99, 100, 101, 102]
def dg (d : Nat) : UInt8 := dgl.getD d 0
def hxs (L n : Nat) : List UInt8 := (List.range L).map fun i => dg (n / 16 ^ (L - 1 - i) % 16)
def nd (n : Nat) : Nat := max 1 ((blen n + 3) / 4)
def tx (n : Nat) : List UInt8 := hxs (nd n) n

end Go.Proofs.YtpdehipeakcaiaaDoor.WMath
namespace Go.Proofs.YtpdehipeakcaiaaDoor.WMath
set_option maxRecDepth 100000
set_option maxHeartbeats 40000000
set_option maxRecDepth 100000

end Go.Proofs.YtpdehipeakcaiaaDoor.WMath
namespace Go.Proofs.YtpdehipeakcaiaaDoor.WMath
set_option maxRecDepth 100000
set_option maxHeartbeats 40000000
set_option maxRecDepth 100000

theorem mask_wd (c k d : Nat) (hd : d = min (c - 64 * k) 64) : wd (2 ^ c - 1) k = 2 ^ d - 1 := by
  apply Nat.eq_of_testBit_eq
  intro j
  rw [wd_bit, Nat.testBit_two_pow_sub_one, Nat.testBit_two_pow_sub_one]
  by_cases h1 : j < d
  · rw [decide_eq_true h1, decide_eq_true (show j < 64 by omega), decide_eq_true (show 64 * k + j < c by omega)]; rfl
  · rw [decide_eq_false h1]
    by_cases h2 : j < 64
    · rw [decide_eq_false (show ¬ 64 * k + j < c by omega)]; simp
    · rw [decide_eq_false h2]; simp
theorem mask_ltQ (c : Nat) (h : c ≤ 384) : 2 ^ c - 1 < Q := by
  obtain ⟨L, hL, hQ⟩ := Q_of
  have h1 : 2 ^ c ≤ 2 ^ (64 * L) := Nat.pow_le_pow_right (by decide) (by omega)
  have := Nat.two_pow_pos c
  omega
theorem mask_lt64 (d : Nat) (h : d ≤ 64) : 2 ^ d - 1 < 18446744073709551616 := mask_lt d h
end Go.Proofs.YtpdehipeakcaiaaDoor.WMath
namespace Go.Proofs.YtpdehipeakcaiaaDoor.WMath
set_option maxRecDepth 100000
set_option maxHeartbeats 40000000
set_option maxRecDepth 100000

theorem Qq384 : ∃ L, L = 384 ∧ Q = 2 ^ L := by
  obtain ⟨L, hL, hQ⟩ := Q_of
  exact ⟨64 * L, by omega, hQ⟩

theorem pow_ltQ (k : Nat) (h : k < 384) : 2 ^ k < Q := by
  obtain ⟨L, hL, hQ⟩ := Qq384
  rw [hQ]
  exact Nat.pow_lt_pow_right (by decide) (by omega)

def RootIs (a r : Nat) : Prop := r * r ≤ a ∧ a < (r + 1) * (r + 1)
end Go.Proofs.YtpdehipeakcaiaaDoor.WMath
namespace Go.Proofs.YtpdehipeakcaiaaDoor.WMath
set_option maxRecDepth 100000
set_option maxHeartbeats 40000000
set_option maxRecDepth 100000

def d8 (n k : Nat) : Nat := n / 2 ^ (8 * k) % 256
def c8 (L n : Nat) : Array Value := ((List.range L).map fun k => Value.int .u8 (d8 n k : Nat)).toArray
end Go.Proofs.YtpdehipeakcaiaaDoor.WMath
namespace Go.Proofs.YtpdehipeakcaiaaDoor.WMath
set_option maxRecDepth 100000
set_option maxHeartbeats 40000000
set_option maxRecDepth 100000

def nl (n : Nat) : Nat := (blen n + 7) / 8
theorem nl_lt (n : Nat) : n < 2 ^ (8 * nl n) := Nat.lt_of_lt_of_le (blen_lt n) (Nat.pow_le_pow_right (by decide) (by unfold nl; omega))
theorem nl_le_of (n L : Nat) (h : n < 2 ^ (8 * L)) : nl n ≤ L := by have := blen_le_of n _ h; unfold nl; omega
theorem nl_mono (a b : Nat) (h : a ≤ b) : nl a ≤ nl b := nl_le_of a _ (Nat.lt_of_le_of_lt h (nl_lt b))
def nbL (n : Nat) : List UInt8 := (List.range (nl n)).map fun i => UInt8.ofNat (d8 n (nl n - 1 - i))
def nbA (n : Nat) : ByteArray := ⟨(nbL n).toArray⟩
end Go.Proofs.YtpdehipeakcaiaaDoor.WMath
namespace Go.Proofs.YtpdehipeakcaiaaDoor.WMath
set_option maxRecDepth 100000
set_option maxHeartbeats 40000000
set_option maxRecDepth 100000

def wl (n : Nat) : Nat := (blen n + 63) / 64
end Go.Proofs.YtpdehipeakcaiaaDoor.WMath
namespace Go.Proofs.YtpdehipeakcaiaaDoor
set_option maxRecDepth 100000
set_option maxHeartbeats 40000000
set_option maxRecDepth 100000
open Go.RowKit WMath
theorem hide {p : Prop} (h : p) : Hid p := h
theorem ret_int {k : IntKind} {a b : Int} (h : a = b) : Ending.returned (.int k a) = .returned (.int k b) := by rw [h]
theorem ret_ib {k : IntKind} {a a' : Int} {b b' : Bool} (h : a = a') (h2 : b = b') : Ending.returned (.tuple #[.int k a, .bool b]) = .returned (.tuple #[.int k a', .bool b']) := by rw [h, h2]
theorem dec_eq {p q : Prop} [Decidable p] [Decidable q] (h : p ↔ q) : decide p = decide q := by simp [h]
theorem dec_or {p q : Prop} [Decidable p] [Decidable q] {x : Int} (h : p ∨ x = 0 ↔ q) : (decide p || x == 0) = decide q := by
  rw [Bool.eq_iff_iff]; simp [← h]
theorem dec_tt {q : Prop} [Decidable q] (h : q) : true = decide q := by simp [h]

theorem div_cast (x k : Nat) : (x : Int) / 2 ^ k = ((x / 2 ^ k : Nat) : Int) := by simp

theorem add_any (a b : Nat) (c : Bool) (ha : a < 18446744073709551616) (hb : b < 18446744073709551616) (w : World) :
    Calls Tryd.prog 70 #[.int .u64 a, .int .u64 b, .bool c] w fun e w' => e = .returned (.tuple #[.int .u64 ((a + b + c.toNat) % 18446744073709551616 : Nat), .bool (decide (18446744073709551616 ≤ a + b + c.toNat))]) ∧ w' = w := by
  cases c
  · go_enter Tryd.func70, Tryd.ntmps70
    go_wp2
    go_ret2
    refine ⟨ret_ib ?_ (dec_eq ?_), rfl⟩ <;> rw [IntKind.wrap_u64, Bool.toNat_false] <;> omega
  · go_enter Tryd.func70, Tryd.ntmps70
    go_wp2
    all_goals go_ret2
    · refine ⟨ret_ib ?_ (dec_or ?_), rfl⟩ <;> rw [IntKind.wrap_u64, IntKind.wrap_u64, Bool.toNat_true] <;> omega
    · rename_i h
      rw [IntKind.wrap_u64] at h
      refine ⟨ret_ib ?_ (dec_tt ?_), rfl⟩
      · rw [IntKind.wrap_u64, IntKind.wrap_u64]; omega
      · omega

theorem sub_any (a b : Nat) (c : Bool) (ha : a < 18446744073709551616) (hb : b < 18446744073709551616) (w : World) :
    Calls Tryd.prog 71 #[.int .u64 a, .int .u64 b, .bool c] w fun e w' => e = .returned (.tuple #[.int .u64 ((a + 18446744073709551616 - b - c.toNat) % 18446744073709551616 : Nat), .bool (decide (a < b + c.toNat))]) ∧ w' = w := by
  cases c
  · go_enter Tryd.func71, Tryd.ntmps71
    go_wp2
    go_ret2
    refine ⟨ret_ib ?_ (dec_eq ?_), rfl⟩ <;> rw [IntKind.wrap_u64, Bool.toNat_false] <;> omega
  · go_enter Tryd.func71, Tryd.ntmps71
    go_wp2
    all_goals go_ret2
    · refine ⟨ret_ib ?_ (dec_or ?_), rfl⟩
      · rw [IntKind.wrap_u64, IntKind.wrap_u64, Bool.toNat_true]; omega
      · rw [IntKind.wrap_u64, Bool.toNat_true]; omega
    · rename_i h
      rw [IntKind.wrap_u64] at h
      refine ⟨ret_ib ?_ (dec_tt ?_), rfl⟩
      · rw [IntKind.wrap_u64, IntKind.wrap_u64]; omega
      · omega

def cnt (n : Int) : Nat := min n.toNat 64
theorem cnt_le (n : Int) : cnt n ≤ 64 := by unfold cnt; omega
theorem cnt_small (k : Nat) (h : k < 64) : cnt (k : Int) = k := by unfold cnt; omega
theorem count_any (n : Int) (w : World) :
    Calls Tryd.prog 93 #[.int .i64 n] w fun e w' => e = .returned (.int .u64 (cnt n : Nat)) ∧ w' = w := by
  go_enter Tryd.func93, Tryd.ntmps93
  go_wp2
  all_goals go_ret
  all_goals rename_i h1
  all_goals exact ⟨ret_int (by unfold cnt; split at h1 <;> omega), rfl⟩

theorem left_any (x : Nat) (n : Int) (w : World) :
    Calls Tryd.prog 83 #[.int .u64 x, .int .i64 n] w fun e w' => e = .returned (.int .u64 (x * 2 ^ cnt n % 18446744073709551616 : Nat)) ∧ w' = w := by
  have hc := cnt_le n
  go_enter Tryd.func83, Tryd.ntmps83
  go_wp2_with (go_at_call 93; refine (count_any _ _).mono ?_; rintro e w' ⟨rfl, rfl⟩)
  go_ret
  exact ⟨ret_int (by rw [IntKind.wrap_u64]; simp), rfl⟩

theorem right_any (x : Nat) (n : Int) (w : World) :
    Calls Tryd.prog 84 #[.int .u64 x, .int .i64 n] w fun e w' => e = .returned (.int .u64 (x / 2 ^ cnt n : Nat)) ∧ w' = w := by
  have hc := cnt_le n
  go_enter Tryd.func84, Tryd.ntmps84
  go_wp2_with (go_at_call 93; refine (count_any _ _).mono ?_; rintro e w' ⟨rfl, rfl⟩)
  go_ret
  exact ⟨ret_int (by simp), rfl⟩

theorem left1_any (n : Int) (w : World) :
    Calls Tryd.prog 83 #[.int .u64 1, .int .i64 n] w fun e w' => e = .returned (.int .u64 (2 ^ cnt n % 18446744073709551616 : Nat)) ∧ w' = w := by
  have h := left_any 1 n w
  rw [Nat.one_mul] at h
  exact h
theorem mask_wrap (c : Nat) (h : c ≤ 64) : IntKind.u64.wrap (((2 ^ c % 18446744073709551616 : Nat) : Int) - 1) = ((2 ^ c - 1 : Nat) : Int) := by
  rw [IntKind.wrap_u64]
  have hp := Nat.two_pow_pos c
  rcases (by omega : c = 64 ∨ c < 64) with rfl | h2
  · rw [← two64]; omega
  · have := pow_lt_64 c h2
    omega

theorem mask_any (n : Int) (w : World) :
    Calls Tryd.prog 94 #[.int .i64 n] w fun e w' => e = .returned (.int .u64 (2 ^ cnt n - 1 : Nat)) ∧ w' = w := by
  have hc := cnt_le n
  go_enter Tryd.func94, Tryd.ntmps94
  go_wp2_with (go_at_call 83; refine (left1_any _ _).mono ?_; rintro e w' ⟨rfl, rfl⟩)
  go_ret
  exact ⟨ret_int (mask_wrap _ hc), rfl⟩
theorem and_mask (x c : Nat) (hx : x < 18446744073709551616) (h : c ≤ 64) : bits .and .u64 (x : Int) ((2 ^ c - 1 : Nat) : Int) = ((x % 2 ^ c : Nat) : Int) := by
  rw [bits_and_u64_nat _ _ hx (mask_lt c h), Nat.and_two_pow_sub_one_eq_mod]

theorem field_any (x : Nat) (low n : Int) (hx : x < 18446744073709551616) (w : World) :
    Calls Tryd.prog 89 #[.int .u64 x, .int .i64 low, .int .i64 n] w fun e w' => e = .returned (.int .u64 (x / 2 ^ cnt low % 2 ^ cnt n : Nat)) ∧ w' = w := by
  have hc := cnt_le n
  have hl := cnt_le low
  have h1 : x / 2 ^ cnt low < 18446744073709551616 := Nat.lt_of_le_of_lt (Nat.div_le_self _ _) hx
  go_enter Tryd.func89, Tryd.ntmps89
  go_wp2_with (first | (go_at_call 93; refine (count_any _ _).mono ?_; rintro e w' ⟨rfl, rfl⟩) | (go_at_call 94; refine (mask_any _ _).mono ?_; rintro e w' ⟨rfl, rfl⟩))
  go_ret
  exact ⟨ret_int (by rw [div_cast]; exact and_mask _ _ h1 hc), rfl⟩
theorem fold_len : (⟨(((List.append (List.append [0, 1, 2, 2, 3, 3, 3, 3, 4, 4, 4, 4, 4, 4, 4, 4, 5, 5, 5, 5, 5, 5, 5, 5, 5, 5, 5, 5, 5, 5, 5, 5, 6, 6, 6, 6, 6, 6, 6, 6, 6, 6, 6, 6, 6, 6, 6, 6, 6, 6, 6, 6, 6, 6, 6, 6, 6, 6, 6, 6, 6, 6, 6, 6] [7, 7, 7, 7, 7, 7, 7, 7, 7, 7, 7, 7, 7, 7, 7, 7, 7, 7, 7, 7, 7, 7, 7, 7, 7, 7, 7, 7, 7, 7, 7, 7, 7, 7, 7, 7, 7, 7, 7, 7, 7, 7, 7, 7, 7, 7, 7, 7, 7, 7, 7, 7, 7, 7, 7, 7, 7, 7, 7, 7, 7, 7, 7, 7]) (List.append [8, 8, 8, 8, 8, 8, 8, 8, 8, 8, 8, 8, 8, 8, 8, 8, 8, 8, 8, 8, 8, 8, 8, 8, 8, 8, 8, 8, 8, 8, 8, 8, 8, 8, 8, 8, 8, 8, 8, 8, 8, 8, 8, 8, 8, 8, 8, 8, 8, 8, 8, 8, 8, 8, 8, 8, 8, 8, 8, 8, 8, 8, 8, 8] [8, 8, 8, 8, 8, 8, 8, 8, 8, 8, 8, 8, 8, 8, 8, 8, 8, 8, 8, 8, 8, 8, 8, 8, 8, 8, 8, 8, 8, 8, 8, 8, 8, 8, 8, 8, 8, 8, 8, 8, 8, 8, 8, 8, 8, 8, 8, 8, 8, 8, 8, 8, 8, 8, 8, 8, 8, 8, 8, 8, 8, 8, 8, 8])) : List UInt8).toArray)⟩ : ByteArray) = Lib.len8tab := by decide +kernel

theorem len_fact {P : Program} (w : World) (t : TypeId) (i : Int) (h : P.underlying t = some .string) (h0 : 0 ≤ i) (h1 : i ≤ 255) :
    (Instr.index t (.string Lib.len8tab) (.int .u8 i)).run P w = .ok (.int .u8 (Lib.bitLen i.toNat : Nat)) w := by
  rw [Lib.run_index_len8tab w t .u8 i h h0 h1, Lib.len8_of i h0 h1]

set_option maxHeartbeats 4000000 in
set_option maxRecDepth 100000 in
theorem len64_int (x : Int) (h0 : 0 ≤ x) (h1 : x ≤ 18446744073709551615) (w : World) :
    Calls Tryd.prog 91 #[.int .u64 x] w fun e w' => e = .returned (.int .i64 (Lib.bitLen x.toNat : Nat)) ∧ w' = w := by
  go_enter Tryd.func91, Tryd.ntmps91
  rw [fold_len]
  by_cases c1 : 4294967296 ≤ x
  · by_cases c2 : 65536 ≤ x / 4294967296
    · by_cases c3 : 256 ≤ x / 4294967296 / 65536
      · have hx : ∀ w, (Instr.index 9 (.string Lib.len8tab) (.int .u8 (x / 4294967296 / 65536 / 256))).run Tryd.prog w = .ok (.int .u8 (Lib.bitLen (x / 4294967296 / 65536 / 256).toNat : Nat)) w := fun w => len_fact w 9 (x / 4294967296 / 65536 / 256) Tryd.underlying9 (by omega) (by omega)
        have l := Lib.bitLen_le8' (x / 4294967296 / 65536 / 256) (by omega) (by omega)
        have s := hide (Lib.bitLen_shift56 x.toNat (by omega) (by omega))
        have e := hide (show (x / 4294967296 / 65536 / 256).toNat = x.toNat / 72057594037927936 by omega)
        go_wp2
        go_ret
        exact ⟨ret_int (by have := s.out; have := e.out; rw [s.out, e.out]; omega), rfl⟩
      · have hx : ∀ w, (Instr.index 9 (.string Lib.len8tab) (.int .u8 (x / 4294967296 / 65536))).run Tryd.prog w = .ok (.int .u8 (Lib.bitLen (x / 4294967296 / 65536).toNat : Nat)) w := fun w => len_fact w 9 (x / 4294967296 / 65536) Tryd.underlying9 (by omega) (by omega)
        have l := Lib.bitLen_le8' (x / 4294967296 / 65536) (by omega) (by omega)
        have s := hide (Lib.bitLen_shift48 x.toNat (by omega) (by omega))
        have e := hide (show (x / 4294967296 / 65536).toNat = x.toNat / 281474976710656 by omega)
        go_wp2
        go_ret
        exact ⟨ret_int (by have := s.out; have := e.out; rw [s.out, e.out]; omega), rfl⟩
    · by_cases c3 : 256 ≤ x / 4294967296
      · have hx : ∀ w, (Instr.index 9 (.string Lib.len8tab) (.int .u8 (x / 4294967296 / 256))).run Tryd.prog w = .ok (.int .u8 (Lib.bitLen (x / 4294967296 / 256).toNat : Nat)) w := fun w => len_fact w 9 (x / 4294967296 / 256) Tryd.underlying9 (by omega) (by omega)
        have l := Lib.bitLen_le8' (x / 4294967296 / 256) (by omega) (by omega)
        have s := hide (Lib.bitLen_shift40 x.toNat (by omega) (by omega))
        have e := hide (show (x / 4294967296 / 256).toNat = x.toNat / 1099511627776 by omega)
        go_wp2
        go_ret
        exact ⟨ret_int (by have := s.out; have := e.out; rw [s.out, e.out]; omega), rfl⟩
      · have hx : ∀ w, (Instr.index 9 (.string Lib.len8tab) (.int .u8 (x / 4294967296))).run Tryd.prog w = .ok (.int .u8 (Lib.bitLen (x / 4294967296).toNat : Nat)) w := fun w => len_fact w 9 (x / 4294967296) Tryd.underlying9 (by omega) (by omega)
        have l := Lib.bitLen_le8' (x / 4294967296) (by omega) (by omega)
        have s := hide (Lib.bitLen_shift32 x.toNat (by omega) (by omega))
        have e := hide (show (x / 4294967296).toNat = x.toNat / 4294967296 by omega)
        go_wp2
        go_ret
        exact ⟨ret_int (by have := s.out; have := e.out; rw [s.out, e.out]; omega), rfl⟩
  · by_cases c2 : 65536 ≤ x
    · by_cases c3 : 256 ≤ x / 65536
      · have hx : ∀ w, (Instr.index 9 (.string Lib.len8tab) (.int .u8 (x / 65536 / 256))).run Tryd.prog w = .ok (.int .u8 (Lib.bitLen (x / 65536 / 256).toNat : Nat)) w := fun w => len_fact w 9 (x / 65536 / 256) Tryd.underlying9 (by omega) (by omega)
        have l := Lib.bitLen_le8' (x / 65536 / 256) (by omega) (by omega)
        have s := hide (Lib.bitLen_shift24 x.toNat (by omega) (by omega))
        have e := hide (show (x / 65536 / 256).toNat = x.toNat / 16777216 by omega)
        go_wp2
        go_ret
        exact ⟨ret_int (by have := s.out; have := e.out; rw [s.out, e.out]; omega), rfl⟩
      · have hx : ∀ w, (Instr.index 9 (.string Lib.len8tab) (.int .u8 (x / 65536))).run Tryd.prog w = .ok (.int .u8 (Lib.bitLen (x / 65536).toNat : Nat)) w := fun w => len_fact w 9 (x / 65536) Tryd.underlying9 (by omega) (by omega)
        have l := Lib.bitLen_le8' (x / 65536) (by omega) (by omega)
        have s := hide (Lib.bitLen_shift16 x.toNat (by omega) (by omega))
        have e := hide (show (x / 65536).toNat = x.toNat / 65536 by omega)
        go_wp2
        go_ret
        exact ⟨ret_int (by have := s.out; have := e.out; rw [s.out, e.out]; omega), rfl⟩
    · by_cases c3 : 256 ≤ x
      · have hx : ∀ w, (Instr.index 9 (.string Lib.len8tab) (.int .u8 (x / 256))).run Tryd.prog w = .ok (.int .u8 (Lib.bitLen (x / 256).toNat : Nat)) w := fun w => len_fact w 9 (x / 256) Tryd.underlying9 (by omega) (by omega)
        have l := Lib.bitLen_le8' (x / 256) (by omega) (by omega)
        have s := hide (Lib.bitLen_shift8 x.toNat (by omega) (by omega))
        have e := hide (show (x / 256).toNat = x.toNat / 256 by omega)
        go_wp2
        go_ret
        exact ⟨ret_int (by have := s.out; have := e.out; rw [s.out, e.out]; omega), rfl⟩
      · have hx : ∀ w, (Instr.index 9 (.string Lib.len8tab) (.int .u8 (x))).run Tryd.prog w = .ok (.int .u8 (Lib.bitLen (x).toNat : Nat)) w := fun w => len_fact w 9 (x) Tryd.underlying9 (by omega) (by omega)
        have l := Lib.bitLen_le8' (x) (by omega) (by omega)
        go_wp2
        go_ret
        exact ⟨ret_int (by omega), rfl⟩

theorem len64_any (x : Nat) (hx : x < 18446744073709551616) (w : World) :
    Calls Tryd.prog 91 #[.int .u64 x] w fun e w' => e = .returned (.int .i64 (Lib.bitLen x : Nat)) ∧ w' = w := by
  have h := len64_int (x : Int) (by omega) (by omega) w
  rw [Int.toNat_natCast] at h
  exact h

theorem len_any (x : Nat) (hx : x < 18446744073709551616) (w : World) :
    Calls Tryd.prog 73 #[.int .u64 x] w fun e w' => e = .returned (.int .i64 (Lib.bitLen x : Nat)) ∧ w' = w := by
  go_enter Tryd.func73, Tryd.ntmps73
  go_wp2_with (go_at_call 91; refine (len64_any _ hx _).mono ?_; rintro e w' ⟨rfl, rfl⟩)
  go_ret
  exact ⟨rfl, rfl⟩

end Go.Proofs.YtpdehipeakcaiaaDoor
namespace Go.Proofs.YtpdehipeakcaiaaDoor.WMath
set_option maxRecDepth 100000
set_option maxHeartbeats 40000000
set_option maxRecDepth 100000
def mask8 (c : Nat) : Nat → Nat
  | 0 => 0
  | n + 1 => c + 256 * mask8 c n
def fC (n x : Nat) : Nat := (x / 16 + x) &&& mask8 15 n
def sA (b : Nat) : Nat := ((b / 2) &&& 85) + (b &&& 85)
theorem t1 : ∀ b : Fin 256, ∀ c : Fin 2, ((b.val / 2 + 128 * c.val) &&& 85) = (b.val / 2 &&& 85) := by decide +kernel
theorem t2 : ∀ b : Fin 256, ∀ c : Fin 4, ((b.val / 4 + 64 * c.val) &&& 51) = (b.val / 4 &&& 51) := by decide +kernel
end Go.Proofs.YtpdehipeakcaiaaDoor.WMath
namespace Go.Proofs.YtpdehipeakcaiaaDoor
set_option maxRecDepth 100000
set_option maxHeartbeats 40000000
set_option maxRecDepth 100000
open Go.RowKit WMath
theorem setRow_below (w : World) (b : Nat) (c : Array Value) (o : Obj) (h : b < w.heap.size) : (w.alloc o).setRow b c = (w.setRow b c).alloc o := by
  simp only [World.setRow, World.alloc]
  congr 1
  apply Array.ext_getElem?
  intro i
  rw [Array.getElem?_modify, Array.getElem?_push, Array.getElem?_push, Array.size_modify, Array.getElem?_modify]
  by_cases e : i = w.heap.size
  · subst e
    rw [if_pos rfl, if_pos rfl, if_neg (by omega)]
  · rw [if_neg e, if_neg e]

theorem heap_below (w : World) (b : Nat) (o : Obj) (h : b < w.heap.size) : (w.alloc o).heap[b]? = w.heap[b]? := Below.heap_alloc w o b h
theorem size_al (w : World) (o : Obj) : (w.alloc o).heap.size = w.heap.size + 1 := by
  show (w.heap.push o).size = _
  simp

theorem st_any (w : World) (b x y : Nat) (h : w.heap[b]? = some (.cells (cw 6 y) 42)) :
    (storeCells ⟨b, 0, none⟩ (cw 6 x).toList 0).run Tryd.prog w = .ok () (w.setRow b (cw 6 x)) := by
  have := run_storeCells_from (P := Tryd.prog) b 42 (cw 6 x).toList 0 (cw 6 y) w h (by simp [cw_size]) (fun v hv => (Array.all_eq_true_iff_forall_mem.1 (cw_oneCell 6 x)) v (by simpa using hv))
  simpa using this

theorem ix6 (n k : Nat) (w : World) (h : k < 6) : (Instr.index 42 (.agg (cw 6 n)) (.int .i64 k)).run Tryd.prog w = .ok (.int .u64 (wd n k : Nat)) w := by
  have h2 : (0 : Int) ≤ k ∧ (k : Int) < (6 : Nat) := by omega
  simp [Instr.index, run_underlying Tryd.underlying42, asIntOf, h2, go_sem]
  rw [if_pos h, cw_at 6 n k h]
  rfl

theorem st0 (w : World) (b x y : Nat) (hb : b = w.heap.size) :
    (storeCells ⟨b, 0, none⟩ (cw 6 x).toList 0).run Tryd.prog (w.alloc (.cells (cw 6 y) 42)) = .ok () (w.alloc (.cells (cw 6 x) 42)) := by
  subst hb
  rw [st_any _ _ x y (heap_alloc_last w _), World.setRow_alloc_new]
theorem st1 (w : World) (b x y : Nat) (o : Obj) (hb : b = w.heap.size) :
    (storeCells ⟨b, 0, none⟩ (cw 6 x).toList 0).run Tryd.prog ((w.alloc (.cells (cw 6 y) 42)).alloc o) = .ok () ((w.alloc (.cells (cw 6 x) 42)).alloc o) := by
  subst hb
  have h0 : w.heap.size < (w.alloc (.cells (cw 6 y) 42)).heap.size := by rw [size_al]; omega
  rw [st_any _ _ x y (by rw [heap_below _ _ _ h0]; exact heap_alloc_last w _), setRow_below _ _ _ _ h0, World.setRow_alloc_new]
theorem sc0d (w : World) (b t d : Nat) (c : Array Value) (T : TypeId) (v : Value) (hb : b = w.heap.size) :
    ((w.alloc (.cells c T)).drewN d).setCell ⟨b, t, none⟩ v = (w.alloc (.cells (c.setIfInBounds t v) T)).drewN d := by
  rw [← World.setCell_alloc_at (w := w) c T b t v hb]
  rfl
theorem st_drew (w w2 : World) (b x d : Nat) (h : (storeCells ⟨b, 0, none⟩ (cw 6 x).toList 0).run Tryd.prog w = .ok () w2) (y : Nat) (hy : w.heap[b]? = some (.cells (cw 6 y) 42)) :
    (storeCells ⟨b, 0, none⟩ (cw 6 x).toList 0).run Tryd.prog (w.drewN d) = .ok () (w2.drewN d) := by
  rw [st_any w b x y hy] at h
  rw [st_any (w.drewN d) b x y hy]
  injection h with _ h
  rw [← h]
  rfl
theorem st0d (w : World) (b x y d : Nat) (hb : b = w.heap.size) :
    (storeCells ⟨b, 0, none⟩ (cw 6 x).toList 0).run Tryd.prog ((w.alloc (.cells (cw 6 y) 42)).drewN d) = .ok () ((w.alloc (.cells (cw 6 x) 42)).drewN d) :=
  st_drew _ _ b x d (st0 w b x y hb) y (by rw [hb]; exact heap_alloc_last w _)
theorem al_eq {w : World} {c c' : Array Value} {t : TypeId} (h : c = c') : w.alloc (.cells c t) = w.alloc (.cells c' t) := by rw [h]

theorem wadd_any (n m : Nat) (hn : n < Q) (hm : m < Q) (w : World) :
    Calls Tryd.prog 40 #[W n, W m] w fun e w' => e = .returned (.tuple #[W ((n + m) % Q), .bool (decide (Q ≤ n + m))]) ∧ Below w.heap.size w w' := by
  unfold W
  have hat := cw_at 6
  have hz := cw6z
  have hf := cw6f
  have hx := ix6
  have hs0 := st0
  go_enter Tryd.func40, Tryd.ntmps40
  go_wp2
  go_loopw [5, 9] (fun ov i wr => ∃ (k S : Nat) (C : Bool), k ≤ 6 ∧ i = .int .i64 k ∧ ov = .bool C ∧ wr = ((w.alloc (.cells (cw 6 n) 42)).alloc (.cells (cw 6 m) 42)).alloc (.cells (cw 6 S) 42) ∧ S < 2 ^ (64 * k) ∧ Hid (S + 2 ^ (64 * k) * C.toNat = n % 2 ^ (64 * k) + m % 2 ^ (64 * k))) (fun _ i _ => 6 - (intOf i).toNat)
  case atStart => exact ⟨0, 0, false, by omega, rfl, rfl, rfl, by decide, hide (by simp [Nat.mod_one])⟩
  case round =>
    obtain ⟨k, S, C, hk, rfl, rfl, rfl, hS, HE⟩ := hrel
    by_cases hlt : k < 6
    · go_wp2_with (go_at_call 70; refine (add_any _ _ _ (wd_lt _ _) (wd_lt _ _) _).mono ?_; rintro e w' ⟨rfl, rfl⟩)
      go_roundw
      case rel =>
        exact ⟨k + 1, _, _, by omega, by go_num, rfl, al_eq (cw_push 6 S k _ _ hlt hS (Nat.mod_lt _ (by decide)) (by omega)), push_lt S k _ hS (Nat.mod_lt _ (by decide)), hide (wadd_step n m S k _ C HE.out rfl)⟩
      case measure => simp [intOf]; omega
    · go_wp2
      obtain ⟨rfl, rfl⟩ := wadd_end n m S k C (by omega) hn hm hS HE.out
      exact bodyPost_ret (v := .tuple #[.agg (cw 6 ((n + m) % Q)), .bool (decide (Q ≤ n + m))]) (by simp [results, Tryd.results40, go_sem, hat, hf]) rfl ⟨rfl, (((Below.refl _ _).alloc (Nat.le_refl _) _).alloc (by simp <;> omega) _).alloc (by simp <;> omega) _⟩
theorem wsub_any (n m : Nat) (hn : n < Q) (hm : m < Q) (w : World) :
    Calls Tryd.prog 41 #[W n, W m] w fun e w' => e = .returned (.tuple #[W ((n + Q - m) % Q), .bool (decide (n < m))]) ∧ Below w.heap.size w w' := by
  unfold W
  have hat := cw_at 6
  have hz := cw6z
  have hf := cw6f
  have hx := ix6
  have hs0 := st0
  go_enter Tryd.func41, Tryd.ntmps41
  go_wp2
  go_loopw [5, 9] (fun ov i wr => ∃ (k S : Nat) (C : Bool), k ≤ 6 ∧ i = .int .i64 k ∧ ov = .bool C ∧ wr = ((w.alloc (.cells (cw 6 n) 42)).alloc (.cells (cw 6 m) 42)).alloc (.cells (cw 6 S) 42) ∧ S < 2 ^ (64 * k) ∧ Hid (S + m % 2 ^ (64 * k) = n % 2 ^ (64 * k) + 2 ^ (64 * k) * C.toNat)) (fun _ i _ => 6 - (intOf i).toNat)
  case atStart => exact ⟨0, 0, false, by omega, rfl, rfl, rfl, by decide, hide (by simp [Nat.mod_one])⟩
  case round =>
    obtain ⟨k, S, C, hk, rfl, rfl, rfl, hS, HE⟩ := hrel
    by_cases hlt : k < 6
    · go_wp2_with (go_at_call 71; refine (sub_any _ _ _ (wd_lt _ _) (wd_lt _ _) _).mono ?_; rintro e w' ⟨rfl, rfl⟩)
      go_roundw
      case rel =>
        exact ⟨k + 1, _, _, by omega, by go_num, rfl, al_eq (cw_push 6 S k _ _ hlt hS (Nat.mod_lt _ (by decide)) (by omega)), push_lt S k _ hS (Nat.mod_lt _ (by decide)), hide (wsub_step n m S k _ C HE.out rfl)⟩
      case measure => simp [intOf]; omega
    · go_wp2
      obtain ⟨rfl, rfl⟩ := wsub_end n m S k C (by omega) hn hm hS HE.out
      exact bodyPost_ret (v := .tuple #[.agg (cw 6 ((n + Q - m) % Q)), .bool (decide (n < m))]) (by simp [results, Tryd.results41, go_sem, hat, hf]) rfl ⟨rfl, (((Below.refl _ _).alloc (Nat.le_refl _) _).alloc (by simp <;> omega) _).alloc (by simp <;> omega) _⟩

theorem wof_any (n : Nat) (hn : n < 18446744073709551616) (w : World) :
    Calls Tryd.prog 10 #[.int .u64 n] w fun e w' => e = .returned (W n) ∧ Below w.heap.size w w' := by
  unfold W
  have hat := cw_at 6
  have hz := cw6z
  have hf := cw6f
  have hs0 := st0
  have h1 : (cw 6 0).setIfInBounds 0 (.int .u64 n) = cw 6 n := by
    rw [cw_set 6 0 0 n (by omega) hn, setw_low 0 0 n (by decide)]; simp
  have h2 : (cw 6 0).toList.set 0 (.int .u64 n) = (cw 6 n).toList := by rw [← h1]; simp
  go_enter Tryd.func10, Tryd.ntmps10
  go_wp2
  exact bodyPost_ret (v := .agg (cw 6 n)) (by simp [results, Tryd.results10, go_sem, hat, hf]) rfl ⟨rfl, (Below.refl _ _).alloc (Nat.le_refl _) _⟩

theorem not_num64 (x : Nat) (hx : x < 18446744073709551616) : bits BinOp.xor IntKind.u64 (if IntKind.u64.signed = true then -1 else IntKind.u64.max) (x : Int) = ((18446744073709551615 - x : Nat) : Int) := by
  have e : (if IntKind.u64.signed = true then -1 else IntKind.u64.max) = ((18446744073709551615 : Nat) : Int) := by decide
  rw [e, bits_xor_u64_nat _ _ (by omega) hx]
  congr 1
  apply Nat.eq_of_testBit_eq
  intro j
  rw [Nat.testBit_xor, show 18446744073709551615 - x = 2 ^ 64 - (x + 1) by rw [← two64]; omega, Nat.testBit_two_pow_sub_succ (by rw [← two64]; exact hx)]
  rw [show 18446744073709551615 = 2 ^ 64 - 1 by decide, Nat.testBit_two_pow_sub_one]
  by_cases hj : j < 64
  · rw [decide_eq_true hj]; simp
  · rw [decide_eq_false hj, lt_bit (n := x) (q := 64) (by rw [← two64]; exact hx) (by omega)]; simp

theorem wor_any (n m : Nat) (hn : n < Q) (hm : m < Q) (w : World) :
    Calls Tryd.prog 56 #[W n, W m] w fun e w' => e = .returned (W (n ||| m)) ∧ Below w.heap.size w w' := by
  unfold W
  have hat := cw_at 6
  have hz := cw6z
  have hf := cw6f
  have hx := ix6
  have hs0 := st0
  go_enter Tryd.func56, Tryd.ntmps56
  go_wp2
  go_loopw [8] (fun i wr => ∃ (k X : Nat), k ≤ 6 ∧ i = .int .i64 k ∧ wr = ((w.alloc (.cells (cw 6 X) 42)).alloc (.cells (cw 6 m) 42)).alloc (.cells (cw 6 0) 42) ∧ Hid (Part X n k fun j => wd n j ||| wd m j)) (fun i _ => 6 - (intOf i).toNat)
  case atStart => exact ⟨0, n, by omega, rfl, rfl, hide (part_start n _ hn)⟩
  case round =>
    obtain ⟨k, X, hk, rfl, rfl, HE⟩ := hrel
    by_cases hlt : k < 6
    · have hw := part_wd HE.out hlt
      have ho := bits_or_u64_nat (wd n k) (wd m k) (wd_lt _ _) (wd_lt _ _)
      go_wp2
      go_roundw
      case rel =>
        exact ⟨k + 1, _, by omega, by go_num, by rw [cw_seti 6 X k _ _ hlt (or_lt64 _ _ (wd_lt n k) (wd_lt m k)) rfl], hide (part_step HE.out hlt _ (or_lt64 _ _ (wd_lt n k) (wd_lt m k)) rfl)⟩
      case measure => simp [intOf]; omega
    · go_wp2
      obtain rfl := part_end HE.out (by omega) (n ||| m) (or_ltQ n m hn hm) (fun j hj => wd_or n m j)
      exact bodyPost_ret (v := .agg (cw 6 (n ||| m))) (by simp [results, Tryd.results56, go_sem, hat, hf]) rfl ⟨rfl, (((Below.refl _ _).alloc (Nat.le_refl _) _).alloc (by simp <;> omega) _).alloc (by simp <;> omega) _⟩

def cnt6 (n : Int) : Nat := min n.toNat 384
theorem wcount_any (n : Int) (w : World) :
    Calls Tryd.prog 60 #[.int .i64 n] w fun e w' => e = .returned (.int .i64 (cnt6 n : Nat)) ∧ w' = w := by
  go_enter Tryd.func60, Tryd.ntmps60
  go_wp2
  all_goals go_ret
  all_goals
    refine ⟨ret_int ?_, rfl⟩
    unfold cnt6
    omega

theorem left_is (x : Nat) (n : Int) (v : Nat) (h : x * 2 ^ cnt n % 18446744073709551616 = v) (w : World) :
    Calls Tryd.prog 83 #[.int .u64 x, .int .i64 n] w fun e w' => e = .returned (.int .u64 (v : Nat)) ∧ w' = w := by
  subst h; exact left_any x n w
theorem right_is (x : Nat) (n : Int) (v : Nat) (h : x / 2 ^ cnt n = v) (w : World) :
    Calls Tryd.prog 84 #[.int .u64 x, .int .i64 n] w fun e w' => e = .returned (.int .u64 (v : Nat)) ∧ w' = w := by
  subst h; exact right_any x n w

set_option maxHeartbeats 1000000 in
theorem wup_any (n s : Nat) (hn : n < Q) (hs : s ≤ 384) (w : World) :
    Calls Tryd.prog 61 #[W n, .int .i64 s] w fun e w' => e = .returned (W (n * 2 ^ s % Q)) ∧ Below w.heap.size w w' := by
  unfold W
  have hat := cw_at 6
  have hz := cw6z
  have hf := cw6f
  have hx := ix6
  have hs0 := st0d
  have hsc := sc0d
  obtain ⟨q, hq⟩ : ∃ q, q = s / 64 := ⟨_, rfl⟩
  obtain ⟨r, hr⟩ : ∃ r, r = s % 64 := ⟨_, rfl⟩
  have hq1 : (s : Int) / 64 = (q : Int) := by omega
  have HR : Box ((s : Int) % 64 = (r : Int)) := box (by omega)
  have hr2 : r < 64 := by omega
  have hq2 : q ≤ 6 := by omega
  have HS : Box (s = 64 * q + r) := box (by omega)
  have hwr : IntKind.i64.wrap (64 - (s : Int) % 64) = 64 - (s : Int) % 64 := by rw [IntKind.wrap_i64]; omega
  clear hq hr
  go_enter Tryd.func61, Tryd.ntmps61
  go_wp2
  go_loopw [16] (fun i wr => ∃ (k X : Nat), k ≤ 6 ∧ i = .int .i64 k ∧ (∃ d, wr = ((w.alloc (.cells (cw 6 n) 42)).alloc (.cells (cw 6 X) 42)).drewN d) ∧ Box (X = (n % 2 ^ (64 * k)) * 2 ^ s % Q)) (fun i _ => 6 - (intOf i).toNat)
  case atStart => exact ⟨0, 0, by omega, rfl, ⟨0, rfl⟩, box (by simp [Nat.mod_one])⟩
  case round =>
    obtain ⟨k, X, hk, rfl, ⟨d, rfl⟩, HE⟩ := hrel
    by_cases hlt : k < 6
    · obtain ⟨t, ht⟩ : ∃ t, t = k + q := ⟨_, rfl⟩
      have ht1 : (k : Int) + (q : Int) = (t : Int) := by omega
      obtain ⟨lo, hlo⟩ : ∃ lo, wd n k * 2 ^ r % 18446744073709551616 = lo := ⟨_, rfl⟩
      obtain ⟨hi, hhi⟩ : ∃ hi, wd n k / 2 ^ (64 - r) = hi := ⟨_, rfl⟩
      have hlo2 : lo < 18446744073709551616 := by rw [← hlo]; exact Nat.mod_lt _ (by decide)
      have hhi2 : hi < 18446744073709551616 := by rw [← hhi]; exact Nat.lt_of_le_of_lt (Nat.div_le_self _ _) (wd_lt n k)
      have ST := box (up_step n k s q r t X lo hi HS.out hr2 ht HE.out hlo hhi)
      have HLO := box hlo
      have HHI := box hhi
      have HT := box ht
      clear hlo hhi ht
      have hc1 : cnt ((s : Int) % 64) = r := by rw [HR.out]; exact cnt_small r hr2
      have hc2 : cnt (64 - (s : Int) % 64) = 64 - r := by rw [HR.out]; unfold cnt; omega
      by_cases h1 : t < 6
      · obtain ⟨X1, hX1⟩ : ∃ X1, X1 = X ||| lo * 2 ^ (64 * t) := ⟨_, rfl⟩
        have hb1 := bor X t lo hlo2
        have hw1 := cw_or 6 X t lo X1 h1 hlo2 hX1
        have HX1 := box hX1
        clear hX1
        have e1 : lo * 2 ^ (64 * t) % Q = lo * 2 ^ (64 * t) := Nat.mod_eq_of_lt (sh_small lo t hlo2 h1)
        have E1 := box e1
        clear e1
        by_cases h2 : t + 1 < 6
        · obtain ⟨X2, hX2⟩ : ∃ X2, X2 = X1 ||| hi * 2 ^ (64 * (t + 1)) := ⟨_, rfl⟩
          have hb2 := bor X1 (t + 1) hi hhi2
          have hw2 := cw_or 6 X1 (t + 1) hi X2 h2 hhi2 hX2
          have HX2 := box hX2
          clear hX2
          have E2 := box (Nat.mod_eq_of_lt (sh_small hi (t + 1) hhi2 h2))
          go_wp2
          go_region_with (go_at_call 83; refine (left_is _ _ lo (by rw [hc1]; exact HLO.out) _).mono ?_; rintro e w' ⟨rfl, rfl⟩)
          all_goals go_wp2
          all_goals go_region_with (go_at_call 84; refine (right_is _ _ hi (by rw [hc2]; exact HHI.out) _).mono ?_; rintro e w' ⟨rfl, rfl⟩)
          all_goals go_wp2
          all_goals go_roundw
          all_goals first | (show (_ : Nat) < _; simp [intOf]; omega) | exact ⟨k + 1, X2, by omega, by go_num, ⟨_, rfl⟩, box (by rw [ST.out, E1.out, E2.out, HX2.out, HX1.out, Nat.or_assoc])⟩
        · have E2 := box (sh_big hi (t + 1) (by omega))
          go_wp2
          go_region_with (go_at_call 83; refine (left_is _ _ lo (by rw [hc1]; exact HLO.out) _).mono ?_; rintro e w' ⟨rfl, rfl⟩)
          all_goals go_wp2
          all_goals go_roundw
          all_goals first | (show (_ : Nat) < _; simp [intOf]; omega) | exact ⟨k + 1, X1, by omega, by go_num, ⟨_, rfl⟩, box (by rw [ST.out, E1.out, E2.out, HX1.out, Nat.or_zero])⟩
      · have E1 := box (sh_big lo t (by omega))
        have E2 := box (sh_big hi (t + 1) (by omega))
        have h3 : ¬ t + 1 < 6 := by omega
        go_wp2
        go_roundw
        case rel => exact ⟨k + 1, X, by omega, by go_num, ⟨_, rfl⟩, box (by rw [ST.out, E1.out, E2.out, Nat.or_zero, Nat.or_zero])⟩
        case measure => simp [intOf]; omega
    · go_wp2
      have e := HE.out
      rw [wlow n k hn (by omega)] at e
      subst e
      exact bodyPost_ret (v := .agg (cw 6 (n * 2 ^ s % Q))) (by simp [results, Tryd.results61, go_sem, hat, hf]) rfl ⟨rfl, below_drewN (((Below.refl _ _).alloc (Nat.le_refl _) _).alloc (by simp <;> omega) _) _⟩

set_option maxHeartbeats 1000000 in
theorem wdown_any (n s : Nat) (hn : n < Q) (hs : s ≤ 384) (w : World) :
    Calls Tryd.prog 62 #[W n, .int .i64 s] w fun e w' => e = .returned (W (n / 2 ^ s)) ∧ Below w.heap.size w w' := by
  unfold W
  have hat := cw_at 6
  have hz := cw6z
  have hf := cw6f
  have hx := ix6
  have hs0 := st0d
  have hsc := sc0d
  obtain ⟨q, hq⟩ : ∃ q, q = s / 64 := ⟨_, rfl⟩
  obtain ⟨r, hr⟩ : ∃ r, r = s % 64 := ⟨_, rfl⟩
  have hq1 : (s : Int) / 64 = (q : Int) := by omega
  have HR : Box ((s : Int) % 64 = (r : Int)) := box (by omega)
  have hr2 : r < 64 := by omega
  have hq2 : q ≤ 6 := by omega
  have HS : Box (s = 64 * q + r) := box (by omega)
  have hwr : IntKind.i64.wrap (64 - (s : Int) % 64) = 64 - (s : Int) % 64 := by rw [IntKind.wrap_i64]; omega
  clear hq hr
  go_enter Tryd.func62, Tryd.ntmps62
  go_wp2
  go_loopw [16] (fun i wr => ∃ (k X : Nat), k ≤ 6 ∧ i = .int .i64 k ∧ (∃ d, wr = ((w.alloc (.cells (cw 6 n) 42)).alloc (.cells (cw 6 X) 42)).drewN d) ∧ Box (X = (n % 2 ^ (64 * k)) / 2 ^ s)) (fun i _ => 6 - (intOf i).toNat)
  case atStart => exact ⟨0, 0, by omega, rfl, ⟨0, rfl⟩, box (by simp [Nat.mod_one])⟩
  case round =>
    obtain ⟨k, X, hk, rfl, ⟨d, rfl⟩, HE⟩ := hrel
    by_cases hlt : k < 6
    · obtain ⟨lo, hlo⟩ : ∃ lo, wd n k * 2 ^ (64 - r) % 18446744073709551616 = lo := ⟨_, rfl⟩
      obtain ⟨hi, hhi⟩ : ∃ hi, wd n k / 2 ^ r = hi := ⟨_, rfl⟩
      have hlo2 : lo < 18446744073709551616 := by rw [← hlo]; exact Nat.mod_lt _ (by decide)
      have hhi2 : hi < 18446744073709551616 := by rw [← hhi]; exact Nat.lt_of_le_of_lt (Nat.div_le_self _ _) (wd_lt n k)
      have ST := box (down_step n k s q r X lo hi HS.out hr2 HE.out hlo hhi)
      have HLO := box hlo
      have HHI := box hhi
      clear hlo hhi
      have hc1 : cnt ((s : Int) % 64) = r := by rw [HR.out]; exact cnt_small r hr2
      have hc2 : cnt (64 - (s : Int) % 64) = 64 - r := by rw [HR.out]; unfold cnt; omega
      by_cases h1 : q ≤ k
      · obtain ⟨t, ht⟩ : ∃ t, t = k - q := ⟨_, rfl⟩
        have ht1 : (k : Int) - (q : Int) = (t : Int) := by omega
        have ht6 : t < 6 := by omega
        have HT := box ht
        obtain ⟨X1, hX1⟩ : ∃ X1, X1 = X ||| hi * 2 ^ (64 * t) := ⟨_, rfl⟩
        have hb1 := bor X t hi hhi2
        have hw1 := cw_or 6 X t hi X1 ht6 hhi2 hX1
        have HX1 := box hX1
        clear hX1
        by_cases h2 : 1 ≤ t
        · obtain ⟨u, hu⟩ : ∃ u, u = t - 1 := ⟨_, rfl⟩
          have hu1 : (t : Int) - 1 = (u : Int) := by omega
          have hu6 : u < 6 := by omega
          have hu3 : (0 : Int) ≤ (u : Int) := by omega
          have E : Box (X ||| (hi * 2 ^ (64 * (k - q)) ||| lo * 2 ^ (64 * (k - q - 1))) = X1 ||| lo * 2 ^ (64 * u)) := box (by rw [HX1.out, show k - q - 1 = u by omega, show k - q = t by omega, Nat.or_assoc])
          have hqk : q < k := by omega
          clear ht hu
          obtain ⟨X2, hX2⟩ : ∃ X2, X2 = X1 ||| lo * 2 ^ (64 * u) := ⟨_, rfl⟩
          have hb2 := bor X1 u lo hlo2
          have hw2 := cw_or 6 X1 u lo X2 hu6 hlo2 hX2
          have HX2 := box hX2
          clear hX2
          go_wp2
          go_region_with (go_at_call 84; refine (right_is _ _ hi (by rw [hc1]; exact HHI.out) _).mono ?_; rintro e w' ⟨rfl, rfl⟩)
          all_goals go_wp2
          all_goals go_region_with (go_at_call 83; refine (left_is _ _ lo (by rw [hc2]; exact HLO.out) _).mono ?_; rintro e w' ⟨rfl, rfl⟩)
          all_goals go_wp2
          all_goals go_roundw
          all_goals first | (show (_ : Nat) < _; simp [intOf]; omega) | exact ⟨k + 1, X2, by omega, by go_num, ⟨_, rfl⟩, box (by rw [ST.out, if_pos hqk, E.out, HX2.out])⟩
        · obtain rfl : q = k := by omega
          obtain rfl : t = 0 := by omega
          have E : Box (X1 = X ||| hi) := box (by rw [HX1.out]; simp)
          clear ht
          go_wp2
          go_region_with (go_at_call 84; refine (right_is _ _ hi (by rw [hc1]; exact HHI.out) _).mono ?_; rintro e w' ⟨rfl, rfl⟩)
          all_goals go_wp2
          all_goals go_roundw
          all_goals first | (show (_ : Nat) < _; simp [intOf]; omega) | exact ⟨q + 1, X1, by omega, by go_num, ⟨_, rfl⟩, box (by rw [ST.out, E.out]; simp)⟩
      · have h4 : ¬ (0 : Int) ≤ (k : Int) - (q : Int) := by omega
        have h5 : ¬ (0 : Int) ≤ (k : Int) - (q : Int) - 1 := by omega
        go_wp2
        go_roundw
        case rel => exact ⟨k + 1, X, by omega, by go_num, ⟨_, rfl⟩, box (by rw [ST.out, if_neg (by omega), if_neg (by omega)])⟩
        case measure => simp [intOf]; omega
    · go_wp2
      have e := HE.out
      rw [wlow n k hn (by omega)] at e
      subst e
      exact bodyPost_ret (v := .agg (cw 6 (n / 2 ^ s))) (by simp [results, Tryd.results62, go_sem, hat, hf]) rfl ⟨rfl, below_drewN (((Below.refl _ _).alloc (Nat.le_refl _) _).alloc (by simp <;> omega) _) _⟩
theorem below_fun (W : World) : ∃ F : World → World, (∀ u, Below W.heap.size W (F u)) ∧ (∀ u, Below W.heap.size W u → F u = u) := by
  classical
  refine ⟨fun u => if Below W.heap.size W u then u else W, fun u => ?_, fun u h => if_pos h⟩
  by_cases h : Below W.heap.size W u
  · simp only [h, if_true]
  · simp only [h, if_false]; exact Below.refl _ _

theorem wp_region_below {P : Program} {id : Nat} {Q : Exit → Act → World → Prop} {a : Act} {W : World} {l : List Oper} (F : World → World) (hF : ∀ u, Below W.heap.size W u → F u = u)
    (hm : P.follows .mixedOrders = true) (hB : Region.lexB .any l.toArray = true)
    (h : wpQuiet P l.toArray (fun w' => ∃ u, w' = F u) (fun a' => ∀ w', (∃ u, w' = F u) → Q .normal a' w') l a) : (Code.region id l.toArray true).wp P Q a W :=
  wp_region_quiet (C := fun w' => ∃ u, w' = F u) hm hB ⟨W.drew, (hF _ ((Below.refl _ _).drew)).symm⟩ (by simpa using h)

theorem quietF {P : Program} {f : Nat} {args : Array Value} {v : Value} {W : World} {F : World → World} (h1 : ∀ u, Below W.heap.size W (F u)) (h2 : ∀ u, Below W.heap.size W u → F u = u) {u : World}
    (h : Calls P f args (F u) fun e w' => e = .returned v ∧ Below (F u).heap.size (F u) w') : Calls P f args (F u) fun e w'' => e = .returned v ∧ ∃ u', w'' = F u' :=
  h.mono fun _ w' ⟨he, hm⟩ => ⟨he, w', (h2 _ ((h1 u).trans (hm.mono (h1 u).size))).symm⟩
theorem heap_of {W w1 : World} (hb : Below W.heap.size W w1) (b : Nat) (c : Array Value) (t : TypeId) (h : W.heap[b]? = some (.cells c t)) : w1.heap[b]? = some (.cells c t) := by
  rw [hb.block b (Array.getElem?_eq_some_iff.1 h).1, h]

theorem row_cell {w : World} {b n : Nat} (h : w.heap[b]? = some (.cells (cw 6 n) 42)) (o : Nat) (ho : o < 6) : w.cell? ⟨b, o, none⟩ = some (.int .u64 (wd n o : Nat)) := by
  rw [cell_of_row w b o _ _ _ h, cw_at 6 n o ho]
theorem setRow_row {w : World} {b : Nat} {c c' : Array Value} {t : TypeId} (h : w.heap[b]? = some (.cells c t)) : (w.setRow b c').heap[b]? = some (.cells c' t) := by
  simp [World.setRow, Array.getElem?_modify, h]
theorem setRow_other {w : World} {b b' : Nat} {c' : Array Value} (h : b ≠ b') : (w.setRow b c').heap[b']? = w.heap[b']? := by
  simp [World.setRow, Array.getElem?_modify, h]
theorem setRow_size {w : World} {b : Nat} {c' : Array Value} : (w.setRow b c').heap.size = w.heap.size := by
  simp [World.setRow]
theorem Below.setRow {B : Nat} {w w1 : World} {b : Nat} {c : Array Value} (h : Below B w w1) (hb : B ≤ b) : Below B w (w1.setRow b c) :=
  ⟨h.os, h.tape, h.output, by rw [setRow_size]; exact h.size, fun k hk => by rw [setRow_other (by omega)]; exact h.block k hk⟩

theorem st_same (w : World) (b x : Nat) (h : w.heap[b]? = some (.cells (cw 6 x) 42)) :
    (storeCells ⟨b, 0, none⟩ (cw 6 x).toList 0).run Tryd.prog w = .ok () w := by
  rw [st_any w b x x h, setRow_self w b _ _ _ h]

theorem eqItems6 (d x y : Nat) (w : World) : ∀ is : List Nat, (∀ i ∈ is, i < 6) → (Op.eqItems (d + 1) 25 1 (cw 6 x) (cw 6 y) is).run Tryd.prog w = .ok (is.all fun i => wd x i == wd y i) w
  | [], _ => rfl
  | i :: is, h => by
    have hi := h i (by simp)
    have ih := eqItems6 d x y w is (fun j hj => h j (by simp [hj]))
    have p1 : ∀ z : Nat, (part 25 (cw 6 z) (i * 1)).run Tryd.prog w = .ok (.int .u64 (wd z i : Nat)) w := fun z => by
      simp [part, cw_at 6 z i hi, go_sem]
    have e : ((wd x i : Int) == (wd y i : Int)) = (wd x i == wd y i) := by rw [Bool.eq_iff_iff]; simp only [beq_iff_eq]; omega
    simp only [Op.eqItems, Sem.run_bind, p1, Result.andThen_ok, run_equalIn_int _ d 25 .u64 .u64 _ _ Tryd.underlying25, e]
    cases he : wd x i == wd y i
    · simp [he]
    · simp [he, ih]

theorem eq6 (x y : Nat) (hx : x < Q) (hy : y < Q) (w : World) : (Op.equalIn 10000 42 (.agg (cw 6 x)) (.agg (cw 6 y))).run Tryd.prog w = .ok (decide (x = y)) w := by
  obtain ⟨i, hi⟩ : ∃ i, Tryd.prog.info? 25 = some i := by
    have : (Tryd.prog.info? 25).isSome = true := by kernel_rfl
    exact Option.isSome_iff_exists.1 this
  have hc : Tryd.prog.cellsOf 25 = 1 := by kernel_rfl
  rw [run_equalIn_array w 9999 (cw 6 x) (cw 6 y) Tryd.underlying42 hi, hc, eqItems6 9998 x y w (List.range 6) (fun i h => by simpa using h)]
  congr 1
  rw [Bool.eq_iff_iff, List.all_eq_true, decide_eq_true_iff]
  constructor
  · intro h
    obtain ⟨L, hL, hQ⟩ := Q_of
    rw [hQ] at hx hy
    exact wd_ext hx hy (fun k hk => by simpa using h k (by rw [hL] at hk; simpa using hk))
  · rintro rfl i _
    simp
theorem eqg6 : Tryd.prog.eqGuardType Tryd.prog.depth 42 = false := by kernel_rfl
end Go.Proofs.YtpdehipeakcaiaaDoor
