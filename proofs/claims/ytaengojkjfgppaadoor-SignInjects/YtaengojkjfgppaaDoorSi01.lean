/-
  What the functions that the statement reaches return: part 1 (Mx, Word1, Word2, Pop, Rlen0, Wide0, Wide2, Quiet2, Wide7, Wide9, Rwide1, Rwide2, Wide12, Frame6).
-/
import Derived.Laws.MathBits
import Derived.Laws.Bits64b
import Derived.Laws.BitsAllLaws
import Derived.Laws.ShiftsVarLaws
import Derived.WalkKit
import Derived.ProofKit
import Derived.Lib.BitFns
import Derived.Test.YtaengojkjfgppaaDoorRows
import Derived.WalkLawsBesides
import Derived.ScopeJumps
import Derived.Deep.WholeRow
import Derived.Below
import Derived.Lib.TrailingZeros
import Derived.Deep.QuietTactic
import Derived.BigQuiet
import Derived.ChangeKeysEq
import Derived.Deep.RegionWith
import Derived.Deep.OwnRows
import Derived.Laws.BytesString
import Derived.Deep.RegionLaw
import Derived.Laws.CopyOwn
import Derived.RegionTactic
import Derived.OpenShut
import Derived.Laws.IdiomArrays
import Derived.Carry
namespace Go.Proofs.YtaengojkjfgppaaDoor.WMath
set_option maxRecDepth 100000
set_option maxHeartbeats 40000000
set_option maxRecDepth 100000
theorem testBit_toNat (x k : Nat) : (x.testBit k).toNat = x / 2 ^ k % 2 := by
  rw [Nat.testBit_eq_decide_div_mod_eq]
  have : x / 2 ^ k % 2 = 0 ∨ x / 2 ^ k % 2 = 1 := by omega
  rcases this with h | h <;> simp [h]

theorem bit_and (x k : Nat) : ((x / 2 ^ k) &&& 1 == 1) = x.testBit k := by
  rw [Nat.and_one_is_mod, Nat.testBit_eq_decide_div_mod_eq]
  rfl

theorem mod_succ (x k : Nat) : x % 2 ^ (k + 1) = x % 2 ^ k + 2 ^ k * (x.testBit k).toNat := by
  rw [testBit_toNat, Nat.mod_pow_succ]

theorem or_pow (s k : Nat) (h : s < 2 ^ k) : s ||| 2 ^ k = s + 2 ^ k := by
  have := Nat.two_pow_add_eq_or_of_lt h 1
  rw [Nat.mul_one] at this
  rw [Nat.or_comm, ← this, Nat.add_comm]

theorem two64 : (18446744073709551616 : Nat) = 2 ^ 64 := by decide
theorem pow_lt_64 (k : Nat) (h : k < 64) : 2 ^ k < 18446744073709551616 := by
  rw [two64]; exact Nat.pow_lt_pow_right (by decide) h
theorem pow_le_64 (k : Nat) (h : k ≤ 64) : 2 ^ k ≤ 18446744073709551616 := by
  rw [two64]; exact Nat.pow_le_pow_right (by decide) h

theorem add_num (P A B c0 s : Nat) (x y c : Bool) (hs : s < P) (h : s + P * c.toNat = A + B + c0) :
    (if (x != y) != c then s + P else s) < P * 2 ∧ (if (x != y) != c then s + P else s) + P * 2 * ((x && y || x && c) || y && c).toNat = (A + P * x.toNat) + (B + P * y.toNat) + c0 := by
  cases x <;> cases y <;> cases c <;> simp at h ⊢ <;> omega
theorem add_step (a b s k : Nat) (c0 : Nat) (c : Bool) (hs : s < 2 ^ k) (h : s + 2 ^ k * c.toNat = a % 2 ^ k + b % 2 ^ k + c0) :
    (if (a.testBit k != b.testBit k) != c then s + 2 ^ k else s) < 2 ^ (k + 1) ∧ (if (a.testBit k != b.testBit k) != c then s + 2 ^ k else s) + 2 ^ (k + 1) * ((a.testBit k && b.testBit k || a.testBit k && c) || b.testBit k && c).toNat = a % 2 ^ (k + 1) + b % 2 ^ (k + 1) + c0 := by
  rw [mod_succ, mod_succ, Nat.pow_succ]
  exact add_num _ _ _ _ _ _ _ _ hs h
theorem add_end (a b s : Nat) (c c0 : Bool) (hs : s < 18446744073709551616) (h : s + 18446744073709551616 * c.toNat = a + b + c0.toNat) :
    s = (a + b + c0.toNat) % 18446744073709551616 ∧ c = decide (18446744073709551616 ≤ a + b + c0.toNat) := by
  cases c <;> simp at h ⊢ <;> omega
theorem mask_lt (c : Nat) (h : c ≤ 64) : 2 ^ c - 1 < 18446744073709551616 := by
  have := pow_le_64 c h
  have := Nat.two_pow_pos c
  omega

end Go.Proofs.YtaengojkjfgppaaDoor.WMath
namespace Go.Proofs.YtaengojkjfgppaaDoor.WMath
set_option maxRecDepth 100000
set_option maxHeartbeats 40000000
set_option maxRecDepth 100000

def Box (p : Prop) : Prop := p ∨ False
theorem box {p : Prop} (h : p) : Box p := Or.inl h
theorem Box.out {p : Prop} (h : Box p) : p := h.elim id False.elim

def wd (n k : Nat) : Nat := n / 2 ^ (64 * k) % 18446744073709551616
theorem wd_lt (n k : Nat) : wd n k < 18446744073709551616 := Nat.mod_lt _ (by decide)
theorem wd_bit (n k j : Nat) : (wd n k).testBit j = (decide (j < 64) && n.testBit (64 * k + j)) := by
  unfold wd
  rw [two64, Nat.testBit_mod_two_pow, Nat.testBit_div_two_pow, Nat.add_comm j]
theorem wd_zero (k : Nat) : wd 0 k = 0 := by unfold wd; rw [Nat.zero_div, Nat.zero_mod]

theorem bit_of_wd (n i : Nat) : n.testBit i = (wd n (i / 64)).testBit (i % 64) := by
  rw [wd_bit, Nat.div_add_mod]
  simp [Nat.mod_lt]

theorem lt_bit {n q i : Nat} (h : n < 2 ^ q) (hi : q ≤ i) : n.testBit i = false := Nat.testBit_lt_two_pow (Nat.lt_of_lt_of_le h (Nat.pow_le_pow_right (by decide) hi))

theorem wd_ext {L n m : Nat} (hn : n < 2 ^ (64 * L)) (hm : m < 2 ^ (64 * L)) (h : ∀ k, k < L → wd n k = wd m k) : n = m := by
  apply Nat.eq_of_testBit_eq
  intro i
  by_cases hi : i < 64 * L
  · rw [bit_of_wd, bit_of_wd m, h (i / 64) (by omega)]
  · rw [lt_bit hn (by omega), lt_bit hm (by omega)]

theorem pow64 (p : Nat) : 2 ^ (64 * (p + 1)) = 2 ^ (64 * p) * 18446744073709551616 := by
  rw [Nat.mul_add, Nat.pow_add]

theorem wd_high {n q k : Nat} (h : n < 2 ^ (64 * q)) (hk : q ≤ k) : wd n k = 0 := by
  unfold wd
  rw [Nat.div_eq_of_lt (Nat.lt_of_lt_of_le h (Nat.pow_le_pow_right (by decide) (by omega)))]

def setw (n p x : Nat) : Nat := n % 2 ^ (64 * p) + 2 ^ (64 * p) * (x + 18446744073709551616 * (n / 2 ^ (64 * (p + 1))))

theorem wd_split (n p : Nat) : n = n % 2 ^ (64 * p) + 2 ^ (64 * p) * (wd n p + 18446744073709551616 * (n / 2 ^ (64 * (p + 1)))) := by
  unfold wd
  rw [pow64, ← Nat.div_div_eq_div_mul]
  have h1 := Nat.div_add_mod n (2 ^ (64 * p))
  have h2 := Nat.div_add_mod (n / 2 ^ (64 * p)) 18446744073709551616
  generalize n / 2 ^ (64 * p) = q at *
  have h3 : q % 18446744073709551616 + 18446744073709551616 * (q / 18446744073709551616) = q := by omega
  rw [h3]
  omega

theorem mod_wd (n p : Nat) : n % 2 ^ (64 * (p + 1)) = n % 2 ^ (64 * p) + 2 ^ (64 * p) * wd n p := by
  unfold wd
  rw [pow64, Nat.mod_mul]

theorem setw_add (n p x : Nat) : setw n p x + 2 ^ (64 * p) * wd n p = n + 2 ^ (64 * p) * x := by
  have h := wd_split n p
  unfold setw
  generalize n / 2 ^ (64 * (p + 1)) = D at *
  generalize n % 2 ^ (64 * p) = A at *
  generalize wd n p = u at *
  generalize 2 ^ (64 * p) = P at *
  rw [Nat.mul_add] at h
  rw [Nat.mul_add, h]
  omega

theorem setw_low (n p x : Nat) (h : n < 2 ^ (64 * p)) : setw n p x = n + 2 ^ (64 * p) * x := by
  have := setw_add n p x
  rw [wd_high h (Nat.le_refl _)] at this
  simpa using this

theorem setw_bit (n p x i : Nat) (hx : x < 18446744073709551616) : (setw n p x).testBit i = if i / 64 = p then x.testBit (i % 64) else n.testBit i := by
  unfold setw
  rw [Nat.add_comm, Nat.testBit_two_pow_mul_add _ (Nat.mod_lt _ (Nat.two_pow_pos _))]
  split
  · rename_i h
    rw [if_neg (by omega), Nat.testBit_mod_two_pow, decide_eq_true h, Bool.true_and]
  · rename_i h
    rw [Nat.add_comm, two64, Nat.testBit_two_pow_mul_add _ (by rw [← two64]; exact hx)]
    split
    · rename_i h2
      rw [if_pos (by omega)]
      congr 1; omega
    · rename_i h2
      rw [if_neg (by omega), Nat.testBit_div_two_pow]
      congr 1; omega

theorem wd_setw (n p x k : Nat) (hx : x < 18446744073709551616) : wd (setw n p x) k = if k = p then x else wd n k := by
  apply Nat.eq_of_testBit_eq
  intro j
  rw [wd_bit, setw_bit _ _ _ _ hx]
  by_cases hj : j < 64
  · rw [decide_eq_true hj, Bool.true_and, show (64 * k + j) / 64 = k by omega, show (64 * k + j) % 64 = j by omega]
    split
    · rfl
    · rw [wd_bit, decide_eq_true hj, Bool.true_and]
  · rw [decide_eq_false hj, Bool.false_and]
    have e : ∀ y, y < 18446744073709551616 → y.testBit j = false := fun y hy => lt_bit (q := 64) (by rw [← two64]; exact hy) (by omega)
    split
    · rw [e x hx]
    · rw [e _ (wd_lt _ _)]

theorem setw_lt (n p x q : Nat) (hn : n < 2 ^ (64 * q)) (hp : p < q) (hx : x < 18446744073709551616) : setw n p x < 2 ^ (64 * q) := by
  apply Nat.lt_pow_two_of_testBit
  intro i hi
  rw [setw_bit _ _ _ _ hx, if_neg (by omega), lt_bit hn hi]

theorem setw_or (n p x q : Nat) (hx : x < 18446744073709551616) (hq : q = p) : setw n p (wd n q ||| x) = n ||| x * 2 ^ (64 * p) := by
  subst hq
  apply Nat.eq_of_testBit_eq
  intro i
  have hlt : wd n q ||| x < 18446744073709551616 := by rw [two64]; exact Nat.or_lt_two_pow (by rw [← two64]; exact wd_lt _ _) (by rw [← two64]; exact hx)
  rw [setw_bit _ _ _ _ hlt, Nat.testBit_or n, Nat.testBit_mul_two_pow]
  split
  · rename_i h
    rw [Nat.testBit_or, wd_bit, decide_eq_true (Nat.mod_lt _ (by decide)), Bool.true_and, ← h, Nat.div_add_mod, decide_eq_true (by omega), Bool.true_and]
    congr 2; omega
  · rename_i h
    by_cases h2 : 64 * q ≤ i
    · rw [decide_eq_true h2, Bool.true_and, lt_bit (n := x) (q := 64) (by rw [← two64]; exact hx) (by omega), Bool.or_false]
    · rw [decide_eq_false h2, Bool.false_and, Bool.or_false]

def cw (L n : Nat) : Array Value := ((List.range L).map fun k => Value.int .u64 (wd n k : Nat)).toArray
theorem cw_size (L n : Nat) : (cw L n).size = L := by simp [cw]
theorem cw_at (L n k : Nat) (h : k < L) : (cw L n)[k]? = some (.int .u64 (wd n k : Nat)) := by simp [cw, h]
theorem cw_set (L n p x : Nat) (hp : p < L) (hx : x < 18446744073709551616) : (cw L n).setIfInBounds p (.int .u64 (x : Nat)) = cw L (setw n p x) := by
  apply Array.ext_getElem?
  intro k
  rw [Array.getElem?_setIfInBounds]
  by_cases hk : k < L
  · rw [cw_at L (setw n p x) k hk, cw_at L n k hk, wd_setw _ _ _ _ hx, cw_size]
    by_cases e : p = k
    · subst e; rw [if_pos rfl, if_pos hp, if_pos rfl]
    · rw [if_neg e, if_neg (fun h => e h.symm)]
  · have e1 : ∀ m, (cw L m)[k]? = none := fun m => by rw [Array.getElem?_eq_none]; rw [cw_size]; omega
    rw [e1, e1, if_neg (by omega)]
theorem cw6 (n : Nat) : cw 6 n = #[.int .u64 (wd n 0 : Nat), .int .u64 (wd n 1 : Nat), .int .u64 (wd n 2 : Nat), .int .u64 (wd n 3 : Nat), .int .u64 (wd n 4 : Nat), .int .u64 (wd n 5 : Nat)] := rfl
theorem cw6z : #[Value.int .u64 0, .int .u64 0, .int .u64 0, .int .u64 0, .int .u64 0, .int .u64 0] = cw 6 0 := by rw [cw6]; simp [wd_zero]
theorem cw6f (n : Nat) : #[Value.int .u64 (wd n 0 : Nat), .int .u64 (wd n 1 : Nat), .int .u64 (wd n 2 : Nat), .int .u64 (wd n 3 : Nat), .int .u64 (wd n 4 : Nat), .int .u64 (wd n 5 : Nat)] = cw 6 n := rfl
theorem cw_oneCell (L n : Nat) : (cw L n).all (·.oneCell') = true := by
  rw [Array.all_eq_true]
  intro i hi
  rw [cw_size] at hi
  have := cw_at L n i hi
  rw [Array.getElem?_eq_getElem (by rw [cw_size]; exact hi)] at this
  injection this with this
  rw [this]; rfl

def pw (L : Nat) : Nat := 2 ^ (64 * L)
def Qn (k : Nat) : Nat := if h : k = 0 then pw 6 else Qn (k - 1)
  termination_by k
  decreasing_by omega
def Q : Nat := Qn 0
theorem Q_pw : ∃ L, L = 6 ∧ Q = pw L := by
  refine ⟨6, rfl, ?_⟩
  unfold Q
  rw [Qn, dif_pos rfl]
theorem Q_of : ∃ L, L = 6 ∧ Q = 2 ^ (64 * L) := by
  obtain ⟨L, hL, h⟩ := Q_pw
  exact ⟨L, hL, h⟩
theorem Q_pos : 0 < Q := by
  obtain ⟨L, _, h⟩ := Q_of
  rw [h]
  exact Nat.two_pow_pos _
def W (n : Nat) : Value := .agg (cw 6 n)

theorem w6 (a0 a1 a2 a3 a4 a5 : Nat) (h0 : a0 < 18446744073709551616) (h1 : a1 < 18446744073709551616) (h2 : a2 < 18446744073709551616) (h3 : a3 < 18446744073709551616) (h4 : a4 < 18446744073709551616) (h5 : a5 < 18446744073709551616) :
    ∃ n, n < Q ∧ cw 6 n = #[.int .u64 a0, .int .u64 a1, .int .u64 a2, .int .u64 a3, .int .u64 a4, .int .u64 a5] := by
  refine ⟨setw (setw (setw (setw (setw (setw 0 0 a0) 1 a1) 2 a2) 3 a3) 4 a4) 5 a5, ?_, ?_⟩
  · obtain ⟨L, hL, h⟩ := Q_of
    rw [h]
    repeat (refine setw_lt _ _ _ L ?_ (by omega) (by assumption))
    exact Nat.two_pow_pos _
  · rw [cw6]
    simp only [wd_setw _ _ _ _ h0, wd_setw _ _ _ _ h1, wd_setw _ _ _ _ h2, wd_setw _ _ _ _ h3, wd_setw _ _ _ _ h4, wd_setw _ _ _ _ h5]
    rfl
theorem cw_seti (L n p y : Nat) (x : Int) (hp : p < L) (hx : y < 18446744073709551616) (h : x = (y : Int)) : (cw L n).setIfInBounds p (.int .u64 x) = cw L (setw n p y) := by
  rw [h]; exact cw_set L n p y hp hx
theorem cw_push (L n p y : Nat) (x : Int) (hp : p < L) (hn : n < 2 ^ (64 * p)) (hx : y < 18446744073709551616) (h : x = (y : Int)) : (cw L n).setIfInBounds p (.int .u64 x) = cw L (n + 2 ^ (64 * p) * y) := by
  rw [cw_seti L n p y x hp hx h, setw_low n p y hn]
theorem push_lt (n p y : Nat) (hn : n < 2 ^ (64 * p)) (hx : y < 18446744073709551616) : n + 2 ^ (64 * p) * y < 2 ^ (64 * (p + 1)) := by
  rw [pow64]
  have h : 2 ^ (64 * p) * (y + 1) ≤ 2 ^ (64 * p) * 18446744073709551616 := Nat.mul_le_mul_left _ (by omega)
  rw [Nat.mul_add] at h
  omega

theorem wadd_step (n m S k x : Nat) (C : Bool) (hE : S + 2 ^ (64 * k) * C.toNat = n % 2 ^ (64 * k) + m % 2 ^ (64 * k)) (hx : x = (wd n k + wd m k + C.toNat) % 18446744073709551616) :
    S + 2 ^ (64 * k) * x + 2 ^ (64 * (k + 1)) * (decide (18446744073709551616 ≤ wd n k + wd m k + C.toNat)).toNat = n % 2 ^ (64 * (k + 1)) + m % 2 ^ (64 * (k + 1)) := by
  have e : x + 18446744073709551616 * (decide (18446744073709551616 ≤ wd n k + wd m k + C.toNat)).toNat = wd n k + wd m k + C.toNat := by
    have := wd_lt n k
    have := wd_lt m k
    have : C.toNat ≤ 1 := by cases C <;> decide
    by_cases h : 18446744073709551616 ≤ wd n k + wd m k + C.toNat
    · rw [decide_eq_true h, Bool.toNat_true]; omega
    · rw [decide_eq_false h, Bool.toNat_false]; omega
  rw [mod_wd, mod_wd, pow64, Nat.mul_assoc]
  have e2 := congrArg (fun t => 2 ^ (64 * k) * t) e
  simp only [Nat.mul_add] at e2
  omega
theorem pwQ (k : Nat) (h : k = 6) : 2 ^ (64 * k) = Q := by
  obtain ⟨L, hL, hQ⟩ := Q_of
  rw [hQ, show L = k by omega]
theorem wadd_end (n m S k : Nat) (C : Bool) (h6 : k = 6) (hn : n < Q) (hm : m < Q) (hS : S < 2 ^ (64 * k)) (hE : S + 2 ^ (64 * k) * C.toNat = n % 2 ^ (64 * k) + m % 2 ^ (64 * k)) :
    S = (n + m) % Q ∧ C = decide (Q ≤ n + m) := by
  rw [pwQ k h6] at hS hE
  rw [Nat.mod_eq_of_lt hn, Nat.mod_eq_of_lt hm] at hE
  cases C
  · rw [Bool.toNat_false, Nat.mul_zero, Nat.add_zero] at hE
    rw [← hE, Nat.mod_eq_of_lt hS, decide_eq_false (by omega)]
    exact ⟨rfl, rfl⟩
  · rw [Bool.toNat_true, Nat.mul_one] at hE
    rw [← hE, Nat.add_mod_right, Nat.mod_eq_of_lt hS, decide_eq_true (by omega)]
    exact ⟨rfl, rfl⟩
def Part (X n k : Nat) (f : Nat → Nat) : Prop := X < Q ∧ ∀ j, j < 6 → wd X j = if j < k then f j else wd n j
theorem part_start (n : Nat) (f : Nat → Nat) (h : n < Q) : Part n n 0 f := ⟨h, fun j _ => by rw [if_neg (by omega)]⟩
theorem setw_ltQ (n p x : Nat) (hn : n < Q) (hp : p < 6) (hx : x < 18446744073709551616) : setw n p x < Q := by
  obtain ⟨L, hL, hQ⟩ := Q_of
  rw [hQ] at hn ⊢
  exact setw_lt _ _ _ _ hn (by omega) hx
theorem part_step {X n k : Nat} {f : Nat → Nat} (h : Part X n k f) (hk : k < 6) (x : Nat) (hx : x < 18446744073709551616) (hf : f k = x) : Part (setw X k x) n (k + 1) f := by
  refine ⟨setw_ltQ _ _ _ h.1 hk hx, fun j hj => ?_⟩
  rw [wd_setw _ _ _ _ hx, h.2 j hj]
  by_cases e : j = k
  · subst e; rw [if_pos rfl, if_pos (by omega), hf]
  · rw [if_neg e]
    by_cases e2 : j < k
    · rw [if_pos e2, if_pos (by omega)]
    · rw [if_neg e2, if_neg (by omega)]
theorem part_end {X n k : Nat} {f : Nat → Nat} (h : Part X n k f) (hk : k = 6) (r : Nat) (hr : r < Q) (hw : ∀ j, j < 6 → wd r j = f j) : X = r := by
  obtain ⟨L, hL, hQ⟩ := Q_of
  have hX := h.1
  rw [hQ] at hX hr
  exact wd_ext hX hr (fun j hj => by rw [h.2 j (by omega), if_pos (by omega), hw j (by omega)])
theorem part_wd {X n k : Nat} {f : Nat → Nat} (h : Part X n k f) (hk : k < 6) : wd X k = wd n k := by rw [h.2 k hk, if_neg (by omega)]

theorem and_ltQ (n m : Nat) (hn : n < Q) : n &&& m < Q := Nat.lt_of_le_of_lt Nat.and_le_left hn
theorem wd_and (n m k : Nat) : wd (n &&& m) k = wd n k &&& wd m k := by
  apply Nat.eq_of_testBit_eq
  intro j
  rw [wd_bit, Nat.testBit_and, Nat.testBit_and, wd_bit, wd_bit]
  cases decide (j < 64) <;> simp
theorem or_lt64 (a b : Nat) (ha : a < 18446744073709551616) (hb : b < 18446744073709551616) : a ||| b < 18446744073709551616 := by
  rw [two64] at *; exact Nat.or_lt_two_pow ha hb

theorem or_disj (a b i : Nat) (h : a < 2 ^ i) : a + b * 2 ^ i = a ||| b * 2 ^ i := by
  rw [Nat.mul_comm, Nat.add_comm, Nat.two_pow_add_eq_or_of_lt h, Nat.or_comm]
theorem cw_or (L X t v X' : Nat) (ht : t < L) (hv : v < 18446744073709551616) (hX : X' = X ||| v * 2 ^ (64 * t)) : (cw L X).setIfInBounds t (.int .u64 (wd X t ||| v : Nat)) = cw L X' := by
  rw [cw_set L X t _ ht (or_lt64 _ _ (wd_lt _ _) hv), setw_or X t v t hv rfl, hX]
theorem bor (X t v : Nat) (hv : v < 18446744073709551616) : bits .or .u64 (wd X t : Nat) (v : Nat) = ((wd X t ||| v : Nat) : Int) := bits_or_u64_nat _ _ (wd_lt _ _) hv
theorem wlow (n k : Nat) (h : n < Q) (hk : k = 6) : n % 2 ^ (64 * k) = n := by
  rw [pwQ k hk, Nat.mod_eq_of_lt h]

end Go.Proofs.YtaengojkjfgppaaDoor.WMath
namespace Go.Proofs.YtaengojkjfgppaaDoor.WMath
set_option maxRecDepth 100000
set_option maxHeartbeats 40000000
set_option maxRecDepth 100000

end Go.Proofs.YtaengojkjfgppaaDoor.WMath
namespace Go.Proofs.YtaengojkjfgppaaDoor.WMath
set_option maxRecDepth 100000
set_option maxHeartbeats 40000000
set_option maxRecDepth 100000

def blen (n : Nat) : Nat := if n = 0 then 0 else Nat.log2 n + 1
theorem blen_zero : blen 0 = 0 := rfl
theorem blen_lt (n : Nat) : n < 2 ^ blen n := by
  unfold blen
  split
  · rename_i h; subst h; decide
  · rename_i h; exact (Nat.log2_lt h).1 (by omega)
theorem blen_le (n : Nat) (h : n ≠ 0) : 2 ^ (blen n - 1) ≤ n := by
  unfold blen
  rw [if_neg h]
  exact (Nat.le_log2 h).1 (by omega)
theorem blen_pos (n : Nat) (h : n ≠ 0) : 0 < blen n := by unfold blen; rw [if_neg h]; omega
theorem blen_of (n l : Nat) (h1 : 2 ^ l ≤ n) (h2 : n < 2 ^ (l + 1)) : blen n = l + 1 := by
  have h0 : n ≠ 0 := by have := Nat.two_pow_pos l; omega
  unfold blen
  rw [if_neg h0]
  have a := (Nat.le_log2 h0).2 h1
  have b := (Nat.log2_lt h0).2 h2
  omega
theorem bitLen_blen (x : Nat) (hx : x < 18446744073709551616) : Lib.bitLen x = blen x := by
  by_cases h : x = 0
  · subst h; decide
  · have h1 := blen_le x h
    have h2 := blen_lt x
    have h3 := blen_pos x h
    obtain ⟨k, hk⟩ : ∃ k, blen x = k + 1 := ⟨blen x - 1, by omega⟩
    rw [hk] at h1 h2 ⊢
    rw [Nat.add_sub_cancel] at h1
    rw [Lib.bitLen_shift k x h1 hx, show x / 2 ^ k = 1 by
      apply Nat.div_eq_of_lt_le
      · omega
      · rw [Nat.pow_succ] at h2; omega]
    have : Lib.bitLen 1 = 1 := by decide
    omega
theorem blen_push (A k x : Nat) (hA : A < 2 ^ k) (hx : x ≠ 0) : blen (A + 2 ^ k * x) = k + blen x := by
  have h1 := blen_le x hx
  have h2 := blen_lt x
  have h3 := blen_pos x hx
  obtain ⟨l, hl⟩ : ∃ l, blen x = l + 1 := ⟨blen x - 1, by omega⟩
  rw [hl] at h1 h2 ⊢
  rw [Nat.add_sub_cancel] at h1
  refine blen_of _ (k + l) ?_ ?_
  · rw [Nat.pow_add]
    have := Nat.mul_le_mul_left (2 ^ k) h1
    omega
  · rw [show k + l + 1 = k + (l + 1) by omega, Nat.pow_add]
    have := Nat.mul_le_mul_left (2 ^ k) h2
    rw [Nat.succ_eq_add_one, Nat.mul_add] at this
    omega
theorem blen_le_of (n l : Nat) (h : n < 2 ^ l) : blen n ≤ l := by
  by_cases h0 : n = 0
  · subst h0; rw [blen_zero]; omega
  · have := blen_le n h0
    have := Nat.lt_of_le_of_lt this h
    have := (Nat.pow_lt_pow_iff_right (a := 2) (by decide)).1 this
    omega
end Go.Proofs.YtaengojkjfgppaaDoor.WMath
namespace Go.Proofs.YtaengojkjfgppaaDoor.WMath
set_option maxRecDepth 100000
set_option maxHeartbeats 40000000
set_option maxRecDepth 100000

theorem Q384 (t : Nat) (ht : t < 384) : 2 ^ (t + 1) ≤ Q := by
  obtain ⟨L, hL, hQ⟩ := Q_of
  rw [hQ]
  exact Nat.pow_le_pow_right (by decide) (by omega)
theorem Q384' (t : Nat) (ht : 384 ≤ t) : 2 ^ t % Q = 0 := by
  obtain ⟨L, hL, hQ⟩ := Q_of
  rw [hQ, show t = (t - 64 * L) + 64 * L by omega, Nat.pow_add, Nat.mul_mod_left]
theorem Q384'' (t : Nat) (ht : 384 ≤ t) : Q ≤ 2 ^ t := by
  obtain ⟨L, hL, hQ⟩ := Q_of
  rw [hQ]
  exact Nat.pow_le_pow_right (by decide) (by omega)
theorem mod384 (n i : Nat) (hn : n < Q) (hi : 384 ≤ i) : n % 2 ^ i = n := Nat.mod_eq_of_lt (Nat.lt_of_lt_of_le hn (Q384'' i hi))
theorem v_word (r : Nat) (hr : r < 64) : 2 ^ r < 18446744073709551616 := pow_lt_64 r hr

theorem left_bit0 (n i : Nat) (h : n.testBit i = false) : n % 2 ^ (i + 1) = n % 2 ^ i := by
  rw [mod_succ, h, Bool.toNat_false, Nat.mul_zero, Nat.add_zero]
theorem left_bit1 (n i : Nat) (h : n.testBit i = true) : n % 2 ^ (i + 1) = n % 2 ^ i + 2 ^ i := by
  rw [mod_succ, h, Bool.toNat_true, Nat.mul_one]
theorem left_in (n i c t q r B : Nat) (h : n.testBit i = true) (ht : t = i + c) (hlt : t < 384) (hq : t = 64 * q + r) (hB : B = (n % 2 ^ i) * 2 ^ c % Q) :
    (n % 2 ^ (i + 1)) * 2 ^ c % Q = B ||| 2 ^ r * 2 ^ (64 * q) ∧ ¬ Q ≤ (n % 2 ^ (i + 1)) * 2 ^ c ∧ ¬ Q ≤ (n % 2 ^ i) * 2 ^ c := by
  have hl : n % 2 ^ i < 2 ^ i := Nat.mod_lt _ (Nat.two_pow_pos _)
  have e1 : 2 ^ i * 2 ^ c = 2 ^ t := by rw [← Nat.pow_add, ht]
  have h1 : (n % 2 ^ i) * 2 ^ c < 2 ^ t := by rw [← e1]; exact Nat.mul_lt_mul_of_pos_right hl (Nat.two_pow_pos _)
  have h2 := Q384 t hlt
  rw [Nat.pow_succ] at h2
  rw [left_bit1 n i h, Nat.add_mul, e1]
  have e2 : B = (n % 2 ^ i) * 2 ^ c := by rw [hB, Nat.mod_eq_of_lt (by omega)]
  refine ⟨?_, by omega, by omega⟩
  rw [Nat.mod_eq_of_lt (by omega), e2, ← Nat.pow_add, show r + 64 * q = t by omega]
  have := or_disj ((n % 2 ^ i) * 2 ^ c) 1 t h1
  rw [Nat.one_mul] at this
  exact this
theorem left_out (n i c t B : Nat) (h : n.testBit i = true) (ht : t = i + c) (hge : 384 ≤ t) (hB : B = (n % 2 ^ i) * 2 ^ c % Q) :
    (n % 2 ^ (i + 1)) * 2 ^ c % Q = B ∧ Q ≤ (n % 2 ^ (i + 1)) * 2 ^ c := by
  have e1 : 2 ^ i * 2 ^ c = 2 ^ t := by rw [← Nat.pow_add, ht]
  have h2 := Q384'' t hge
  rw [left_bit1 n i h, Nat.add_mul, e1]
  refine ⟨?_, by omega⟩
  rw [Nat.add_mod, Q384' t hge, Nat.add_zero, Nat.mod_mod, hB]

theorem right_in (n i c t q r B : Nat) (h : n.testBit i = true) (ht : i = t + c) (hq : t = 64 * q + r) (hB : B = (n % 2 ^ i) / 2 ^ c) :
    (n % 2 ^ (i + 1)) / 2 ^ c = B ||| 2 ^ r * 2 ^ (64 * q) ∧ (n % 2 ^ (i + 1)) % 2 ^ c = (n % 2 ^ i) % 2 ^ c := by
  have hl : n % 2 ^ i < 2 ^ i := Nat.mod_lt _ (Nat.two_pow_pos _)
  have e1 : 2 ^ i = 2 ^ t * 2 ^ c := by rw [← Nat.pow_add, ht]
  rw [left_bit1 n i h]
  have e2 : n % 2 ^ i + 2 ^ i = n % 2 ^ i + 2 ^ t * 2 ^ c := by rw [← e1]
  rw [e2, Nat.add_mul_div_right _ _ (Nat.two_pow_pos _), Nat.add_mul_mod_self_right]
  refine ⟨?_, rfl⟩
  have hB2 : B < 2 ^ t := by rw [hB]; exact Nat.div_lt_of_lt_mul (by rw [Nat.mul_comm, ← e1]; exact hl)
  rw [← hB, ← Nat.pow_add, show r + 64 * q = t by omega]
  have := or_disj B 1 t hB2
  rw [Nat.one_mul] at this
  exact this
theorem right_out (n i c B : Nat) (h : n.testBit i = true) (ht : i < c) (hB : B = (n % 2 ^ i) / 2 ^ c) :
    (n % 2 ^ (i + 1)) / 2 ^ c = B ∧ (n % 2 ^ (i + 1)) % 2 ^ c ≠ 0 := by
  have hl : n % 2 ^ i < 2 ^ i := Nat.mod_lt _ (Nat.two_pow_pos _)
  have h1 : 2 ^ (i + 1) ≤ 2 ^ c := Nat.pow_le_pow_right (by decide) (by omega)
  rw [Nat.pow_succ] at h1
  have h2 := Nat.two_pow_pos i
  rw [left_bit1 n i h, hB, Nat.div_eq_of_lt (by omega), Nat.div_eq_of_lt (by omega), Nat.mod_eq_of_lt (by omega)]
  exact ⟨rfl, by omega⟩
end Go.Proofs.YtaengojkjfgppaaDoor.WMath
namespace Go.Proofs.YtaengojkjfgppaaDoor.WMath
set_option maxRecDepth 100000
set_option maxHeartbeats 40000000
set_option maxRecDepth 100000

theorem mask_or (i q r : Nat) (h : i = 64 * q + r) : (2 ^ i - 1) ||| 2 ^ r * 2 ^ (64 * q) = 2 ^ (i + 1) - 1 := by
  have h1 := or_disj (2 ^ i - 1) 1 i (by have := Nat.two_pow_pos i; omega)
  rw [← Nat.pow_add, show r + 64 * q = i by omega]
  rw [Nat.one_mul] at h1
  rw [← h1, Nat.pow_succ]
  have := Nat.two_pow_pos i
  omega
theorem rlen_step (n j : Nat) (h : n < 2 ^ (64 * (j + 1))) : (wd n j ≠ 0 → blen n = 64 * j + blen (wd n j)) ∧ (wd n j = 0 → n < 2 ^ (64 * j)) := by
  have e := mod_wd n j
  rw [Nat.mod_eq_of_lt h] at e
  have hl : n % 2 ^ (64 * j) < 2 ^ (64 * j) := Nat.mod_lt _ (Nat.two_pow_pos _)
  constructor
  · intro h0
    rw [e]
    have := blen_push (n % 2 ^ (64 * j)) (64 * j) (wd n j) hl h0
    rw [← e] at this ⊢
    exact this
  · intro h0
    rw [h0, Nat.mul_zero, Nat.add_zero] at e
    omega
end Go.Proofs.YtaengojkjfgppaaDoor.WMath
namespace Go.Proofs.YtaengojkjfgppaaDoor.WMath
set_option maxRecDepth 100000
set_option maxHeartbeats 40000000
set_option maxRecDepth 100000

end Go.Proofs.YtaengojkjfgppaaDoor.WMath
namespace Go.Proofs.YtaengojkjfgppaaDoor.WMath
set_option maxRecDepth 100000
set_option maxHeartbeats 40000000
set_option maxRecDepth 100000

end Go.Proofs.YtaengojkjfgppaaDoor.WMath
namespace Go.Proofs.YtaengojkjfgppaaDoor.WMath
set_option maxRecDepth 100000
set_option maxHeartbeats 40000000
set_option maxRecDepth 100000

def nl (n : Nat) : Nat := (blen n + 7) / 8
end Go.Proofs.YtaengojkjfgppaaDoor.WMath
namespace Go.Proofs.YtaengojkjfgppaaDoor.WMath
set_option maxRecDepth 100000
set_option maxHeartbeats 40000000
set_option maxRecDepth 100000

def wl (n : Nat) : Nat := (blen n + 63) / 64
end Go.Proofs.YtaengojkjfgppaaDoor.WMath
namespace Go.Proofs.YtaengojkjfgppaaDoor
set_option maxRecDepth 100000
set_option maxHeartbeats 40000000
set_option maxRecDepth 100000
open Go.RowKit WMath
theorem hide {p : Prop} (h : p) : Hid p := h
theorem int_eq {k : IntKind} {a b : Int} (h : a = b) : Value.int k a = .int k b := by rw [h]
theorem ret_bool {a b : Bool} (h : a = b) : Ending.returned (.bool a) = .returned (.bool b) := by rw [h]
theorem ret_int {k : IntKind} {a b : Int} (h : a = b) : Ending.returned (.int k a) = .returned (.int k b) := by rw [h]
theorem ret_ib {k : IntKind} {a a' : Int} {b b' : Bool} (h : a = a') (h2 : b = b') : Ending.returned (.tuple #[.int k a, .bool b]) = .returned (.tuple #[.int k a', .bool b']) := by rw [h, h2]
theorem pow_cast (k : Nat) : (2 : Int) ^ k = ((2 ^ k : Nat) : Int) := by simp
theorem div_cast (x k : Nat) : (x : Int) / 2 ^ k = ((x / 2 ^ k : Nat) : Int) := by simp

theorem wrap_nat (n : Nat) (h : n < 18446744073709551616) : IntKind.u64.wrap (n : Int) = (n : Int) := by rw [IntKind.wrap_u64]; omega
theorem or_pow_i (S k : Nat) (hk : k < 64) (hS : S < 2 ^ k) : bits .or .u64 (S : Int) (IntKind.u64.wrap (2 ^ k)) = ((S + 2 ^ k : Nat) : Int) := by
  have h1 := pow_lt_64 k hk
  rw [pow_cast, wrap_nat _ h1, bits_or_u64_nat S _ (by omega) h1, or_pow S k hS]

theorem bit_any (x k : Nat) (hx : x < 18446744073709551616) (hk : k < 64) (w : World) :
    Calls Tryd.prog 54 #[.int .u64 x, .int .i64 k] w fun e w' => e = .returned (.bool (x.testBit k)) ∧ w' = w := by
  have h1 : x / 2 ^ k < 18446744073709551616 := Nat.lt_of_le_of_lt (Nat.div_le_self _ _) hx
  have H1 : Hid (bits .and .u64 ((x : Int) / 2 ^ k) 1 = ((x / 2 ^ k &&& 1 : Nat) : Int)) := by
    have := bits_and_u64_nat (x / 2 ^ k) 1 h1 (by omega)
    rw [← div_cast] at this
    exact this
  go_enter Tryd.func54, Tryd.ntmps54
  go_wp2
  go_ret
  refine ⟨ret_bool ?_, rfl⟩
  rw [H1.out, ← bit_and, Bool.eq_iff_iff]
  simp only [beq_iff_eq]
  omega

theorem radd_any (a b : Nat) (c : Bool) (ha : a < 18446744073709551616) (hb : b < 18446744073709551616) (w : World) :
    Calls Tryd.prog 70 #[.int .u64 a, .int .u64 b, .bool c] w fun e w' => e = .returned (.tuple #[.int .u64 ((a + b + c.toNat) % 18446744073709551616 : Nat), .bool (decide (18446744073709551616 ≤ a + b + c.toNat))]) ∧ w' = w := by
  go_enter Tryd.func70, Tryd.ntmps70
  go_wp2
  go_loop [8, 9, 2] (fun s i cc => ∃ (k S : Nat) (C : Bool), k ≤ 64 ∧ i = .int .i64 k ∧ s = .int .u64 S ∧ cc = .bool C ∧ S < 2 ^ k ∧ S + 2 ^ k * C.toNat = a % 2 ^ k + b % 2 ^ k + c.toNat) (fun _ i _ => 64 - (intOf i).toNat)
  case atStart => exact ⟨0, 0, c, by omega, rfl, rfl, rfl, by decide, by simp [Nat.mod_one]⟩
  case round =>
    obtain ⟨k, S, C, hk, rfl, rfl, rfl, hS, hE⟩ := hrel
    have HE : Hid (S + 2 ^ k * C.toNat = a % 2 ^ k + b % 2 ^ k + c.toNat) := hE
    clear hE
    by_cases hlt : k < 64
    · have st := add_step a b S k c.toNat C hS HE.out
      cases hx : a.testBit k <;> cases hy : b.testBit k <;> cases C
      all_goals
        go_wp2_with (go_at_call 54; refine (bit_any _ _ ?_ ?_ _).mono ?_; assumption; assumption; rintro e w' ⟨rfl, rfl⟩)
        go_round
        case rel =>
          rw [hx, hy] at st
          first
            | exact ⟨k + 1, S, _, by omega, by go_num, rfl, rfl, st.1, st.2⟩
            | exact ⟨k + 1, S + 2 ^ k, _, by omega, by go_num, int_eq (or_pow_i S k hlt hS), rfl, st.1, st.2⟩
        case measure => simp [intOf]; omega
    · go_wp2
      go_ret2
      obtain rfl : k = 64 := by omega
      have hE := HE.out
      rw [← two64, Nat.mod_eq_of_lt ha, Nat.mod_eq_of_lt hb] at hE
      rw [← two64] at hS
      have he := add_end a b S C c hS hE
      exact ⟨ret_ib (by have := he.1; omega) he.2, rfl⟩
theorem and_mask (x c : Nat) (hx : x < 18446744073709551616) (h : c ≤ 64) : bits .and .u64 (x : Int) ((2 ^ c - 1 : Nat) : Int) = ((x % 2 ^ c : Nat) : Int) := by
  rw [bits_and_u64_nat _ _ hx (mask_lt c h), Nat.and_two_pow_sub_one_eq_mod]

end Go.Proofs.YtaengojkjfgppaaDoor
namespace Go.Proofs.YtaengojkjfgppaaDoor.WMath
set_option maxRecDepth 100000
set_option maxHeartbeats 40000000
set_option maxRecDepth 100000
def mask8 (c : Nat) : Nat → Nat
  | 0 => 0
  | n + 1 => c + 256 * mask8 c n
def fC (n x : Nat) : Nat := (x / 16 + x) &&& mask8 15 n
def sA (b : Nat) : Nat := ((b / 2) &&& 85) + (b &&& 85)
theorem t1 : ∀ b : Fin 256, ∀ c : Fin 2, ((b.val / 2 + 128 * c.val) &&& 85) = (b.val / 2 &&& 85) := by decide +kernel
theorem t2 : ∀ b : Fin 256, ∀ c : Fin 4, ((b.val / 4 + 64 * c.val) &&& 51) = (b.val / 4 &&& 51) := by decide +kernel
end Go.Proofs.YtaengojkjfgppaaDoor.WMath
namespace Go.Proofs.YtaengojkjfgppaaDoor
set_option maxRecDepth 100000
set_option maxHeartbeats 40000000
set_option maxRecDepth 100000
open Go.RowKit WMath
theorem bitLen_top (x k : Nat) (h1 : 2 ^ k ≤ x) (h2 : x < 2 ^ (k + 1)) (hk : k < 64) : Lib.bitLen x = k + 1 := by
  have hx : x < 18446744073709551616 := by
    have := pow_le_64 (k + 1) (by omega)
    omega
  rcases Nat.eq_zero_or_pos k with rfl | hp
  · have : x = 1 := by simp at h1 h2; omega
    subst this; decide
  · rw [Lib.bitLen_shift k x h1 hx, show x / 2 ^ k = 1 by
      apply Nat.div_eq_of_lt_le
      · omega
      · rw [Nat.pow_succ] at h2; omega]
    have : Lib.bitLen 1 = 1 := by decide
    omega
theorem bitLen_step (x k : Nat) (hk : k < 64) : Lib.bitLen (x % 2 ^ (k + 1)) = if x.testBit k then k + 1 else Lib.bitLen (x % 2 ^ k) := by
  rw [mod_succ]
  have hl : x % 2 ^ k < 2 ^ k := Nat.mod_lt _ (Nat.two_pow_pos k)
  cases x.testBit k
  · simp
  · rw [if_pos rfl, Bool.toNat_true, Nat.mul_one]
    exact bitLen_top _ k (by omega) (by rw [Nat.pow_succ]; omega) hk

theorem rlen_any (x : Nat) (hx : x < 18446744073709551616) (w : World) :
    Calls Tryd.prog 42 #[.int .u64 x] w fun e w' => e = .returned (.int .i64 (Lib.bitLen x : Nat)) ∧ w' = w := by
  have h0 : Hid (0 = Lib.bitLen (x % 2 ^ 0)) := by show 0 = _; rw [Nat.pow_zero, Nat.mod_one]; decide
  go_enter Tryd.func42, Tryd.ntmps42
  go_wp2
  go_loop [3, 4] (fun n i => ∃ k N : Nat, k ≤ 64 ∧ i = .int .i64 k ∧ n = .int .i64 N ∧ Hid (N = Lib.bitLen (x % 2 ^ k))) (fun _ i => 64 - (intOf i).toNat)
  case atStart => exact ⟨0, 0, by omega, rfl, rfl, h0⟩
  case round =>
    obtain ⟨k, N, hk, rfl, rfl, HN⟩ := hrel
    by_cases hlt : k < 64
    · have st := hide (bitLen_step x k hlt)
      cases hb : x.testBit k
      · have H1 : Hid (N = Lib.bitLen (x % 2 ^ (k + 1))) := by show N = _; rw [st.out, hb, HN.out]; rfl
        go_wp2_with (go_at_call 54; refine (bit_any _ _ ?_ ?_ _).mono ?_; assumption; assumption; rintro e w' ⟨rfl, rfl⟩)
        go_round
        case rel => exact ⟨k + 1, N, by omega, by go_num, rfl, H1⟩
        case measure => simp [intOf]; omega
      · have H1 : Hid (k + 1 = Lib.bitLen (x % 2 ^ (k + 1))) := by show k + 1 = _; rw [st.out, hb]; rfl
        go_wp2_with (go_at_call 54; refine (bit_any _ _ ?_ ?_ _).mono ?_; assumption; assumption; rintro e w' ⟨rfl, rfl⟩)
        go_round
        case rel => exact ⟨k + 1, k + 1, by omega, by go_num, by go_num, H1⟩
        case measure => simp [intOf]; omega
    · go_wp2
      go_ret
      obtain rfl : k = 64 := by omega
      exact ⟨ret_int (by rw [HN.out, ← two64, Nat.mod_eq_of_lt hx]), rfl⟩
theorem setRow_below (w : World) (b : Nat) (c : Array Value) (o : Obj) (h : b < w.heap.size) : (w.alloc o).setRow b c = (w.setRow b c).alloc o := by
  simp only [World.setRow, World.alloc]
  congr 1
  apply Array.ext_getElem?
  intro i
  rw [Array.getElem?_modify, Array.getElem?_push, Array.getElem?_push, Array.size_modify, Array.getElem?_modify]
  by_cases e : i = w.heap.size
  · subst e
    rw [if_pos rfl, if_pos rfl, if_neg (by omega)]
  · rw [if_neg e, if_neg e]

theorem heap_below (w : World) (b : Nat) (o : Obj) (h : b < w.heap.size) : (w.alloc o).heap[b]? = w.heap[b]? := Below.heap_alloc w o b h
theorem size_al (w : World) (o : Obj) : (w.alloc o).heap.size = w.heap.size + 1 := by
  show (w.heap.push o).size = _
  simp

theorem st_any (w : World) (b x y : Nat) (h : w.heap[b]? = some (.cells (cw 6 y) 48)) :
    (storeCells ⟨b, 0, none⟩ (cw 6 x).toList 0).run Tryd.prog w = .ok () (w.setRow b (cw 6 x)) := by
  have := run_storeCells_from (P := Tryd.prog) b 48 (cw 6 x).toList 0 (cw 6 y) w h (by simp [cw_size]) (fun v hv => (Array.all_eq_true_iff_forall_mem.1 (cw_oneCell 6 x)) v (by simpa using hv))
  simpa using this

theorem ix6 (n k : Nat) (w : World) (h : k < 6) : (Instr.index 48 (.agg (cw 6 n)) (.int .i64 k)).run Tryd.prog w = .ok (.int .u64 (wd n k : Nat)) w := by
  have h2 : (0 : Int) ≤ k ∧ (k : Int) < (6 : Nat) := by omega
  simp [Instr.index, run_underlying Tryd.underlying48, asIntOf, h2, go_sem]
  rw [if_pos h, cw_at 6 n k h]
  rfl

theorem st0 (w : World) (b x y : Nat) (hb : b = w.heap.size) :
    (storeCells ⟨b, 0, none⟩ (cw 6 x).toList 0).run Tryd.prog (w.alloc (.cells (cw 6 y) 48)) = .ok () (w.alloc (.cells (cw 6 x) 48)) := by
  subst hb
  rw [st_any _ _ x y (heap_alloc_last w _), World.setRow_alloc_new]
theorem st1 (w : World) (b x y : Nat) (o : Obj) (hb : b = w.heap.size) :
    (storeCells ⟨b, 0, none⟩ (cw 6 x).toList 0).run Tryd.prog ((w.alloc (.cells (cw 6 y) 48)).alloc o) = .ok () ((w.alloc (.cells (cw 6 x) 48)).alloc o) := by
  subst hb
  have h0 : w.heap.size < (w.alloc (.cells (cw 6 y) 48)).heap.size := by rw [size_al]; omega
  rw [st_any _ _ x y (by rw [heap_below _ _ _ h0]; exact heap_alloc_last w _), setRow_below _ _ _ _ h0, World.setRow_alloc_new]
theorem sc0d (w : World) (b t d : Nat) (c : Array Value) (T : TypeId) (v : Value) (hb : b = w.heap.size) :
    ((w.alloc (.cells c T)).drewN d).setCell ⟨b, t, none⟩ v = (w.alloc (.cells (c.setIfInBounds t v) T)).drewN d := by
  rw [← World.setCell_alloc_at (w := w) c T b t v hb]
  rfl
theorem st_drew (w w2 : World) (b x d : Nat) (h : (storeCells ⟨b, 0, none⟩ (cw 6 x).toList 0).run Tryd.prog w = .ok () w2) (y : Nat) (hy : w.heap[b]? = some (.cells (cw 6 y) 48)) :
    (storeCells ⟨b, 0, none⟩ (cw 6 x).toList 0).run Tryd.prog (w.drewN d) = .ok () (w2.drewN d) := by
  rw [st_any w b x y hy] at h
  rw [st_any (w.drewN d) b x y hy]
  injection h with _ h
  rw [← h]
  rfl
theorem st1d (w : World) (b x y d : Nat) (o : Obj) (hb : b = w.heap.size) :
    (storeCells ⟨b, 0, none⟩ (cw 6 x).toList 0).run Tryd.prog (((w.alloc (.cells (cw 6 y) 48)).alloc o).drewN d) = .ok () (((w.alloc (.cells (cw 6 x) 48)).alloc o).drewN d) := by
  refine st_drew _ _ b x d (st1 w b x y o hb) y ?_
  have h0 : b < (w.alloc (.cells (cw 6 y) 48)).heap.size := by rw [size_al]; omega
  rw [heap_below _ _ _ h0, hb]
  exact heap_alloc_last w _
def cnt6 (n : Int) : Nat := min n.toNat 384
theorem below_fun (W : World) : ∃ F : World → World, (∀ u, Below W.heap.size W (F u)) ∧ (∀ u, Below W.heap.size W u → F u = u) := by
  classical
  refine ⟨fun u => if Below W.heap.size W u then u else W, fun u => ?_, fun u h => if_pos h⟩
  by_cases h : Below W.heap.size W u
  · simp only [h, if_true]
  · simp only [h, if_false]; exact Below.refl _ _

theorem wp_region_below {P : Program} {id : Nat} {Q : Exit → Act → World → Prop} {a : Act} {W : World} {l : List Oper} (F : World → World) (hF : ∀ u, Below W.heap.size W u → F u = u)
    (hm : P.follows .mixedOrders = true) (hB : Region.lexB .any l.toArray = true)
    (h : wpQuiet P l.toArray (fun w' => ∃ u, w' = F u) (fun a' => ∀ w', (∃ u, w' = F u) → Q .normal a' w') l a) : (Code.region id l.toArray true).wp P Q a W :=
  wp_region_quiet (C := fun w' => ∃ u, w' = F u) hm hB ⟨W.drew, (hF _ ((Below.refl _ _).drew)).symm⟩ (by simpa using h)

theorem quietF {P : Program} {f : Nat} {args : Array Value} {v : Value} {W : World} {F : World → World} (h1 : ∀ u, Below W.heap.size W (F u)) (h2 : ∀ u, Below W.heap.size W u → F u = u) {u : World}
    (h : Calls P f args (F u) fun e w' => e = .returned v ∧ Below (F u).heap.size (F u) w') : Calls P f args (F u) fun e w'' => e = .returned v ∧ ∃ u', w'' = F u' :=
  h.mono fun _ w' ⟨he, hm⟩ => ⟨he, w', (h2 _ ((h1 u).trans (hm.mono (h1 u).size))).symm⟩
theorem quietF0 {P : Program} {f : Nat} {args : Array Value} {v : Value} {F : World → World} {u : World}
    (h : Calls P f args (F u) fun e w' => e = .returned v ∧ w' = F u) : Calls P f args (F u) fun e w'' => e = .returned v ∧ ∃ u', w'' = F u' :=
  h.mono fun _ _ ⟨he, hm⟩ => ⟨he, u, hm⟩

theorem heap_of {W w1 : World} (hb : Below W.heap.size W w1) (b : Nat) (c : Array Value) (t : TypeId) (h : W.heap[b]? = some (.cells c t)) : w1.heap[b]? = some (.cells c t) := by
  rw [hb.block b (Array.getElem?_eq_some_iff.1 h).1, h]

theorem row_cell {w : World} {b n : Nat} (h : w.heap[b]? = some (.cells (cw 6 n) 48)) (o : Nat) (ho : o < 6) : w.cell? ⟨b, o, none⟩ = some (.int .u64 (wd n o : Nat)) := by
  rw [cell_of_row w b o _ _ _ h, cw_at 6 n o ho]
theorem setRow_row {w : World} {b : Nat} {c c' : Array Value} {t : TypeId} (h : w.heap[b]? = some (.cells c t)) : (w.setRow b c').heap[b]? = some (.cells c' t) := by
  simp [World.setRow, Array.getElem?_modify, h]
theorem setRow_other {w : World} {b b' : Nat} {c' : Array Value} (h : b ≠ b') : (w.setRow b c').heap[b']? = w.heap[b']? := by
  simp [World.setRow, Array.getElem?_modify, h]
theorem setRow_size {w : World} {b : Nat} {c' : Array Value} : (w.setRow b c').heap.size = w.heap.size := by
  simp [World.setRow]
theorem Below.setRow {B : Nat} {w w1 : World} {b : Nat} {c : Array Value} (h : Below B w w1) (hb : B ≤ b) : Below B w (w1.setRow b c) :=
  ⟨h.os, h.tape, h.output, by rw [setRow_size]; exact h.size, fun k hk => by rw [setRow_other (by omega)]; exact h.block k hk⟩

theorem fz {w : World} {b k : Nat} {c : Array Value} {t : TypeId} (h : w.heap[b]? = some (.cells c t)) : w.frozen? ⟨b, k, none⟩ = false := by simp [World.frozen?, h]
theorem setCell_row {w : World} {b k : Nat} {c : Array Value} {t : TypeId} {v : Value} (h : w.heap[b]? = some (.cells c t)) : (w.setCell ⟨b, k, none⟩ v).heap[b]? = some (.cells (c.setIfInBounds k v) t) := by
  simp [World.setCell, Array.getElem?_modify, h]
theorem setCell_other {w : World} {b b' k : Nat} {v : Value} (h : b ≠ b') : (w.setCell ⟨b, k, none⟩ v).heap[b']? = w.heap[b']? := by
  simp [World.setCell, Array.getElem?_modify, h]
def bitsV (b : Nat × Nat) : Value := .agg #[.int .u64 (b.1 : Nat), .int .u64 (b.2 : Nat)]

theorem set0 (x : Nat) (hx : x < 18446744073709551616) : (cw 6 0).setIfInBounds 0 (.int .u64 (x : Nat)) = cw 6 x := by
  rw [cw_set 6 0 0 x (by omega) hx, setw_low 0 0 x (by decide)]; simp
theorem set1 (x y : Nat) (hx : x < 18446744073709551616) (hy : y < 18446744073709551616) : (cw 6 x).setIfInBounds 1 (.int .u64 (y : Nat)) = cw 6 (x + 18446744073709551616 * y) := by
  rw [cw_set 6 x 1 y (by omega) hy, setw_low x 1 y (by rw [show 2 ^ (64 * 1) = 18446744073709551616 by decide]; exact hx)]
theorem bits_ltQ (x y : Nat) (hx : x < 18446744073709551616) (hy : y < 18446744073709551616) : x + 18446744073709551616 * y < Q := by
  obtain ⟨L, hL, hQ⟩ := Q_of
  rw [hQ]
  have h := push_lt x 1 y (by rw [show 2 ^ (64 * 1) = 18446744073709551616 by decide]; exact hx) hy
  have h2 : 2 ^ (64 * (1 + 1)) ≤ 2 ^ (64 * L) := Nat.pow_le_pow_right (by decide) (by omega)
  rw [show 2 ^ (64 * 1) = 18446744073709551616 by decide] at h
  omega

theorem rwof_any (n : Nat) (hn : n < 18446744073709551616) (w : World) :
    Calls Tryd.prog 38 #[.int .u64 n] w fun e w' => e = .returned (.agg (cw 6 n)) ∧ Below w.heap.size w w' := by
  have hat := cw_at 6
  have hz := cw6z
  have hf := cw6f
  have hs1 := st1
  have h1 := set0 n hn
  go_enter Tryd.func38, Tryd.ntmps38
  go_wp2
  exact bodyPost_ret (v := .agg (cw 6 n)) (by simp [results, Tryd.results38, go_sem, hat, hf]) rfl ⟨rfl, ((Below.refl _ _).alloc (Nat.le_refl _) _).alloc (by simp <;> omega) _⟩

theorem rwofbits_any (hi lo : Nat) (hh : hi < 18446744073709551616) (hl : lo < 18446744073709551616) (w : World) :
    Calls Tryd.prog 26 #[.agg #[.int .u64 hi, .int .u64 lo]] w fun e w' => e = .returned (.agg (cw 6 (lo + 18446744073709551616 * hi))) ∧ Below w.heap.size w w' := by
  have hat := cw_at 6
  have hz := cw6z
  have hf := cw6f
  have hs1 := st1
  obtain ⟨v, hv⟩ : ∃ v, v = lo + 18446744073709551616 * hi := ⟨_, rfl⟩
  have h1 := set0 lo hl
  have h2 := set1 lo hi hl hh
  rw [← hv] at h2 ⊢
  clear hv
  go_enter Tryd.func26, Tryd.ntmps26
  go_wp2
  exact bodyPost_ret (v := .agg (cw 6 v)) (by simp [results, Tryd.results26, go_sem, hat, hf]) rfl ⟨rfl, (((Below.refl _ _).alloc (Nat.le_refl _) _).alloc (by simp <;> omega) _).alloc (by simp <;> omega) _⟩

theorem hi_zero (n k : Nat) : ∀ d, (∀ j, k ≤ j → j < k + d → wd n j = 0) → n % 2 ^ (64 * (k + d)) = n % 2 ^ (64 * k)
  | 0, _ => rfl
  | d + 1, h => by
    rw [← Nat.add_assoc, mod_wd, h (k + d) (by omega) (by omega), Nat.mul_zero, Nat.add_zero]
    exact hi_zero n k d (fun j h1 h2 => h j h1 (by omega))
theorem two_words (n : Nat) (hn : n < Q) : (wd n 0 + 18446744073709551616 * wd n 1 = n) ↔ (wd n 2 = 0 ∧ wd n 3 = 0 ∧ wd n 4 = 0 ∧ wd n 5 = 0) := by
  have hp : (2 : Nat) ^ (64 * 1) = 18446744073709551616 := by decide
  have h0 : ∀ a b j, a < 18446744073709551616 → b < 18446744073709551616 → 2 ≤ j → wd (a + 18446744073709551616 * b) j = 0 := fun a b j ha hb hj => by
    have := push_lt a 1 b (by rw [hp]; exact ha) hb
    rw [hp] at this
    exact wd_high this hj
  constructor
  · intro h
    rw [← h]
    exact ⟨h0 _ _ 2 (wd_lt _ _) (wd_lt _ _) (by omega), h0 _ _ 3 (wd_lt _ _) (wd_lt _ _) (by omega), h0 _ _ 4 (wd_lt _ _) (wd_lt _ _) (by omega), h0 _ _ 5 (wd_lt _ _) (wd_lt _ _) (by omega)⟩
  · rintro ⟨h2, h3, h4, h5⟩
    obtain ⟨K, hK⟩ : ∃ K : Nat, K = 1 := ⟨1, rfl⟩
    have e1 : wd n 0 + 18446744073709551616 * wd n 1 = n % 2 ^ (64 * (K + 1)) := by
      rw [mod_wd, hK, hp, show n % 18446744073709551616 = wd n 0 by unfold wd; simp]
    have c := hi_zero n (K + 1) 4 (fun j g1 g2 => by
      have : j = 2 ∨ j = 3 ∨ j = 4 ∨ j = 5 := by omega
      rcases this with rfl | rfl | rfl | rfl <;> assumption)
    rw [wlow n (K + 1 + 4) hn (by omega)] at c
    rw [e1, ← c]

theorem nz_false {x : Nat} (h : x = 0) : (((x : Nat) : Int) != 0) = false := by subst h; rfl
theorem rwtobits_yes (n : Nat) (hn : n < Q) (hv : wd n 0 + 18446744073709551616 * wd n 1 = n) (w : World) :
    Calls Tryd.prog 36 #[.agg (cw 6 n)] w fun e w' => e = .returned (.tuple #[.agg #[.int .u64 (wd n 1 : Nat), .int .u64 (wd n 0 : Nat)], .bool true]) ∧ Below w.heap.size w w' := by
  have hat := cw_at 6
  obtain ⟨z2, z3, z4, z5⟩ := (two_words n hn).1 hv
  have y2 := nz_false z2
  have y3 := nz_false z3
  have y4 := nz_false z4
  have y5 := nz_false z5
  clear z2 z3 z4 z5 hv
  go_enter Tryd.func36, Tryd.ntmps36
  go_wp2
  exact bodyPost_ret (v := .tuple #[.agg #[.int .u64 (wd n 1 : Nat), .int .u64 (wd n 0 : Nat)], .bool true]) (by simp [results, Tryd.results36, go_sem]) rfl ⟨rfl, ((Below.refl _ _).alloc (Nat.le_refl _) _).alloc (by simp <;> omega) _⟩

theorem rwofbits_is (hi lo v : Nat) (hh : hi < 18446744073709551616) (hl : lo < 18446744073709551616) (hv : lo + 18446744073709551616 * hi = v) (w : World) :
    Calls Tryd.prog 26 #[.agg #[.int .u64 hi, .int .u64 lo]] w fun e w' => e = .returned (.agg (cw 6 v)) ∧ Below w.heap.size w w' := by
  subst hv; exact rwofbits_any hi lo hh hl w
theorem radd_is (a b : Nat) (c : Bool) (s : Nat) (o : Bool) (ha : a < 18446744073709551616) (hb : b < 18446744073709551616) (hs : (a + b + c.toNat) % 18446744073709551616 = s) (ho : decide (18446744073709551616 ≤ a + b + c.toNat) = o) (w : World) :
    Calls Tryd.prog 70 #[.int .u64 a, .int .u64 b, .bool c] w fun e w' => e = .returned (.tuple #[.int .u64 (s : Nat), .bool o]) ∧ w' = w := by
  subst hs; subst ho; exact radd_any a b c ha hb w
theorem add_facts (n m S k : Nat) (C : Bool) (hS : S < 2 ^ (64 * k)) (hE : S + 2 ^ (64 * k) * C.toNat = n % 2 ^ (64 * k) + m % 2 ^ (64 * k)) :
    ∃ (x : Nat) (o : Bool), x < 18446744073709551616 ∧ Box ((wd n k + wd m k + C.toNat) % 18446744073709551616 = x) ∧ Box (decide (18446744073709551616 ≤ wd n k + wd m k + C.toNat) = o) ∧ Box (S + 2 ^ (64 * k) * x < 2 ^ (64 * (k + 1))) ∧ Box (S + 2 ^ (64 * k) * x + 2 ^ (64 * (k + 1)) * o.toNat = n % 2 ^ (64 * (k + 1)) + m % 2 ^ (64 * (k + 1))) :=
  ⟨_, _, Nat.mod_lt _ (by decide), box rfl, box rfl, box (push_lt S k _ hS (Nat.mod_lt _ (by decide))), box (wadd_step n m S k _ C hE rfl)⟩
set_option maxHeartbeats 1000000 in
theorem rwadd_is (n m v : Nat) (o : Bool) (hn : n < Q) (hm : m < Q) (hv : (n + m) % Q = v) (ho : decide (Q ≤ n + m) = o) (w : World) :
    Calls Tryd.prog 60 #[.agg (cw 6 n), .agg (cw 6 m)] w fun e w' => e = .returned (.tuple #[.agg (cw 6 v), .bool o]) ∧ Below w.heap.size w w' := by
  have HV := box hv
  have HW := box ho
  clear hv ho
  have hat := cw_at 6
  have hz := cw6z
  have hf := cw6f
  have hs1 := st1d
  have hsc := sc0d
  go_enter Tryd.func60, Tryd.ntmps60
  go_wp2
  go_loopw [7, 8] (fun ov i wr => ∃ (k S d : Nat) (C : Bool), k ≤ 6 ∧ i = .int .i64 k ∧ ov = .bool C ∧ wr = ((((w.alloc (.cells (cw 6 n) 48)).alloc (.cells (cw 6 m) 48)).alloc (.cells (cw 6 0) 48)).alloc (.cells (cw 6 S) 48)).drewN d ∧ S < 2 ^ (64 * k) ∧ Box (S + 2 ^ (64 * k) * C.toNat = n % 2 ^ (64 * k) + m % 2 ^ (64 * k))) (fun _ i _ => 6 - (intOf i).toNat)
  case atStart => exact ⟨0, 0, 0, false, by omega, rfl, rfl, rfl, by decide, box (by simp [Nat.mod_one])⟩
  case round =>
    obtain ⟨k, S, d, C, hk, rfl, rfl, rfl, hS, HE⟩ := hrel
    by_cases hlt : k < 6
    · have hki : (k : Int) < 6 := by omega
      obtain ⟨x, oo, bx, HX, HO, P1, ST⟩ := add_facts n m S k C hS HE.out
      have hp := cw_push 6 S k x _ hlt hS bx rfl
      go_wp2
      go_quiet ((go_at_call 70; exact (radd_is _ _ _ x oo (wd_lt _ _) (wd_lt _ _) HX.out HO.out _).mono (fun _ _ h => ⟨h.1, _, h.2⟩)))
      go_wp2
      go_roundw
      case rel => exact ⟨k + 1, _, _, oo, by omega, by go_num, rfl, rfl, P1.out, ST⟩
      case measure => simp [intOf]; omega
    · go_wp2
      obtain ⟨e1, e2⟩ := wadd_end n m S k C (by omega) hn hm hS HE.out
      rw [HV.out] at e1
      rw [HW.out] at e2
      subst e1; subst e2
      exact bodyPost_ret (v := .tuple #[.agg (cw 6 S), .bool C]) (by simp [results, Tryd.results60, go_sem, hat, hf]) rfl ⟨rfl, below_drewN ((((Below.refl _ _).alloc (Nat.le_refl _) _).alloc (by simp <;> omega) _).alloc (by simp <;> omega) _ |>.alloc (by simp <;> omega) _) _⟩
theorem rwcount_any (n : Int) (w : World) :
    Calls Tryd.prog 55 #[.int .i64 n] w fun e w' => e = .returned (.int .i64 (cnt6 n : Nat)) ∧ w' = w := by
  go_enter Tryd.func55, Tryd.ntmps55
  go_wp2
  all_goals go_ret
  all_goals
    refine ⟨ret_int ?_, rfl⟩
    unfold cnt6
    omega

theorem rwbit_any (n i : Nat) (hi : i < 384) (w : World) :
    Calls Tryd.prog 43 #[.agg (cw 6 n), .int .i64 i] w fun e w' => e = .returned (.bool (n.testBit i)) ∧ Below w.heap.size w w' := by
  have hat := cw_at 6
  obtain ⟨q, hq⟩ : ∃ q, q = i / 64 := ⟨_, rfl⟩
  obtain ⟨r, hr⟩ : ∃ r, r = i % 64 := ⟨_, rfl⟩
  have hq1 : (i : Int) / 64 = (q : Int) := by omega
  have hr1 : (i : Int) % 64 = (r : Int) := by omega
  have hq2 : q < 6 := by omega
  have hr2 : r < 64 := by omega
  have hi1 : decide ((i : Int) < 384) = true := by simp; omega
  have hi0 : decide ((0 : Int) ≤ (i : Int)) = true := by simp
  have HB := box (bit_of_wd n i)
  rw [← hq, ← hr] at HB
  clear hq hr
  go_enter Tryd.func43, Tryd.ntmps43
  go_wp2_with (go_at_call 54; refine (bit_any (wd n q) r (wd_lt _ _) hr2 _).mono ?_; rintro e w' ⟨rfl, rfl⟩)
  go_ret
  exact ⟨by rw [HB.out]; rfl, (Below.refl _ _).alloc (Nat.le_refl _) _⟩

set_option maxRecDepth 100000 in
set_option maxHeartbeats 1000000 in
theorem rwleft_is (n v : Nat) (s : Int) (o : Bool) (hn : n < Q) (hv : n * 2 ^ cnt6 s % Q = v) (ho : decide (Q ≤ n * 2 ^ cnt6 s) = o) (w : World) :
    Calls Tryd.prog 59 #[.agg (cw 6 n), .int .i64 s] w fun e w' => e = .returned (.tuple #[.agg (cw 6 v), .bool o]) ∧ Below w.heap.size w w' := by
  obtain ⟨c, hc⟩ : ∃ c, c = cnt6 s := ⟨_, rfl⟩
  have hc6 : c ≤ 384 := by rw [hc]; unfold cnt6; omega
  rw [← hc] at hv ho
  have HV := box hv
  have HW := box ho
  have HC := box hc
  clear hv ho hc
  have hat := cw_at 6
  have hz := cw6z
  have hf := cw6f
  go_enter Tryd.func59, Tryd.ntmps59
  go_wp2_with fail
  refine (rwcount_any _ _).mono ?_
  rw [← HC.out]
  rintro e w' ⟨rfl, rfl⟩
  go_wp2
  go_loopw [7, 8] (fun lv iv wr => ∃ (i B : Nat) (l : Bool), i ≤ 384 ∧ iv = .int .i64 i ∧ lv = .bool l ∧ wr.heap[w.heap.size]? = some (.cells (cw 6 n) 48) ∧ wr.heap[w.heap.size + 1]? = some (.cells (cw 6 0) 48) ∧ wr.heap[w.heap.size + 1 + 1]? = some (.cells (cw 6 B) 48) ∧ Below w.heap.size w wr ∧ Box (B = (n % 2 ^ i) * 2 ^ c % Q) ∧ Box (l = decide (Q ≤ (n % 2 ^ i) * 2 ^ c))) (fun _ i _ => 384 - (intOf i).toNat)
  case atStart =>
    refine ⟨0, 0, false, by omega, rfl, rfl, ?_, ?_, ?_, ?_, box (by simp [Nat.mod_one]), box ?_⟩
    · rw [heap_below _ _ _ (by simp only [size_al]; omega), heap_below _ _ _ (by simp only [size_al]; omega)]
      exact heap_alloc_last _ _
    · rw [heap_below _ _ _ (by simp only [size_al]; omega)]
      have := heap_alloc_last (w.alloc (.cells (cw 6 n) 48)) (.cells (cw 6 0) 48)
      simpa only [size_al] using this
    · have := heap_alloc_last ((w.alloc (.cells (cw 6 n) 48)).alloc (.cells (cw 6 0) 48)) (.cells (cw 6 0) 48)
      simpa only [size_al] using this
    · exact (((Below.refl _ _).alloc (Nat.le_refl _) _).alloc (by simp only [size_al]; omega) _).alloc (by simp only [size_al]; omega) _
    · have := Q_pos
      symm
      rw [decide_eq_false_iff_not]
      simp [Nat.mod_one]
      omega
  case round =>
    obtain ⟨i, B, l, hi, rfl, rfl, r0, r1, r2, hbw, HB, HL⟩ := hrel
    by_cases hlt : i < 384
    · have c0 := row_cell r0
      go_wp2_with fail
      refine (rwbit_any n i hlt _).mono ?_
      cases hbit : n.testBit i
      · rintro e w2 ⟨rfl, hb2⟩
        have HB0 := box (left_bit0 n i hbit)
        go_wp2
        go_roundw
        case rel => exact ⟨i + 1, B, l, by omega, by go_num, rfl, heap_of hb2 _ _ _ r0, heap_of hb2 _ _ _ r1, heap_of hb2 _ _ _ r2, hbw.trans (hb2.mono hbw.size), box (by rw [HB0.out]; exact HB.out), box (by rw [HB0.out]; exact HL.out)⟩
        case measure => simp [intOf] <;> omega
      · rintro e w2 ⟨rfl, hb2⟩
        have q0 := heap_of hb2 _ _ _ r0
        have q1 := heap_of hb2 _ _ _ r1
        have q2 := heap_of hb2 _ _ _ r2
        have bw2 := hbw.trans (hb2.mono hbw.size)
        have sz : w.heap.size + 1 + 1 < w2.heap.size := (Array.getElem?_eq_some_iff.1 q2).1
        clear hb2 r0 r1 r2 hbw c0
        by_cases hin : i + c < 384
        · obtain ⟨t, ht⟩ : ∃ t, t = i + c := ⟨i + c, by omega⟩
          obtain ⟨q, hq⟩ : ∃ q, q = t / 64 := ⟨_, rfl⟩
          obtain ⟨r, hr⟩ : ∃ r, r = t % 64 := ⟨_, rfl⟩
          have t1 : (i : Int) + (c : Int) = (t : Int) := by omega
          have t2 : (t : Int) / 64 = (q : Int) := by omega
          have t3 : (t : Int) % 64 = (r : Int) := by omega
          have t4 : q < 6 := by omega
          have t5 : r < 64 := by omega
          have t6 : t < 384 := by omega
          have ST := box (left_in n i c t q r B hbit ht (by omega) (by omega) HB.out)
          obtain ⟨x, hx⟩ : ∃ x, x = 2 ^ r := ⟨_, rfl⟩
          have x1 : x < 18446744073709551616 := by rw [hx]; exact v_word r t5
          have x2 : IntKind.u64.wrap ((2 : Int) ^ r) = (x : Int) := by rw [pow_cast, wrap_nat _ (v_word r t5), hx]
          have x3 := bor B q x x1
          have HX := box hx
          have C2 := row_cell q2 q t4
          have F2 := fz (k := q) q2
          have HT := box ht
          clear hx ht hq hr
          go_wp2
          go_roundw
          case rel => exact ⟨i + 1, B ||| x * 2 ^ (64 * q), l, by omega, by go_num, rfl, by rw [setCell_other (by omega)]; exact q0, by rw [setCell_other (by omega)]; exact q1, by rw [setCell_row q2, cw_or 6 B q x _ t4 x1 rfl], bw2.setCell (by show w.heap.size ≤ w.heap.size + 1 + 1; omega) _, box (by rw [ST.out.1, HX.out]), box (by rw [HL.out]; rw [decide_eq_false ST.out.2.1, decide_eq_false ST.out.2.2])⟩
          case measure => simp [intOf] <;> omega
        · have ST := box (left_out n i c (i + c) B hbit rfl (by omega) HB.out)
          go_wp2
          go_roundw
          case rel => exact ⟨i + 1, B, true, by omega, by go_num, rfl, q0, q1, q2, bw2, box ST.out.1.symm, box (by rw [decide_eq_true ST.out.2])⟩
          case measure => simp [intOf] <;> omega
    · have c2 := row_cell r2
      have hs : (storeCells ⟨w.heap.size + 1, 0, none⟩ (cw 6 B).toList 0).run Tryd.prog wr = .ok () (wr.setRow (w.heap.size + 1) (cw 6 B)) := st_any wr _ B 0 r1
      have e1 := HB.out
      have e2 := HL.out
      rw [mod384 n i hn (by omega)] at e1 e2
      rw [HV.out] at e1
      rw [HW.out] at e2
      subst e1
      subst e2
      have z1 : (wr.setRow (w.heap.size + 1) (cw 6 B)).heap[w.heap.size + 1]? = some (.cells (cw 6 B) 48) := setRow_row r1
      have c3 := row_cell z1
      have bz : Below w.heap.size w (wr.setRow (w.heap.size + 1) (cw 6 B)) := Below.setRow hbw (by omega)
      go_wp2
      exact bodyPost_ret (v := .tuple #[.agg (cw 6 B), .bool l]) (by simp [results, Tryd.results59, go_sem, c3, hf]) rfl ⟨rfl, bz⟩

set_option maxRecDepth 100000 in
set_option maxHeartbeats 1000000 in
theorem rwright_is (n v : Nat) (s : Int) (o : Bool) (hn : n < Q) (hv : n / 2 ^ cnt6 s = v) (ho : decide (n % 2 ^ cnt6 s ≠ 0) = o) (w : World) :
    Calls Tryd.prog 45 #[.agg (cw 6 n), .int .i64 s] w fun e w' => e = .returned (.tuple #[.agg (cw 6 v), .bool o]) ∧ Below w.heap.size w w' := by
  obtain ⟨c, hc⟩ : ∃ c, c = cnt6 s := ⟨_, rfl⟩
  have hc6 : c ≤ 384 := by rw [hc]; unfold cnt6; omega
  rw [← hc] at hv ho
  have HV := box hv
  have HW := box ho
  have HC := box hc
  clear hv ho hc
  have hat := cw_at 6
  have hz := cw6z
  have hf := cw6f
  go_enter Tryd.func45, Tryd.ntmps45
  go_wp2_with fail
  refine (rwcount_any _ _).mono ?_
  rw [← HC.out]
  rintro e w' ⟨rfl, rfl⟩
  go_wp2
  go_loopw [7, 8] (fun lv iv wr => ∃ (i B : Nat) (l : Bool), i ≤ 384 ∧ iv = .int .i64 i ∧ lv = .bool l ∧ wr.heap[w.heap.size]? = some (.cells (cw 6 n) 48) ∧ wr.heap[w.heap.size + 1]? = some (.cells (cw 6 0) 48) ∧ wr.heap[w.heap.size + 1 + 1]? = some (.cells (cw 6 B) 48) ∧ Below w.heap.size w wr ∧ Box (B = (n % 2 ^ i) / 2 ^ c) ∧ Box (l = decide ((n % 2 ^ i) % 2 ^ c ≠ 0))) (fun _ i _ => 384 - (intOf i).toNat)
  case atStart =>
    refine ⟨0, 0, false, by omega, rfl, rfl, ?_, ?_, ?_, ?_, box (by simp [Nat.mod_one]), box ?_⟩
    · rw [heap_below _ _ _ (by simp only [size_al]; omega), heap_below _ _ _ (by simp only [size_al]; omega)]
      exact heap_alloc_last _ _
    · rw [heap_below _ _ _ (by simp only [size_al]; omega)]
      have := heap_alloc_last (w.alloc (.cells (cw 6 n) 48)) (.cells (cw 6 0) 48)
      simpa only [size_al] using this
    · have := heap_alloc_last ((w.alloc (.cells (cw 6 n) 48)).alloc (.cells (cw 6 0) 48)) (.cells (cw 6 0) 48)
      simpa only [size_al] using this
    · exact (((Below.refl _ _).alloc (Nat.le_refl _) _).alloc (by simp only [size_al]; omega) _).alloc (by simp only [size_al]; omega) _
    · have := Q_pos
      symm
      rw [decide_eq_false_iff_not]
      simp [Nat.mod_one]
  case round =>
    obtain ⟨i, B, l, hi, rfl, rfl, r0, r1, r2, hbw, HB, HL⟩ := hrel
    by_cases hlt : i < 384
    · have c0 := row_cell r0
      go_wp2_with fail
      refine (rwbit_any n i hlt _).mono ?_
      cases hbit : n.testBit i
      · rintro e w2 ⟨rfl, hb2⟩
        have HB0 := box (left_bit0 n i hbit)
        go_wp2
        go_roundw
        case rel => exact ⟨i + 1, B, l, by omega, by go_num, rfl, heap_of hb2 _ _ _ r0, heap_of hb2 _ _ _ r1, heap_of hb2 _ _ _ r2, hbw.trans (hb2.mono hbw.size), box (by rw [HB0.out]; exact HB.out), box (by rw [HB0.out]; exact HL.out)⟩
        case measure => simp [intOf] <;> omega
      · rintro e w2 ⟨rfl, hb2⟩
        have q0 := heap_of hb2 _ _ _ r0
        have q1 := heap_of hb2 _ _ _ r1
        have q2 := heap_of hb2 _ _ _ r2
        have bw2 := hbw.trans (hb2.mono hbw.size)
        have sz : w.heap.size + 1 + 1 < w2.heap.size := (Array.getElem?_eq_some_iff.1 q2).1
        clear hb2 r0 r1 r2 hbw c0
        by_cases hin : c ≤ i
        · obtain ⟨t, ht⟩ : ∃ t, i = t + c := ⟨i - c, by omega⟩
          obtain ⟨q, hq⟩ : ∃ q, q = t / 64 := ⟨_, rfl⟩
          obtain ⟨r, hr⟩ : ∃ r, r = t % 64 := ⟨_, rfl⟩
          have t1 : (i : Int) - (c : Int) = (t : Int) := by omega
          have t2 : (t : Int) / 64 = (q : Int) := by omega
          have t3 : (t : Int) % 64 = (r : Int) := by omega
          have t4 : q < 6 := by omega
          have t5 : r < 64 := by omega
          have ST := box (right_in n i c t q r B hbit ht (by omega) HB.out)
          obtain ⟨x, hx⟩ : ∃ x, x = 2 ^ r := ⟨_, rfl⟩
          have x1 : x < 18446744073709551616 := by rw [hx]; exact v_word r t5
          have x2 : IntKind.u64.wrap ((2 : Int) ^ r) = (x : Int) := by rw [pow_cast, wrap_nat _ (v_word r t5), hx]
          have x3 := bor B q x x1
          have HX := box hx
          have C2 := row_cell q2 q t4
          have F2 := fz (k := q) q2
          have HT := box ht
          clear hx ht hq hr
          go_wp2
          go_roundw
          case rel => exact ⟨i + 1, B ||| x * 2 ^ (64 * q), l, by omega, by go_num, rfl, by rw [setCell_other (by omega)]; exact q0, by rw [setCell_other (by omega)]; exact q1, by rw [setCell_row q2, cw_or 6 B q x _ t4 x1 rfl], bw2.setCell (by show w.heap.size ≤ w.heap.size + 1 + 1; omega) _, box (by rw [ST.out.1, HX.out]), box (by rw [HL.out]; rw [ST.out.2])⟩
          case measure => simp [intOf] <;> omega
        · have ST := box (right_out n i c B hbit (by omega) HB.out)
          go_wp2
          go_roundw
          case rel => exact ⟨i + 1, B, true, by omega, by go_num, rfl, q0, q1, q2, bw2, box ST.out.1.symm, box (by rw [decide_eq_true ST.out.2])⟩
          case measure => simp [intOf] <;> omega
    · have c2 := row_cell r2
      have hs : (storeCells ⟨w.heap.size + 1, 0, none⟩ (cw 6 B).toList 0).run Tryd.prog wr = .ok () (wr.setRow (w.heap.size + 1) (cw 6 B)) := st_any wr _ B 0 r1
      have e1 := HB.out
      have e2 := HL.out
      rw [mod384 n i hn (by omega)] at e1 e2
      rw [HV.out] at e1
      rw [HW.out] at e2
      subst e1
      subst e2
      have z1 : (wr.setRow (w.heap.size + 1) (cw 6 B)).heap[w.heap.size + 1]? = some (.cells (cw 6 B) 48) := setRow_row r1
      have c3 := row_cell z1
      have bz : Below w.heap.size w (wr.setRow (w.heap.size + 1) (cw 6 B)) := Below.setRow hbw (by omega)
      go_wp2
      exact bodyPost_ret (v := .tuple #[.agg (cw 6 B), .bool l]) (by simp [results, Tryd.results45, go_sem, c3, hf]) rfl ⟨rfl, bz⟩
end Go.Proofs.YtaengojkjfgppaaDoor
namespace Go.Proofs.YtaengojkjfgppaaDoor
set_option maxRecDepth 100000
set_option maxHeartbeats 40000000
set_option maxRecDepth 100000
open Go.RowKit WMath
set_option maxHeartbeats 1000000 in
theorem rwand_is (n m v : Nat) (hn : n < Q) (hv : n &&& m = v) (w : World) :
    Calls Tryd.prog 37 #[.agg (cw 6 n), .agg (cw 6 m)] w fun e w' => e = .returned (.agg (cw 6 v)) ∧ Below w.heap.size w w' := by
  have HV := box hv
  clear hv
  have hat := cw_at 6
  have hz := cw6z
  have hf := cw6f
  go_enter Tryd.func37, Tryd.ntmps37
  go_wp2
  go_loopw [5] (fun i wr => ∃ (k X : Nat), k ≤ 6 ∧ i = .int .i64 k ∧ wr.heap[w.heap.size]? = some (.cells (cw 6 X) 48) ∧ wr.heap[w.heap.size + 1]? = some (.cells (cw 6 m) 48) ∧ wr.heap[w.heap.size + 1 + 1]? = some (.cells (cw 6 0) 48) ∧ Below w.heap.size w wr ∧ Box (Part X n k fun j => wd n j &&& wd m j)) (fun i _ => 6 - (intOf i).toNat)
  case atStart =>
    refine ⟨0, n, by omega, rfl, ?_, ?_, ?_, ?_, box (part_start n _ hn)⟩
    · rw [heap_below _ _ _ (by simp only [size_al]; omega), heap_below _ _ _ (by simp only [size_al]; omega)]
      exact heap_alloc_last _ _
    · rw [heap_below _ _ _ (by simp only [size_al]; omega)]
      have := heap_alloc_last (w.alloc (.cells (cw 6 n) 48)) (.cells (cw 6 m) 48)
      simpa only [size_al] using this
    · have := heap_alloc_last ((w.alloc (.cells (cw 6 n) 48)).alloc (.cells (cw 6 m) 48)) (.cells (cw 6 0) 48)
      simpa only [size_al] using this
    · exact (((Below.refl _ _).alloc (Nat.le_refl _) _).alloc (by simp only [size_al]; omega) _).alloc (by simp only [size_al]; omega) _
  case round =>
    obtain ⟨k, X, hk, rfl, r0, r1, r2, hbw, HE⟩ := hrel
    by_cases hlt : k < 6
    · have hki : (k : Int) < 6 := by omega
      have hw := part_wd HE.out hlt
      have ho := bits_and_u64_nat (wd n k) (wd m k) (wd_lt _ _) (wd_lt _ _)
      have hb : wd n k &&& wd m k < 18446744073709551616 := Nat.lt_of_le_of_lt Nat.and_le_left (wd_lt n k)
      have c0 := row_cell r0 k hlt
      rw [hw] at c0
      have c1 := row_cell r1 k hlt
      have f0 := fz (k := k) r0
      have PS := box (part_step HE.out hlt _ hb rfl)
      have RS : Box ((wr.setCell ⟨w.heap.size, k, none⟩ (.int .u64 ((wd n k &&& wd m k : Nat) : Int))).heap[w.heap.size]? = some (.cells (cw 6 (setw X k (wd n k &&& wd m k))) 48)) := box (by rw [setCell_row r0, cw_seti 6 X k _ _ hlt hb rfl])
      clear hw
      go_wp2
      go_region
      all_goals go_wp2
      all_goals go_roundw
      all_goals first | (show (_ : Nat) < _; simp [intOf]; omega) | exact ⟨k + 1, _, by omega, by go_num, RS.out, (setCell_other (w := wr) (by omega)).trans r1, (setCell_other (w := wr) (by omega)).trans r2, (hbw.setCell (by show w.heap.size ≤ w.heap.size; omega) _).drew, PS⟩
    · have e := part_end HE.out (by omega) (n &&& m) (and_ltQ n m hn) (fun j hj => wd_and n m j)
      rw [HV.out] at e
      subst e
      have c0 := row_cell r0
      have hst := st_any wr _ X 0 r2
      have z2 : (wr.setRow (w.heap.size + 1 + 1) (cw 6 X)).heap[w.heap.size + 1 + 1]? = some (.cells (cw 6 X) 48) := setRow_row r2
      have c3 := row_cell z2
      go_wp2
      exact bodyPost_ret (v := .agg (cw 6 X)) (by simp [results, Tryd.results37, go_sem, c3, hf]) rfl ⟨rfl, Below.setRow hbw (by omega)⟩
set_option maxRecDepth 100000 in
set_option maxHeartbeats 1000000 in
theorem rwmask_is (s : Int) (v : Nat) (hv : 2 ^ cnt6 s - 1 = v) (w : World) :
    Calls Tryd.prog 39 #[.int .i64 s] w fun e w' => e = .returned (.agg (cw 6 v)) ∧ Below w.heap.size w w' := by
  obtain ⟨c, hc⟩ : ∃ c, c = cnt6 s := ⟨_, rfl⟩
  have hc6 : c ≤ 384 := by rw [hc]; unfold cnt6; omega
  rw [← hc] at hv
  have HV := box hv
  have HC := box hc
  clear hv hc
  have hat := cw_at 6
  have hz := cw6z
  have hf := cw6f
  have hs1 := st1
  go_enter Tryd.func39, Tryd.ntmps39
  go_wp2_with fail
  refine (rwcount_any _ _).mono ?_
  rw [← HC.out]
  rintro e w' ⟨rfl, rfl⟩
  go_wp2
  go_loopw [4] (fun iv wr => ∃ (i X : Nat), i ≤ c ∧ iv = .int .i64 i ∧ wr = (w.alloc (.cells (cw 6 0) 48)).alloc (.cells (cw 6 X) 48) ∧ Box (X = 2 ^ i - 1)) (fun iv _ => c - (intOf iv).toNat)
  case atStart => exact ⟨0, 0, by omega, rfl, rfl, box rfl⟩
  case round =>
    obtain ⟨i, X, hi, rfl, rfl, HE⟩ := hrel
    by_cases hlt : i < c
    · obtain ⟨q, hq⟩ : ∃ q, q = i / 64 := ⟨_, rfl⟩
      obtain ⟨r, hr⟩ : ∃ r, r = i % 64 := ⟨_, rfl⟩
      have t2 : (i : Int) / 64 = (q : Int) := by omega
      have t3 : (i : Int) % 64 = (r : Int) := by omega
      have t4 : q < 6 := by omega
      have t5 : r < 64 := by omega
      obtain ⟨x, hx⟩ : ∃ x, x = 2 ^ r := ⟨_, rfl⟩
      have x1 : x < 18446744073709551616 := by rw [hx]; exact v_word r t5
      have x2 : IntKind.u64.wrap ((2 : Int) ^ r) = (x : Int) := by rw [pow_cast, wrap_nat _ (v_word r t5), hx]
      have x3 := bor X q x x1
      obtain ⟨X2, hX2⟩ : ∃ X2, X2 = X ||| x * 2 ^ (64 * q) := ⟨_, rfl⟩
      have x4 := cw_or 6 X q x X2 t4 x1 hX2
      have EX : Box (X2 = 2 ^ (i + 1) - 1) := box (by rw [hX2, hx, HE.out]; exact mask_or i q r (by omega))
      clear hX2 hx hq hr
      go_wp2
      go_roundw
      case rel => exact ⟨i + 1, X2, by omega, by go_num, rfl, EX⟩
      case measure => simp [intOf] <;> omega
    · have e := HE.out
      rw [show i = c by omega, HV.out] at e
      subst e
      go_wp2
      exact bodyPost_ret (v := .agg (cw 6 X)) (by simp [results, Tryd.results39, go_sem, hat, hf]) rfl ⟨rfl, ((Below.refl _ _).alloc (Nat.le_refl _) _).alloc (by simp <;> omega) _⟩
end Go.Proofs.YtaengojkjfgppaaDoor
namespace Go.Proofs.YtaengojkjfgppaaDoor
set_option maxRecDepth 100000
set_option maxHeartbeats 40000000
set_option maxRecDepth 100000
open WMath
open Go.ChangeShapes Go.WideShapes Go.ChangeAt Go.RowKit
theorem nat_u64 {x : Int} (h : (Lit.int .u64 x).wf = true) : ∃ n : Nat, n < 18446744073709551616 ∧ x = (n : Int) := by
  have hb := bounds_u64 h
  obtain ⟨n, rfl⟩ := Int.eq_ofNat_of_zero_le hb.1
  exact ⟨n, by omega, rfl⟩
theorem u64_nat (n : Nat) (h : n < 18446744073709551616) : (Lit.int .u64 (n : Int)).wf = true := by
  first
    | exact WalkArith.wf_u64 (by omega)
    | exact WalkArith.wf_u64 (by omega) (by omega)

theorem post_plain {H : Type} {enc : TypeId × Value → H} {P : Program} {f : Func} {s : ChangeSpec} {apart fresh handsOn again : Bool} {W W' : World} {args : Array Value} {v : Value} {ds gs : List (DataW H)}
    (hW : DataW.Whole enc P f.params.toList s.vars apart W args.toList ds gs [])
    (hres : ∀ (b : Nat) (sp : Nat → Bool) (hd : Bool), DataW.TrodAll enc P W' b sp hd f.resultTypes.toList (v.resultList f.resultTypes.size) (s.fn H (ds ++ gs)).results [])
    (hargs : ∀ sp : Nat → Bool, DataW.TrodAll enc P W' 0 sp true f.params.toList args.toList (s.fn H (ds ++ gs)).args [])
    (hvars : ∀ sp : Nat → Bool, DataW.TrodVars enc P W' sp s.vars (s.fn H (ds ++ gs)).vars [])
    (hk : Below W.heap.size W W')
    (hok : ∀ (j : Nat) (t : TypeId) (r : Value), f.resultTypes[j]? = some t → (v.resultList f.resultTypes.size)[j]? = some r → Value.okWide P W' .any 0 t r) :
    s.post enc P f apart fresh handsOn again W args v W' := by
  refine ⟨ds, gs, [], [], [], [], hW, hres _ _ _, hargs _, hvars _, hk.frame _, fun _ => ⟨hok, _, _, [], ⟨[], [], trodAll_append (hargs _) (hres _ _ _), hvars _, rfl, ?_, ?_⟩, ?_⟩⟩
  · intro _ _ hp
    cases hp
  · intro _
    exact List.Pairwise.nil
  · intro _ hp
    cases hp
end Go.Proofs.YtaengojkjfgppaaDoor
