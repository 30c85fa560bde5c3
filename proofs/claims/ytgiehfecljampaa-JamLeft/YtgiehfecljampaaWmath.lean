/-
  Numbers as rows of words of 64 bits: the word at a place, a word that is replaced, a word that is or-ed in.
-/
import Derived.WalkKit
import Derived.ProofKit
import Derived.Test.YtgiehfecljampaaMath
namespace Go.Proofs.Ytgiehfecljampaa.WMath

/-- A fact that is kept, and that no step of a walk looks into. -/
def Box (p : Prop) : Prop := p ∨ False
theorem box {p : Prop} (h : p) : Box p := Or.inl h
theorem Box.out {p : Prop} (h : Box p) : p := h.elim id False.elim

def wd (n k : Nat) : Nat := n / 2 ^ (64 * k) % 18446744073709551616
theorem wd_lt (n k : Nat) : wd n k < 18446744073709551616 := Nat.mod_lt _ (by decide)
theorem wd_bit (n k j : Nat) : (wd n k).testBit j = (decide (j < 64) && n.testBit (64 * k + j)) := by
  unfold wd
  rw [two64, Nat.testBit_mod_two_pow, Nat.testBit_div_two_pow, Nat.add_comm j]
theorem wd_zero (k : Nat) : wd 0 k = 0 := by unfold wd; rw [Nat.zero_div, Nat.zero_mod]

theorem bit_of_wd (n i : Nat) : n.testBit i = (wd n (i / 64)).testBit (i % 64) := by
  rw [wd_bit, Nat.div_add_mod]
  simp [Nat.mod_lt]

theorem lt_bit {n q i : Nat} (h : n < 2 ^ q) (hi : q ≤ i) : n.testBit i = false := Nat.testBit_lt_two_pow (Nat.lt_of_lt_of_le h (Nat.pow_le_pow_right (by decide) hi))

theorem wd_ext {L n m : Nat} (hn : n < 2 ^ (64 * L)) (hm : m < 2 ^ (64 * L)) (h : ∀ k, k < L → wd n k = wd m k) : n = m := by
  apply Nat.eq_of_testBit_eq
  intro i
  by_cases hi : i < 64 * L
  · rw [bit_of_wd, bit_of_wd m, h (i / 64) (by omega)]
  · rw [lt_bit hn (by omega), lt_bit hm (by omega)]

theorem pow64 (p : Nat) : 2 ^ (64 * (p + 1)) = 2 ^ (64 * p) * 18446744073709551616 := by
  rw [Nat.mul_add, Nat.pow_add]

theorem wd_high {n q k : Nat} (h : n < 2 ^ (64 * q)) (hk : q ≤ k) : wd n k = 0 := by
  unfold wd
  rw [Nat.div_eq_of_lt (Nat.lt_of_lt_of_le h (Nat.pow_le_pow_right (by decide) (by omega)))]

/-- The word at the place p replaced by x. -/
def setw (n p x : Nat) : Nat := n % 2 ^ (64 * p) + 2 ^ (64 * p) * (x + 18446744073709551616 * (n / 2 ^ (64 * (p + 1))))

theorem wd_split (n p : Nat) : n = n % 2 ^ (64 * p) + 2 ^ (64 * p) * (wd n p + 18446744073709551616 * (n / 2 ^ (64 * (p + 1)))) := by
  unfold wd
  rw [pow64, ← Nat.div_div_eq_div_mul]
  have h1 := Nat.div_add_mod n (2 ^ (64 * p))
  have h2 := Nat.div_add_mod (n / 2 ^ (64 * p)) 18446744073709551616
  generalize n / 2 ^ (64 * p) = q at *
  have h3 : q % 18446744073709551616 + 18446744073709551616 * (q / 18446744073709551616) = q := by omega
  rw [h3]
  omega

theorem mod_wd (n p : Nat) : n % 2 ^ (64 * (p + 1)) = n % 2 ^ (64 * p) + 2 ^ (64 * p) * wd n p := by
  unfold wd
  rw [pow64, Nat.mod_mul]

theorem setw_add (n p x : Nat) : setw n p x + 2 ^ (64 * p) * wd n p = n + 2 ^ (64 * p) * x := by
  have h := wd_split n p
  unfold setw
  generalize n / 2 ^ (64 * (p + 1)) = D at *
  generalize n % 2 ^ (64 * p) = A at *
  generalize wd n p = u at *
  generalize 2 ^ (64 * p) = P at *
  rw [Nat.mul_add] at h
  rw [Nat.mul_add, h]
  omega

theorem setw_low (n p x : Nat) (h : n < 2 ^ (64 * p)) : setw n p x = n + 2 ^ (64 * p) * x := by
  have := setw_add n p x
  rw [wd_high h (Nat.le_refl _)] at this
  simpa using this

theorem setw_bit (n p x i : Nat) (hx : x < 18446744073709551616) : (setw n p x).testBit i = if i / 64 = p then x.testBit (i % 64) else n.testBit i := by
  unfold setw
  rw [Nat.add_comm, Nat.testBit_two_pow_mul_add _ (Nat.mod_lt _ (Nat.two_pow_pos _))]
  split
  · rename_i h
    rw [if_neg (by omega), Nat.testBit_mod_two_pow, decide_eq_true h, Bool.true_and]
  · rename_i h
    rw [Nat.add_comm, two64, Nat.testBit_two_pow_mul_add _ (by rw [← two64]; exact hx)]
    split
    · rename_i h2
      rw [if_pos (by omega)]
      congr 1; omega
    · rename_i h2
      rw [if_neg (by omega), Nat.testBit_div_two_pow]
      congr 1; omega

theorem wd_setw (n p x k : Nat) (hx : x < 18446744073709551616) : wd (setw n p x) k = if k = p then x else wd n k := by
  apply Nat.eq_of_testBit_eq
  intro j
  rw [wd_bit, setw_bit _ _ _ _ hx]
  by_cases hj : j < 64
  · rw [decide_eq_true hj, Bool.true_and, show (64 * k + j) / 64 = k by omega, show (64 * k + j) % 64 = j by omega]
    split
    · rfl
    · rw [wd_bit, decide_eq_true hj, Bool.true_and]
  · rw [decide_eq_false hj, Bool.false_and]
    have e : ∀ y, y < 18446744073709551616 → y.testBit j = false := fun y hy => lt_bit (q := 64) (by rw [← two64]; exact hy) (by omega)
    split
    · rw [e x hx]
    · rw [e _ (wd_lt _ _)]

theorem setw_lt (n p x q : Nat) (hn : n < 2 ^ (64 * q)) (hp : p < q) (hx : x < 18446744073709551616) : setw n p x < 2 ^ (64 * q) := by
  apply Nat.lt_pow_two_of_testBit
  intro i hi
  rw [setw_bit _ _ _ _ hx, if_neg (by omega), lt_bit hn hi]

theorem setw_or (n p x q : Nat) (hx : x < 18446744073709551616) (hq : q = p) : setw n p (wd n q ||| x) = n ||| x * 2 ^ (64 * p) := by
  subst hq
  apply Nat.eq_of_testBit_eq
  intro i
  have hlt : wd n q ||| x < 18446744073709551616 := by rw [two64]; exact Nat.or_lt_two_pow (by rw [← two64]; exact wd_lt _ _) (by rw [← two64]; exact hx)
  rw [setw_bit _ _ _ _ hlt, Nat.testBit_or n, Nat.testBit_mul_two_pow]
  split
  · rename_i h
    rw [Nat.testBit_or, wd_bit, decide_eq_true (Nat.mod_lt _ (by decide)), Bool.true_and, ← h, Nat.div_add_mod, decide_eq_true (by omega), Bool.true_and]
    congr 2; omega
  · rename_i h
    by_cases h2 : 64 * q ≤ i
    · rw [decide_eq_true h2, Bool.true_and, lt_bit (n := x) (q := 64) (by rw [← two64]; exact hx) (by omega), Bool.or_false]
    · rw [decide_eq_false h2, Bool.false_and, Bool.or_false]

/-- The cells of a number of L words. -/
def cw (L n : Nat) : Array Value := ((List.range L).map fun k => Value.int .u64 (wd n k : Nat)).toArray
theorem cw_size (L n : Nat) : (cw L n).size = L := by simp [cw]
theorem cw_at (L n k : Nat) (h : k < L) : (cw L n)[k]? = some (.int .u64 (wd n k : Nat)) := by simp [cw, h]
theorem cw_set (L n p x : Nat) (hp : p < L) (hx : x < 18446744073709551616) : (cw L n).setIfInBounds p (.int .u64 (x : Nat)) = cw L (setw n p x) := by
  apply Array.ext_getElem?
  intro k
  rw [Array.getElem?_setIfInBounds]
  by_cases hk : k < L
  · rw [cw_at L (setw n p x) k hk, cw_at L n k hk, wd_setw _ _ _ _ hx, cw_size]
    by_cases e : p = k
    · subst e; rw [if_pos rfl, if_pos hp, if_pos rfl]
    · rw [if_neg e, if_neg (fun h => e h.symm)]
  · have e1 : ∀ m, (cw L m)[k]? = none := fun m => by rw [Array.getElem?_eq_none]; rw [cw_size]; omega
    rw [e1, e1, if_neg (by omega)]
theorem cw6 (n : Nat) : cw 6 n = #[.int .u64 (wd n 0 : Nat), .int .u64 (wd n 1 : Nat), .int .u64 (wd n 2 : Nat), .int .u64 (wd n 3 : Nat), .int .u64 (wd n 4 : Nat), .int .u64 (wd n 5 : Nat)] := rfl
theorem cw6z : #[Value.int .u64 0, .int .u64 0, .int .u64 0, .int .u64 0, .int .u64 0, .int .u64 0] = cw 6 0 := by rw [cw6]; simp [wd_zero]
theorem cw6f (n : Nat) : #[Value.int .u64 (wd n 0 : Nat), .int .u64 (wd n 1 : Nat), .int .u64 (wd n 2 : Nat), .int .u64 (wd n 3 : Nat), .int .u64 (wd n 4 : Nat), .int .u64 (wd n 5 : Nat)] = cw 6 n := rfl
theorem cw_ext {L n m : Nat} (hn : n < 2 ^ (64 * L)) (hm : m < 2 ^ (64 * L)) (h : cw L n = cw L m) : n = m := by
  apply wd_ext hn hm
  intro k hk
  have := congrArg (fun a => a[k]?) h
  simp only [cw_at L _ k hk, Option.some.injEq, Value.int.injEq, true_and] at this
  omega
theorem cw_oneCell (L n : Nat) : (cw L n).all (·.oneCell') = true := by
  rw [Array.all_eq_true]
  intro i hi
  rw [cw_size] at hi
  have := cw_at L n i hi
  rw [Array.getElem?_eq_getElem (by rw [cw_size]; exact hi)] at this
  injection this with this
  rw [this]; rfl

/-- Two to the power 384. -/
def pw (L : Nat) : Nat := 2 ^ (64 * L)
def Qn (k : Nat) : Nat := if h : k = 0 then pw 6 else Qn (k - 1)
  termination_by k
  decreasing_by omega
def Q : Nat := Qn 0
theorem Q_pw : ∃ L, L = 6 ∧ Q = pw L := by
  refine ⟨6, rfl, ?_⟩
  unfold Q
  rw [Qn, dif_pos rfl]
theorem Q_of : ∃ L, L = 6 ∧ Q = 2 ^ (64 * L) := by
  obtain ⟨L, hL, h⟩ := Q_pw
  exact ⟨L, hL, h⟩
theorem Q_pos : 0 < Q := by
  obtain ⟨L, _, h⟩ := Q_of
  rw [h]
  exact Nat.two_pow_pos _
/-- A number of 384 bits, as a value. -/
def W (n : Nat) : Value := .agg (cw 6 n)

theorem w6 (a0 a1 a2 a3 a4 a5 : Nat) (h0 : a0 < 18446744073709551616) (h1 : a1 < 18446744073709551616) (h2 : a2 < 18446744073709551616) (h3 : a3 < 18446744073709551616) (h4 : a4 < 18446744073709551616) (h5 : a5 < 18446744073709551616) :
    ∃ n, n < Q ∧ cw 6 n = #[.int .u64 a0, .int .u64 a1, .int .u64 a2, .int .u64 a3, .int .u64 a4, .int .u64 a5] := by
  refine ⟨setw (setw (setw (setw (setw (setw 0 0 a0) 1 a1) 2 a2) 3 a3) 4 a4) 5 a5, ?_, ?_⟩
  · obtain ⟨L, hL, h⟩ := Q_of
    rw [h]
    repeat (refine setw_lt _ _ _ L ?_ (by omega) (by assumption))
    exact Nat.two_pow_pos _
  · rw [cw6]
    simp only [wd_setw _ _ _ _ h0, wd_setw _ _ _ _ h1, wd_setw _ _ _ _ h2, wd_setw _ _ _ _ h3, wd_setw _ _ _ _ h4, wd_setw _ _ _ _ h5]
    rfl
theorem wd_mod (n L k : Nat) (h : k < L) : wd (n % 2 ^ (64 * L)) k = wd n k := by
  apply Nat.eq_of_testBit_eq
  intro j
  rw [wd_bit, wd_bit, Nat.testBit_mod_two_pow]
  by_cases hj : j < 64
  · rw [decide_eq_true (show 64 * k + j < 64 * L by omega), Bool.true_and]
  · rw [decide_eq_false hj, Bool.false_and, Bool.false_and]
theorem wd_div (n L k : Nat) : wd (n / 2 ^ (64 * L)) k = wd n (L + k) := by
  unfold wd
  rw [Nat.div_div_eq_div_mul, ← Nat.pow_add, ← Nat.mul_add]
theorem cw_seti (L n p y : Nat) (x : Int) (hp : p < L) (hx : y < 18446744073709551616) (h : x = (y : Int)) : (cw L n).setIfInBounds p (.int .u64 x) = cw L (setw n p y) := by
  rw [h]; exact cw_set L n p y hp hx
theorem cw_push (L n p y : Nat) (x : Int) (hp : p < L) (hn : n < 2 ^ (64 * p)) (hx : y < 18446744073709551616) (h : x = (y : Int)) : (cw L n).setIfInBounds p (.int .u64 x) = cw L (n + 2 ^ (64 * p) * y) := by
  rw [cw_seti L n p y x hp hx h, setw_low n p y hn]
theorem push_lt (n p y : Nat) (hn : n < 2 ^ (64 * p)) (hx : y < 18446744073709551616) : n + 2 ^ (64 * p) * y < 2 ^ (64 * (p + 1)) := by
  rw [pow64]
  have h : 2 ^ (64 * p) * (y + 1) ≤ 2 ^ (64 * p) * 18446744073709551616 := Nat.mul_le_mul_left _ (by omega)
  rw [Nat.mul_add] at h
  omega

theorem wadd_step (n m S k x : Nat) (C : Bool) (hE : S + 2 ^ (64 * k) * C.toNat = n % 2 ^ (64 * k) + m % 2 ^ (64 * k)) (hx : x = (wd n k + wd m k + C.toNat) % 18446744073709551616) :
    S + 2 ^ (64 * k) * x + 2 ^ (64 * (k + 1)) * (decide (18446744073709551616 ≤ wd n k + wd m k + C.toNat)).toNat = n % 2 ^ (64 * (k + 1)) + m % 2 ^ (64 * (k + 1)) := by
  have e : x + 18446744073709551616 * (decide (18446744073709551616 ≤ wd n k + wd m k + C.toNat)).toNat = wd n k + wd m k + C.toNat := by
    have := wd_lt n k
    have := wd_lt m k
    have : C.toNat ≤ 1 := by cases C <;> decide
    by_cases h : 18446744073709551616 ≤ wd n k + wd m k + C.toNat
    · rw [decide_eq_true h, Bool.toNat_true]; omega
    · rw [decide_eq_false h, Bool.toNat_false]; omega
  rw [mod_wd, mod_wd, pow64, Nat.mul_assoc]
  have e2 := congrArg (fun t => 2 ^ (64 * k) * t) e
  simp only [Nat.mul_add] at e2
  omega
theorem pwQ (k : Nat) (h : k = 6) : 2 ^ (64 * k) = Q := by
  obtain ⟨L, hL, hQ⟩ := Q_of
  rw [hQ, show L = k by omega]
theorem wadd_end (n m S k : Nat) (C : Bool) (h6 : k = 6) (hn : n < Q) (hm : m < Q) (hS : S < 2 ^ (64 * k)) (hE : S + 2 ^ (64 * k) * C.toNat = n % 2 ^ (64 * k) + m % 2 ^ (64 * k)) :
    S = (n + m) % Q ∧ C = decide (Q ≤ n + m) := by
  rw [pwQ k h6] at hS hE
  rw [Nat.mod_eq_of_lt hn, Nat.mod_eq_of_lt hm] at hE
  cases C
  · rw [Bool.toNat_false, Nat.mul_zero, Nat.add_zero] at hE
    rw [← hE, Nat.mod_eq_of_lt hS, decide_eq_false (by omega)]
    exact ⟨rfl, rfl⟩
  · rw [Bool.toNat_true, Nat.mul_one] at hE
    rw [← hE, Nat.add_mod_right, Nat.mod_eq_of_lt hS, decide_eq_true (by omega)]
    exact ⟨rfl, rfl⟩
theorem wsub_step (n m S k x : Nat) (C : Bool) (hE : S + m % 2 ^ (64 * k) = n % 2 ^ (64 * k) + 2 ^ (64 * k) * C.toNat) (hx : x = (wd n k + 18446744073709551616 - wd m k - C.toNat) % 18446744073709551616) :
    S + 2 ^ (64 * k) * x + m % 2 ^ (64 * (k + 1)) = n % 2 ^ (64 * (k + 1)) + 2 ^ (64 * (k + 1)) * (decide (wd n k < wd m k + C.toNat)).toNat := by
  have e : x + wd m k + C.toNat = wd n k + 18446744073709551616 * (decide (wd n k < wd m k + C.toNat)).toNat := by
    have := wd_lt n k
    have := wd_lt m k
    have : C.toNat ≤ 1 := by cases C <;> decide
    by_cases h : wd n k < wd m k + C.toNat
    · rw [decide_eq_true h, Bool.toNat_true]; omega
    · rw [decide_eq_false h, Bool.toNat_false]; omega
  rw [mod_wd, mod_wd, pow64, Nat.mul_assoc]
  have e2 := congrArg (fun t => 2 ^ (64 * k) * t) e
  simp only [Nat.mul_add] at e2
  omega
theorem wsub_end (n m S k : Nat) (C : Bool) (h6 : k = 6) (hn : n < Q) (hm : m < Q) (hS : S < 2 ^ (64 * k)) (hE : S + m % 2 ^ (64 * k) = n % 2 ^ (64 * k) + 2 ^ (64 * k) * C.toNat) :
    S = (n + Q - m) % Q ∧ C = decide (n < m) := by
  rw [pwQ k h6] at hS hE
  rw [Nat.mod_eq_of_lt hn, Nat.mod_eq_of_lt hm] at hE
  cases C
  · rw [Bool.toNat_false, Nat.mul_zero, Nat.add_zero] at hE
    rw [show n + Q - m = S + Q by omega, Nat.add_mod_right, Nat.mod_eq_of_lt hS, decide_eq_false (by omega)]
    exact ⟨rfl, rfl⟩
  · rw [Bool.toNat_true, Nat.mul_one] at hE
    rw [show n + Q - m = S by omega, Nat.mod_eq_of_lt hS, decide_eq_true (by omega)]
    exact ⟨rfl, rfl⟩

/-- The words below k are those of f, the others those of n. -/
def Part (X n k : Nat) (f : Nat → Nat) : Prop := X < Q ∧ ∀ j, j < 6 → wd X j = if j < k then f j else wd n j
theorem part_start (n : Nat) (f : Nat → Nat) (h : n < Q) : Part n n 0 f := ⟨h, fun j _ => by rw [if_neg (by omega)]⟩
theorem setw_ltQ (n p x : Nat) (hn : n < Q) (hp : p < 6) (hx : x < 18446744073709551616) : setw n p x < Q := by
  obtain ⟨L, hL, hQ⟩ := Q_of
  rw [hQ] at hn ⊢
  exact setw_lt _ _ _ _ hn (by omega) hx
theorem part_step {X n k : Nat} {f : Nat → Nat} (h : Part X n k f) (hk : k < 6) (x : Nat) (hx : x < 18446744073709551616) (hf : f k = x) : Part (setw X k x) n (k + 1) f := by
  refine ⟨setw_ltQ _ _ _ h.1 hk hx, fun j hj => ?_⟩
  rw [wd_setw _ _ _ _ hx, h.2 j hj]
  by_cases e : j = k
  · subst e; rw [if_pos rfl, if_pos (by omega), hf]
  · rw [if_neg e]
    by_cases e2 : j < k
    · rw [if_pos e2, if_pos (by omega)]
    · rw [if_neg e2, if_neg (by omega)]
theorem part_end {X n k : Nat} {f : Nat → Nat} (h : Part X n k f) (hk : k = 6) (r : Nat) (hr : r < Q) (hw : ∀ j, j < 6 → wd r j = f j) : X = r := by
  obtain ⟨L, hL, hQ⟩ := Q_of
  have hX := h.1
  rw [hQ] at hX hr
  exact wd_ext hX hr (fun j hj => by rw [h.2 j (by omega), if_pos (by omega), hw j (by omega)])
theorem part_wd {X n k : Nat} {f : Nat → Nat} (h : Part X n k f) (hk : k < 6) : wd X k = wd n k := by rw [h.2 k hk, if_neg (by omega)]

theorem or_ltQ (n m : Nat) (hn : n < Q) (hm : m < Q) : n ||| m < Q := by
  obtain ⟨L, hL, hQ⟩ := Q_of
  rw [hQ] at hn hm ⊢
  exact Nat.or_lt_two_pow hn hm
theorem and_ltQ (n m : Nat) (hn : n < Q) : n &&& m < Q := Nat.lt_of_le_of_lt Nat.and_le_left hn
theorem wd_or (n m k : Nat) : wd (n ||| m) k = wd n k ||| wd m k := by
  apply Nat.eq_of_testBit_eq
  intro j
  rw [wd_bit, Nat.testBit_or, Nat.testBit_or, wd_bit, wd_bit, Bool.and_or_distrib_left]
theorem wd_and (n m k : Nat) : wd (n &&& m) k = wd n k &&& wd m k := by
  apply Nat.eq_of_testBit_eq
  intro j
  rw [wd_bit, Nat.testBit_and, Nat.testBit_and, wd_bit, wd_bit]
  cases decide (j < 64) <;> simp
theorem wd_not (n k : Nat) (hk : k < 6) (hn : n < Q) : wd (Q - 1 - n) k = 18446744073709551615 - wd n k := by
  obtain ⟨L, hL, hQ⟩ := Q_of
  apply Nat.eq_of_testBit_eq
  intro j
  rw [hQ] at hn
  rw [wd_bit, hQ, show 2 ^ (64 * L) - 1 - n = 2 ^ (64 * L) - (n + 1) by omega, Nat.testBit_two_pow_sub_succ hn]
  rw [show 18446744073709551615 - wd n k = 2 ^ 64 - (wd n k + 1) by rw [← two64]; omega, Nat.testBit_two_pow_sub_succ (by rw [← two64]; exact wd_lt n k), wd_bit]
  by_cases hj : j < 64
  · rw [decide_eq_true hj, decide_eq_true (show 64 * k + j < 64 * L by omega)]; simp
  · rw [decide_eq_false hj]; simp
theorem or_lt64 (a b : Nat) (ha : a < 18446744073709551616) (hb : b < 18446744073709551616) : a ||| b < 18446744073709551616 := by
  rw [two64] at *; exact Nat.or_lt_two_pow ha hb

theorem or_modQ (a b : Nat) : (a ||| b) % Q = a % Q ||| b % Q := by
  obtain ⟨L, hL, hQ⟩ := Q_of
  rw [hQ, Nat.or_mod_two_pow]
theorem sh_small (v t : Nat) (hv : v < 18446744073709551616) (ht : t < 6) : v * 2 ^ (64 * t) < Q := by
  obtain ⟨L, hL, hQ⟩ := Q_of
  rw [hQ]
  have h1 : 2 ^ (64 * (t + 1)) ≤ 2 ^ (64 * L) := Nat.pow_le_pow_right (by decide) (by omega)
  have h2 := push_lt 0 t v (Nat.two_pow_pos _) hv
  rw [Nat.mul_comm] at h2
  omega
theorem sh_big (v t : Nat) (ht : 6 ≤ t) : v * 2 ^ (64 * t) % Q = 0 := by
  obtain ⟨L, hL, hQ⟩ := Q_of
  rw [hQ, show 64 * t = (64 * t - 64 * L) + 64 * L by omega, Nat.pow_add, ← Nat.mul_assoc, Nat.mul_mod_left]
theorem or_disj (a b i : Nat) (h : a < 2 ^ i) : a + b * 2 ^ i = a ||| b * 2 ^ i := by
  rw [Nat.mul_comm, Nat.add_comm, Nat.two_pow_add_eq_or_of_lt h, Nat.or_comm]
theorem lohi (x r : Nat) (hr : r ≤ 64) : x * 2 ^ r = x * 2 ^ r % 18446744073709551616 ||| x / 2 ^ (64 - r) * 2 ^ 64 := by
  have h1 : x / 2 ^ (64 - r) = x * 2 ^ r / 18446744073709551616 := by
    rw [show 18446744073709551616 = 2 ^ (64 - r) * 2 ^ r by rw [← Nat.pow_add, two64]; congr 1; omega, Nat.mul_div_mul_right _ _ (Nat.two_pow_pos _)]
  rw [← or_disj _ _ 64 (by rw [← two64]; exact Nat.mod_lt _ (by decide)), h1, ← two64]
  omega
theorem or_sh (a b i : Nat) : (a ||| b) * 2 ^ i = a * 2 ^ i ||| b * 2 ^ i := by
  rw [← Nat.shiftLeft_eq, ← Nat.shiftLeft_eq, ← Nat.shiftLeft_eq, Nat.shiftLeft_or_distrib]
theorem or_dv (a b i : Nat) : (a ||| b) / 2 ^ i = a / 2 ^ i ||| b / 2 ^ i := by
  rw [← Nat.shiftRight_eq_div_pow, ← Nat.shiftRight_eq_div_pow, ← Nat.shiftRight_eq_div_pow, Nat.shiftRight_or_distrib]
theorem mod_or (n k : Nat) : n % 2 ^ (64 * (k + 1)) = n % 2 ^ (64 * k) ||| wd n k * 2 ^ (64 * k) := by
  rw [mod_wd, ← or_disj _ _ _ (Nat.mod_lt _ (Nat.two_pow_pos _)), Nat.mul_comm (wd n k)]

theorem up_step (n k s q r t X lo hi : Nat) (hs : s = 64 * q + r) (hr : r < 64) (ht : t = k + q) (hX : X = (n % 2 ^ (64 * k)) * 2 ^ s % Q) (hlo : wd n k * 2 ^ r % 18446744073709551616 = lo) (hhi : wd n k / 2 ^ (64 - r) = hi) :
    (n % 2 ^ (64 * (k + 1))) * 2 ^ s % Q = X ||| (lo * 2 ^ (64 * t) % Q ||| hi * 2 ^ (64 * (t + 1)) % Q) := by
  have e : wd n k * 2 ^ (64 * k) * 2 ^ s = lo * 2 ^ (64 * t) ||| hi * 2 ^ (64 * (t + 1)) := by
    rw [show wd n k * 2 ^ (64 * k) * 2 ^ s = wd n k * 2 ^ r * 2 ^ (64 * t) by rw [Nat.mul_assoc, Nat.mul_assoc, ← Nat.pow_add, ← Nat.pow_add]; congr 2; omega]
    rw [lohi (wd n k) r (by omega), hlo, hhi, or_sh, Nat.mul_assoc, ← Nat.pow_add]
    congr 3; omega
  rw [mod_or, or_sh, or_modQ, ← hX, e, or_modQ]
theorem cw_or (L X t v X' : Nat) (ht : t < L) (hv : v < 18446744073709551616) (hX : X' = X ||| v * 2 ^ (64 * t)) : (cw L X).setIfInBounds t (.int .u64 (wd X t ||| v : Nat)) = cw L X' := by
  rw [cw_set L X t _ ht (or_lt64 _ _ (wd_lt _ _) hv), setw_or X t v t hv rfl, hX]
theorem bor (X t v : Nat) (hv : v < 18446744073709551616) : bits .or .u64 (wd X t : Nat) (v : Nat) = ((wd X t ||| v : Nat) : Int) := bits_or_u64_nat _ _ (wd_lt _ _) hv
theorem wlow (n k : Nat) (h : n < Q) (hk : k = 6) : n % 2 ^ (64 * k) = n := by
  rw [pwQ k hk, Nat.mod_eq_of_lt h]

theorem down_step (n k s q r X lo hi : Nat) (hs : s = 64 * q + r) (hr : r < 64) (hX : X = (n % 2 ^ (64 * k)) / 2 ^ s) (hlo : wd n k * 2 ^ (64 - r) % 18446744073709551616 = lo) (hhi : wd n k / 2 ^ r = hi) :
    (n % 2 ^ (64 * (k + 1))) / 2 ^ s = if q < k then X ||| (hi * 2 ^ (64 * (k - q)) ||| lo * 2 ^ (64 * (k - q - 1))) else if q = k then X ||| hi else X := by
  rw [mod_or, or_dv, ← hX]
  split
  · rename_i h
    congr 1
    rw [show wd n k * 2 ^ (64 * k) = wd n k * 2 ^ (64 - r) * 2 ^ (64 * (k - q - 1)) * 2 ^ s by rw [Nat.mul_assoc, Nat.mul_assoc, ← Nat.pow_add, ← Nat.pow_add]; congr 2; omega]
    rw [Nat.mul_div_cancel _ (Nat.two_pow_pos _), lohi (wd n k) (64 - r) (by omega), hlo, show 64 - (64 - r) = r by omega, hhi, or_sh, Nat.mul_assoc, ← Nat.pow_add, Nat.or_comm]
    congr 3; omega
  · split
    · rename_i h1 h
      congr 1
      rw [hs, h, Nat.pow_add, Nat.mul_comm (2 ^ (64 * k)), Nat.mul_div_mul_right _ _ (Nat.two_pow_pos _), hhi]
    · rename_i h1 h
      have h2 := push_lt 0 k (wd n k) (Nat.two_pow_pos _) (wd_lt n k)
      rw [Nat.mul_comm, Nat.zero_add] at h2
      rw [Nat.div_eq_of_lt (Nat.lt_of_lt_of_le h2 (Nat.pow_le_pow_right (by decide) (by omega))), Nat.or_zero]
end Go.Proofs.Ytgiehfecljampaa.WMath
