/-
  What the functions that the statement reaches return: part 1 (Mx, Word1, Word2, Word3, Word4).
-/
import Derived.Laws.MathBits
import Derived.Laws.Bits64b
import Derived.Laws.BitsAllLaws
import Derived.Laws.ShiftsVarLaws
import Derived.WalkKit
import Derived.ProofKit
import Derived.Lib.BitFns
import Derived.Test.YtkblmpmkchkpjaaGreatDoorRows
import Derived.WalkLawsBesides
import Derived.ScopeJumps
namespace Go.Proofs.YtkblmpmkchkpjaaGreatDoor.WMath
set_option maxRecDepth 100000
set_option maxHeartbeats 40000000
theorem testBit_toNat (x k : Nat) : (x.testBit k).toNat = x / 2 ^ k % 2 := by
 rw [Nat.testBit_eq_decide_div_mod_eq]
 have : x / 2 ^ k % 2 = 0 ∨ x / 2 ^ k % 2 = 1 := by omega
 rcases this with h | h <;> simp [h]

theorem bit_and (x k : Nat) : ((x / 2 ^ k) &&& 1 == 1) = x.testBit k := by
 rw [Nat.and_one_is_mod, Nat.testBit_eq_decide_div_mod_eq]
 rfl

theorem div_succ (x k : Nat) : x / 2 ^ k = 2 * (x / 2 ^ (k + 1)) + (x.testBit k).toNat := by
 rw [testBit_toNat, Nat.pow_succ, ← Nat.div_div_eq_div_mul]
 omega

theorem mod_succ (x k : Nat) : x % 2 ^ (k + 1) = x % 2 ^ k + 2 ^ k * (x.testBit k).toNat := by
 rw [testBit_toNat, Nat.mod_pow_succ]

theorem or_one (s : Nat) (h : s % 2 = 0) : s ||| 1 = s + 1 := by
 have := Nat.two_pow_add_eq_or_of_lt (i := 1) (b := 1) (by decide) (s / 2)
 have e : 2 ^ 1 * (s / 2) = s := by omega
 rw [e] at this
 exact this.symm

theorem or_bit (s t : Nat) (h : s % 2 = 0) (ht : t < 2) : s ||| t = s + t := by
 rcases (by omega : t = 0 ∨ t = 1) with rfl | rfl
 ·
  simp
 ·
  exact or_one s h

theorem xK : (18446744073709551616 : Nat) = 2 ^ 64 := by decide
theorem pow_lt_64 (k : Nat) (h : k < 64) : 2 ^ k < 18446744073709551616 := by
 rw [xK]; exact Nat.pow_lt_pow_right (by decide) h
theorem pow_le_64 (k : Nat) (h : k ≤ 64) : 2 ^ k ≤ 18446744073709551616 := by
 rw [xK]; exact Nat.pow_le_pow_right (by decide) h

def DivSt (hi lo d j q r : Nat) : Prop := hi * 2 ^ j + lo / 2 ^ (64 - j) = q * d + r ∧ r < d ∧ q < 2 ^ j

theorem div_step (hi lo d j q r t : Nat) (hj : j < 64) (ht : t = (lo.testBit (63 - j)).toNat) (S : DivSt hi lo d j q r) :
  (2 * r + t < d → DivSt hi lo d (j + 1) (q * 2) (2 * r + t)) ∧ (d ≤ 2 * r + t → DivSt hi lo d (j + 1) (q * 2 + 1) (2 * r + t - d)) := by
 obtain ⟨h, hr, hq⟩ := S
 have e := div_succ lo (63 - j)
 rw [← ht] at e
 have e0 : 63 - j + 1 = 64 - j := by omega
 have e1 : 64 - (j + 1) = 63 - j := by omega
 have hb : t ≤ 1 := by rw [ht]; cases lo.testBit (63 - j) <;> decide
 rw [e0] at e
 unfold DivSt
 rw [e1, Nat.pow_succ, e]
 have e2 : hi * (2 ^ j * 2) = 2 * (hi * 2 ^ j) := by rw [← Nat.mul_assoc]; omega
 have e3 : q * 2 * d = 2 * (q * d) := by rw [Nat.mul_right_comm]; omega
 have e4 : (q * 2 + 1) * d = 2 * (q * d) + d := by rw [Nat.add_mul, e3]; omega
 rw [e2, e3, e4]
 clear e e0 e1 e2 e3 e4 ht
 generalize q * d = Q at *
 generalize hi * 2 ^ j = H at *
 generalize lo / 2 ^ (64 - j) = L at *
 generalize 2 ^ j = P at *
 refine ⟨fun h => ⟨by omega, by omega, by omega⟩, fun h => ⟨by omega, by omega, by omega⟩⟩

theorem div_start (hi lo d : Nat) (hl : lo < 18446744073709551616) (hh : hi < d) : DivSt hi lo d 0 0 hi := by
 refine ⟨?_, hh, by decide⟩
 rw [Nat.pow_zero, Nat.mul_one, Nat.sub_zero, ← xK, Nat.div_eq_of_lt hl, Nat.zero_mul, Nat.zero_add, Nat.add_zero]

theorem div_end (hi lo d q r : Nat) (S : DivSt hi lo d 64 q r) : q = (hi * 18446744073709551616 + lo) / d ∧ r = (hi * 18446744073709551616 + lo) % d := by
 obtain ⟨h, hr, _⟩ := S
 rw [Nat.sub_self, Nat.pow_zero, Nat.div_one, ← xK] at h
 have hd : 0 < d := by omega
 have h' : hi * 18446744073709551616 + lo = r + d * q := by rw [h, Nat.mul_comm q d]; omega
 constructor
 ·
  rw [h', Nat.add_mul_div_left _ _ hd, Nat.div_eq_of_lt hr, Nat.zero_add]
 ·
  rw [h', Nat.add_mul_mod_self_left, Nat.mod_eq_of_lt hr]

theorem top_bit (lo j : Nat) (hj : j < 64) : lo * 2 ^ j % 18446744073709551616 / 9223372036854775808 = (lo.testBit (63 - j)).toNat := by
 have e1 : (18446744073709551616 : Nat) = 2 ^ j * (2 ^ (63 - j) * 2) := by
  rw [← Nat.pow_succ, ← Nat.pow_add, xK]; congr 1; omega
 have e2 : (9223372036854775808 : Nat) = 2 ^ j * 2 ^ (63 - j) := by
  rw [← Nat.pow_add, show j + (63 - j) = 63 by omega]
 rw [testBit_toNat, e1, e2, Nat.mul_comm lo, Nat.mul_mod_mul_left, Nat.mul_div_mul_left _ _ (Nat.two_pow_pos j), Nat.mod_mul_right_div_self]

def sx (x e : Nat) : Nat := if x.testBit (e - 1) then x % 2 ^ e + (18446744073709551616 - 2 ^ e) else x % 2 ^ e

theorem mul_mod_step (x k X : Nat) (h : X = x * 2 ^ k % 18446744073709551616) : X * 2 % 18446744073709551616 = x * 2 ^ (k + 1) % 18446744073709551616 := by
 rw [h, Nat.pow_succ, ← Nat.mul_assoc]
 exact Nat.mod_mul_mod _ _ _
theorem mask_lt (c : Nat) (h : c ≤ 64) : 2 ^ c - 1 < 18446744073709551616 := by
 have := pow_le_64 c h
 have := Nat.two_pow_pos c
 omega

end Go.Proofs.YtkblmpmkchkpjaaGreatDoor.WMath
namespace Go.Proofs.YtkblmpmkchkpjaaGreatDoor.WMath
set_option maxRecDepth 100000
set_option maxHeartbeats 40000000

def zS (p : Prop) : Prop := p ∨ False
theorem zH {p : Prop} (h : p) : zS p := Or.inl h
theorem zS.out {p : Prop} (h : zS p) : p := h.elim id False.elim

def wd (n k : Nat) : Nat := n / 2 ^ (64 * k) % 18446744073709551616
theorem yU (n k : Nat) : wd n k < 18446744073709551616 := Nat.mod_lt _ (by decide)
theorem wd_bit (n k j : Nat) : (wd n k).testBit j = (decide (j < 64) && n.testBit (64 * k + j)) := by
 unfold wd
 rw [xK, Nat.testBit_mod_two_pow, Nat.testBit_div_two_pow, Nat.add_comm j]
theorem wd_zero (k : Nat) : wd 0 k = 0 := by unfold wd; rw [Nat.zero_div, Nat.zero_mod]

theorem bit_of_wd (n i : Nat) : n.testBit i = (wd n (i / 64)).testBit (i % 64) := by
 rw [wd_bit, Nat.div_add_mod]
 simp [Nat.mod_lt]

theorem lt_bit {n q i : Nat} (h : n < 2 ^ q) (hi : q ≤ i) : n.testBit i = false := Nat.testBit_lt_two_pow (Nat.lt_of_lt_of_le h (Nat.pow_le_pow_right (by decide) hi))

theorem wd_ext {L n m : Nat} (hn : n < 2 ^ (64 * L)) (hm : m < 2 ^ (64 * L)) (h : ∀ k, k < L → wd n k = wd m k) : n = m := by
 apply Nat.eq_of_testBit_eq
 intro i
 by_cases hi : i < 64 * L
 ·
  rw [bit_of_wd, bit_of_wd m, h (i / 64) (by omega)]
 ·
  rw [lt_bit hn (by omega), lt_bit hm (by omega)]

theorem pow64 (p : Nat) : 2 ^ (64 * (p + 1)) = 2 ^ (64 * p) * 18446744073709551616 := by
 rw [Nat.mul_add, Nat.pow_add]

theorem wd_high {n q k : Nat} (h : n < 2 ^ (64 * q)) (hk : q ≤ k) : wd n k = 0 := by
 unfold wd
 rw [Nat.div_eq_of_lt (Nat.lt_of_lt_of_le h (Nat.pow_le_pow_right (by decide) (by omega)))]

def setw (n p x : Nat) : Nat := n % 2 ^ (64 * p) + 2 ^ (64 * p) * (x + 18446744073709551616 * (n / 2 ^ (64 * (p + 1))))

theorem wd_split (n p : Nat) : n = n % 2 ^ (64 * p) + 2 ^ (64 * p) * (wd n p + 18446744073709551616 * (n / 2 ^ (64 * (p + 1)))) := by
 unfold wd
 rw [pow64, ← Nat.div_div_eq_div_mul]
 have h1 := Nat.div_add_mod n (2 ^ (64 * p))
 have h2 := Nat.div_add_mod (n / 2 ^ (64 * p)) 18446744073709551616
 generalize n / 2 ^ (64 * p) = q at *
 have h3 : q % 18446744073709551616 + 18446744073709551616 * (q / 18446744073709551616) = q := by omega
 rw [h3]
 omega

theorem qZ (n p : Nat) : n % 2 ^ (64 * (p + 1)) = n % 2 ^ (64 * p) + 2 ^ (64 * p) * wd n p := by
 unfold wd
 rw [pow64, Nat.mod_mul]

theorem setw_add (n p x : Nat) : setw n p x + 2 ^ (64 * p) * wd n p = n + 2 ^ (64 * p) * x := by
 have h := wd_split n p
 unfold setw
 generalize n / 2 ^ (64 * (p + 1)) = D at *
 generalize n % 2 ^ (64 * p) = A at *
 generalize wd n p = u at *
 generalize 2 ^ (64 * p) = P at *
 rw [Nat.mul_add] at h
 rw [Nat.mul_add, h]
 omega

theorem setw_low (n p x : Nat) (h : n < 2 ^ (64 * p)) : setw n p x = n + 2 ^ (64 * p) * x := by
 have := setw_add n p x
 rw [wd_high h (Nat.le_refl _)] at this
 simpa using this

theorem setw_bit (n p x i : Nat) (hx : x < 18446744073709551616) : (setw n p x).testBit i = if i / 64 = p then x.testBit (i % 64) else n.testBit i := by
 unfold setw
 rw [Nat.add_comm, Nat.testBit_two_pow_mul_add _ (Nat.mod_lt _ (Nat.two_pow_pos _))]
 split
 ·
  rename_i h
  rw [if_neg (by omega), Nat.testBit_mod_two_pow, decide_eq_true h, Bool.true_and]
 ·
  rename_i h
  rw [Nat.add_comm, xK, Nat.testBit_two_pow_mul_add _ (by rw [← xK]; exact hx)]
  split
  ·
   rename_i h2
   rw [if_pos (by omega)]
   congr 1; omega
  ·
   rename_i h2
   rw [if_neg (by omega), Nat.testBit_div_two_pow]
   congr 1; omega

theorem wd_setw (n p x k : Nat) (hx : x < 18446744073709551616) : wd (setw n p x) k = if k = p then x else wd n k := by
 apply Nat.eq_of_testBit_eq
 intro j
 rw [wd_bit, setw_bit _ _ _ _ hx]
 by_cases hj : j < 64
 ·
  rw [decide_eq_true hj, Bool.true_and, show (64 * k + j) / 64 = k by omega, show (64 * k + j) % 64 = j by omega]
  split
  ·
   rfl
  ·
   rw [wd_bit, decide_eq_true hj, Bool.true_and]
 ·
  rw [decide_eq_false hj, Bool.false_and]
  have e : ∀ y, y < 18446744073709551616 → y.testBit j = false := fun y hy => lt_bit (q := 64) (by rw [← xK]; exact hy) (by omega)
  split
  ·
   rw [e x hx]
  ·
   rw [e _ (yU _ _)]

theorem setw_lt (n p x q : Nat) (hn : n < 2 ^ (64 * q)) (hp : p < q) (hx : x < 18446744073709551616) : setw n p x < 2 ^ (64 * q) := by
 apply Nat.lt_pow_two_of_testBit
 intro i hi
 rw [setw_bit _ _ _ _ hx, if_neg (by omega), lt_bit hn hi]

theorem setw_or (n p x q : Nat) (hx : x < 18446744073709551616) (hq : q = p) : setw n p (wd n q ||| x) = n ||| x * 2 ^ (64 * p) := by
 subst hq
 apply Nat.eq_of_testBit_eq
 intro i
 have hlt : wd n q ||| x < 18446744073709551616 := by rw [xK]; exact Nat.or_lt_two_pow (by rw [← xK]; exact yU _ _) (by rw [← xK]; exact hx)
 rw [setw_bit _ _ _ _ hlt, Nat.testBit_or n, Nat.testBit_mul_two_pow]
 split
 ·
  rename_i h
  rw [Nat.testBit_or, wd_bit, decide_eq_true (Nat.mod_lt _ (by decide)), Bool.true_and, ← h, Nat.div_add_mod, decide_eq_true (by omega), Bool.true_and]
  congr 2; omega
 ·
  rename_i h
  by_cases h2 : 64 * q ≤ i
  ·
   rw [decide_eq_true h2, Bool.true_and, lt_bit (n := x) (q := 64) (by rw [← xK]; exact hx) (by omega), Bool.or_false]
  ·
   rw [decide_eq_false h2, Bool.false_and, Bool.or_false]

def cw (L n : Nat) : Array Value := ((List.range L).map fun k => Value.int .u64 (wd n k : Nat)).toArray
theorem yT (L n : Nat) : (cw L n).size = L := by simp [cw]
theorem yS (L n k : Nat) (h : k < L) : (cw L n)[k]? = some (.int .u64 (wd n k : Nat)) := by simp [cw, h]
theorem cw_set (L n p x : Nat) (hp : p < L) (hx : x < 18446744073709551616) : (cw L n).setIfInBounds p (.int .u64 x) = cw L (setw n p x) := by
 apply Array.ext_getElem?
 intro k
 rw [Array.getElem?_setIfInBounds]
 by_cases hk : k < L
 ·
  rw [yS L (setw n p x) k hk, yS L n k hk, wd_setw _ _ _ _ hx, yT]
  by_cases e : p = k
  ·
   subst e; rw [if_pos rfl, if_pos hp, if_pos rfl]
  ·
   rw [if_neg e, if_neg (fun h => e h.symm)]
 ·
  have e1 : ∀ m, (cw L m)[k]? = none := fun m => by rw [Array.getElem?_eq_none]; rw [yT]; omega
  rw [e1, e1, if_neg (by omega)]
theorem cw6 (n : Nat) : cw 6 n = #[.int .u64 (wd n 0), .int .u64 (wd n 1), .int .u64 (wd n 2), .int .u64 (wd n 3), .int .u64 (wd n 4), .int .u64 (wd n 5)] := rfl
theorem cw6z : #[Value.int .u64 0, .int .u64 0, .int .u64 0, .int .u64 0, .int .u64 0, .int .u64 0] = cw 6 0 := by rw [cw6]; simp [wd_zero]
theorem cw6f (n : Nat) : #[Value.int .u64 (wd n 0), .int .u64 (wd n 1), .int .u64 (wd n 2), .int .u64 (wd n 3), .int .u64 (wd n 4), .int .u64 (wd n 5)] = cw 6 n := rfl
theorem cw_oneCell (L n : Nat) : (cw L n).all (·.oneCell') = true := by
 rw [Array.all_eq_true]
 intro i hi
 rw [yT] at hi
 have := yS L n i hi
 rw [Array.getElem?_eq_getElem (by rw [yT]; exact hi)] at this
 injection this with this
 rw [this]; rfl

def pw (L : Nat) : Nat := 2 ^ (64 * L)
def Qn (k : Nat) : Nat := if h : k = 0 then pw 6 else Qn (k - 1)
  termination_by k
  decreasing_by omega
def Q : Nat := Qn 0
theorem Q_pw : ∃ L, L = 6 ∧ Q = pw L := by
 refine ⟨6, rfl, ?_⟩
 unfold Q
 rw [Qn, dif_pos rfl]
theorem Q_of : ∃ L, L = 6 ∧ Q = 2 ^ (64 * L) := by
 obtain ⟨L, hL, h⟩ := Q_pw
 exact ⟨L, hL, h⟩
theorem Q_pos : 0 < Q := by
 obtain ⟨L, _, h⟩ := Q_of
 rw [h]
 exact Nat.two_pow_pos _
def W (n : Nat) : Value := .agg (cw 6 n)

theorem w6 (a0 a1 a2 a3 a4 a5 : Nat) (h0 : a0 < 18446744073709551616) (h1 : a1 < 18446744073709551616) (h2 : a2 < 18446744073709551616) (h3 : a3 < 18446744073709551616) (h4 : a4 < 18446744073709551616) (h5 : a5 < 18446744073709551616) :
  ∃ n, n < Q ∧ cw 6 n = #[.int .u64 a0, .int .u64 a1, .int .u64 a2, .int .u64 a3, .int .u64 a4, .int .u64 a5] := by
 refine ⟨setw (setw (setw (setw (setw (setw 0 0 a0) 1 a1) 2 a2) 3 a3) 4 a4) 5 a5, ?_, ?_⟩
 ·
  obtain ⟨L, hL, h⟩ := Q_of
  rw [h]
  repeat (refine setw_lt _ _ _ L ?_ (by omega) (by assumption))
  exact Nat.two_pow_pos _
 ·
  rw [cw6]
  simp only [wd_setw _ _ _ _ h0, wd_setw _ _ _ _ h1, wd_setw _ _ _ _ h2, wd_setw _ _ _ _ h3, wd_setw _ _ _ _ h4, wd_setw _ _ _ _ h5]
  rfl
theorem wd_mod (n L k : Nat) (h : k < L) : wd (n % 2 ^ (64 * L)) k = wd n k := by
 apply Nat.eq_of_testBit_eq
 intro j
 rw [wd_bit, wd_bit, Nat.testBit_mod_two_pow]
 by_cases hj : j < 64
 ·
  rw [decide_eq_true (show 64 * k + j < 64 * L by omega), Bool.true_and]
 ·
  rw [decide_eq_false hj, Bool.false_and, Bool.false_and]
theorem wd_div (n L k : Nat) : wd (n / 2 ^ (64 * L)) k = wd n (L + k) := by
 unfold wd
 rw [Nat.div_div_eq_div_mul, ← Nat.pow_add, ← Nat.mul_add]
theorem cw_seti (L n p y : Nat) (x : Int) (hp : p < L) (hx : y < 18446744073709551616) (h : x = (y : Int)) : (cw L n).setIfInBounds p (.int .u64 x) = cw L (setw n p y) := by
 rw [h]; exact cw_set L n p y hp hx
theorem cw_push (L n p y : Nat) (x : Int) (hp : p < L) (hn : n < 2 ^ (64 * p)) (hx : y < 18446744073709551616) (h : x = (y : Int)) : (cw L n).setIfInBounds p (.int .u64 x) = cw L (n + 2 ^ (64 * p) * y) := by
 rw [cw_seti L n p y x hp hx h, setw_low n p y hn]
theorem push_lt (n p y : Nat) (hn : n < 2 ^ (64 * p)) (hx : y < 18446744073709551616) : n + 2 ^ (64 * p) * y < 2 ^ (64 * (p + 1)) := by
 rw [pow64]
 have h : 2 ^ (64 * p) * (y + 1) ≤ 2 ^ (64 * p) * 18446744073709551616 := Nat.mul_le_mul_left _ (by omega)
 rw [Nat.mul_add] at h
 omega

theorem pwQ (k : Nat) (h : k = 6) : 2 ^ (64 * k) = Q := by
 obtain ⟨L, hL, hQ⟩ := Q_of
 rw [hQ, show L = k by omega]
def Part (X n k : Nat) (f : Nat → Nat) : Prop := X < Q ∧ ∀ j, j < 6 → wd X j = if j < k then f j else wd n j
theorem part_start (n : Nat) (f : Nat → Nat) (h : n < Q) : Part n n 0 f := ⟨h, fun j _ => by rw [if_neg (by omega)]⟩
theorem setw_ltQ (n p x : Nat) (hn : n < Q) (hp : p < 6) (hx : x < 18446744073709551616) : setw n p x < Q := by
 obtain ⟨L, hL, hQ⟩ := Q_of
 rw [hQ] at hn ⊢
 exact setw_lt _ _ _ _ hn (by omega) hx
theorem part_step {X n k : Nat} {f : Nat → Nat} (h : Part X n k f) (hk : k < 6) (x : Nat) (hx : x < 18446744073709551616) (hf : f k = x) : Part (setw X k x) n (k + 1) f := by
 refine ⟨setw_ltQ _ _ _ h.1 hk hx, fun j hj => ?_⟩
 rw [wd_setw _ _ _ _ hx, h.2 j hj]
 by_cases e : j = k
 ·
  subst e; rw [if_pos rfl, if_pos (by omega), hf]
 ·
  rw [if_neg e]
  by_cases e2 : j < k
  ·
   rw [if_pos e2, if_pos (by omega)]
  ·
   rw [if_neg e2, if_neg (by omega)]
theorem part_end {X n k : Nat} {f : Nat → Nat} (h : Part X n k f) (hk : k = 6) (r : Nat) (hr : r < Q) (hw : ∀ j, j < 6 → wd r j = f j) : X = r := by
 obtain ⟨L, hL, hQ⟩ := Q_of
 have hX := h.1
 rw [hQ] at hX hr
 exact wd_ext hX hr (fun j hj => by rw [h.2 j (by omega), if_pos (by omega), hw j (by omega)])
theorem part_wd {X n k : Nat} {f : Nat → Nat} (h : Part X n k f) (hk : k < 6) : wd X k = wd n k := by rw [h.2 k hk, if_neg (by omega)]

theorem or_ltQ (n m : Nat) (hn : n < Q) (hm : m < Q) : n ||| m < Q := by
 obtain ⟨L, hL, hQ⟩ := Q_of
 rw [hQ] at hn hm ⊢
 exact Nat.or_lt_two_pow hn hm
theorem wd_or (n m k : Nat) : wd (n ||| m) k = wd n k ||| wd m k := by
 apply Nat.eq_of_testBit_eq
 intro j
 rw [wd_bit, Nat.testBit_or, Nat.testBit_or, wd_bit, wd_bit, Bool.and_or_distrib_left]
theorem or_lt64 (a b : Nat) (ha : a < 18446744073709551616) (hb : b < 18446744073709551616) : a ||| b < 18446744073709551616 := by
 rw [xK] at *; exact Nat.or_lt_two_pow ha hb

theorem or_modQ (a b : Nat) : (a ||| b) % Q = a % Q ||| b % Q := by
 obtain ⟨L, hL, hQ⟩ := Q_of
 rw [hQ, Nat.or_mod_two_pow]
theorem sh_small (v t : Nat) (hv : v < 18446744073709551616) (ht : t < 6) : v * 2 ^ (64 * t) < Q := by
 obtain ⟨L, hL, hQ⟩ := Q_of
 rw [hQ]
 have h1 : 2 ^ (64 * (t + 1)) ≤ 2 ^ (64 * L) := Nat.pow_le_pow_right (by decide) (by omega)
 have h2 := push_lt 0 t v (Nat.two_pow_pos _) hv
 rw [Nat.mul_comm] at h2
 omega
theorem sh_big (v t : Nat) (ht : 6 ≤ t) : v * 2 ^ (64 * t) % Q = 0 := by
 obtain ⟨L, hL, hQ⟩ := Q_of
 rw [hQ, show 64 * t = (64 * t - 64 * L) + 64 * L by omega, Nat.pow_add, ← Nat.mul_assoc, Nat.mul_mod_left]
theorem or_disj (a b i : Nat) (h : a < 2 ^ i) : a + b * 2 ^ i = a ||| b * 2 ^ i := by
 rw [Nat.mul_comm, Nat.add_comm, Nat.two_pow_add_eq_or_of_lt h, Nat.or_comm]
theorem lohi (x r : Nat) (hr : r ≤ 64) : x * 2 ^ r = x * 2 ^ r % 18446744073709551616 ||| x / 2 ^ (64 - r) * 2 ^ 64 := by
 have h1 : x / 2 ^ (64 - r) = x * 2 ^ r / 18446744073709551616 := by
  rw [show 18446744073709551616 = 2 ^ (64 - r) * 2 ^ r by rw [← Nat.pow_add, xK]; congr 1; omega, Nat.mul_div_mul_right _ _ (Nat.two_pow_pos _)]
 rw [← or_disj _ _ 64 (by rw [← xK]; exact Nat.mod_lt _ (by decide)), h1, ← xK]
 omega
theorem or_sh (a b i : Nat) : (a ||| b) * 2 ^ i = a * 2 ^ i ||| b * 2 ^ i := by
 rw [← Nat.shiftLeft_eq, ← Nat.shiftLeft_eq, ← Nat.shiftLeft_eq, Nat.shiftLeft_or_distrib]
theorem or_dv (a b i : Nat) : (a ||| b) / 2 ^ i = a / 2 ^ i ||| b / 2 ^ i := by
 rw [← Nat.shiftRight_eq_div_pow, ← Nat.shiftRight_eq_div_pow, ← Nat.shiftRight_eq_div_pow, Nat.shiftRight_or_distrib]
theorem mod_or (n k : Nat) : n % 2 ^ (64 * (k + 1)) = n % 2 ^ (64 * k) ||| wd n k * 2 ^ (64 * k) := by
 rw [qZ, ← or_disj _ _ _ (Nat.mod_lt _ (Nat.two_pow_pos _)), Nat.mul_comm (wd n k)]

theorem up_step (n k s q r t X lo hi : Nat) (hs : s = 64 * q + r) (hr : r < 64) (ht : t = k + q) (hX : X = (n % 2 ^ (64 * k)) * 2 ^ s % Q) (hlo : wd n k * 2 ^ r % 18446744073709551616 = lo) (hhi : wd n k / 2 ^ (64 - r) = hi) :
  (n % 2 ^ (64 * (k + 1))) * 2 ^ s % Q = X ||| (lo * 2 ^ (64 * t) % Q ||| hi * 2 ^ (64 * (t + 1)) % Q) := by
 have e : wd n k * 2 ^ (64 * k) * 2 ^ s = lo * 2 ^ (64 * t) ||| hi * 2 ^ (64 * (t + 1)) := by
  rw [show wd n k * 2 ^ (64 * k) * 2 ^ s = wd n k * 2 ^ r * 2 ^ (64 * t) by rw [Nat.mul_assoc, Nat.mul_assoc, ← Nat.pow_add, ← Nat.pow_add]; congr 2; omega]
  rw [lohi (wd n k) r (by omega), hlo, hhi, or_sh, Nat.mul_assoc, ← Nat.pow_add]
  congr 3; omega
 rw [mod_or, or_sh, or_modQ, ← hX, e, or_modQ]
theorem cw_or (L X t v X' : Nat) (ht : t < L) (hv : v < 18446744073709551616) (hX : X' = X ||| v * 2 ^ (64 * t)) : (cw L X).setIfInBounds t (.int .u64 (wd X t ||| v : Nat)) = cw L X' := by
 rw [cw_set L X t _ ht (or_lt64 _ _ (yU _ _) hv), setw_or X t v t hv rfl, hX]
theorem bor (X t v : Nat) (hv : v < 18446744073709551616) : bits .or .u64 (wd X t : Nat) (v : Nat) = ((wd X t ||| v : Nat) : Int) := bits_or_u64_nat _ _ (yU _ _) hv
theorem wlow (n k : Nat) (h : n < Q) (hk : k = 6) : n % 2 ^ (64 * k) = n := by
 rw [pwQ k hk, Nat.mod_eq_of_lt h]

theorem down_step (n k s q r X lo hi : Nat) (hs : s = 64 * q + r) (hr : r < 64) (hX : X = (n % 2 ^ (64 * k)) / 2 ^ s) (hlo : wd n k * 2 ^ (64 - r) % 18446744073709551616 = lo) (hhi : wd n k / 2 ^ r = hi) :
  (n % 2 ^ (64 * (k + 1))) / 2 ^ s = if q < k then X ||| (hi * 2 ^ (64 * (k - q)) ||| lo * 2 ^ (64 * (k - q - 1))) else if q = k then X ||| hi else X := by
 rw [mod_or, or_dv, ← hX]
 split
 ·
  rename_i h
  congr 1
  rw [show wd n k * 2 ^ (64 * k) = wd n k * 2 ^ (64 - r) * 2 ^ (64 * (k - q - 1)) * 2 ^ s by rw [Nat.mul_assoc, Nat.mul_assoc, ← Nat.pow_add, ← Nat.pow_add]; congr 2; omega]
  rw [Nat.mul_div_cancel _ (Nat.two_pow_pos _), lohi (wd n k) (64 - r) (by omega), hlo, show 64 - (64 - r) = r by omega, hhi, or_sh, Nat.mul_assoc, ← Nat.pow_add, Nat.or_comm]
  congr 3; omega
 ·
  split
  ·
   rename_i h1 h
   congr 1
   rw [hs, h, Nat.pow_add, Nat.mul_comm (2 ^ (64 * k)), Nat.mul_div_mul_right _ _ (Nat.two_pow_pos _), hhi]
  ·
   rename_i h1 h
   have h2 := push_lt 0 k (wd n k) (Nat.two_pow_pos _) (yU n k)
   rw [Nat.mul_comm, Nat.zero_add] at h2
   rw [Nat.div_eq_of_lt (Nat.lt_of_lt_of_le h2 (Nat.pow_le_pow_right (by decide) (by omega))), Nat.or_zero]
end Go.Proofs.YtkblmpmkchkpjaaGreatDoor.WMath
namespace Go.Proofs.YtkblmpmkchkpjaaGreatDoor.WMath
set_option maxRecDepth 100000
set_option maxHeartbeats 40000000

theorem carry_num (a b s : Nat) (c o : Bool) (ha : a < 18446744073709551616) (hb : b < 18446744073709551616) (hs : (a + b + c.toNat) % 18446744073709551616 = s) (ho : decide (18446744073709551616 ≤ a + b + c.toNat) = o) :
  s + 18446744073709551616 * o.toNat = a + b + c.toNat ∧ s < 18446744073709551616 := by
 have : c.toNat ≤ 1 := by cases c <;> decide
 subst ho
 by_cases h : 18446744073709551616 ≤ a + b + c.toNat
 ·
  rw [decide_eq_true h, Bool.toNat_true]; omega
 ·
  rw [decide_eq_false h, Bool.toNat_false]; omega

theorem mul_lt128 (x y u v : Nat) (hx : x < 18446744073709551616) (hy : y < 18446744073709551616) (hu : u < 18446744073709551616) (hv : v < 18446744073709551616) : (x * y + u + v) / 18446744073709551616 < 18446744073709551616 := by
 have hb : x * y ≤ 18446744073709551615 * 18446744073709551615 := Nat.mul_le_mul (by omega) (by omega)
 generalize x * y = p at *
 omega

end Go.Proofs.YtkblmpmkchkpjaaGreatDoor.WMath
namespace Go.Proofs.YtkblmpmkchkpjaaGreatDoor.WMath
set_option maxRecDepth 100000
set_option maxHeartbeats 40000000

def z7 (n : Nat) : Nat := if n = 0 then 0 else Nat.log2 n + 1
theorem blen_zero : z7 0 = 0 := rfl
theorem xN (n : Nat) : n < 2 ^ z7 n := by
 unfold z7
 split
 ·
  rename_i h; subst h; decide
 ·
  rename_i h; exact (Nat.log2_lt h).1 (by omega)
theorem qI (n : Nat) (h : n ≠ 0) : 2 ^ (z7 n - 1) ≤ n := by
 unfold z7
 rw [if_neg h]
 exact (Nat.le_log2 h).1 (by omega)
theorem xQ (n : Nat) (h : n ≠ 0) : 0 < z7 n := by unfold z7; rw [if_neg h]; omega
theorem blen_of (n l : Nat) (h1 : 2 ^ l ≤ n) (h2 : n < 2 ^ (l + 1)) : z7 n = l + 1 := by
 have h0 : n ≠ 0 := by have := Nat.two_pow_pos l; omega
 unfold z7
 rw [if_neg h0]
 have a := (Nat.le_log2 h0).2 h1
 have b := (Nat.log2_lt h0).2 h2
 omega
theorem qV (x : Nat) (hx : x < 18446744073709551616) : Lib.bitLen x = z7 x := by
 by_cases h : x = 0
 ·
  subst h; decide
 ·
  have h1 := qI x h
  have h2 := xN x
  have h3 := xQ x h
  obtain ⟨k, hk⟩ : ∃ k, z7 x = k + 1 := ⟨z7 x - 1, by omega⟩
  rw [hk] at h1 h2 ⊢
  rw [Nat.add_sub_cancel] at h1
  rw [Lib.bitLen_shift k x h1 hx, show x / 2 ^ k = 1 by
   apply Nat.div_eq_of_lt_le
   ·
    omega
   ·
    rw [Nat.pow_succ] at h2; omega]
  have : Lib.bitLen 1 = 1 := by decide
  omega
theorem blen_push (A k x : Nat) (hA : A < 2 ^ k) (hx : x ≠ 0) : z7 (A + 2 ^ k * x) = k + z7 x := by
 have h1 := qI x hx
 have h2 := xN x
 have h3 := xQ x hx
 obtain ⟨l, hl⟩ : ∃ l, z7 x = l + 1 := ⟨z7 x - 1, by omega⟩
 rw [hl] at h1 h2 ⊢
 rw [Nat.add_sub_cancel] at h1
 refine blen_of _ (k + l) ?_ ?_
 ·
  rw [Nat.pow_add]
  have := Nat.mul_le_mul_left (2 ^ k) h1
  omega
 ·
  rw [show k + l + 1 = k + (l + 1) by omega, Nat.pow_add]
  have := Nat.mul_le_mul_left (2 ^ k) h2
  rw [Nat.succ_eq_add_one, Nat.mul_add] at this
  omega
theorem blen_step (n k : Nat) : z7 (n % 2 ^ (64 * (k + 1))) = if wd n k = 0 then z7 (n % 2 ^ (64 * k)) else 64 * k + z7 (wd n k) := by
 rw [qZ]
 split
 ·
  rename_i h; rw [h, Nat.mul_zero, Nat.add_zero]
 ·
  rename_i h; exact blen_push _ _ _ (Nat.mod_lt _ (Nat.two_pow_pos _)) h
theorem xL (n l : Nat) (h : n < 2 ^ l) : z7 n ≤ l := by
 by_cases h0 : n = 0
 ·
  subst h0; rw [blen_zero]; omega
 ·
  have := qI n h0
  have := Nat.lt_of_le_of_lt this h
  have := (Nat.pow_lt_pow_iff_right (a := 2) (by decide)).1 this
  omega
def dgl : List UInt8 := [48, 49, 50, 51, 52, 53, 54, 55, 56, 57, 97, 98, 99, 100, 101, 102]
def dg (d : Nat) : UInt8 := dgl.getD d 0
end Go.Proofs.YtkblmpmkchkpjaaGreatDoor.WMath
namespace Go.Proofs.YtkblmpmkchkpjaaGreatDoor.WMath
set_option maxRecDepth 100000
set_option maxHeartbeats 40000000

end Go.Proofs.YtkblmpmkchkpjaaGreatDoor.WMath
namespace Go.Proofs.YtkblmpmkchkpjaaGreatDoor.WMath
set_option maxRecDepth 100000
set_option maxHeartbeats 40000000

end Go.Proofs.YtkblmpmkchkpjaaGreatDoor.WMath
namespace Go.Proofs.YtkblmpmkchkpjaaGreatDoor.WMath
set_option maxRecDepth 100000
set_option maxHeartbeats 40000000

end Go.Proofs.YtkblmpmkchkpjaaGreatDoor.WMath
namespace Go.Proofs.YtkblmpmkchkpjaaGreatDoor.WMath
set_option maxRecDepth 100000
set_option maxHeartbeats 40000000

theorem qor_add (a i b : Nat) (h : 2 ^ i ∣ a) (hb : b < 2 ^ i) : a ||| b = a + b := by
 obtain ⟨c, rfl⟩ := h
 exact (Nat.two_pow_add_eq_or_of_lt hb c).symm

theorem qor_pow (a k : Nat) (h : 2 ^ (k + 1) ∣ a) : a ||| 2 ^ k = a + 2 ^ k :=
 qor_add a (k + 1) _ h (Nat.pow_lt_pow_right (by decide) (by omega))

theorem bit_nat (a k : Nat) : a / 2 ^ k = 2 * (a / 2 ^ (k + 1)) + (a.testBit k).toNat := by
 rw [Nat.pow_succ, ← Nat.div_div_eq_div_mul]
 have : (a.testBit k).toNat = a / 2 ^ k % 2 := by
  rw [Nat.testBit_eq_decide_div_mod_eq]
  rcases Nat.mod_two_eq_zero_or_one (a / 2 ^ k) with h | h <;> rw [h] <;> rfl
 rw [this]
 omega

def RootIs (a r : Nat) : Prop := r * r ≤ a ∧ a < (r + 1) * (r + 1)
end Go.Proofs.YtkblmpmkchkpjaaGreatDoor.WMath
namespace Go.Proofs.YtkblmpmkchkpjaaGreatDoor.WMath
set_option maxRecDepth 100000
set_option maxHeartbeats 40000000

theorem two8 : (256 : Nat) = 2 ^ 8 := by decide
def d8 (n k : Nat) : Nat := n / 2 ^ (8 * k) % 256
theorem qD (n k : Nat) : d8 n k < 256 := Nat.mod_lt _ (by decide)
theorem d8_bit (n k j : Nat) : (d8 n k).testBit j = (decide (j < 8) && n.testBit (8 * k + j)) := by
 unfold d8
 rw [two8, Nat.testBit_mod_two_pow, Nat.testBit_div_two_pow, Nat.add_comm j]
theorem d8_zero (k : Nat) : d8 0 k = 0 := by unfold d8; rw [Nat.zero_div, Nat.zero_mod]
theorem bit_of_d8 (n i : Nat) : n.testBit i = (d8 n (i / 8)).testBit (i % 8) := by
 rw [d8_bit, Nat.div_add_mod]
 simp [Nat.mod_lt]
theorem d8_ext {L n m : Nat} (hn : n < 2 ^ (8 * L)) (hm : m < 2 ^ (8 * L)) (h : ∀ k, k < L → d8 n k = d8 m k) : n = m := by
 apply Nat.eq_of_testBit_eq
 intro i
 by_cases hi : i < 8 * L
 ·
  rw [bit_of_d8, bit_of_d8 m, h (i / 8) (by omega)]
 ·
  rw [lt_bit hn (by omega), lt_bit hm (by omega)]
theorem pow8 (p : Nat) : 2 ^ (8 * (p + 1)) = 2 ^ (8 * p) * 256 := by
 rw [Nat.mul_add, Nat.pow_add]
theorem d8_high {n q k : Nat} (h : n < 2 ^ (8 * q)) (hk : q ≤ k) : d8 n k = 0 := by
 unfold d8
 rw [Nat.div_eq_of_lt (Nat.lt_of_lt_of_le h (Nat.pow_le_pow_right (by decide) (by omega)))]
def set8 (n p x : Nat) : Nat := n % 2 ^ (8 * p) + 2 ^ (8 * p) * (x + 256 * (n / 2 ^ (8 * (p + 1))))
theorem d8_split (n p : Nat) : n = n % 2 ^ (8 * p) + 2 ^ (8 * p) * (d8 n p + 256 * (n / 2 ^ (8 * (p + 1)))) := by
 unfold d8
 rw [pow8, ← Nat.div_div_eq_div_mul]
 have h1 := Nat.div_add_mod n (2 ^ (8 * p))
 have h2 := Nat.div_add_mod (n / 2 ^ (8 * p)) 256
 generalize n / 2 ^ (8 * p) = q at *
 have h3 : q % 256 + 256 * (q / 256) = q := by omega
 rw [h3]
 omega
theorem mod_d8 (n p : Nat) : n % 2 ^ (8 * (p + 1)) = n % 2 ^ (8 * p) + 2 ^ (8 * p) * d8 n p := by
 unfold d8
 rw [pow8, Nat.mod_mul]
theorem set8_add (n p x : Nat) : set8 n p x + 2 ^ (8 * p) * d8 n p = n + 2 ^ (8 * p) * x := by
 have h := d8_split n p
 unfold set8
 generalize n / 2 ^ (8 * (p + 1)) = D at *
 generalize n % 2 ^ (8 * p) = A at *
 generalize d8 n p = u at *
 generalize 2 ^ (8 * p) = P at *
 rw [Nat.mul_add] at h
 rw [Nat.mul_add, h]
 omega
theorem set8_low (n p x : Nat) (h : n < 2 ^ (8 * p)) : set8 n p x = n + 2 ^ (8 * p) * x := by
 have := set8_add n p x
 rw [d8_high h (Nat.le_refl _)] at this
 simpa using this
theorem set8_bit (n p x i : Nat) (hx : x < 256) : (set8 n p x).testBit i = if i / 8 = p then x.testBit (i % 8) else n.testBit i := by
 unfold set8
 rw [Nat.add_comm, Nat.testBit_two_pow_mul_add _ (Nat.mod_lt _ (Nat.two_pow_pos _))]
 split
 ·
  rename_i h
  rw [if_neg (by omega), Nat.testBit_mod_two_pow, decide_eq_true h, Bool.true_and]
 ·
  rename_i h
  rw [Nat.add_comm, two8, Nat.testBit_two_pow_mul_add _ (by rw [← two8]; exact hx)]
  split
  ·
   rename_i h2
   rw [if_pos (by omega)]
   congr 1; omega
  ·
   rename_i h2
   rw [if_neg (by omega), Nat.testBit_div_two_pow]
   congr 1; omega
theorem d8_set8 (n p x k : Nat) (hx : x < 256) : d8 (set8 n p x) k = if k = p then x else d8 n k := by
 apply Nat.eq_of_testBit_eq
 intro j
 rw [d8_bit, set8_bit _ _ _ _ hx]
 by_cases hj : j < 8
 ·
  rw [decide_eq_true hj, Bool.true_and, show (8 * k + j) / 8 = k by omega, show (8 * k + j) % 8 = j by omega]
  split
  ·
   rfl
  ·
   rw [d8_bit, decide_eq_true hj, Bool.true_and]
 ·
  rw [decide_eq_false hj, Bool.false_and]
  have e : ∀ y, y < 256 → y.testBit j = false := fun y hy => lt_bit (q := 8) (by rw [← two8]; exact hy) (by omega)
  split
  ·
   rw [e x hx]
  ·
   rw [e _ (qD _ _)]
theorem set8_or (n p x q : Nat) (hx : x < 256) (hq : q = p) : set8 n p (d8 n q ||| x) = n ||| x * 2 ^ (8 * p) := by
 subst hq
 apply Nat.eq_of_testBit_eq
 intro i
 have hlt : d8 n q ||| x < 256 := by rw [two8]; exact Nat.or_lt_two_pow (by rw [← two8]; exact qD _ _) (by rw [← two8]; exact hx)
 rw [set8_bit _ _ _ _ hlt, Nat.testBit_or n, Nat.testBit_mul_two_pow]
 split
 ·
  rename_i h
  rw [Nat.testBit_or, d8_bit, decide_eq_true (Nat.mod_lt _ (by decide)), Bool.true_and, ← h, Nat.div_add_mod, decide_eq_true (by omega), Bool.true_and]
  congr 2; omega
 ·
  rename_i h
  by_cases h2 : 8 * q ≤ i
  ·
   rw [decide_eq_true h2, Bool.true_and, lt_bit (n := x) (q := 8) (by rw [← two8]; exact hx) (by omega), Bool.or_false]
  ·
   rw [decide_eq_false h2, Bool.false_and, Bool.or_false]
def c8 (L n : Nat) : Array Value := ((List.range L).map fun k => Value.int .u8 (d8 n k : Nat)).toArray
theorem c8_size (L n : Nat) : (c8 L n).size = L := by simp [c8]
theorem c8_at (L n k : Nat) (h : k < L) : (c8 L n)[k]? = some (.int .u8 (d8 n k : Nat)) := by simp [c8, h]
theorem c8_set (L n p x : Nat) (hp : p < L) (hx : x < 256) : (c8 L n).setIfInBounds p (.int .u8 x) = c8 L (set8 n p x) := by
 apply Array.ext_getElem?
 intro k
 rw [Array.getElem?_setIfInBounds]
 by_cases hk : k < L
 ·
  rw [c8_at L (set8 n p x) k hk, c8_at L n k hk, d8_set8 _ _ _ _ hx, c8_size]
  by_cases e : p = k
  ·
   subst e; rw [if_pos rfl, if_pos hp, if_pos rfl]
  ·
   rw [if_neg e, if_neg (fun h => e h.symm)]
 ·
  have e1 : ∀ m, (c8 L m)[k]? = none := fun m => by rw [Array.getElem?_eq_none]; rw [c8_size]; omega
  rw [e1, e1, if_neg (by omega)]
theorem c8_seti (L n p y : Nat) (x : Int) (hp : p < L) (hx : y < 256) (h : x = (y : Int)) : (c8 L n).setIfInBounds p (.int .u8 x) = c8 L (set8 n p y) := by
 rw [h]; exact c8_set L n p y hp hx
theorem c8_push (L n p y : Nat) (x : Int) (hp : p < L) (hn : n < 2 ^ (8 * p)) (hx : y < 256) (h : x = (y : Int)) : (c8 L n).setIfInBounds p (.int .u8 x) = c8 L (n + 2 ^ (8 * p) * y) := by
 rw [c8_seti L n p y x hp hx h, set8_low n p y hn]
theorem push8_lt (n p y : Nat) (hn : n < 2 ^ (8 * p)) (hx : y < 256) : n + 2 ^ (8 * p) * y < 2 ^ (8 * (p + 1)) := by
 rw [pow8]
 have h : 2 ^ (8 * p) * (y + 1) ≤ 2 ^ (8 * p) * 256 := Nat.mul_le_mul_left _ (by omega)
 rw [Nat.mul_add] at h
 omega
theorem or_lt8 (a b : Nat) (ha : a < 256) (hb : b < 256) : a ||| b < 256 := by
 rw [two8] at *; exact Nat.or_lt_two_pow ha hb
theorem c8_or (L X t v X' : Nat) (ht : t < L) (hv : v < 256) (hX : X' = X ||| v * 2 ^ (8 * t)) : (c8 L X).setIfInBounds t (.int .u8 (d8 X t ||| v : Nat)) = c8 L X' := by
 rw [c8_set L X t _ ht (or_lt8 _ _ (qD _ _) hv), set8_or X t v t hv rfl, hX]
end Go.Proofs.YtkblmpmkchkpjaaGreatDoor.WMath
namespace Go.Proofs.YtkblmpmkchkpjaaGreatDoor.WMath
set_option maxRecDepth 100000
set_option maxHeartbeats 40000000

def nl (n : Nat) : Nat := (z7 n + 7) / 8
theorem nl_zero : nl 0 = 0 := by unfold nl; rw [blen_zero]
theorem nl_lt (n : Nat) : n < 2 ^ (8 * nl n) := Nat.lt_of_lt_of_le (xN n) (Nat.pow_le_pow_right (by decide) (by unfold nl; omega))
theorem nl_pos (n : Nat) (h : n ≠ 0) : 0 < nl n := by have := xQ n h; unfold nl; omega
theorem nl_le (n : Nat) (h : n ≠ 0) : 2 ^ (8 * (nl n - 1)) ≤ n := Nat.le_trans (Nat.pow_le_pow_right (by decide) (by have := xQ n h; unfold nl; omega)) (qI n h)
theorem qO (n L : Nat) (h : n < 2 ^ (8 * L)) : nl n ≤ L := by have := xL n _ h; unfold nl; omega
theorem nl_eq0 (n : Nat) (h : nl n = 0) : n = 0 := by
 have := nl_lt n
 rw [h, Nat.mul_zero, Nat.pow_zero] at this
 omega
theorem xF (a b : Nat) (h : a ≤ b) : nl a ≤ nl b := qO a _ (Nat.lt_of_le_of_lt h (nl_lt b))
theorem nl_top (n : Nat) (h : n ≠ 0) : d8 n (nl n - 1) ≠ 0 := by
 intro e
 have h1 := nl_le n h
 have h2 := nl_lt n
 have h3 := nl_pos n h
 obtain ⟨L, hL⟩ : ∃ L, nl n = L + 1 := ⟨nl n - 1, by omega⟩
 rw [hL, Nat.add_sub_cancel] at e h1
 rw [hL] at h2
 have h4 := mod_d8 n L
 rw [Nat.mod_eq_of_lt h2, e, Nat.mul_zero, Nat.add_zero] at h4
 have := Nat.mod_lt n (Nat.two_pow_pos (8 * L))
 omega
theorem nl_is (n L : Nat) (h1 : n < 2 ^ (8 * L)) (h2 : L = 0 ∨ d8 n (L - 1) ≠ 0) : nl n = L := by
 rcases h2 with rfl | h2
 ·
  have := qO n 0 h1; omega
 ·
  have a := qO n L h1
  by_cases e : nl n ≤ L - 1
  ·
   exact absurd (d8_high (nl_lt n) e) h2
  ·
   omega

def nbL (n : Nat) : List UInt8 := (List.range (nl n)).map fun i => UInt8.ofNat (d8 n (nl n - 1 - i))
def yG (n : Nat) : ByteArray := ⟨(nbL n).toArray⟩
theorem nbL_len (n : Nat) : (nbL n).length = nl n := by simp [nbL]
theorem yE (n : Nat) : (yG n).size = nl n := by show (nbL n).toArray.size = _; simp [nbL]
theorem xT (n k : Nat) (h : k < (yG n).size) : ((yG n)[k]'h).toNat = d8 n (nl n - 1 - k) := by
 have e : (yG n)[k]'h = UInt8.ofNat (d8 n (nl n - 1 - k)) := by
  show (nbL n).toArray[k]'_ = _
  simp [nbL]
 rw [e, UInt8.toNat_ofNat']
 exact Nat.mod_eq_of_lt (qD _ _)
theorem yM : yG 0 = ⟨#[]⟩ := by unfold yG nbL; rw [nl_zero]; rfl
theorem nbA_inj (a b : Nat) (h : yG a = yG b) : a = b := by
 have hs : nl a = nl b := by rw [← yE, ← yE, h]
 have ha := nl_lt a
 have hb := nl_lt b
 rw [← hs] at hb
 refine d8_ext ha hb (fun k hk => ?_)
 have h1 : nl a - 1 - k < (yG a).size := by rw [yE]; omega
 have h2 : nl a - 1 - k < (yG b).size := by rw [yE]; omega
 have e1 := xT a _ h1
 have e2 := xT b _ h2
 have e3 : (yG a)[nl a - 1 - k]'h1 = (yG b)[nl a - 1 - k]'h2 := by simp only [h]
 rw [e3, e2, ← hs, show nl a - 1 - (nl a - 1 - k) = k by omega] at e1
 exact e1.symm
theorem byte_ext {s t : ByteArray} (hz : s.size = t.size) (h : ∀ (k : Nat) (h1 : k < s.size) (h2 : k < t.size), (s[k]'h1).toNat = (t[k]'h2).toNat) : s = t := by
 apply ByteArray.ext
 apply Array.ext
 ·
  exact hz
 ·
  intro k h1 h2
  have := h k h1 h2
  exact UInt8.toNat_inj.1 this
theorem nbA_is (s : ByteArray) (n : Nat) (hz : s.size = nl n) (h : ∀ (k : Nat) (h1 : k < s.size), (s[k]'h1).toNat = d8 n (nl n - 1 - k)) : s = yG n :=
 byte_ext (by rw [hz, yE]) (fun k h1 h2 => by rw [h k h1, xT])

def bvl (l : List UInt8) : Nat := l.foldl (fun v b => 256 * v + b.toNat) 0
theorem bvl_snoc (l : List UInt8) (b : UInt8) : bvl (l ++ [b]) = 256 * bvl l + b.toNat := by unfold bvl; rw [List.foldl_append]; rfl
theorem d8_snoc0 (v b : Nat) (hb : b < 256) : d8 (256 * v + b) 0 = b := by unfold d8; rw [Nat.mul_zero, Nat.pow_zero, Nat.div_one]; omega
theorem d8_snocS (v b i : Nat) (hb : b < 256) : d8 (256 * v + b) (i + 1) = d8 v i := by
 unfold d8
 rw [show 8 * (i + 1) = 8 + 8 * i by omega, Nat.pow_add, ← Nat.div_div_eq_div_mul, show (256 * v + b) / 2 ^ 8 = v by omega]
theorem rev_ind {P : List UInt8 → Prop} (h0 : P []) (h1 : ∀ l b, P l → P (l ++ [b])) : ∀ l, P l := by
 have key : ∀ l : List UInt8, P l.reverse := by
  intro l
  induction l with
  | nil => exact h0
  | cons b l ih => rw [List.reverse_cons]; exact h1 _ _ ih
 intro l
 have := key l.reverse
 rwa [List.reverse_reverse] at this
theorem bvl_lt (l : List UInt8) : bvl l < 2 ^ (8 * l.length) := by
 refine rev_ind (P := fun l => bvl l < 2 ^ (8 * l.length)) (by decide) (fun l b ih => ?_) l
 rw [bvl_snoc, List.length_append, List.length_singleton, pow8]
 have := b.toNat_lt
 omega
theorem bvl_d8 (l : List UInt8) : ∀ (k : Nat) (h : k < l.length), d8 (bvl l) (l.length - 1 - k) = (l[k]'h).toNat := by
 refine rev_ind (P := fun l => ∀ (k : Nat) (h : k < l.length), d8 (bvl l) (l.length - 1 - k) = (l[k]'h).toNat) (fun k h => absurd h (by simp)) (fun l b ih k h => ?_) l
 have hl : (l ++ [b]).length = l.length + 1 := by simp
 rw [bvl_snoc, hl]
 by_cases e : k < l.length
 ·
  rw [show l.length + 1 - 1 - k = (l.length - 1 - k) + 1 by omega, d8_snocS _ _ _ b.toNat_lt, ih k e, List.getElem_append_left e]
 ·
  have e2 : k = l.length := by omega
  subst e2
  rw [show l.length + 1 - 1 - l.length = 0 by omega, d8_snoc0 _ _ b.toNat_lt]
  simp
theorem nbA_of (s : ByteArray) (h : s.size = 0 ∨ ∃ h : 0 < s.size, s[0]'h ≠ 0) : ∃ n, yG n = s := by
 obtain ⟨l, hl⟩ : ∃ l, s.data.toList = l := ⟨_, rfl⟩
 have hz : s.size = l.length := by rw [← hl, Array.length_toList]; rfl
 have hg : ∀ (k : Nat) (h1 : k < s.size), s[k]'h1 = l[k]'(by rw [← hz]; exact h1) := by
  intro k h1
  subst hl
  rfl
 have hn : nl (bvl l) = l.length := by
  refine nl_is _ _ (bvl_lt l) ?_
  rcases h with h | ⟨h, h2⟩
  ·
   left; omega
  ·
   right
   have := bvl_d8 l 0 (by omega)
   rw [show l.length - 1 - 0 = l.length - 1 by omega] at this
   rw [this, ← hg 0 h]
   intro e
   exact h2 (UInt8.toNat_inj.1 e)
 refine ⟨bvl l, (nbA_is s _ (by rw [hn, hz]) (fun k h1 => ?_)).symm⟩
 rw [hn, bvl_d8 l k (by omega), hg k h1]
theorem nbA_first (n : Nat) (h : 0 < (yG n).size) : ((yG n)[0]'h).toNat ≠ 0 := by
 rw [xT]
 rw [yE] at h
 exact nl_top n (fun e => by rw [e, nl_zero] at h; omega)

theorem d8_nl (n i : Nat) (hi : nl n ≤ i) : d8 n i = 0 := d8_high (nl_lt n) hi
end Go.Proofs.YtkblmpmkchkpjaaGreatDoor.WMath
namespace Go.Proofs.YtkblmpmkchkpjaaGreatDoor.WMath
set_option maxRecDepth 100000
set_option maxHeartbeats 40000000

def wl (n : Nat) : Nat := (z7 n + 63) / 64
theorem wl_zero : wl 0 = 0 := by unfold wl; rw [blen_zero]
theorem wl_lt (n : Nat) : n < 2 ^ (64 * wl n) := Nat.lt_of_lt_of_le (xN n) (Nat.pow_le_pow_right (by decide) (by unfold wl; omega))
theorem wl_pos (n : Nat) (h : n ≠ 0) : 0 < wl n := by have := xQ n h; unfold wl; omega
theorem wl_le (n : Nat) (h : n ≠ 0) : 2 ^ (64 * (wl n - 1)) ≤ n := Nat.le_trans (Nat.pow_le_pow_right (by decide) (by have := xQ n h; unfold wl; omega)) (qI n h)
theorem wl_le_of (n L : Nat) (h : n < 2 ^ (64 * L)) : wl n ≤ L := by have := xL n _ h; unfold wl; omega
theorem wl_eq0 (n : Nat) (h : wl n = 0) : n = 0 := by
 have := wl_lt n
 rw [h, Nat.mul_zero, Nat.pow_zero] at this
 omega
theorem wl_mono (a b : Nat) (h : a ≤ b) : wl a ≤ wl b := wl_le_of a _ (Nat.lt_of_le_of_lt h (wl_lt b))
theorem wl_top (n : Nat) (h : n ≠ 0) : wd n (wl n - 1) ≠ 0 := by
 intro e
 have h1 := wl_le n h
 have h2 := wl_lt n
 have h3 := wl_pos n h
 obtain ⟨L, hL⟩ : ∃ L, wl n = L + 1 := ⟨wl n - 1, by omega⟩
 rw [hL, Nat.add_sub_cancel] at e h1
 rw [hL] at h2
 have h4 := qZ n L
 rw [Nat.mod_eq_of_lt h2, e, Nat.mul_zero, Nat.add_zero] at h4
 have := Nat.mod_lt n (Nat.two_pow_pos (64 * L))
 omega
theorem wl_is (n L : Nat) (h1 : n < 2 ^ (64 * L)) (h2 : L = 0 ∨ wd n (L - 1) ≠ 0) : wl n = L := by
 rcases h2 with rfl | h2
 ·
  have := wl_le_of n 0 h1; omega
 ·
  have a := wl_le_of n L h1
  by_cases e : wl n ≤ L - 1
  ·
   exact absurd (wd_high (wl_lt n) e) h2
  ·
   omega
theorem wl_nl (n : Nat) : wl n = (nl n + 7) / 8 := by unfold wl nl; omega
theorem wl_lt_of (a b : Nat) (h : wl a < wl b) : a < b := by
 by_cases e : a < b
 ·
  exact e
 ·
  have := wl_mono b a (by omega)
  omega
theorem blen_wl (n : Nat) (h : n ≠ 0) : z7 n = 64 * (wl n - 1) + z7 (wd n (wl n - 1)) := by
 have h2 := wl_lt n
 obtain ⟨L, hL⟩ : ∃ L, wl n = L + 1 := ⟨wl n - 1, by have := wl_pos n h; omega⟩
 have h3 := blen_step n L
 rw [hL] at h2
 have h4 := wl_top n h
 rw [hL, Nat.add_sub_cancel] at h4
 rw [Nat.mod_eq_of_lt h2, if_neg h4] at h3
 rw [hL, Nat.add_sub_cancel, h3]
theorem yV (i j : Nat) (h : i ≤ j) : 2 ^ (64 * i) ≤ 2 ^ (64 * j) := Nat.pow_le_pow_right (by decide) (by omega)
theorem trim_step (n L : Nat) (h : n < 2 ^ (64 * (L + 1))) (hz : wd n L = 0) : n < 2 ^ (64 * L) := by
 have h4 := qZ n L
 rw [Nat.mod_eq_of_lt h, hz, Nat.mul_zero, Nat.add_zero] at h4
 rw [h4]
 exact Nat.mod_lt n (Nat.two_pow_pos (64 * L))

def vw (X o L : Nat) : Nat := X / 2 ^ (64 * o) % 2 ^ (64 * L)
theorem vw_lt (X o L : Nat) : vw X o L < 2 ^ (64 * L) := Nat.mod_lt _ (Nat.two_pow_pos _)
theorem wd_vw (X o L k : Nat) (h : k < L) : wd (vw X o L) k = wd X (o + k) := by unfold vw; rw [wd_mod _ _ _ h, wd_div]
theorem vw_all (X L : Nat) (h : X < 2 ^ (64 * L)) : vw X 0 L = X := by unfold vw; rw [Nat.mul_zero, Nat.pow_zero, Nat.div_one, Nat.mod_eq_of_lt h]
def xR (X o L S : Nat) : Nat := X % 2 ^ (64 * o) + 2 ^ (64 * o) * (S + 2 ^ (64 * L) * (X / 2 ^ (64 * (o + L))))
theorem putw_zero (X o : Nat) : xR X o 0 0 = X := by
 unfold xR
 rw [Nat.mul_zero, Nat.pow_zero, Nat.one_mul, Nat.zero_add, Nat.add_zero]
 have := Nat.div_add_mod X (2 ^ (64 * o))
 omega
theorem pow_oL (o L : Nat) : 2 ^ (64 * (o + L)) = 2 ^ (64 * o) * 2 ^ (64 * L) := by rw [Nat.mul_add, Nat.pow_add]
theorem putw_div (X o L S : Nat) (hS : S < 2 ^ (64 * L)) : xR X o L S / 2 ^ (64 * (o + L)) = X / 2 ^ (64 * (o + L)) := by
 unfold xR
 generalize X / 2 ^ (64 * (o + L)) = D
 rw [pow_oL, ← Nat.div_div_eq_div_mul, Nat.add_mul_div_left _ _ (Nat.two_pow_pos _), Nat.div_eq_of_lt (Nat.mod_lt _ (Nat.two_pow_pos _)), Nat.zero_add, Nat.add_mul_div_left _ _ (Nat.two_pow_pos _), Nat.div_eq_of_lt hS, Nat.zero_add]
theorem putw_low (X o L S : Nat) (hS : S < 2 ^ (64 * L)) : xR X o L S % 2 ^ (64 * (o + L)) = X % 2 ^ (64 * o) + 2 ^ (64 * o) * S := by
 have h1 := Nat.div_add_mod (xR X o L S) (2 ^ (64 * (o + L)))
 rw [putw_div X o L S hS] at h1
 have h2 : xR X o L S = X % 2 ^ (64 * o) + 2 ^ (64 * o) * S + 2 ^ (64 * (o + L)) * (X / 2 ^ (64 * (o + L))) := by
  unfold xR
  generalize X / 2 ^ (64 * (o + L)) = D
  rw [pow_oL, Nat.mul_add, Nat.mul_assoc]
  omega
 omega
theorem putw_step (X o i S z : Nat) (hS : S < 2 ^ (64 * i)) : setw (xR X o i S) (o + i) z = xR X o (i + 1) (S + 2 ^ (64 * i) * z) := by
 unfold setw
 rw [putw_low X o i S hS]
 have e : xR X o i S / 2 ^ (64 * (o + i + 1)) = X / 2 ^ (64 * (o + (i + 1))) := by
  rw [show o + (i + 1) = o + i + 1 by omega, pow64, ← Nat.div_div_eq_div_mul, putw_div X o i S hS, Nat.div_div_eq_div_mul]
 rw [e]
 unfold xR
 generalize X / 2 ^ (64 * (o + (i + 1))) = D
 rw [pow_oL, pow64, Nat.add_assoc, Nat.mul_assoc (2 ^ (64 * o)), ← Nat.mul_add]
 congr 2
 rw [Nat.mul_add, Nat.mul_assoc]
 omega
theorem wd_putw_next (X o i S : Nat) (hS : S < 2 ^ (64 * i)) : wd (xR X o i S) (o + i) = wd X (o + i) := by
 unfold wd
 rw [putw_div X o i S hS]
theorem putw_lt (X o L S N : Nat) (hX : X < 2 ^ (64 * N)) (hS : S < 2 ^ (64 * L)) (h : o + L ≤ N) : xR X o L S < 2 ^ (64 * N) := by
 obtain ⟨M, rfl⟩ : ∃ M, N = o + L + M := ⟨N - (o + L), by omega⟩
 have h1 := putw_div X o L S hS
 have h2 : X / 2 ^ (64 * (o + L)) < 2 ^ (64 * M) := Nat.div_lt_of_lt_mul (by rw [← pow_oL]; exact hX)
 rw [← h1] at h2
 have := (Nat.div_lt_iff_lt_mul (Nat.two_pow_pos _)).1 h2
 rw [pow_oL, Nat.mul_comm]
 exact this
theorem vw_putw (X o L S : Nat) (hS : S < 2 ^ (64 * L)) : vw (xR X o L S) o L = S := by
 unfold vw xR
 rw [Nat.add_mul_div_left _ _ (Nat.two_pow_pos _), Nat.div_eq_of_lt (Nat.mod_lt _ (Nat.two_pow_pos _)), Nat.zero_add, Nat.add_mul_mod_self_left, Nat.mod_eq_of_lt hS]
theorem putw_top (X o L S : Nat) (hX : X < 2 ^ (64 * (o + L))) : xR X o L S = X % 2 ^ (64 * o) + 2 ^ (64 * o) * S := by
 unfold xR
 rw [Nat.div_eq_of_lt hX, Nat.mul_zero, Nat.add_zero]
theorem vw_top (X o L : Nat) (hX : X < 2 ^ (64 * (o + L))) : vw X o L = X / 2 ^ (64 * o) := by
 unfold vw
 apply Nat.mod_eq_of_lt
 exact Nat.div_lt_of_lt_mul (by rw [← pow_oL]; exact hX)
theorem putw_putw (X o L S T : Nat) (hS : S < 2 ^ (64 * L)) : xR (xR X o L S) o L T = xR X o L T := by
 have h1 := putw_div X o L S hS
 have h2 : xR X o L S % 2 ^ (64 * o) = X % 2 ^ (64 * o) := by
  unfold xR
  rw [Nat.add_mul_mod_self_left, Nat.mod_mod]
 unfold xR at *
 rw [h1, h2]

def AddSt (V m t i c S : Nat) (o : Bool) : Prop := S < 2 ^ (64 * i) ∧ c = (m % 2 ^ (64 * i)) * t / 2 ^ (64 * i) ∧ S + 2 ^ (64 * i) * (c + o.toNat) = V % 2 ^ (64 * i) + (m % 2 ^ (64 * i)) * t
theorem addSt0 (V m t : Nat) : AddSt V m t 0 0 0 false := ⟨by decide, by simp [Nat.mod_one], by simp [Nat.mod_one]⟩
theorem carry_is (m t i c x lo d : Nat) (hc : c = (m % 2 ^ (64 * i)) * t / 2 ^ (64 * i)) (hx : wd m i = x) (hl : lo < 18446744073709551616) (h : lo + 18446744073709551616 * d = x * t + c) : d = (m % 2 ^ (64 * (i + 1))) * t / 2 ^ (64 * (i + 1)) := by
 rw [qZ, hx, pow64, ← Nat.div_div_eq_div_mul, Nat.add_mul, Nat.mul_assoc, Nat.add_mul_div_left _ _ (Nat.two_pow_pos _), ← hc, Nat.add_comm c, ← h]
 omega
theorem addSt_next {V m t i c S : Nat} {o : Bool} (A : AddSt V m t i c S o) (x v lo d s : Nat) (p : Bool) (hx : wd m i = x) (hv : wd V i = v) (hl : lo < 18446744073709551616) (h : lo + 18446744073709551616 * d = x * t + c) (hs : s < 18446744073709551616) (h2 : s + 18446744073709551616 * p.toNat = v + lo + o.toNat) :
  AddSt V m t (i + 1) d (S + 2 ^ (64 * i) * s) p := by
 refine ⟨push_lt S i s A.1 hs, carry_is m t i c x lo d A.2.1 hx hl h, ?_⟩
 have e := A.2.2
 rw [qZ, qZ, hx, hv, pow64, Nat.add_mul, Nat.mul_assoc (2 ^ (64 * i)) x t]
 generalize 2 ^ (64 * i) = P at *
 generalize m % P * t = u at *
 generalize V % P = y at *
 have h3 : s + 18446744073709551616 * (d + p.toNat) = v + x * t + (c + o.toNat) := by omega
 have h4 := congrArg (fun z => P * z) h3
 simp only [Nat.mul_add] at h4 e ⊢
 rw [← Nat.mul_assoc P 18446744073709551616 d, ← Nat.mul_assoc P 18446744073709551616 p.toNat] at h4
 omega
theorem addSt_end {V m t L c S : Nat} {o : Bool} (A : AddSt V m t L c S o) (hV : V < 2 ^ (64 * L)) (hm : m < 2 ^ (64 * L)) (hmt : m * t < 2 ^ (64 * L)) : S = (V + m * t) % 2 ^ (64 * L) ∧ o = decide (2 ^ (64 * L) ≤ V + m * t) := by
 have h1 := A.2.1
 rw [Nat.mod_eq_of_lt hm, Nat.div_eq_of_lt hmt] at h1
 have h2 := A.2.2
 rw [h1, Nat.mod_eq_of_lt hm, Nat.mod_eq_of_lt hV, Nat.zero_add] at h2
 have h3 := A.1
 rw [← h2]
 cases o
 ·
  simp only [Bool.toNat_false, Nat.mul_zero, Nat.add_zero]
  exact ⟨(Nat.mod_eq_of_lt h3).symm, by rw [eq_comm, decide_eq_false_iff_not]; omega⟩
 ·
  simp only [Bool.toNat_true, Nat.mul_one]
  exact ⟨by rw [Nat.add_mod_right, Nat.mod_eq_of_lt h3], by rw [eq_comm, decide_eq_true_iff]; omega⟩

def SubSt (V m t i c S : Nat) (o : Bool) : Prop := S < 2 ^ (64 * i) ∧ c = (m % 2 ^ (64 * i)) * t / 2 ^ (64 * i) ∧ S + (m % 2 ^ (64 * i)) * t = V % 2 ^ (64 * i) + 2 ^ (64 * i) * (c + o.toNat)
theorem subSt0 (V m t : Nat) : SubSt V m t 0 0 0 false := ⟨by decide, by simp [Nat.mod_one], by simp [Nat.mod_one]⟩
theorem subSt_next {V m t i c S : Nat} {o : Bool} (A : SubSt V m t i c S o) (x v lo d s : Nat) (p : Bool) (hx : wd m i = x) (hv : wd V i = v) (hl : lo < 18446744073709551616) (h : lo + 18446744073709551616 * d = x * t + c) (hs : s < 18446744073709551616) (h2 : s + lo + o.toNat = v + 18446744073709551616 * p.toNat) :
  SubSt V m t (i + 1) d (S + 2 ^ (64 * i) * s) p := by
 refine ⟨push_lt S i s A.1 hs, carry_is m t i c x lo d A.2.1 hx hl h, ?_⟩
 have e := A.2.2
 rw [qZ, qZ, hx, hv, pow64, Nat.add_mul, Nat.mul_assoc (2 ^ (64 * i)) x t]
 generalize 2 ^ (64 * i) = P at *
 generalize m % P * t = u at *
 generalize V % P = y at *
 have h3 : s + x * t + (c + o.toNat) = v + 18446744073709551616 * (d + p.toNat) := by omega
 have h4 := congrArg (fun z => P * z) h3
 simp only [Nat.mul_add] at h4 e ⊢
 rw [← Nat.mul_assoc P 18446744073709551616 d, ← Nat.mul_assoc P 18446744073709551616 p.toNat] at h4
 omega
theorem subSt_end {V m t L c S : Nat} {o : Bool} (A : SubSt V m t L c S o) (hV : V < 2 ^ (64 * L)) (hm : m < 2 ^ (64 * L)) (hmt : m * t < 2 ^ (64 * L)) : S + m * t = V + 2 ^ (64 * L) * o.toNat ∧ o = decide (V < m * t) := by
 have h1 := A.2.1
 rw [Nat.mod_eq_of_lt hm, Nat.div_eq_of_lt hmt] at h1
 have h2 := A.2.2
 rw [h1, Nat.mod_eq_of_lt hm, Nat.mod_eq_of_lt hV, Nat.zero_add] at h2
 have h3 := A.1
 refine ⟨h2, ?_⟩
 cases o
 ·
  simp only [Bool.toNat_false, Nat.mul_zero, Nat.add_zero] at h2
  rw [eq_comm, decide_eq_false_iff_not]; omega
 ·
  simp only [Bool.toNat_true, Nat.mul_one] at h2
  rw [eq_comm, decide_eq_true_iff]; omega

theorem raise_step (n k s q r t X lo hi : Nat) (hs : s = 64 * q + r) (hr : r < 64) (ht : t = k + q) (hX : X = (n % 2 ^ (64 * k)) * 2 ^ s) (hlo : wd n k * 2 ^ r % 18446744073709551616 = lo) (hhi : wd n k / 2 ^ (64 - r) = hi) :
  (X ||| lo * 2 ^ (64 * t)) ||| hi * 2 ^ (64 * (t + 1)) = (n % 2 ^ (64 * (k + 1))) * 2 ^ s := by
 rw [mod_or, or_sh, hX, Nat.or_assoc]
 congr 1
 have e := lohi (wd n k) r (by omega)
 rw [hlo, hhi] at e
 rw [Nat.mul_assoc, ← Nat.pow_add, show 64 * k + s = r + 64 * t by omega, Nat.pow_add, ← Nat.mul_assoc, e, or_sh, Nat.mul_assoc, ← Nat.pow_add, show 64 + 64 * t = 64 * (t + 1) by omega]
theorem down_wd (n s q r i : Nat) (hs : s = 64 * q + r) (hr : r < 64) : wd (n / 2 ^ s) i = (wd n (i + q) / 2 ^ r) ||| (wd n (i + q + 1) * 2 ^ (64 - r) % 18446744073709551616) := by
 apply Nat.eq_of_testBit_eq
 intro j
 rw [wd_bit, Nat.testBit_or, Nat.testBit_div_two_pow, Nat.testBit_div_two_pow, wd_bit, xK, Nat.testBit_mod_two_pow, Nat.testBit_mul_two_pow, wd_bit]
 by_cases hj : j < 64
 ·
  rw [decide_eq_true hj, Bool.true_and, Bool.true_and]
  by_cases h2 : j + r < 64
  ·
   rw [decide_eq_true h2, Bool.true_and, decide_eq_false (show ¬ 64 - r ≤ j by omega), Bool.false_and, Bool.or_false]
   congr 1; omega
  ·
   rw [decide_eq_false h2, Bool.false_and, Bool.false_or, decide_eq_true (show 64 - r ≤ j by omega), Bool.true_and, decide_eq_true (show j - (64 - r) < 64 by omega), Bool.true_and]
   congr 1; omega
 ·
  rw [decide_eq_false hj, Bool.false_and, Bool.false_and, Bool.or_false, decide_eq_false (show ¬ j + r < 64 by omega), Bool.false_and]
theorem wl_add_le (a b K : Nat) (ha : wl a ≤ K) (hb : wl b ≤ K) : wl (a + b) ≤ K + 1 := by
 apply wl_le_of
 have h1 := Nat.lt_of_lt_of_le (wl_lt a) (yV _ _ ha)
 have h2 := Nat.lt_of_lt_of_le (wl_lt b) (yV _ _ hb)
 rw [pow64]
 omega
theorem wl_mul_le (a b : Nat) : wl (a * b) ≤ wl a + wl b := by
 apply wl_le_of
 rw [pow_oL]
 by_cases e : b = 0
 ·
  rw [e, Nat.mul_zero]; exact Nat.mul_pos (Nat.two_pow_pos _) (Nat.two_pow_pos _)
 ·
  exact Nat.mul_lt_mul_of_lt_of_le (wl_lt a) (Nat.le_of_lt (wl_lt b)) (Nat.two_pow_pos _)
theorem blen_mul_ge (a b : Nat) (ha : a ≠ 0) (hb : b ≠ 0) : z7 a + z7 b ≤ z7 (a * b) + 1 := by
 have h1 := qI a ha
 have h2 := qI b hb
 have h3 := Nat.mul_le_mul h1 h2
 rw [← Nat.pow_add] at h3
 have h4 := xN (a * b)
 have h5 : z7 a - 1 + (z7 b - 1) < z7 (a * b) := (Nat.pow_lt_pow_iff_right (by decide)).1 (Nat.lt_of_le_of_lt h3 h4)
 have := xQ a ha
 have := xQ b hb
 omega
end Go.Proofs.YtkblmpmkchkpjaaGreatDoor.WMath
namespace Go.Proofs.YtkblmpmkchkpjaaGreatDoor
set_option maxRecDepth 100000
set_option maxHeartbeats 40000000
open Go.RowKit WMath
theorem hide {p : Prop} (h : p) : Hid p := h
theorem ret_bool {a b : Bool} (h : a = b) : Ending.returned (.bool a) = .returned (.bool b) := by rw [h]
theorem x9 {k : IntKind} {a b : Int} (h : a = b) : Ending.returned (.int k a) = .returned (.int k b) := by rw [h]
theorem ret_ib {k : IntKind} {a a' : Int} {b b' : Bool} (h : a = a') (h2 : b = b') : Ending.returned (.tuple #[.int k a, .bool b]) = .returned (.tuple #[.int k a', .bool b']) := by rw [h, h2]
theorem ret_ii {k l : IntKind} {a a' b b' : Int} (h : a = a') (h2 : b = b') : Ending.returned (.tuple #[.int k a, .int l b]) = .returned (.tuple #[.int k a', .int l b']) := by rw [h, h2]
theorem ret_iii {k l m : IntKind} {a a' b b' c c' : Int} (h : a = a') (h2 : b = b') (h3 : c = c') : Ending.returned (.tuple #[.int k a, .int l b, .int m c]) = .returned (.tuple #[.int k a', .int l b', .int m c']) := by rw [h, h2, h3]

theorem dec_eq {p q : Prop} [Decidable p] [Decidable q] (h : p ↔ q) : decide p = decide q := by simp [h]
theorem dec_or {p q : Prop} [Decidable p] [Decidable q] {x : Int} (h : p ∨ x = 0 ↔ q) : (decide p || x == 0) = decide q := by
 rw [Bool.eq_iff_iff]; simp [← h]
theorem dec_tt {q : Prop} [Decidable q] (h : q) : true = decide q := by simp [h]

theorem pow_cast (k : Nat) : (2 : Int) ^ k = ((2 ^ k : Nat) : Int) := by simp
theorem div_cast (x k : Nat) : (x : Int) / 2 ^ k = ((x / 2 ^ k : Nat) : Int) := by simp

theorem wrap_nat (n : Nat) (h : n < 18446744073709551616) : IntKind.u64.wrap (n : Int) = (n : Int) := by rw [IntKind.wrap_u64]; omega
theorem or_bit_i (S t : Nat) (hS : S % 2 = 0) (ht : t < 2) (h : S < 18446744073709551616) : bits .or .u64 (S : Int) (t : Int) = ((S + t : Nat) : Int) := by
 rw [bits_or_u64_nat S t h (by omega), or_bit S t hS ht]

theorem bit_any (x k : Nat) (hx : x < 18446744073709551616) (hk : k < 64) (w : World) :
  Calls Tryz.prog 241 #[.int .u64 x, .int .i64 k] w fun e w' => e = .returned (.bool (x.testBit k)) ∧ w' = w := by
 have h1 : x / 2 ^ k < 18446744073709551616 := Nat.lt_of_le_of_lt (Nat.div_le_self _ _) hx
 have H1 : Hid (bits .and .u64 ((x : Int) / 2 ^ k) 1 = ((x / 2 ^ k &&& 1 : Nat) : Int)) := by
  have := bits_and_u64_nat (x / 2 ^ k) 1 h1 (by omega)
  rw [← div_cast] at this
  exact this
 go_enter Tryz.func241, Tryz.ntmps241
 go_wp2
 go_ret
 refine ⟨ret_bool ?_, rfl⟩
 rw [H1.out, ← bit_and, Bool.eq_iff_iff]
 simp only [beq_iff_eq]
 omega

theorem add_any (a b : Nat) (c : Bool) (ha : a < 18446744073709551616) (hb : b < 18446744073709551616) (w : World) :
  Calls Tryz.prog 270 #[.int .u64 a, .int .u64 b, .bool c] w fun e w' => e = .returned (.tuple #[.int .u64 ((a + b + c.toNat) % 18446744073709551616 : Nat), .bool (decide (18446744073709551616 ≤ a + b + c.toNat))]) ∧ w' = w := by
 cases c
 ·
  go_enter Tryz.func270, Tryz.ntmps270
  go_wp2
  go_ret2
  refine ⟨ret_ib ?_ (dec_eq ?_), rfl⟩ <;> rw [IntKind.wrap_u64, Bool.toNat_false] <;> omega
 ·
  go_enter Tryz.func270, Tryz.ntmps270
  go_wp2
  all_goals go_ret2
  ·
   refine ⟨ret_ib ?_ (dec_or ?_), rfl⟩ <;> rw [IntKind.wrap_u64, IntKind.wrap_u64, Bool.toNat_true] <;> omega
  ·
   rename_i h
   rw [IntKind.wrap_u64] at h
   refine ⟨ret_ib ?_ (dec_tt ?_), rfl⟩
   ·
    rw [IntKind.wrap_u64, IntKind.wrap_u64]; omega
   ·
    omega

theorem sub_any (a b : Nat) (c : Bool) (ha : a < 18446744073709551616) (hb : b < 18446744073709551616) (w : World) :
  Calls Tryz.prog 324 #[.int .u64 a, .int .u64 b, .bool c] w fun e w' => e = .returned (.tuple #[.int .u64 ((a + 18446744073709551616 - b - c.toNat) % 18446744073709551616 : Nat), .bool (decide (a < b + c.toNat))]) ∧ w' = w := by
 cases c
 ·
  go_enter Tryz.func324, Tryz.ntmps324
  go_wp2
  go_ret2
  refine ⟨ret_ib ?_ (dec_eq ?_), rfl⟩ <;> rw [IntKind.wrap_u64, Bool.toNat_false] <;> omega
 ·
  go_enter Tryz.func324, Tryz.ntmps324
  go_wp2
  all_goals go_ret2
  ·
   refine ⟨ret_ib ?_ (dec_or ?_), rfl⟩
   ·
    rw [IntKind.wrap_u64, IntKind.wrap_u64, Bool.toNat_true]; omega
   ·
    rw [IntKind.wrap_u64, Bool.toNat_true]; omega
  ·
   rename_i h
   rw [IntKind.wrap_u64] at h
   refine ⟨ret_ib ?_ (dec_tt ?_), rfl⟩
   ·
    rw [IntKind.wrap_u64, IntKind.wrap_u64]; omega
   ·
    omega

def cnt (n : Int) : Nat := min n.toNat 64
def ext (n : Int) : Nat := max (cnt n) 1
theorem cnt_le (n : Int) : cnt n ≤ 64 := by unfold cnt; omega
theorem cnt_small (k : Nat) (h : k < 64) : cnt (k : Int) = k := by unfold cnt; omega
theorem count_any (n : Int) (w : World) :
  Calls Tryz.prog 285 #[.int .i64 n] w fun e w' => e = .returned (.int .u64 (cnt n : Nat)) ∧ w' = w := by
 go_enter Tryz.func285, Tryz.ntmps285
 go_wp2
 all_goals go_ret
 all_goals rename_i h1
 all_goals exact ⟨x9 (by unfold cnt; split at h1 <;> omega), rfl⟩

theorem left_any (x : Nat) (n : Int) (w : World) :
  Calls Tryz.prog 244 #[.int .u64 x, .int .i64 n] w fun e w' => e = .returned (.int .u64 (x * 2 ^ cnt n % 18446744073709551616 : Nat)) ∧ w' = w := by
 have hc := cnt_le n
 go_enter Tryz.func244, Tryz.ntmps244
 go_wp2_with (go_at_call 285; refine (count_any _ _).mono ?_; rintro e w' ⟨rfl, rfl⟩)
 go_ret
 exact ⟨x9 (by rw [IntKind.wrap_u64]; simp), rfl⟩

theorem right_any (x : Nat) (n : Int) (w : World) :
  Calls Tryz.prog 245 #[.int .u64 x, .int .i64 n] w fun e w' => e = .returned (.int .u64 (x / 2 ^ cnt n : Nat)) ∧ w' = w := by
 have hc := cnt_le n
 go_enter Tryz.func245, Tryz.ntmps245
 go_wp2_with (go_at_call 285; refine (count_any _ _).mono ?_; rintro e w' ⟨rfl, rfl⟩)
 go_ret
 exact ⟨x9 (by simp), rfl⟩

theorem and_mask (x c : Nat) (hx : x < 18446744073709551616) (h : c ≤ 64) : bits .and .u64 (x : Int) ((2 ^ c - 1 : Nat) : Int) = ((x % 2 ^ c : Nat) : Int) := by
 rw [bits_and_u64_nat _ _ hx (mask_lt c h), Nat.and_two_pow_sub_one_eq_mod]

theorem mul64_any (x y : Nat) (hx : x < 18446744073709551616) (hy : y < 18446744073709551616) (w : World) :
  Calls Tryz.prog 331 #[.int .u64 x, .int .u64 y] w fun e w' => e = .returned (.tuple #[.int .u64 ((x * y / 18446744073709551616 : Nat) : Int), .int .u64 ((x * y % 18446744073709551616 : Nat) : Int)]) ∧ w' = w := by
 go_enter Tryz.func331, Tryz.ntmps331
 go_wp2
 go_ret2
 refine ⟨ret_ii ?_ ?_, rfl⟩
 ·
  simp only [IntKind.wrap_u64]
  rw [and_low32 (x : Int) (by omega) (by omega), and_low32 (y : Int) (by omega) (by omega), and_low32 (_ % 18446744073709551616) (Int.emod_nonneg _ (by decide)) (Int.emod_lt_of_pos _ (by decide)), mul64_arith x y (by omega) (by omega) (by omega) (by omega)]
  simp
 ·
  rw [IntKind.wrap_u64]
  simp

theorem mul_any (x y : Nat) (hx : x < 18446744073709551616) (hy : y < 18446744073709551616) (w : World) :
  Calls Tryz.prog 323 #[.int .u64 x, .int .u64 y] w fun e w' => e = .returned (.tuple #[.int .u64 ((x * y / 18446744073709551616 : Nat) : Int), .int .u64 ((x * y % 18446744073709551616 : Nat) : Int)]) ∧ w' = w := by
 go_enter Tryz.func323, Tryz.ntmps323
 go_wp2_with (go_at_call 331; refine (mul64_any _ _ hx hy _).mono ?_; rintro e w' ⟨rfl, rfl⟩)
 go_ret2
 exact ⟨rfl, rfl⟩

def DivJ (hi lo d : Nat) (w : World) (a' : Act) (w' : World) : Prop :=
  w' = w ∧ ∃ (j q r L : Nat) (J : Int) (u10 u11 u12 u13 u14 u15 u16 u17 u18 u19 u20 u21 u22 u23 u24 u25 u26 u27 u28 u29 u30 u31 u32 u33 u34 u35 u36 u37 u38 u39 u40 u41 u42 : Value), a' = { tmps := #[.int .u64 hi, .int .u64 L, .int .u64 d, undef, undef, undef, .int .u64 q, .int .u64 r, .int .i64 0, .int .i64 J, u10, u11, u12, u13, u14, u15, u16, u17, u18, u19, u20, u21, u22, u23, u24, u25, u26, u27, u28, u29, u30, u31, u32, u33, u34, u35, u36, u37, u38, u39, u40, u41, u42, undef, undef], defers := [] } ∧ J = j ∧ 1 ≤ j ∧ j < 64 ∧ L = lo * 2 ^ j % 18446744073709551616 ∧ DivSt hi lo d j q r
def DivM (a' : Act) : Nat := (64 - intOf (a'.tmps.getD 9 undef)).toNat

theorem div_pass (hi lo d j q r L : Nat) (hd : d < 18446744073709551616) (hj : j < 64) (HL : L = lo * 2 ^ j % 18446744073709551616) (HS : DivSt hi lo d j q r) :
  r < d ∧ L < 18446744073709551616 ∧ q * 2 + 1 < 18446744073709551616 ∧
  ((∃ R Q L' : Nat, r * 2 < 18446744073709551616 ∧ R < d ∧ ((r : Int) / 9223372036854775808 == 1) = false ∧ bits .or .u64 ((r : Int) * 2) ((L : Int) / 9223372036854775808) = (R : Int) ∧ (q : Int) * 2 = (Q : Int) ∧
    IntKind.u64.wrap ((L : Int) * 2) = (L' : Int) ∧ Hid (L' = lo * 2 ^ (j + 1) % 18446744073709551616) ∧ Hid (DivSt hi lo d (j + 1) Q R)) ∨
  (∃ R Q Q1 Rd L' : Nat, r * 2 < 18446744073709551616 ∧ d ≤ R ∧ ((r : Int) / 9223372036854775808 == 1) = false ∧ bits .or .u64 ((r : Int) * 2) ((L : Int) / 9223372036854775808) = (R : Int) ∧ (q : Int) * 2 = (Q : Int) ∧
    bits .or .u64 (Q : Int) 1 = (Q1 : Int) ∧ IntKind.u64.wrap ((R : Int) - (d : Int)) = (Rd : Int) ∧ IntKind.u64.wrap ((L : Int) * 2) = (L' : Int) ∧ Hid (L' = lo * 2 ^ (j + 1) % 18446744073709551616) ∧ Hid (DivSt hi lo d (j + 1) Q1 Rd)) ∨
  (∃ R Q Q1 Rd L' : Nat, 18446744073709551616 ≤ r * 2 ∧ ((r : Int) / 9223372036854775808 == 1) = true ∧ bits .or .u64 (IntKind.u64.wrap ((r : Int) * 2)) ((L : Int) / 9223372036854775808) = (R : Int) ∧ (q : Int) * 2 = (Q : Int) ∧
    bits .or .u64 (Q : Int) 1 = (Q1 : Int) ∧ IntKind.u64.wrap ((R : Int) - (d : Int)) = (Rd : Int) ∧ IntKind.u64.wrap ((L : Int) * 2) = (L' : Int) ∧ Hid (L' = lo * 2 ^ (j + 1) % 18446744073709551616) ∧ Hid (DivSt hi lo d (j + 1) Q1 Rd))) := by
 have hr := HS.2.1
 have hq := HS.2.2
 have hp := pow_lt_64 j hj
 have Aa : q < 9223372036854775808 := by
  have : 2 ^ j ≤ 2 ^ 63 := Nat.pow_le_pow_right (by decide) (by omega)
  omega
 have hLl : L < 18446744073709551616 := by omega
 have ht : L / 9223372036854775808 = (lo.testBit (63 - j)).toNat := by rw [HL]; exact top_bit lo j hj
 have ds := div_step hi lo d j q r _ hj ht HS
 have ht2 : L / 9223372036854775808 < 2 := by omega
 have hL' := mul_mod_step lo j L HL
 have eL : IntKind.u64.wrap ((L : Int) * 2) = ((L * 2 % 18446744073709551616 : Nat) : Int) := by rw [IntKind.wrap_u64]; omega
 have eQ : (q : Int) * 2 = ((q * 2 : Nat) : Int) := by omega
 have eQ1 : bits .or .u64 ((q * 2 : Nat) : Int) 1 = ((q * 2 + 1 : Nat) : Int) := or_bit_i (q * 2) 1 (by omega) (by omega) (by omega)
 clear HS HL ht
 refine ⟨hr, hLl, by omega, ?_⟩
 by_cases hM : r * 2 < 18446744073709551616
 ·
  have hout : ((r : Int) / 9223372036854775808 == 1) = false := by
   rw [beq_eq_false_iff_ne]; omega
  have eo : bits .or .u64 ((r : Int) * 2) ((L : Int) / 9223372036854775808) = ((2 * r + L / 9223372036854775808 : Nat) : Int) := by
   have h := or_bit_i (r * 2) (L / 9223372036854775808) (by omega) ht2 (by omega)
   rw [Nat.mul_comm 2 r, ← h]
   congr 1
  by_cases hA : 2 * r + L / 9223372036854775808 < d
  ·
   exact Or.inl ⟨_, _, _, hM, hA, hout, eo, eQ, eL, hL', ds.1 hA⟩
  ·
   exact Or.inr (Or.inl ⟨_, _, _, 2 * r + L / 9223372036854775808 - d, _, hM, by omega, hout, eo, eQ, eQ1, by rw [IntKind.wrap_u64]; omega, eL, hL', ds.2 (by omega)⟩)
 ·
  have hout : ((r : Int) / 9223372036854775808 == 1) = true := by
   rw [beq_iff_eq]; omega
  have h := or_bit_i (r * 2 - 18446744073709551616) (L / 9223372036854775808) (by omega) ht2 (by omega)
  have e1 : IntKind.u64.wrap ((r : Int) * 2) = ((r * 2 - 18446744073709551616 : Nat) : Int) := by rw [IntKind.wrap_u64]; omega
  have e3 : (L : Int) / 9223372036854775808 = ((L / 9223372036854775808 : Nat) : Int) := by omega
  rw [← e1, ← e3] at h
  exact Or.inr (Or.inr ⟨_, _, _, 2 * r + L / 9223372036854775808 - d, _, by omega, hout, h, eQ, eQ1, by rw [IntKind.wrap_u64]; omega, eL, hL', ds.2 (by omega)⟩)

theorem div_any (hi lo d : Nat) (hh : hi < d) (hl : lo < 18446744073709551616) (hd : d < 18446744073709551616) (w : World) :
  Calls Tryz.prog 334 #[.int .u64 hi, .int .u64 lo, .int .u64 d] w fun e w' => e = .returned (.tuple #[.int .u64 (((hi * 18446744073709551616 + lo) / d : Nat) : Int), .int .u64 (((hi * 18446744073709551616 + lo) % d : Nat) : Int), .int .i64 0]) ∧ w' = w := by
 have e01 : bits .or .u64 0 1 = 1 := by decide
 go_enter Tryz.func334, Tryz.ntmps334
 go_wp2
 refine wp_scope_jumps 0 (DivJ hi lo d w) (fun a' _ => DivM a') rfl ?_ ?_
 ·
  obtain ⟨hr, hL, hq, hc⟩ := div_pass hi lo d 0 0 hi lo hd (by omega) (by rw [Nat.pow_zero, Nat.mul_one, Nat.mod_eq_of_lt hl]) (div_start hi lo d hl hh)
  rcases hc with ⟨R, Q, L', hr2, hR2, hout, eo, eQ, eL, HL', HS'⟩ | ⟨R, Q, Q1, Rd, L', hr2, hR2, hout, eo, eQ, eq1, eRd, eL, HL', HS'⟩ | ⟨R, Q, Q1, Rd, L', hr2, hout, eo, eQ, eq1, eRd, eL, HL', HS'⟩
  ·
   obtain rfl : Q = 0 := by omega
   clear eQ
   go_wp2
   go_step3
   go_wp2
   go_step3
   exact ⟨rfl, ⟨rfl, 1, 0, R, L', _, _, _, _, _, _, _, _, _, _, _, _, _, _, _, _, _, _, _, _, _, _, _, _, _, _, _, _, _, _, _, _, _, _, rfl, by omega, by omega, by omega, HL'.out, HS'.out⟩⟩
  ·
   obtain rfl : Q = 0 := by omega
   obtain rfl : Q1 = 1 := by
    have : ((Q1 : Nat) : Int) = 1 := by rw [← eq1]; decide
    omega
   clear eQ eq1
   go_wp2
   go_step3
   go_wp2
   go_step3
   exact ⟨rfl, ⟨rfl, 1, 1, Rd, L', _, _, _, _, _, _, _, _, _, _, _, _, _, _, _, _, _, _, _, _, _, _, _, _, _, _, _, _, _, _, _, _, _, _, rfl, by omega, by omega, by omega, HL'.out, HS'.out⟩⟩
  ·
   obtain rfl : Q = 0 := by omega
   obtain rfl : Q1 = 1 := by
    have : ((Q1 : Nat) : Int) = 1 := by rw [← eq1]; decide
    omega
   clear eQ eq1
   go_wp2
   go_step3
   go_wp2
   go_step3
   exact ⟨rfl, ⟨rfl, 1, 1, Rd, L', _, _, _, _, _, _, _, _, _, _, _, _, _, _, _, _, _, _, _, _, _, _, _, _, _, _, _, _, _, _, _, _, _, _, rfl, by omega, by omega, by omega, HL'.out, HS'.out⟩⟩
 ·
  rintro a' w' ⟨rfl, j, q, r, L, J, u10, u11, u12, u13, u14, u15, u16, u17, u18, u19, u20, u21, u22, u23, u24, u25, u26, u27, u28, u29, u30, u31, u32, u33, u34, u35, u36, u37, u38, u39, u40, u41, u42, rfl, rfl, hj1, hj2, HL, HS⟩
  obtain ⟨hr, hL, hq, hc⟩ := div_pass hi lo d j q r L hd hj2 HL HS
  clear HL HS e01
  by_cases hlast : j = 63
  ·
   subst hlast
   rcases hc with ⟨R, Q, L', hr2, hR2, hout, eo, eQ, eL, HL', HS'⟩ | ⟨R, Q, Q1, Rd, L', hr2, hR2, hout, eo, eQ, eq1, eRd, eL, HL', HS'⟩ | ⟨R, Q, Q1, Rd, L', hr2, hout, eo, eQ, eq1, eRd, eL, HL', HS'⟩
   ·
    go_wp2
    simp only [Exit.jump]
    go_ret3
    obtain ⟨e1, e2⟩ := div_end hi lo d _ _ HS'.out
    exact ⟨ret_iii (by first | (rw [← e1]) | omega) (by first | (rw [← e2]) | omega) rfl, rfl⟩
   ·
    go_wp2
    simp only [Exit.jump]
    go_ret3
    obtain ⟨e1, e2⟩ := div_end hi lo d _ _ HS'.out
    exact ⟨ret_iii (by first | (rw [← e1]) | omega) (by first | (rw [← e2]) | omega) rfl, rfl⟩
   ·
    go_wp2
    simp only [Exit.jump]
    go_ret3
    obtain ⟨e1, e2⟩ := div_end hi lo d _ _ HS'.out
    exact ⟨ret_iii (by first | (rw [← e1]) | omega) (by first | (rw [← e2]) | omega) rfl, rfl⟩
  ·
   rcases hc with ⟨R, Q, L', hr2, hR2, hout, eo, eQ, eL, HL', HS'⟩ | ⟨R, Q, Q1, Rd, L', hr2, hR2, hout, eo, eQ, eq1, eRd, eL, HL', HS'⟩ | ⟨R, Q, Q1, Rd, L', hr2, hout, eo, eQ, eq1, eRd, eL, HL', HS'⟩
   ·
    go_wp2
    go_step3
    exact ⟨rfl, ⟨rfl, j + 1, Q, R, L', _, _, _, _, _, _, _, _, _, _, _, _, _, _, _, _, _, _, _, _, _, _, _, _, _, _, _, _, _, _, _, _, _, _, rfl, by omega, by omega, by omega, HL'.out, HS'.out⟩, by simp [DivM, intOf]; omega⟩
   ·
    go_wp2
    go_step3
    exact ⟨rfl, ⟨rfl, j + 1, Q1, Rd, L', _, _, _, _, _, _, _, _, _, _, _, _, _, _, _, _, _, _, _, _, _, _, _, _, _, _, _, _, _, _, _, _, _, _, rfl, by omega, by omega, by omega, HL'.out, HS'.out⟩, by simp [DivM, intOf]; omega⟩
   ·
    go_wp2
    go_step3
    exact ⟨rfl, ⟨rfl, j + 1, Q1, Rd, L', _, _, _, _, _, _, _, _, _, _, _, _, _, _, _, _, _, _, _, _, _, _, _, _, _, _, _, _, _, _, _, _, _, _, rfl, by omega, by omega, by omega, HL'.out, HS'.out⟩, by simp [DivM, intOf]; omega⟩

theorem div_no (hi lo d : Nat) (hh : d ≤ hi) (w : World) :
  Calls Tryz.prog 334 #[.int .u64 hi, .int .u64 lo, .int .u64 d] w fun e w' => e = .returned (.tuple #[.int .u64 0, .int .u64 0, .int .i64 2]) ∧ w' = w := by
 go_enter Tryz.func334, Tryz.ntmps334
 go_wp2
 refine wp_scope_jumps 0 (fun _ _ => False) (fun _ _ => 0) rfl ?_ (fun _ _ h => h.elim)
 go_wp2
 simp only [Exit.jump]
 go_ret3
 exact ⟨rfl, rfl⟩

end Go.Proofs.YtkblmpmkchkpjaaGreatDoor
