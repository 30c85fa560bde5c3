/-
  Numbers of 384 bits divided and their roots taken, bit by bit from above: what each round keeps.
-/
import Derived.Test.YtgiehfecljampaaWmath
import Derived.Test.YtgiehfecljampaaTmath
namespace Go.Proofs.Ytgiehfecljampaa.WMath

theorem Qq384 : ∃ L, L = 384 ∧ Q = 2 ^ L := by
  obtain ⟨L, hL, hQ⟩ := Q_of
  exact ⟨64 * L, by omega, hQ⟩

theorem qor_add (a i b : Nat) (h : 2 ^ i ∣ a) (hb : b < 2 ^ i) : a ||| b = a + b := by
  obtain ⟨c, rfl⟩ := h
  exact (Nat.two_pow_add_eq_or_of_lt hb c).symm

theorem qor_pow (a k : Nat) (h : 2 ^ (k + 1) ∣ a) : a ||| 2 ^ k = a + 2 ^ k :=
  qor_add a (k + 1) _ h (Nat.pow_lt_pow_right (by decide) (by omega))

theorem blen_le384 (n : Nat) (hn : n < Q) : blen n ≤ 384 := by
  obtain ⟨L, hL, hQ⟩ := Qq384
  rw [hQ] at hn
  have := blen_le_of n L hn
  omega

theorem pow_ltQ (k : Nat) (h : k < 384) : 2 ^ k < Q := by
  obtain ⟨L, hL, hQ⟩ := Qq384
  rw [hQ]
  exact Nat.pow_lt_pow_right (by decide) (by omega)

/-- Ahead of the bit at k - 1: the quotient so far, and what is left. -/
def QdivSt (a b k q r : Nat) : Prop := q * b + r = a ∧ r < b * 2 ^ k ∧ 2 ^ k ∣ q

theorem qdiv_start (a b : Nat) (n : Int) (hb : b ≠ 0) (hn : n = (blen a : Int) - (blen b : Int)) : QdivSt a b (n + 1).toNat 0 a := by
  have h1 := blen_lt a
  have h2 := blen_le b hb
  have h3 := blen_pos b hb
  refine ⟨by omega, ?_, Nat.dvd_zero _⟩
  refine Nat.lt_of_lt_of_le h1 ?_
  refine Nat.le_trans ?_ (Nat.mul_le_mul_right _ h2)
  rw [← Nat.pow_add]
  exact Nat.pow_le_pow_right (by decide) (by omega)

theorem qdiv_step (a b k q r : Nat) (S : QdivSt a b (k + 1) q r) :
    (r < b * 2 ^ k → QdivSt a b k q r) ∧ (b * 2 ^ k ≤ r → QdivSt a b k (q ||| 2 ^ k) (r - b * 2 ^ k)) := by
  obtain ⟨h1, h2, h3⟩ := S
  have h4 : 2 ^ k ∣ q := Nat.dvd_trans (Nat.pow_dvd_pow 2 (by omega)) h3
  have h5 : b * 2 ^ (k + 1) = b * 2 ^ k + b * 2 ^ k := by rw [Nat.pow_succ, ← Nat.mul_assoc]; omega
  refine ⟨fun h => ⟨h1, h, h4⟩, fun h => ?_⟩
  rw [qor_pow q k h3]
  refine ⟨?_, by omega, Nat.dvd_add h4 (Nat.dvd_refl _)⟩
  rw [Nat.add_mul, Nat.mul_comm (2 ^ k) b]
  omega

theorem qdiv_end (a b k q r : Nat) (hk : k = 0) (S : QdivSt a b k q r) : q = a / b ∧ r = a % b := by
  subst hk
  obtain ⟨h1, h2, _⟩ := S
  rw [Nat.pow_zero, Nat.mul_one] at h2
  have h3 : 0 < b := by omega
  rw [← h1, Nat.mul_comm q b, Nat.mul_add_div h3, Nat.div_eq_of_lt h2, Nat.mul_add_mod, Nat.mod_eq_of_lt h2]
  exact ⟨by omega, rfl⟩

theorem qdiv_r_le {a b k q r : Nat} (S : QdivSt a b k q r) : r ≤ a := by have := S.1; omega

theorem qdiv_shift (a b k : Nat) (ha : a < Q) (n : Int) (hn : (k : Int) ≤ n) (hn2 : n = (blen a : Int) - (blen b : Int)) : b * 2 ^ k < Q := by
  obtain ⟨L, hL, hQ⟩ := Qq384
  have h1 := blen_lt b
  have h2 := blen_le384 a ha
  rw [hQ]
  refine Nat.lt_of_lt_of_le (Nat.mul_lt_mul_of_pos_right h1 (Nat.two_pow_pos _)) ?_
  rw [← Nat.pow_add]
  exact Nat.pow_le_pow_right (by decide) (by omega)

/-- The document's way: behind the bit at k, the quotient and the rest of the bits from k on. -/
def RdivSt (a b k q r : Nat) : Prop := q = a / 2 ^ k / b * 2 ^ k ∧ r = a / 2 ^ k % b

theorem rdiv_start (a b k : Nat) (hk : k = blen a) : RdivSt a b k 0 0 := by
  unfold RdivSt
  rw [hk, Nat.div_eq_of_lt (blen_lt a), Nat.zero_div, Nat.zero_mod, Nat.zero_mul]
  exact ⟨rfl, rfl⟩

theorem bit_nat (a k : Nat) : a / 2 ^ k = 2 * (a / 2 ^ (k + 1)) + (a.testBit k).toNat := by
  rw [Nat.pow_succ, ← Nat.div_div_eq_div_mul]
  have : (a.testBit k).toNat = a / 2 ^ k % 2 := by
    rw [Nat.testBit_eq_decide_div_mod_eq]
    rcases Nat.mod_two_eq_zero_or_one (a / 2 ^ k) with h | h <;> rw [h] <;> rfl
  rw [this]
  omega

theorem rdiv_q_lt {a b k q r : Nat} (S : RdivSt a b k q r) : q ≤ a := by
  rw [S.1]
  exact Nat.le_trans (Nat.mul_le_mul_right _ (Nat.div_le_self _ _)) (Nat.div_mul_le_self _ _)

theorem rdiv_step (a b k q r s : Nat) (o : Bool) (hb : 0 < b) (hbQ : b < Q) (S : RdivSt a b (k + 1) q r) (hs : (r + r) % Q = s) (ho : decide (Q ≤ r + r) = o) :
    ((o || decide (b ≤ s + (a.testBit k).toNat)) = false → RdivSt a b k q (s + (a.testBit k).toNat)) ∧
    ((o || decide (b ≤ s + (a.testBit k).toNat)) = true → RdivSt a b k (q ||| 2 ^ k) ((s + (a.testBit k).toNat + Q - b) % Q)) ∧ s % 2 = 0 ∧ s + (a.testBit k).toNat < Q := by
  obtain ⟨hq, hr⟩ := S
  have e := bit_nat a k
  have hrb : r < b := by rw [hr]; exact Nat.mod_lt _ hb
  have ht : (a.testBit k).toNat ≤ 1 := by cases a.testBit k <;> decide
  have hd := Nat.div_add_mod (a / 2 ^ (k + 1)) b
  rw [← hr] at hd
  have hQ2 : Q % 2 = 0 := by
    obtain ⟨L, hL, hQ⟩ := Qq384
    rw [hQ, show L = (L - 1) + 1 by omega, Nat.pow_succ]
    omega
  have h3 : 2 ^ (k + 1) ∣ q := ⟨_, by rw [hq, Nat.mul_comm]⟩
  have hq' : ∀ x, a / 2 ^ (k + 1) / b * 2 = x → q = x * 2 ^ k := fun x hx => by rw [hq, ← hx, show 2 ^ (k + 1) = 2 * 2 ^ k by rw [Nat.pow_succ, Nat.mul_comm], ← Nat.mul_assoc]
  unfold RdivSt
  rw [qor_pow q k h3, e]
  generalize a / 2 ^ (k + 1) = x at *
  generalize (a.testBit k).toNat = t at *
  obtain ⟨y, hy⟩ : ∃ y, y = x / b := ⟨_, rfl⟩
  rw [← hy] at hd hq'
  have e2 : 2 * x + t = b * (2 * y) + (2 * r + t) := by
    rw [← hd, Nat.mul_left_comm]; omega
  have e3 : ∀ m u, 2 * x + t = b * m + u → u < b → (2 * x + t) / b = m ∧ (2 * x + t) % b = u := fun m u h1 h2 => by
    rw [h1, Nat.mul_add_div hb, Nat.mul_add_mod, Nat.div_eq_of_lt h2, Nat.mod_eq_of_lt h2]; exact ⟨by omega, rfl⟩
  have e4 : b * (2 * y + 1) = b * (2 * y) + b := by rw [Nat.mul_add, Nat.mul_one]
  have q0 : q = 2 * y * 2 ^ k := hq' _ (by omega)
  by_cases hc : Q ≤ r + r
  · have e5 : s = r + r - Q := by rw [← hs, Nat.mod_eq_sub_mod hc, Nat.mod_eq_of_lt (by omega)]
    have o1 : o = true := by rw [← ho]; exact decide_eq_true hc
    subst o1
    obtain ⟨f1, f2⟩ := e3 (2 * y + 1) (2 * r + t - b) (by omega) (by omega)
    refine ⟨fun h => by simp at h, fun _ => ⟨?_, ?_⟩, by omega, by omega⟩
    · rw [f1, Nat.add_mul, Nat.one_mul, q0]
    · rw [f2, Nat.mod_eq_of_lt (by omega)]; omega
  · have e5 : s = r + r := by rw [← hs, Nat.mod_eq_of_lt (by omega)]
    have o1 : o = false := by rw [← ho]; exact decide_eq_false hc
    subst o1
    refine ⟨fun h => ?_, fun h => ?_, by omega, by omega⟩
    · have h5 : s + t < b := by simpa using h
      obtain ⟨f1, f2⟩ := e3 (2 * y) (2 * r + t) (by omega) (by omega)
      exact ⟨by rw [f1, q0], by rw [f2]; omega⟩
    · have h5 : b ≤ s + t := by simpa using h
      obtain ⟨f1, f2⟩ := e3 (2 * y + 1) (2 * r + t - b) (by omega) (by omega)
      refine ⟨?_, ?_⟩
      · rw [f1, Nat.add_mul, Nat.one_mul, q0]
      · rw [f2, show s + t + Q - b = (2 * r + t - b) + Q by omega, Nat.add_mod_right, Nat.mod_eq_of_lt (by omega)]

theorem rdiv_end (a b k q r : Nat) (hk : k = 0) (S : RdivSt a b k q r) : q = a / b ∧ r = a % b := by
  subst hk
  obtain ⟨h1, h2⟩ := S
  rw [Nat.pow_zero, Nat.div_one] at h1 h2
  exact ⟨by omega, h2⟩

/-- The greatest number whose square is at most a. -/
def RootIs (a r : Nat) : Prop := r * r ≤ a ∧ a < (r + 1) * (r + 1)
theorem root_one {a r s : Nat} (h : RootIs a r) (k : RootIs a s) : r = s := by
  obtain ⟨h1, h2⟩ := h
  obtain ⟨k1, k2⟩ := k
  rcases Nat.lt_trichotomy r s with h | h | h
  · have := Nat.mul_self_le_mul_self (show r + 1 ≤ s from h)
    omega
  · exact h
  · have := Nat.mul_self_le_mul_self (show s + 1 ≤ r from h)
    omega

theorem sq_add (x y : Nat) : (x + y) * (x + y) = x * x + 2 * (x * y) + y * y := by
  rw [Nat.add_mul, Nat.mul_add, Nat.mul_add, Nat.mul_comm y x]; omega

/-- Ahead of the bit at k - 1 of a root: f was found so far. -/
def SqrSt (a k f : Nat) : Prop := f * f ≤ a ∧ a < (f + 2 ^ k) * (f + 2 ^ k) ∧ 2 ^ k ∣ f

theorem sqr_step (a k f : Nat) (S : SqrSt a (k + 1) f) :
    (a < (f + 2 ^ k) * (f + 2 ^ k) → SqrSt a k f) ∧ ((f + 2 ^ k) * (f + 2 ^ k) ≤ a → SqrSt a k (f + 2 ^ k)) := by
  obtain ⟨h1, h2, h3⟩ := S
  have h4 : 2 ^ k ∣ f := Nat.dvd_trans (Nat.pow_dvd_pow 2 (by omega)) h3
  refine ⟨fun h => ⟨h1, h, h4⟩, fun h => ⟨h, ?_, Nat.dvd_add h4 (Nat.dvd_refl _)⟩⟩
  rw [show f + 2 ^ k + 2 ^ k = f + 2 ^ (k + 1) by rw [Nat.pow_succ]; omega]
  exact h2

theorem sqr_end (a k f : Nat) (hk : k = 0) (S : SqrSt a k f) : RootIs a f := by
  subst hk
  exact ⟨S.1, S.2.1⟩

theorem sqr_lt {a k f : Nat} (ha : a < Q) (S : SqrSt a k f) : ∃ L, L = 192 ∧ f < 2 ^ L := by
  refine ⟨192, rfl, ?_⟩
  obtain ⟨L, hL, hQ⟩ := Qq384
  obtain ⟨M, hM⟩ : ∃ M, M = 192 := ⟨_, rfl⟩
  rw [← hM]
  apply Nat.lt_of_not_le
  intro h
  have h1 := Nat.mul_self_le_mul_self h
  rw [← Nat.pow_add, show M + M = L by omega, ← hQ] at h1
  have := S.1
  omega

/-- The program's way: ahead of the bit at k - 1, root is what was found times 2^k, and rest is what is left. -/
def PsqSt (a k root rest : Nat) : Prop := ∃ f, SqrSt a k f ∧ root = f * 2 ^ k ∧ f * f + rest = a

theorem psq_start (a k : Nat) (hk : blen a ≤ 2 * k) : PsqSt a k 0 a := by
  refine ⟨0, ⟨by omega, ?_, Nat.dvd_zero _⟩, by omega, by omega⟩
  rw [Nat.zero_add, ← Nat.pow_add]
  exact Nat.lt_of_lt_of_le (blen_lt a) (Nat.pow_le_pow_right (by decide) (by omega))

theorem psq_step (a k root rest : Nat) (ha : a < Q) (hk : k < 192) (S : PsqSt a (k + 1) root rest) :
    ∃ step h : Nat, root ||| 2 ^ (2 * k) = step ∧ root / 2 ^ 1 = h ∧ step < Q ∧ h < Q ∧ 2 ^ (2 * k) < Q ∧ root < Q ∧ h ||| 2 ^ (2 * k) < Q ∧
    (rest < step → PsqSt a k h rest) ∧ (step ≤ rest → PsqSt a k (h ||| 2 ^ (2 * k)) (rest - step)) := by
  obtain ⟨f, S1, hf, hr⟩ := S
  obtain ⟨L, hL, hfL⟩ := sqr_lt ha S1
  obtain ⟨L2, hL2, hQ⟩ := Qq384
  have h3 := S1.2.2
  have hst := sqr_step a k f S1
  have hsq := sq_add f (2 ^ k)
  have e1 : root = f * 2 ^ k * 2 := by rw [hf, show 2 ^ (k + 1) = 2 ^ k * 2 from Nat.pow_succ .., ← Nat.mul_assoc]
  have hhalf : root / 2 ^ 1 = f * 2 ^ k := by rw [e1, Nat.pow_one, Nat.mul_div_cancel _ (by decide)]
  have d2 : 2 ^ (2 * k + 1) ∣ f * 2 ^ k := by
    obtain ⟨c, hc⟩ := h3
    exact ⟨c, by rw [hc, show 2 * k + 1 = (k + 1) + k by omega, Nat.pow_add 2 (k + 1) k, Nat.mul_assoc, Nat.mul_comm c, ← Nat.mul_assoc]⟩
  have d1 : 2 ^ (2 * k + 1) ∣ root := by rw [e1]; exact Nat.dvd_mul_right_of_dvd d2 2
  have rQ : root < Q := by
    rw [hf, hQ]
    refine Nat.lt_of_lt_of_le (Nat.mul_lt_mul_of_pos_right hfL (Nat.two_pow_pos _)) ?_
    rw [← Nat.pow_add]
    exact Nat.pow_le_pow_right (by decide) (by omega)
  have pQ := pow_ltQ (2 * k) (by omega)
  have hQ2 : root / 2 ^ 1 < Q := Nat.lt_of_le_of_lt (Nat.div_le_self _ _) rQ
  refine ⟨_, _, rfl, rfl, or_ltQ _ _ rQ pQ, hQ2, pQ, rQ, or_ltQ _ _ hQ2 pQ, ?_, ?_⟩
  all_goals
    rw [qor_pow root (2 * k) d1, hhalf]
    have e2 : 2 ^ (2 * k) = 2 ^ k * 2 ^ k := by rw [← Nat.pow_add]; congr 1; omega
    rw [e1, e2]
    intro h
  · exact ⟨f, hst.1 (by omega), rfl, hr⟩
  · refine ⟨f + 2 ^ k, hst.2 (by omega), ?_, by omega⟩
    rw [← e2, qor_pow _ (2 * k) d2, e2, Nat.add_mul]

theorem psq_end (a k root rest : Nat) (hk : k = 0) (S : PsqSt a k root rest) : RootIs a root ∧ a - root * root = rest := by
  subst hk
  obtain ⟨f, S1, hf, hr⟩ := S
  rw [Nat.pow_zero, Nat.mul_one] at hf
  subst hf
  exact ⟨sqr_end a 0 root rfl S1, by omega⟩
theorem psq_rest_le {a k root rest : Nat} (S : PsqSt a k root rest) : rest ≤ a := by
  obtain ⟨f, _, _, h⟩ := S
  omega
end Go.Proofs.Ytgiehfecljampaa.WMath
