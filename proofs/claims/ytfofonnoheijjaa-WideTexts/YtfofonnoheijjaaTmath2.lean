/-
  What a text of hexadecimal digits says, and which texts are the texts of numbers.
-/
import Derived.Test.YtfofonnoheijjaaTmath
namespace Go.Proofs.Ytfofonnoheijjaa.WMath

/-- The number of a digit; none: it is no digit. -/
def dv (c : UInt8) : Option Nat := if 48 ≤ c.toNat ∧ c.toNat ≤ 57 then some (c.toNat - 48) else if 97 ≤ c.toNat ∧ c.toNat ≤ 102 then some (c.toNat - 87) else none
def vstep (o : Option Nat) (c : UInt8) : Option Nat := match o, dv c with | some v, some d => some (16 * v + d) | _, _ => none
def vals (l : List UInt8) : Option Nat := l.foldl vstep (some 0)

theorem dv_all : ∀ c : Fin 256, ∀ d, dv (UInt8.ofNat c.val) = some d → d < 16 ∧ dg d = UInt8.ofNat c.val ∧ (d = 0 ↔ c.val = 48) := by
  intro c d h
  have key : ∀ c : Fin 256, (match dv (UInt8.ofNat c.val) with | some d => decide (d < 16 ∧ dg d = UInt8.ofNat c.val ∧ (d = 0 ↔ c.val = 48)) | none => true) = true := by decide +kernel
  have := key c
  rw [h] at this
  exact of_decide_eq_true this
theorem dv_spec (c : UInt8) (d : Nat) (h : dv c = some d) : d < 16 ∧ dg d = c ∧ (d = 0 ↔ c = 48) := by
  have hc : UInt8.ofNat c.toNat = c := UInt8.ofNat_toNat
  have hlt : c.toNat < 256 := c.toNat_lt
  have := dv_all ⟨c.toNat, hlt⟩ d (by simpa [hc] using h)
  simp only [hc] at this
  refine ⟨this.1, this.2.1, this.2.2.trans ⟨fun e => ?_, fun e => by rw [e]; rfl⟩⟩
  rw [← hc, e]; rfl

theorem vals_snoc (l : List UInt8) (c : UInt8) : vals (l ++ [c]) = vstep (vals l) c := by simp [vals, List.foldl_append]
theorem vals_nil : vals [] = some 0 := rfl
theorem vstep_none (l : List UInt8) : l.foldl vstep none = none := by
  induction l with
  | nil => rfl
  | cons c l ih => simpa [vstep] using ih
theorem vals_take_none (l : List UInt8) (k : Nat) (h : vals (l.take k) = none) : vals l = none := by
  have e : vals l = (l.drop k).foldl vstep (vals (l.take k)) := by
    unfold vals
    rw [← List.foldl_append, List.take_append_drop]
  rw [e, h, vstep_none]
theorem vals_lt : ∀ (n : Nat) (l : List UInt8) (v : Nat), l.length = n → vals l = some v → v < 16 ^ n := by
  intro n
  induction n with
  | zero =>
    intro l v hl h
    obtain rfl : l = [] := List.eq_nil_of_length_eq_zero hl
    rw [vals_nil] at h
    injection h with h
    omega
  | succ n ih =>
    intro l v hl h
    obtain ⟨l', c, rfl⟩ : ∃ l' c, l = l' ++ [c] := ⟨l.dropLast, l.getLast (by intro e; rw [e] at hl; simp at hl), (List.dropLast_concat_getLast _).symm⟩
    rw [List.length_append] at hl
    simp at hl
    rw [vals_snoc] at h
    unfold vstep at h
    cases h1 : vals l' with
    | none => rw [h1] at h; cases h
    | some v' =>
      cases h2 : dv c with
      | none => rw [h1, h2] at h; cases h
      | some d =>
        rw [h1, h2] at h
        injection h with h
        have a := ih l' v' hl h1
        have b := (dv_spec c d h2).1
        rw [Nat.pow_succ]
        omega

theorem head_app {α : Type} (l m : List α) (h : l ≠ []) : (l ++ m).head? = l.head? := by
  cases l with
  | nil => exact absurd rfl h
  | cons a l => rfl

theorem tx_ne (n : Nat) : tx n ≠ [] := by
  by_cases h : n < 16
  · rw [tx_small n h]; simp
  · rw [tx_big n (by omega)]; simp
theorem tx_head (n : Nat) : n ≠ 0 → ∀ c, (tx n).head? = some c → c ≠ 48 := by
  induction n using Nat.strongRecOn with
  | ind n ih =>
    intro h0 c hc
    by_cases h : n < 16
    · rw [tx_small n h] at hc
      simp at hc
      rw [← hc]
      have hd : n = 1 ∨ n = 2 ∨ n = 3 ∨ n = 4 ∨ n = 5 ∨ n = 6 ∨ n = 7 ∨ n = 8 ∨ n = 9 ∨ n = 10 ∨ n = 11 ∨ n = 12 ∨ n = 13 ∨ n = 14 ∨ n = 15 := by omega
      rcases hd with rfl | rfl | rfl | rfl | rfl | rfl | rfl | rfl | rfl | rfl | rfl | rfl | rfl | rfl | rfl <;> decide
    · rw [tx_big n (by omega)] at hc
      have hne := tx_ne (n / 16)
      rw [head_app _ _ hne] at hc
      exact ih (n / 16) (by omega) (by omega) c hc

theorem tx_of_vals : ∀ (n : Nat) (l : List UInt8) (v : Nat), l.length = n + 1 → vals l = some v → (n = 0 ∨ l.head? ≠ some 48) → tx v = l ∧ (l.head? ≠ some 48 → v ≠ 0) := by
  intro n
  induction n with
  | zero =>
    intro l v hl h _
    obtain ⟨c, rfl⟩ : ∃ c, l = [c] := by
      match l, hl with
      | [c], _ => exact ⟨c, rfl⟩
    have h' : vstep (some 0) c = some v := h
    unfold vstep at h'
    cases h2 : dv c with
    | none => rw [h2] at h'; cases h'
    | some d =>
      rw [h2] at h'
      injection h' with h'
      obtain ⟨a, b, e⟩ := dv_spec c d h2
      have hv : v = d := by omega
      subst hv
      refine ⟨by rw [tx_small _ a, b], fun hn h0 => hn ?_⟩
      rw [e.1 h0]; rfl
  | succ n ih =>
    intro l v hl h hh
    obtain ⟨l', c, rfl⟩ : ∃ l' c, l = l' ++ [c] := ⟨l.dropLast, l.getLast (by intro e; rw [e] at hl; simp at hl), (List.dropLast_concat_getLast _).symm⟩
    have hl' : l'.length = n + 1 := by rw [List.length_append] at hl; simp at hl; exact hl
    have hne : l' ≠ [] := by intro e; rw [e] at hl'; simp at hl'
    rw [head_app _ _ hne] at hh ⊢
    rcases hh with hh | hh
    · omega
    rw [vals_snoc] at h
    unfold vstep at h
    cases h1 : vals l' with
    | none => rw [h1] at h; cases h
    | some v' =>
      cases h2 : dv c with
      | none => rw [h1, h2] at h; cases h
      | some d =>
        rw [h1, h2] at h
        injection h with h
        obtain ⟨a, b, e⟩ := dv_spec c d h2
        obtain ⟨i1, i2⟩ := ih l' v' hl' h1 (Or.inr hh)
        have hv0 := i2 hh
        refine ⟨?_, fun _ => by omega⟩
        rw [tx_big v (by omega), show v / 16 = v' by omega, show v % 16 = d by omega, i1, b]

theorem dv_dg (d : Nat) (h : d < 16) : dv (dg d) = some d := by
  have hd : d = 0 ∨ d = 1 ∨ d = 2 ∨ d = 3 ∨ d = 4 ∨ d = 5 ∨ d = 6 ∨ d = 7 ∨ d = 8 ∨ d = 9 ∨ d = 10 ∨ d = 11 ∨ d = 12 ∨ d = 13 ∨ d = 14 ∨ d = 15 := by omega
  rcases hd with rfl | rfl | rfl | rfl | rfl | rfl | rfl | rfl | rfl | rfl | rfl | rfl | rfl | rfl | rfl | rfl <;> decide
theorem vals_tx (n : Nat) : vals (tx n) = some n := by
  induction n using Nat.strongRecOn with
  | ind n ih =>
    by_cases h : n < 16
    · rw [tx_small n h]
      show vstep (some 0) (dg n) = some n
      unfold vstep
      rw [dv_dg n h]
      simp
    · rw [tx_big n (by omega), vals_snoc, ih (n / 16) (by omega)]
      unfold vstep
      rw [dv_dg (n % 16) (Nat.mod_lt _ (by decide))]
      simp only [Option.some.injEq]
      omega
theorem tx_len (n : Nat) (h : n < Q) : (tx n).length ≤ 96 := by
  unfold tx
  rw [hxs_len]
  exact (nd_le n h).1

/-- What the document says of a text: the number and no error, or nought and the error 20. -/
def good (l : List UInt8) : Prop := l.length ≤ 96 ∧ ∃ v, vals l = some v ∧ tx v = l
theorem good_iff (l : List UInt8) (v : Nat) (hl : l.length ≤ 96) (hv : vals l = some v) : tx v = l ↔ (1 ≤ l.length ∧ ¬ (l.head? = some 48 ∧ 1 < l.length)) := by
  constructor
  · intro h
    have hne : l ≠ [] := by rw [← h]; exact tx_ne v
    refine ⟨List.length_pos_iff.2 hne, fun ⟨h1, h2⟩ => ?_⟩
    by_cases h0 : v = 0
    · subst h0
      rw [tx_small 0 (by decide)] at h
      rw [← h] at h2
      simp at h2
    · exact tx_head v h0 48 (by rw [h]; exact h1) rfl
  · intro ⟨h1, h2⟩
    obtain ⟨n, hn⟩ : ∃ n, l.length = n + 1 := ⟨l.length - 1, by omega⟩
    refine (tx_of_vals n l v hn hv ?_).1
    by_cases h3 : n = 0
    · exact Or.inl h3
    · exact Or.inr (fun h => h2 ⟨h, by omega⟩)
theorem pow96 (k : Nat) (h : k ≤ 96) : 16 ^ k ≤ Q := by
  obtain ⟨L, hL, hQ⟩ := Q_of
  rw [hQ, show (16 : Nat) = 2 ^ 4 from rfl, ← Nat.pow_mul]
  exact Nat.pow_le_pow_right (by decide) (by omega)
end Go.Proofs.Ytfofonnoheijjaa.WMath
