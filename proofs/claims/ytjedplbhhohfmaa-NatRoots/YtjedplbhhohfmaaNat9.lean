/-
  What the functions Text and Read of the document's answer for layer 5 return.
-/
import Derived.Test.YtjedplbhhohfmaaNat3
import Derived.Test.YtjedplbhhohfmaaMx
import Derived.Test.YtjedplbhhohfmaaGx
namespace Go.Proofs.Ytjedplbhhohfmaa
open Go.RowKit WMath

/-- What bytes say, the first the lowest. -/
def lv : List UInt8 → Nat
  | [] => 0
  | b :: l => 256 * lv l + b.toNat
theorem lv_snoc (b : UInt8) : ∀ l : List UInt8, lv (l ++ [b]) = lv l + 2 ^ (8 * l.length) * b.toNat
  | [] => by simp [lv]
  | c :: l => by
    rw [List.cons_append, lv, lv, lv_snoc b l, List.length_cons, pow8, Nat.mul_add, Nat.mul_comm (2 ^ (8 * l.length)) 256, Nat.mul_assoc]
    omega
theorem lv_lt : ∀ l : List UInt8, lv l < 2 ^ (8 * l.length)
  | [] => by decide
  | c :: l => by
    have := lv_lt l
    have := c.toNat_lt
    rw [lv, List.length_cons, pow8]
    omega
theorem lv_d8 : ∀ (l : List UInt8) (k : Nat) (h : k < l.length), d8 (lv l) k = (l[k]'h).toNat
  | [], k, h => by simp at h
  | c :: l, 0, _ => by rw [lv, d8_snoc0 _ _ c.toNat_lt]; rfl
  | c :: l, k + 1, h => by rw [lv, d8_snocS _ _ _ c.toNat_lt, lv_d8 l k (by simpa using h)]; rfl

theorem c8_room (C : Nat) (k : Int) (hk : k = (C : Int)) (h : C ≤ 1000000) (w : World) : (Instr.makeSlice 57 (.int .i64 0) (.int .i64 k)).run Try.prog w = .ok (.slice (some ⟨w.heap.size, 0, none⟩) 0 C) (w.alloc (.cells (c8 C 0) 5)) := by
  subst hk
  obtain ⟨i, hi, hzz⟩ := Option.map_eq_some_iff.1 (show (Try.prog.info? 5).map (fun i => (i.zero, i.size, i.bytes)) = some (some (.int .u8 0), 1, 1) by kernel_rfl)
  simp only [Prod.mk.injEq] at hzz
  obtain ⟨hz, hs, hb⟩ := hzz
  have hr := run_make (P := Try.prog) w 57 5 i (.int .u8 0) Try.underlying57 hi hz .i64 .i64 0 C (Int.le_refl _) (by omega) (by rw [hb]; omega) (by omega)
  simp only [Int.toNat_natCast, hs, Nat.mul_one, Int.toNat_zero] at hr
  rw [hr, ← c8_made]
  rfl

/-- The first k bytes of a row, as a string. -/
theorem c8_strP {w : World} {b c L k X : Nat} (v : ByteArray) (h : w.heap[b]? = some (.cells (c8 L X) 5)) (hk : v.size = k) (hkL : k ≤ L) (hv : ∀ (j : Nat) (h1 : j < v.size), (v[j]'h1).toNat = d8 X j) :
    (convert 57 9 (.slice (some ⟨b, 0, none⟩) k c)).run Try.prog w = .ok (.string v) w := by
  rw [run_convert_bytes_string w 57 9 5 _ _ _ Try.underlying57 Try.underlying5 Try.underlying9]
  have hz : v.data.toList.length = k := by rw [Array.length_toList]; exact hk
  have hl := run_loadCells_list (P := Try.prog) w ⟨b, 0, none⟩ (v.data.toList.map fun x => Value.int .u8 (x.toNat : Int)) (fun j u hu => by
    have hadd : (⟨b, 0, none⟩ : Addr).add j = ⟨b, j, none⟩ := by unfold Addr.add; split <;> simp_all
    have hj : j < v.data.toList.length := by
      have := (List.getElem?_eq_some_iff.1 hu).1
      rwa [List.length_map] at this
    have hj2 : j < v.size := by rw [hk]; omega
    rw [hadd, c8_cell h (by omega), ← hv j hj2, ← hu, List.getElem?_map, List.getElem?_eq_getElem hj]
    rfl)
  rw [List.length_map, hz] at hl
  rw [run_bytesToString (P := Try.prog) w ⟨b, 0, none⟩ k c (v.data.toList.map fun x => (x.toNat : Int)) (by rw [hl]; simp), show ByteArray.empty = ⟨#[]⟩ from rfl, fold_bytes]
  simp

theorem dig_fact8 (w : World) (d : Nat) (h : d < 16) :
    (Instr.index 9 (.string ⟨#[48, 49, 50, 51, 52, 53, 54, 55, 56, 57, 97, 98, 99, 100, 101, 102]⟩) (.int .u8 (d : Nat))).run Try.prog w = .ok (.int .u8 ((dg d).toNat : Int)) w := by
  have hd : d = 0 ∨ d = 1 ∨ d = 2 ∨ d = 3 ∨ d = 4 ∨ d = 5 ∨ d = 6 ∨ d = 7 ∨ d = 8 ∨ d = 9 ∨ d = 10 ∨ d = 11 ∨ d = 12 ∨ d = 13 ∨ d = 14 ∨ d = 15 := by omega
  rcases hd with rfl | rfl | rfl | rfl | rfl | rfl | rfl | rfl | rfl | rfl | rfl | rfl | rfl | rfl | rfl | rfl <;> (rw [run_index_string (P := Try.prog) w 9 _ _ _ Try.underlying9]; rfl)

/-- The text of the first i bytes. -/
def pt (n L i : Nat) : List UInt8 := if i = 0 then [] else tx (n / 2 ^ (8 * (L - i)))
theorem pt_step (n L i x : Nat) (hL : nl n = L) (hi : i < L) (hx : d8 n (L - 1 - i) = x) :
    pt n L (i + 1) = if 0 < i ∨ 0 < x / 16 then pt n L i ++ [dg (x / 16)] ++ [dg (x % 16)] else pt n L i ++ [dg (x % 16)] := by
  have x256 : x < 256 := by rw [← hx]; exact d8_lt _ _
  have hm : n / 2 ^ (8 * (L - (i + 1))) = 256 * (n / 2 ^ (8 * (L - i))) + x := by
    have e1 : L - i = (L - 1 - i) + 1 := by omega
    have e2 : L - (i + 1) = L - 1 - i := by omega
    rw [e1, e2, ← hx, pow8, ← Nat.div_div_eq_div_mul]
    unfold d8
    omega
  unfold pt
  rw [if_neg (by omega), hm]
  have hn := nl_lt n
  rw [hL] at hn
  by_cases h0 : i = 0
  · subst h0
    rw [Nat.sub_zero, Nat.div_eq_of_lt hn, Nat.mul_zero, Nat.zero_add, if_pos rfl]
    by_cases h1 : 0 < x / 16
    · rw [if_pos (Or.inr h1), tx_big x (by omega), tx_small (x / 16) (by omega)]
      rfl
    · rw [if_neg (by omega), tx_small x (by omega), Nat.mod_eq_of_lt (by omega)]
      rfl
  · have hm0 : 0 < n / 2 ^ (8 * (L - i)) := by
      have h1 := nl_le n (fun e => by rw [e, nl_zero] at hL; omega)
      rw [hL] at h1
      have h2 : 2 ^ (8 * (L - i)) ≤ 2 ^ (8 * (L - 1)) := pow8_le _ _ (by omega)
      exact Nat.div_pos (by omega) (Nat.two_pow_pos _)
    generalize n / 2 ^ (8 * (L - i)) = m at *
    rw [if_neg h0, if_pos (Or.inl (by omega)), tx_big (256 * m + x) (by omega), tx_big ((256 * m + x) / 16) (by omega), show (256 * m + x) / 16 / 16 = m by omega, show (256 * m + x) / 16 % 16 = x / 16 by omega, show (256 * m + x) % 16 = x % 16 by omega]
theorem and15 (x : Nat) (h : x < 256) : bits .and .u8 (x : Nat) 15 = ((x % 16 : Nat) : Int) := by
  show IntKind.u8.wrap ((BitVec.ofInt 8 (x : Int) &&& BitVec.ofInt 8 15).toNat : Int) = _
  have h1 : (BitVec.ofInt 8 15).toNat = 2 ^ 4 - 1 := by decide
  have h2 : (BitVec.ofInt 8 (x : Int)).toNat = x := by simp; omega
  rw [BitVec.toNat_and, h1, Nat.and_two_pow_sub_one_eq_mod, h2]
  exact wrap_u8_is _ _ (by omega)
theorem dg_lt (d : Nat) : (dg d).toNat < 256 := (dg d).toNat_lt

theorem good_any (l : List UInt8) (v : Nat) (hv : vals l = some v) : tx v = l ↔ (1 ≤ l.length ∧ ¬ (l.head? = some 48 ∧ 1 < l.length)) := by
  constructor
  · intro h
    have hne : l ≠ [] := by rw [← h]; exact tx_ne v
    refine ⟨List.length_pos_iff.2 hne, fun ⟨h1, h2⟩ => ?_⟩
    by_cases h0 : v = 0
    · subst h0
      rw [tx_small 0 (by decide)] at h
      rw [← h] at h2
      simp at h2
    · exact tx_head v h0 48 (by rw [h]; exact h1) rfl
  · intro ⟨h1, h2⟩
    obtain ⟨n, hn⟩ : ∃ n, l.length = n + 1 := ⟨l.length - 1, by omega⟩
    refine (tx_of_vals n l v hn hv ?_).1
    by_cases h3 : n = 0
    · exact Or.inl h3
    · exact Or.inr (fun h => h2 ⟨h, by omega⟩)

/-- What is read out of a text: the number, and the error. -/
def rdn (l : List UInt8) : ByteArray × Int := if l.length ≤ 32768 then (match vals l with | some v => if tx v = l then (nbA v, 0) else (⟨#[]⟩, 20) | none => (⟨#[]⟩, 20)) else (⟨#[]⟩, 20)
theorem rdn_long (l : List UInt8) (h : ¬ l.length ≤ 32768) : rdn l = (⟨#[]⟩, 20) := by unfold rdn; rw [if_neg h]
theorem rdn_none (l : List UInt8) (h : vals l = none) : rdn l = (⟨#[]⟩, 20) := by unfold rdn; rw [h]; simp
theorem rdn_bad (l : List UInt8) (h : ¬ (1 ≤ l.length ∧ ¬ (l.head? = some 48 ∧ 1 < l.length))) : rdn l = (⟨#[]⟩, 20) := by
  unfold rdn
  split
  · cases hv : vals l with
    | none => rfl
    | some v =>
      simp only
      rw [if_neg (fun e => h ((good_any l v hv).1 e))]
  · rfl
theorem rdn_good (l : List UInt8) (v : Nat) (hl : l.length ≤ 32768) (hv : vals l = some v) (h : 1 ≤ l.length ∧ ¬ (l.head? = some 48 ∧ 1 < l.length)) : rdn l = (nbA v, 0) := by
  unfold rdn
  rw [if_pos hl, hv]
  simp only
  rw [if_pos ((good_any l v hv).2 h)]

theorem vals_from (a V : Nat) (m : List UInt8) : vals m = some V → m.foldl vstep (some a) = some (a * 16 ^ m.length + V) := by
  refine rev_ind (P := fun m => ∀ V, vals m = some V → m.foldl vstep (some a) = some (a * 16 ^ m.length + V)) ?_ (fun l b ih => ?_) m V
  · intro V h
    rw [vals_nil] at h
    injection h with h
    simp [← h]
  · intro V h
    rw [vals_snoc] at h
    rw [List.foldl_append, List.foldl_cons, List.foldl_nil]
    unfold vstep at h
    cases h1 : vals l with
    | none => rw [h1] at h; cases h
    | some v =>
      cases h2 : dv b with
      | none => rw [h1, h2] at h; cases h
      | some d =>
        rw [h1, h2] at h
        injection h with h
        rw [ih v h1]
        unfold vstep
        rw [h2]
        simp only [Option.some.injEq, List.length_append, List.length_singleton]
        rw [Nat.pow_succ, Nat.mul_add, ← h, ← Nat.mul_assoc, ← Nat.mul_assoc, Nat.mul_comm 16 a]
        rw [Nat.mul_right_comm]
        omega
theorem vals_cons (c : UInt8) (d V : Nat) (m : List UInt8) (hd : dv c = some d) (hV : vals m = some V) : vals (c :: m) = some (d * 16 ^ m.length + V) := by
  have e : vals (c :: m) = m.foldl vstep (vstep (some 0) c) := rfl
  rw [e]
  have e2 : vstep (some 0) c = some d := by unfold vstep; rw [hd]; simp
  rw [e2]
  exact vals_from d V m hV
theorem vals_no (p m : List UInt8) (c : UInt8) (hd : dv c = none) : vals (p ++ c :: m) = none := by
  unfold vals
  rw [List.foldl_append, List.foldl_cons]
  have : ∀ o, vstep o c = none := by intro o; unfold vstep; rw [hd]; cases o <;> rfl
  rw [this, vstep_none]
theorem drop_one (l : List UInt8) (L i : Nat) (hL : l.length = L) (hi : i < L) : l.drop (L - (i + 1)) = l[L - 1 - i]'(by omega) :: l.drop (L - i) := by
  have h : L - (i + 1) < l.length := by omega
  rw [List.drop_eq_getElem_cons h]
  have e : L - (i + 1) + 1 = L - i := by omega
  have e2 : L - (i + 1) = L - 1 - i := by omega
  rw [e]
  simp only [e2]
theorem nib_step (V d i q r y : Nat) (hV : V < 16 ^ i) (hq : q = i / 2) (hr : r = 4 * (i % 2)) (hy : d * 2 ^ r = y) : V ||| y * 2 ^ (8 * q) = d * 16 ^ i + V := by
  have e : (16 : Nat) ^ i = 2 ^ (4 * i) := by rw [show (16 : Nat) = 2 ^ 4 from rfl, ← Nat.pow_mul]
  rw [e] at hV ⊢
  rw [← hy, Nat.mul_assoc, ← Nat.pow_add, show r + 8 * q = 4 * i by omega, Nat.add_comm]
  exact (or_disj _ _ _ hV).symm

end Go.Proofs.Ytjedplbhhohfmaa
