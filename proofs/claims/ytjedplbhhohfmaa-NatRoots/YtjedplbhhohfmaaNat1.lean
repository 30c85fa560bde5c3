/-
  What the functions fit, long, May and Cmp of the document's answer for layer 5 return.
-/
import Derived.Test.YtjedplbhhohfmaaNat0
import Derived.Test.YtjedplbhhohfmaaGx
namespace Go.Proofs.Ytjedplbhhohfmaa
open Go.RowKit WMath

theorem fit_low (X m : Nat) (h : X < 2 ^ (8 * (m + 1))) (hd : d8 X m = 0) : X < 2 ^ (8 * m) := by
  have := mod_d8 X m
  rw [Nat.mod_eq_of_lt h, hd, Nat.mul_zero, Nat.add_zero] at this
  rw [this]
  exact Nat.mod_lt _ (Nat.two_pow_pos _)

set_option maxHeartbeats 1000000 in
theorem nat_fit (L X b c : Nat) (v : ByteArray) (hL : L ≤ 100000) (hX : X < 2 ^ (8 * L)) (hv : nbA X = v) (w : World) (row : w.heap[b]? = some (.cells (c8 L X) 5)) :
    Calls Try.prog 40 #[.slice (some ⟨b, 0, none⟩) L c] w fun e w' => e = .returned (.string v) ∧ Below w.heap.size w w' := by
  have hb : b < w.heap.size := (Array.getElem?_eq_some_iff.1 row).1
  have HV := box hv
  have HX := box hX
  clear hv hX
  go_enter Try.func40, Try.ntmps40
  go_wp2
  go_loop [3] (fun iv => ∃ k : Nat, k ≤ L ∧ iv = .int .i64 k ∧ Box (X < 2 ^ (8 * k))) (fun iv => (intOf iv).toNat)
  case atStart => exact ⟨L, by omega, rfl, HX⟩
  case round =>
    obtain ⟨m, hm, rfl, HM⟩ := hrel
    have hmk := c8_make m (by omega)
    by_cases hst : m ≠ 0 ∧ d8 X (m - 1) = 0
    · obtain ⟨k, rfl⟩ : ∃ k, m = k + 1 := ⟨m - 1, by omega⟩
      have hd : d8 X k = 0 := hst.2
      have c0 := c8_cell row (show k < L by omega)
      rw [hd] at c0
      have NX := box (fit_low X k HM.out hd)
      clear hst hmk
      go_wp2
      go_round
      case rel => exact ⟨k, by omega, by go_num, NX⟩
      case measure => simp [intOf] <;> omega
    · have hnl : nl X = m := nl_is X m HM.out (by omega)
      have HN := box hnl
      have hcase : decide (0 < m) = false ∨ (decide (0 < m) = true ∧ 0 < m ∧ ((d8 X (m - 1) : Int) == 0) = false) := by
        by_cases e : m = 0
        · left; rw [decide_eq_false_iff_not]; omega
        · right
          refine ⟨by rw [decide_eq_true_iff]; omega, by omega, ?_⟩
          simp only [beq_eq_false_iff_ne]
          omega
      clear hst hnl
      rcases hcase with h0 | ⟨h0, h1, hd⟩
      all_goals
        try (have c0 := c8_cell row (show m - 1 < L by omega))
        go_wp2
        clear hmk h0
        try (clear hd c0)
        go_loopw [5] (fun iv wr => ∃ (i Y : Nat), i ≤ m ∧ iv = .int .i64 i ∧ wr.heap[w.heap.size]? = some (.cells (c8 m Y) 5) ∧ Below w.heap.size w wr ∧ Box (∀ j, j < m → m - 1 - i < j + 1 → (i = 0 → False) → (m - 1 - j < i) → d8 Y j = d8 X (m - 1 - j))) (fun iv _ => m - (intOf iv).toNat)
        case atStart => exact ⟨0, 0, by omega, rfl, heap_alloc_last _ _, (Below.refl _ _).alloc (Nat.le_refl _) _, box (fun j _ _ h => absurd rfl h)⟩
        case round =>
          obtain ⟨i, Y, hi, rfl, r0, hbw, HY⟩ := hrel
          by_cases hlt : i < m
          · have rb : wr.heap[b]? = some (.cells (c8 L X) 5) := by rw [hbw.block b hb]; exact row
            have c1 := c8_cell rb (show i < L by omega)
            have c2 := c8_cell r0 (show m - 1 - i < m by omega)
            have f0 := fz (k := m - 1 - i) r0
            have hx := d8_lt X i
            have RS : Box ((wr.setCell ⟨w.heap.size, m - 1 - i, none⟩ (.int .u8 ((d8 X i : Nat) : Int))).heap[w.heap.size]? = some (.cells (c8 m (set8 Y (m - 1 - i) (d8 X i))) 5)) := box (by rw [setCell_row r0, c8_seti m Y (m - 1 - i) _ _ (by omega) hx rfl])
            have NY : Box (∀ j, j < m → m - 1 - (i + 1) < j + 1 → (i + 1 = 0 → False) → (m - 1 - j < i + 1) → d8 (set8 Y (m - 1 - i) (d8 X i)) j = d8 X (m - 1 - j)) := box (fun j hj _ _ hji => by
              rw [d8_set8 _ _ _ _ hx]
              by_cases e : j = m - 1 - i
              · rw [if_pos e, e, show m - 1 - (m - 1 - i) = i by omega]
              · rw [if_neg e]
                exact HY.out j hj (by omega) (by omega) (by omega))
            have t1 : ((m : Int) - 1 - (i : Int)).toNat = m - 1 - i := by omega
            go_wp2
            go_roundw
            case rel => exact ⟨i + 1, _, by omega, by go_num, RS.out, hbw.setCell (Nat.le_refl _) _, NY⟩
            case measure => simp [intOf] <;> omega
          · obtain rfl : i = m := by omega
            have hsv := c8_str (c := i) v r0 (by rw [← HV.out, nbA_size]; exact HN.out) (fun k hk => by
              have hz : v.size = i := by rw [← HV.out, nbA_size]; exact HN.out
              have e := HY.out k (by omega) (by omega) (by omega) (by omega)
              rw [e]
              have hV := HV.out
              subst hV
              rw [nbA_get, HN.out])
            go_wp2
            go_ret
            exact ⟨rfl, hbw⟩

theorem nat_long_ok (s : ByteArray) (h : s.size ≤ 16384) (w : World) :
    Calls Try.prog 34 #[.string s] w fun e w' => e = .returned (.tuple #[.string s, .int .i64 0]) ∧ w' = w := by
  have h1 : decide ((16384 : Int) < (s.size : Int)) = false := by rw [decide_eq_false_iff_not]; omega
  have h2 : decide (16384 < s.size) = false := by rw [decide_eq_false_iff_not]; omega
  clear h
  go_enter Try.func34, Try.ntmps34
  go_wp2
  go_ret2
  exact ⟨rfl, rfl⟩
theorem nat_long_no (s : ByteArray) (h : ¬ s.size ≤ 16384) (w : World) :
    Calls Try.prog 34 #[.string s] w fun e w' => e = .returned (.tuple #[.string ⟨#[]⟩, .int .i64 4]) ∧ w' = w := by
  have h1 : decide ((16384 : Int) < (s.size : Int)) = true := by rw [decide_eq_true_iff]; omega
  have h2 : decide (16384 < s.size) = true := by rw [decide_eq_true_iff]; omega
  clear h
  go_enter Try.func34, Try.ntmps34
  go_wp2
  go_ret2
  exact ⟨rfl, rfl⟩

/-- Whether a string is that of a number of at most 16384 bytes. -/
def mayB (s : ByteArray) : Bool := decide (s.size ≤ 16384) && (decide (s.size = 0) || decide (∃ h : 0 < s.size, (s[0]'h).toNat ≠ 0))

theorem toList_len (s : ByteArray) : s.toList.length = s.size := by rw [ByteArray.toList_eq, Array.length_toList]; rfl
theorem eq_empty (s : ByteArray) : (s.toList == []) = decide (s.size = 0) := by
  rw [← toList_len]
  cases s.toList with
  | nil => rfl
  | cons x l => simp

theorem nat_may (s : ByteArray) (o : Bool) (ho : mayB s = o) (w : World) :
    Calls Try.prog 21 #[.string s] w fun e w' => e = .returned (.bool o) ∧ w' = w := by
  have d2 := eq_empty s
  by_cases h1 : s.size ≤ 16384
  · have d1 : decide ((s.size : Int) ≤ 16384) = true := by rw [decide_eq_true_iff]; omega
    by_cases h2 : s.size = 0
    · have e : o = true := by rw [← ho]; unfold mayB; rw [decide_eq_true h1, decide_eq_true h2]; rfl
      subst e
      rw [decide_eq_true h2] at d2
      clear h1 h2 ho
      go_enter Try.func21, Try.ntmps21
      go_wp2
      go_ret
      exact ⟨rfl, rfl⟩
    · rw [decide_eq_false h2] at d2
      have hp : 0 < s.size := by omega
      obtain ⟨x, hx⟩ : ∃ x, (s[0]'hp).toNat = x := ⟨_, rfl⟩
      have e : ((x : Int) != 0) = o := by
        rw [← ho]; unfold mayB
        rw [decide_eq_true h1, decide_eq_false h2, Bool.true_and, Bool.false_or]
        by_cases h0 : x = 0
        · rw [decide_eq_false (fun ⟨a, b⟩ => b (hx.trans h0)), h0]; rfl
        · rw [decide_eq_true ⟨hp, fun c => h0 (hx.symm.trans c)⟩]
          simp; omega
      have hi := idx_run s 0 0 x rfl hp hx
      clear h1 h2 ho hx
      go_enter Try.func21, Try.ntmps21
      go_wp2
      go_ret
      exact ⟨rfl, rfl⟩
  · have d1 : decide ((s.size : Int) ≤ 16384) = false := by rw [decide_eq_false_iff_not]; omega
    have e : o = false := by rw [← ho]; unfold mayB; rw [decide_eq_false h1]; rfl
    subst e
    clear h1 ho d2
    go_enter Try.func21, Try.ntmps21
    go_wp2
    go_ret
    exact ⟨rfl, rfl⟩

theorem mayB_nb (n : Nat) (h : nl n ≤ 16384) : mayB (nbA n) = true := by
  have hz := nbA_size n
  unfold mayB
  rw [show decide ((nbA n).size ≤ 16384) = true from decide_eq_true (by omega), Bool.true_and]
  by_cases h0 : (nbA n).size = 0
  · rw [decide_eq_true h0]; rfl
  · rw [decide_eq_false h0, Bool.false_or, decide_eq_true]
    exact ⟨by omega, nbA_first n _⟩
theorem mayB_is (s : ByteArray) (h : mayB s = true) : ∃ n, nbA n = s ∧ nl n ≤ 16384 := by
  unfold mayB at h
  rw [Bool.and_eq_true, Bool.or_eq_true, decide_eq_true_iff, decide_eq_true_iff, decide_eq_true_iff] at h
  obtain ⟨h1, h2⟩ := h
  obtain ⟨n, hn⟩ := nbA_of s (h2.imp id (fun ⟨a, b⟩ => ⟨a, fun c => b (by rw [c]; rfl)⟩))
  exact ⟨n, hn, by rw [← nbA_size, hn]; exact h1⟩

theorem bless_pre : ∀ (x y : List UInt8), x.length = y.length → (Op.bytesLess x y = decide (bvl x < bvl y))
  | [], [], _ => by rfl
  | [], _ :: _, h => by simp at h
  | _ :: _, [], h => by simp at h
  | a :: x, b :: y, h => by
    have hl : x.length = y.length := by simpa using h
    have ih := bless_pre x y hl
    have e : ∀ (c : UInt8) (z : List UInt8), bvl (c :: z) = c.toNat * 2 ^ (8 * z.length) + bvl z := by
      intro c z
      refine rev_ind (P := fun z => bvl (c :: z) = c.toNat * 2 ^ (8 * z.length) + bvl z) ?_ (fun l d ih => ?_) z
      · show 256 * 0 + c.toNat = c.toNat * 2 ^ (8 * 0) + 0
        simp
      · rw [← List.cons_append, bvl_snoc, ih, bvl_snoc, List.length_append, List.length_singleton, pow8, Nat.mul_add, ← Nat.mul_assoc (c.toNat)]
        omega
    have hx := bvl_lt x
    have hy := bvl_lt y
    rw [Op.bytesLess, ih, e a x, e b y, hl]
    rw [hl] at hx
    rcases Nat.lt_trichotomy a.toNat b.toNat with h1 | h1 | h1
    · have h2 : a < b := UInt8.lt_iff_toNat_lt.2 h1
      have h3 : (a.toNat + 1) * 2 ^ (8 * y.length) ≤ b.toNat * 2 ^ (8 * y.length) := Nat.mul_le_mul_right _ h1
      rw [Nat.add_mul, Nat.one_mul] at h3
      rw [decide_eq_true h2, Bool.true_or, decide_eq_true (by omega)]
    · have h2 : a = b := UInt8.toNat_inj.1 h1
      subst h2
      have h3 : ¬ a < a := fun h => Nat.lt_irrefl _ (UInt8.lt_iff_toNat_lt.1 h)
      rw [decide_eq_false h3, Bool.false_or, beq_self_eq_true, Bool.true_and]
      rw [Bool.eq_iff_iff, decide_eq_true_iff, decide_eq_true_iff]
      omega
    · have h2 : ¬ a < b := fun h => by have := UInt8.lt_iff_toNat_lt.1 h; omega
      have h3 : (b.toNat + 1) * 2 ^ (8 * y.length) ≤ a.toNat * 2 ^ (8 * y.length) := Nat.mul_le_mul_right _ h1
      rw [Nat.add_mul, Nat.one_mul] at h3
      have h4 : (a == b) = false := by simp only [beq_eq_false_iff_ne]; intro c; rw [c] at h1; omega
      rw [decide_eq_false h2, Bool.false_or, h4, Bool.false_and, decide_eq_false (by omega)]
theorem bvl_nbL (n : Nat) : bvl (nbL n) = n := by
  have h1 := bvl_lt (nbL n)
  rw [nbL_len] at h1
  refine d8_ext h1 (nl_lt n) (fun k hk => ?_)
  have h2 := bvl_d8 (nbL n) (nl n - 1 - k) (by rw [nbL_len]; omega)
  have hk2 : (nbL n).length - 1 - (nl n - 1 - k) = k := by rw [nbL_len]; omega
  rw [hk2] at h2
  rw [h2]
  have h3 := nbA_get n (nl n - 1 - k) (by rw [nbA_size]; omega)
  rw [show nl n - 1 - (nl n - 1 - k) = k by omega] at h3
  exact h3
theorem toList_nb (n : Nat) : (nbA n).toList = nbL n := by rw [ByteArray.toList_eq]; rfl
theorem bless_nb (a b : Nat) (h : nl a = nl b) : Op.bytesLess (nbA a).toList (nbA b).toList = decide (a < b) := by
  rw [toList_nb, toList_nb, bless_pre _ _ (by rw [nbL_len, nbL_len, h]), bvl_nbL, bvl_nbL]
theorem beq_nb (a b : Nat) : ((nbA a).toList == (nbA b).toList) = decide (a = b) := by
  rw [toList_nb, toList_nb, Bool.eq_iff_iff, beq_iff_eq, decide_eq_true_iff]
  constructor
  · intro h
    rw [← bvl_nbL a, h, bvl_nbL]
  · intro h; rw [h]

theorem nat_cmp (a b : Nat) (s t : ByteArray) (c : Int) (hs : nbA a = s) (ht : nbA b = t) (hc : cmpv a b = c) (w : World) :
    Calls Try.prog 14 #[.string s, .string t] w fun e w' => e = .returned (.int .i64 c) ∧ w' = w := by
  obtain ⟨L, hL⟩ : ∃ L, nl a = L := ⟨_, rfl⟩
  obtain ⟨M, hM⟩ : ∃ M, nl b = M := ⟨_, rfl⟩
  have hz : s.size = L := by rw [← hs, nbA_size, hL]
  have hy : t.size = M := by rw [← ht, nbA_size, hM]
  by_cases h : L = M
  · subst h
    have e1 := bless_nb a b (by rw [hL, hM])
    have e2 := beq_nb a b
    rw [hs, ht] at e1 e2
    have n1 : ((L : Int) != (L : Int)) = false := by simp
    unfold cmpv at hc
    by_cases h1 : a = b
    · rw [if_pos h1] at hc
      subst hc
      rw [decide_eq_false (by omega)] at e1
      rw [decide_eq_true h1] at e2
      clear hs ht hL hM h1
      go_enter Try.func14, Try.ntmps14
      go_wp2
      go_ret
      exact ⟨rfl, rfl⟩
    · rw [if_neg h1] at hc
      rw [decide_eq_false h1] at e2
      by_cases h2 : a < b
      · rw [if_pos h2] at hc
        subst hc
        rw [decide_eq_true h2] at e1
        clear hs ht hL hM h1 h2
        go_enter Try.func14, Try.ntmps14
        go_wp2
        go_ret
        exact ⟨rfl, rfl⟩
      · rw [if_neg h2] at hc
        subst hc
        rw [decide_eq_false h2] at e1
        clear hs ht hL hM h1 h2
        go_enter Try.func14, Try.ntmps14
        go_wp2
        go_ret
        exact ⟨rfl, rfl⟩
  · have n1 : ((L : Int) != (M : Int)) = true := by simp; omega
    have n2 : ¬ a = b := fun e => h (by rw [← hL, ← hM, e])
    unfold cmpv at hc
    rw [if_neg n2] at hc
    by_cases h2 : L < M
    · have h3 : a < b := by
        rcases Nat.lt_or_ge a b with h3 | h3
        · exact h3
        · have := nl_mono b a h3; omega
      rw [if_pos h3] at hc
      subst hc
      have n3 : decide (L < M) = true := decide_eq_true h2
      clear hs ht hL hM h n2 h2 h3
      go_enter Try.func14, Try.ntmps14
      go_wp2
      go_ret
      exact ⟨rfl, rfl⟩
    · have h3 : ¬ a < b := fun e => by have := nl_mono a b (Nat.le_of_lt e); omega
      rw [if_neg h3] at hc
      subst hc
      have n3 : decide (L < M) = false := decide_eq_false h2
      clear hs ht hL hM h n2 h2 h3
      go_enter Try.func14, Try.ntmps14
      go_wp2
      go_ret
      exact ⟨rfl, rfl⟩
end Go.Proofs.Ytjedplbhhohfmaa
