/-
  What the functions that the statement reaches return: part 3 (Quot2, Rlen, Rquot1, Nat0, Nat1, Nat2, Nat3, Nat4, Nat5, Nat6, Nat7, Nat8).
-/
import Derived.Deep.RegionWith
import Derived.Lib.BitFns
import Derived.Laws.Cover1
import Derived.Test.YtbmhfcppaajgbaaGreatDoorRe02
namespace Go.Proofs.YtbmhfcppaajgbaaGreatDoor
set_option maxRecDepth 100000
open Go.RowKit WMath

/-- The first boxes that a call has made, in their order; whatever was there before is as it was. -/
def RowsL (w wr : World) (l : List Nat) : Prop := (∀ i x, l[i]? = some x → wr.heap[w.heap.size + i]? = some (.cells (cw 6 x) 74)) ∧ Below w.heap.size w wr
theorem rowsL_nil (w : World) : RowsL w w [] := ⟨fun i x h => by simp at h, Below.refl _ _⟩
theorem rowsL_new {w wr : World} {l : List Nat} (h : RowsL w wr l) (hs : wr.heap.size = w.heap.size + l.length) (x : Nat) : RowsL w (wr.alloc (.cells (cw 6 x) 74)) (l ++ [x]) := by
  refine ⟨fun i y hy => ?_, h.2.alloc (by omega) _⟩
  rw [List.getElem?_append] at hy
  split at hy
  · rw [heap_below _ _ _ (by omega)]; exact h.1 i y hy
  · have e : i = l.length := by
      have := (List.getElem?_eq_some_iff.1 hy).1
      simp at this; omega
    subst e
    simp at hy
    subst hy
    rw [← hs]
    exact heap_alloc_last _ _
theorem rowsL_drew {w wr : World} {l : List Nat} (h : RowsL w wr l) (d : Nat) : RowsL w (wr.drewN d) l := ⟨h.1, below_drewN h.2 d⟩
theorem rowsL_set {w wr : World} {l l2 : List Nat} (h : RowsL w wr l) (i x b : Nat) (hi : i < l.length) (hb : b = w.heap.size + i) (hl : l2 = l.set i x) : RowsL w (wr.setRow b (cw 6 x)) l2 := by
  subst hb
  subst hl
  refine ⟨fun j y hy => ?_, Below.setRow h.2 (by omega)⟩
  by_cases e : i = j
  · subst e
    rw [List.getElem?_set_self hi] at hy
    cases hy
    exact setRow_row (h.1 i _ (List.getElem?_eq_getElem hi))
  · rw [List.getElem?_set_ne e] at hy
    rw [setRow_other (by omega)]
    exact h.1 j y hy

theorem rows0 {w wr : World} {x : Nat} {l : List Nat} (h : RowsL w wr (x :: l)) : wr.heap[w.heap.size]? = some (.cells (cw 6 x) 74) := h.1 0 _ rfl
theorem rows1 {w wr : World} {x y : Nat} {l : List Nat} (h : RowsL w wr (x :: y :: l)) : wr.heap[w.heap.size + 1]? = some (.cells (cw 6 y) 74) := h.1 1 _ rfl
theorem wrap_i64_is (n : Int) (h1 : -9223372036854775808 ≤ n) (h2 : n ≤ 9223372036854775807) : IntKind.i64.wrap n = n := by
  simp [IntKind.wrap, IntKind.bits, IntKind.signed]; omega

end Go.Proofs.YtbmhfcppaajgbaaGreatDoor
namespace Go.Proofs.YtbmhfcppaajgbaaGreatDoor
set_option maxRecDepth 100000
open Go.RowKit WMath

theorem rlen_is (x l : Nat) (hx : x < 18446744073709551616) (hl : blen x = l) (w : World) :
    Calls Tryz.prog 191 #[.int .u64 x] w fun e w' => e = .returned (.int .i64 (l : Nat)) ∧ w' = w := by
  subst hl; rw [← bitLen_blen x hx]; exact rlen_any x hx w

end Go.Proofs.YtbmhfcppaajgbaaGreatDoor
namespace Go.Proofs.YtbmhfcppaajgbaaGreatDoor
set_option maxRecDepth 100000
open Go.RowKit WMath

theorem rowsL_setCell {w wr : World} {l l2 : List Nat} (h : RowsL w wr l) (i x y b o : Nat) (v : Value) (hi : l[i]? = some x) (hb : b = w.heap.size + i) (hv : (cw 6 x).setIfInBounds o v = cw 6 y) (hl : l2 = l.set i y) : RowsL w (wr.setCell ⟨b, o, none⟩ v) l2 := by
  subst hb
  subst hl
  refine ⟨fun j z hz => ?_, h.2.setCell (by show w.heap.size ≤ w.heap.size + i; omega) _⟩
  by_cases e : i = j
  · subst e
    rw [List.getElem?_set_self (List.getElem?_eq_some_iff.1 hi).1] at hz
    cases hz
    rw [setCell_row (h.1 i _ hi), hv]
  · rw [List.getElem?_set_ne e] at hz
    rw [setCell_other (by omega)]
    exact h.1 j z hz
end Go.Proofs.YtbmhfcppaajgbaaGreatDoor
namespace Go.Proofs.YtbmhfcppaajgbaaGreatDoor
set_option maxRecDepth 100000
open Go.RowKit WMath

theorem c8_made (L : Nat) : madeCells #[.int .u8 0] L = c8 L 0 := by
  apply Array.ext_getElem?
  intro i
  by_cases h : i < L
  · rw [c8_at L 0 i h, d8_zero]
    simp [madeCells, h, Nat.mod_one]
  · rw [Array.getElem?_eq_none (by rw [size_madeCells]; omega), Array.getElem?_eq_none (by rw [c8_size]; omega)]
theorem c8_cell {w : World} {b k L n : Nat} {t : TypeId} (h : w.heap[b]? = some (.cells (c8 L n) t)) (hk : k < L) : w.cell? ⟨b, k, none⟩ = some (.int .u8 (d8 n k : Nat)) := by
  rw [cell_of_row w b k _ _ _ h, c8_at L n k hk]
theorem c8_make (L : Nat) (h : L ≤ 1000000) (w : World) : (Instr.makeSlice 57 (.int .i64 (L : Int)) (.int .i64 (L : Int))).run Tryz.prog w = .ok (.slice (some ⟨w.heap.size, 0, none⟩) L L) (w.alloc (.cells (c8 L 0) 5)) := by
  rw [← c8_made]
  exact run_make_row' (P := Tryz.prog) 57 5 (.int .u8 0) 1 Tryz.underlying57 (by kernel_rfl) rfl .i64 .i64 L (by omega) (by omega) w
theorem c8_makeI (L : Nat) (k : Int) (hk : k = (L : Int)) (h : L ≤ 1000000) (w : World) : (Instr.makeSlice 57 (.int .i64 k) (.int .i64 k)).run Tryz.prog w = .ok (.slice (some ⟨w.heap.size, 0, none⟩) L L) (w.alloc (.cells (c8 L 0) 5)) := by
  subst hk; exact c8_make L h w
/-- A row of bytes as a string. -/
theorem c8_str {w : World} {b c L X : Nat} {t : TypeId} (v : ByteArray) (h : w.heap[b]? = some (.cells (c8 L X) t)) (hL : v.size = L) (hv : ∀ (k : Nat) (h1 : k < v.size), (v[k]'h1).toNat = d8 X k) :
    (convert 57 9 (.slice (some ⟨b, 0, none⟩) L c)).run Tryz.prog w = .ok (.string v) w := by
  have e : c8 L X = cb v.data.toList := by
    apply Array.ext_getElem?
    intro i
    by_cases hi : i < L
    · have hi2 : i < v.size := by rw [hL]; exact hi
      have hi3 : i < v.data.toList.length := by rw [Array.length_toList]; exact hi2
      rw [c8_at L X i hi, cb_at _ i (v[i]'hi2) (by rw [List.getElem?_eq_getElem hi3]; rfl), hv i hi2]
    · rw [Array.getElem?_eq_none (by rw [c8_size]; omega), Array.getElem?_eq_none (by rw [cb_size, Array.length_toList]; show v.size ≤ i; omega)]
  rw [e] at h
  have := str_of (c := c) h
  rw [Array.length_toList, show v.data.size = L from hL] at this
  simpa using this

theorem idx_run (s : ByteArray) (k : Nat) (i : Int) (d : Nat) (hi : i = (k : Int)) (hk : k < s.size) (hd : (s[k]'hk).toNat = d) (w : World) :
    (Instr.index 9 (.string s) (.int .i64 i)).run Tryz.prog w = .ok (.int .u8 (d : Nat)) w := by
  subst hi hd
  rw [run_index_string (P := Tryz.prog) w 9 s _ _ Tryz.underlying9, dif_pos ⟨by omega, by omega⟩]
  simp

theorem nat_at (n i d : Nat) (s : ByteArray) (hs : nbA n = s) (hd : d8 n i = d) (hn : nl n ≤ 100000) (w : World) :
    Calls Tryz.prog 108 #[.string s, .int .i64 (i : Nat)] w fun e w' => e = .returned (.int .i64 (d : Nat)) ∧ w' = w := by
  obtain ⟨L, hL⟩ : ∃ L, nl n = L := ⟨_, rfl⟩
  have hz : s.size = L := by rw [← hs, nbA_size, hL]
  rw [hL] at hn
  by_cases h : L ≤ i
  · have e : d = 0 := by rw [← hd]; exact d8_nl n i (by omega)
    subst e
    have h1 : decide (L ≤ i) = true := by rw [decide_eq_true_iff]; omega
    clear hs hd hL h
    go_enter Tryz.func108, Tryz.ntmps108
    go_wp2
    go_ret
    exact ⟨rfl, rfl⟩
  · have h1 : decide (L ≤ i) = false := by rw [decide_eq_false_iff_not]; omega
    have hk : L - 1 - i < s.size := by omega
    have hg : (s[L - 1 - i]'hk).toNat = d := by
      subst hs
      rw [nbA_get, hL, show L - 1 - (L - 1 - i) = i by omega, hd]
    have hx := idx_run s (L - 1 - i) ((L : Int) - 1 - (i : Int)) d (by omega) hk hg
    have n1 : IntKind.i64.wrap ((L : Int) - 1) = (L : Int) - 1 := wrap_i64_is _ (by omega) (by omega)
    have n2 : IntKind.i64.wrap ((L : Int) - 1 - (i : Int)) = (L : Int) - 1 - (i : Int) := wrap_i64_is _ (by omega) (by omega)
    have d256 : d < 256 := by rw [← hd]; exact d8_lt n i
    clear hs hd hL h hg hk
    go_enter Tryz.func108, Tryz.ntmps108
    go_wp2
    go_ret
    exact ⟨rfl, rfl⟩
end Go.Proofs.YtbmhfcppaajgbaaGreatDoor
namespace Go.Proofs.YtbmhfcppaajgbaaGreatDoor
set_option maxRecDepth 100000
open Go.RowKit WMath

theorem fit_low (X m : Nat) (h : X < 2 ^ (8 * (m + 1))) (hd : d8 X m = 0) : X < 2 ^ (8 * m) := by
  have := mod_d8 X m
  rw [Nat.mod_eq_of_lt h, hd, Nat.mul_zero, Nat.add_zero] at this
  rw [this]
  exact Nat.mod_lt _ (Nat.two_pow_pos _)

set_option maxHeartbeats 1000000 in
theorem nat_fit (L X b c : Nat) (v : ByteArray) (hL : L ≤ 100000) (hX : X < 2 ^ (8 * L)) (hv : nbA X = v) (w : World) (row : w.heap[b]? = some (.cells (c8 L X) 5)) :
    Calls Tryz.prog 109 #[.slice (some ⟨b, 0, none⟩) L c] w fun e w' => e = .returned (.string v) ∧ Below w.heap.size w w' := by
  have hb : b < w.heap.size := (Array.getElem?_eq_some_iff.1 row).1
  have HV := box hv
  have HX := box hX
  clear hv hX
  go_enter Tryz.func109, Tryz.ntmps109
  go_wp2
  go_loop [3] (fun iv => ∃ k : Nat, k ≤ L ∧ iv = .int .i64 k ∧ Box (X < 2 ^ (8 * k))) (fun iv => (intOf iv).toNat)
  case atStart => exact ⟨L, by omega, rfl, HX⟩
  case round =>
    obtain ⟨m, hm, rfl, HM⟩ := hrel
    have hmk := c8_make m (by omega)
    by_cases hst : m ≠ 0 ∧ d8 X (m - 1) = 0
    · obtain ⟨k, rfl⟩ : ∃ k, m = k + 1 := ⟨m - 1, by omega⟩
      have hd : d8 X k = 0 := hst.2
      have c0 := c8_cell row (show k < L by omega)
      rw [hd] at c0
      have NX := box (fit_low X k HM.out hd)
      clear hst hmk
      go_wp2
      go_round
      case rel => exact ⟨k, by omega, by go_num, NX⟩
      case measure => simp [intOf] <;> omega
    · have hnl : nl X = m := nl_is X m HM.out (by omega)
      have HN := box hnl
      have hcase : decide (0 < m) = false ∨ (decide (0 < m) = true ∧ 0 < m ∧ ((d8 X (m - 1) : Int) == 0) = false) := by
        by_cases e : m = 0
        · left; rw [decide_eq_false_iff_not]; omega
        · right
          refine ⟨by rw [decide_eq_true_iff]; omega, by omega, ?_⟩
          simp only [beq_eq_false_iff_ne]
          omega
      clear hst hnl
      rcases hcase with h0 | ⟨h0, h1, hd⟩
      all_goals
        try (have c0 := c8_cell row (show m - 1 < L by omega))
        go_wp2
        clear hmk h0
        try (clear hd c0)
        go_loopw [5] (fun iv wr => ∃ (i Y : Nat), i ≤ m ∧ iv = .int .i64 i ∧ wr.heap[w.heap.size]? = some (.cells (c8 m Y) 5) ∧ Below w.heap.size w wr ∧ Box (∀ j, j < m → m - 1 - i < j + 1 → (i = 0 → False) → (m - 1 - j < i) → d8 Y j = d8 X (m - 1 - j))) (fun iv _ => m - (intOf iv).toNat)
        case atStart => exact ⟨0, 0, by omega, rfl, heap_alloc_last _ _, (Below.refl _ _).alloc (Nat.le_refl _) _, box (fun j _ _ h => absurd rfl h)⟩
        case round =>
          obtain ⟨i, Y, hi, rfl, r0, hbw, HY⟩ := hrel
          by_cases hlt : i < m
          · have rb : wr.heap[b]? = some (.cells (c8 L X) 5) := by rw [hbw.block b hb]; exact row
            have c1 := c8_cell rb (show i < L by omega)
            have c2 := c8_cell r0 (show m - 1 - i < m by omega)
            have f0 := fz (k := m - 1 - i) r0
            have hx := d8_lt X i
            have RS : Box ((wr.setCell ⟨w.heap.size, m - 1 - i, none⟩ (.int .u8 ((d8 X i : Nat) : Int))).heap[w.heap.size]? = some (.cells (c8 m (set8 Y (m - 1 - i) (d8 X i))) 5)) := box (by rw [setCell_row r0, c8_seti m Y (m - 1 - i) _ _ (by omega) hx rfl])
            have NY : Box (∀ j, j < m → m - 1 - (i + 1) < j + 1 → (i + 1 = 0 → False) → (m - 1 - j < i + 1) → d8 (set8 Y (m - 1 - i) (d8 X i)) j = d8 X (m - 1 - j)) := box (fun j hj _ _ hji => by
              rw [d8_set8 _ _ _ _ hx]
              by_cases e : j = m - 1 - i
              · rw [if_pos e, e, show m - 1 - (m - 1 - i) = i by omega]
              · rw [if_neg e]
                exact HY.out j hj (by omega) (by omega) (by omega))
            have t1 : ((m : Int) - 1 - (i : Int)).toNat = m - 1 - i := by omega
            go_wp2
            go_roundw
            case rel => exact ⟨i + 1, _, by omega, by go_num, RS.out, hbw.setCell (Nat.le_refl _) _, NY⟩
            case measure => simp [intOf] <;> omega
          · obtain rfl : i = m := by omega
            have hsv := c8_str (c := i) v r0 (by rw [← HV.out, nbA_size]; exact HN.out) (fun k hk => by
              have hz : v.size = i := by rw [← HV.out, nbA_size]; exact HN.out
              have e := HY.out k (by omega) (by omega) (by omega) (by omega)
              rw [e]
              have hV := HV.out
              subst hV
              rw [nbA_get, HN.out])
            go_wp2
            go_ret
            exact ⟨rfl, hbw⟩

/-- Whether a string is that of a number of at most 16384 bytes. -/
def mayB (s : ByteArray) : Bool := decide (s.size ≤ 16384) && (decide (s.size = 0) || decide (∃ h : 0 < s.size, (s[0]'h).toNat ≠ 0))

theorem toList_len (s : ByteArray) : s.toList.length = s.size := by rw [ByteArray.toList_eq, Array.length_toList]; rfl
theorem eq_empty (s : ByteArray) : (s.toList == []) = decide (s.size = 0) := by
  rw [← toList_len]
  cases s.toList with
  | nil => rfl
  | cons x l => simp

theorem nat_may (s : ByteArray) (o : Bool) (ho : mayB s = o) (w : World) :
    Calls Tryz.prog 75 #[.string s] w fun e w' => e = .returned (.bool o) ∧ w' = w := by
  have d2 := eq_empty s
  by_cases h1 : s.size ≤ 16384
  · have d1 : decide ((s.size : Int) ≤ 16384) = true := by rw [decide_eq_true_iff]; omega
    by_cases h2 : s.size = 0
    · have e : o = true := by rw [← ho]; unfold mayB; rw [decide_eq_true h1, decide_eq_true h2]; rfl
      subst e
      rw [decide_eq_true h2] at d2
      clear h1 h2 ho
      go_enter Tryz.func75, Tryz.ntmps75
      go_wp2
      go_ret
      exact ⟨rfl, rfl⟩
    · rw [decide_eq_false h2] at d2
      have hp : 0 < s.size := by omega
      obtain ⟨x, hx⟩ : ∃ x, (s[0]'hp).toNat = x := ⟨_, rfl⟩
      have e : ((x : Int) != 0) = o := by
        rw [← ho]; unfold mayB
        rw [decide_eq_true h1, decide_eq_false h2, Bool.true_and, Bool.false_or]
        by_cases h0 : x = 0
        · rw [decide_eq_false (fun ⟨a, b⟩ => b (hx.trans h0)), h0]; rfl
        · rw [decide_eq_true ⟨hp, fun c => h0 (hx.symm.trans c)⟩]
          simp; omega
      have hi := idx_run s 0 0 x rfl hp hx
      clear h1 h2 ho hx
      go_enter Tryz.func75, Tryz.ntmps75
      go_wp2
      go_ret
      exact ⟨rfl, rfl⟩
  · have d1 : decide ((s.size : Int) ≤ 16384) = false := by rw [decide_eq_false_iff_not]; omega
    have e : o = false := by rw [← ho]; unfold mayB; rw [decide_eq_false h1]; rfl
    subst e
    clear h1 ho d2
    go_enter Tryz.func75, Tryz.ntmps75
    go_wp2
    go_ret
    exact ⟨rfl, rfl⟩

theorem mayB_nb (n : Nat) (h : nl n ≤ 16384) : mayB (nbA n) = true := by
  have hz := nbA_size n
  unfold mayB
  rw [show decide ((nbA n).size ≤ 16384) = true from decide_eq_true (by omega), Bool.true_and]
  by_cases h0 : (nbA n).size = 0
  · rw [decide_eq_true h0]; rfl
  · rw [decide_eq_false h0, Bool.false_or, decide_eq_true]
    exact ⟨by omega, nbA_first n _⟩
theorem mayB_is (s : ByteArray) (h : mayB s = true) : ∃ n, nbA n = s ∧ nl n ≤ 16384 := by
  unfold mayB at h
  rw [Bool.and_eq_true, Bool.or_eq_true, decide_eq_true_iff, decide_eq_true_iff, decide_eq_true_iff] at h
  obtain ⟨h1, h2⟩ := h
  obtain ⟨n, hn⟩ := nbA_of s (h2.imp id (fun ⟨a, b⟩ => ⟨a, fun c => b (by rw [c]; rfl)⟩))
  exact ⟨n, hn, by rw [← nbA_size, hn]; exact h1⟩

theorem bless_pre : ∀ (x y : List UInt8), x.length = y.length → (Op.bytesLess x y = decide (bvl x < bvl y))
  | [], [], _ => by rfl
  | [], _ :: _, h => by simp at h
  | _ :: _, [], h => by simp at h
  | a :: x, b :: y, h => by
    have hl : x.length = y.length := by simpa using h
    have ih := bless_pre x y hl
    have e : ∀ (c : UInt8) (z : List UInt8), bvl (c :: z) = c.toNat * 2 ^ (8 * z.length) + bvl z := by
      intro c z
      refine rev_ind (P := fun z => bvl (c :: z) = c.toNat * 2 ^ (8 * z.length) + bvl z) ?_ (fun l d ih => ?_) z
      · show 256 * 0 + c.toNat = c.toNat * 2 ^ (8 * 0) + 0
        simp
      · rw [← List.cons_append, bvl_snoc, ih, bvl_snoc, List.length_append, List.length_singleton, pow8, Nat.mul_add, ← Nat.mul_assoc (c.toNat)]
        omega
    have hx := bvl_lt x
    have hy := bvl_lt y
    rw [Op.bytesLess, ih, e a x, e b y, hl]
    rw [hl] at hx
    rcases Nat.lt_trichotomy a.toNat b.toNat with h1 | h1 | h1
    · have h2 : a < b := UInt8.lt_iff_toNat_lt.2 h1
      have h3 : (a.toNat + 1) * 2 ^ (8 * y.length) ≤ b.toNat * 2 ^ (8 * y.length) := Nat.mul_le_mul_right _ h1
      rw [Nat.add_mul, Nat.one_mul] at h3
      rw [decide_eq_true h2, Bool.true_or, decide_eq_true (by omega)]
    · have h2 : a = b := UInt8.toNat_inj.1 h1
      subst h2
      have h3 : ¬ a < a := fun h => Nat.lt_irrefl _ (UInt8.lt_iff_toNat_lt.1 h)
      rw [decide_eq_false h3, Bool.false_or, beq_self_eq_true, Bool.true_and]
      rw [Bool.eq_iff_iff, decide_eq_true_iff, decide_eq_true_iff]
      omega
    · have h2 : ¬ a < b := fun h => by have := UInt8.lt_iff_toNat_lt.1 h; omega
      have h3 : (b.toNat + 1) * 2 ^ (8 * y.length) ≤ a.toNat * 2 ^ (8 * y.length) := Nat.mul_le_mul_right _ h1
      rw [Nat.add_mul, Nat.one_mul] at h3
      have h4 : (a == b) = false := by simp only [beq_eq_false_iff_ne]; intro c; rw [c] at h1; omega
      rw [decide_eq_false h2, Bool.false_or, h4, Bool.false_and, decide_eq_false (by omega)]
theorem bvl_nbL (n : Nat) : bvl (nbL n) = n := by
  have h1 := bvl_lt (nbL n)
  rw [nbL_len] at h1
  refine d8_ext h1 (nl_lt n) (fun k hk => ?_)
  have h2 := bvl_d8 (nbL n) (nl n - 1 - k) (by rw [nbL_len]; omega)
  have hk2 : (nbL n).length - 1 - (nl n - 1 - k) = k := by rw [nbL_len]; omega
  rw [hk2] at h2
  rw [h2]
  have h3 := nbA_get n (nl n - 1 - k) (by rw [nbA_size]; omega)
  rw [show nl n - 1 - (nl n - 1 - k) = k by omega] at h3
  exact h3
theorem toList_nb (n : Nat) : (nbA n).toList = nbL n := by rw [ByteArray.toList_eq]; rfl
theorem bless_nb (a b : Nat) (h : nl a = nl b) : Op.bytesLess (nbA a).toList (nbA b).toList = decide (a < b) := by
  rw [toList_nb, toList_nb, bless_pre _ _ (by rw [nbL_len, nbL_len, h]), bvl_nbL, bvl_nbL]
theorem beq_nb (a b : Nat) : ((nbA a).toList == (nbA b).toList) = decide (a = b) := by
  rw [toList_nb, toList_nb, Bool.eq_iff_iff, beq_iff_eq, decide_eq_true_iff]
  constructor
  · intro h
    rw [← bvl_nbL a, h, bvl_nbL]
  · intro h; rw [h]

theorem nat_cmp (a b : Nat) (s t : ByteArray) (c : Int) (hs : nbA a = s) (ht : nbA b = t) (hc : cmpv a b = c) (w : World) :
    Calls Tryz.prog 193 #[.string s, .string t] w fun e w' => e = .returned (.int .i64 c) ∧ w' = w := by
  obtain ⟨L, hL⟩ : ∃ L, nl a = L := ⟨_, rfl⟩
  obtain ⟨M, hM⟩ : ∃ M, nl b = M := ⟨_, rfl⟩
  have hz : s.size = L := by rw [← hs, nbA_size, hL]
  have hy : t.size = M := by rw [← ht, nbA_size, hM]
  by_cases h : L = M
  · subst h
    have e1 := bless_nb a b (by rw [hL, hM])
    have e2 := beq_nb a b
    rw [hs, ht] at e1 e2
    have n1 : ((L : Int) != (L : Int)) = false := by simp
    unfold cmpv at hc
    by_cases h1 : a = b
    · rw [if_pos h1] at hc
      subst hc
      rw [decide_eq_false (by omega)] at e1
      rw [decide_eq_true h1] at e2
      clear hs ht hL hM h1
      go_enter Tryz.func193, Tryz.ntmps193
      go_wp2
      go_ret
      exact ⟨rfl, rfl⟩
    · rw [if_neg h1] at hc
      rw [decide_eq_false h1] at e2
      by_cases h2 : a < b
      · rw [if_pos h2] at hc
        subst hc
        rw [decide_eq_true h2] at e1
        clear hs ht hL hM h1 h2
        go_enter Tryz.func193, Tryz.ntmps193
        go_wp2
        go_ret
        exact ⟨rfl, rfl⟩
      · rw [if_neg h2] at hc
        subst hc
        rw [decide_eq_false h2] at e1
        clear hs ht hL hM h1 h2
        go_enter Tryz.func193, Tryz.ntmps193
        go_wp2
        go_ret
        exact ⟨rfl, rfl⟩
  · have n1 : ((L : Int) != (M : Int)) = true := by simp; omega
    have n2 : ¬ a = b := fun e => h (by rw [← hL, ← hM, e])
    unfold cmpv at hc
    rw [if_neg n2] at hc
    by_cases h2 : L < M
    · have h3 : a < b := by
        rcases Nat.lt_or_ge a b with h3 | h3
        · exact h3
        · have := nl_mono b a h3; omega
      rw [if_pos h3] at hc
      subst hc
      have n3 : decide (L < M) = true := decide_eq_true h2
      clear hs ht hL hM h n2 h2 h3
      go_enter Tryz.func193, Tryz.ntmps193
      go_wp2
      go_ret
      exact ⟨rfl, rfl⟩
    · have h3 : ¬ a < b := fun e => by have := nl_mono a b (Nat.le_of_lt e); omega
      rw [if_neg h3] at hc
      subst hc
      have n3 : decide (L < M) = false := decide_eq_false h2
      clear hs ht hL hM h n2 h2 h3
      go_enter Tryz.func193, Tryz.ntmps193
      go_wp2
      go_ret
      exact ⟨rfl, rfl⟩
end Go.Proofs.YtbmhfcppaajgbaaGreatDoor
namespace Go.Proofs.YtbmhfcppaajgbaaGreatDoor
set_option maxRecDepth 100000
open Go.RowKit WMath

theorem carry_step (S P t : Nat) : S + P * (t % 256) + P * 256 * (t / 256) = S + P * t := by
  have h := Nat.div_add_mod t 256
  have : P * t = P * (256 * (t / 256) + t % 256) := by rw [h]
  rw [this, Nat.mul_add, Nat.mul_assoc]
  omega

theorem pow8_le (i j : Nat) (h : i ≤ j) : 2 ^ (8 * i) ≤ 2 ^ (8 * j) := Nat.pow_le_pow_right (by decide) (by omega)
theorem wrap_u8_is (t x : Nat) (h : t % 256 = x) : IntKind.u8.wrap (t : Int) = (x : Int) := by
  rw [← h, IntKind.wrap_u8]; omega

theorem nsub_step (a b S i c x y z g : Nat) (hE : S + b % 2 ^ (8 * i) = a % 2 ^ (8 * i) + 2 ^ (8 * i) * c) (hx : d8 a i = x) (hy : d8 b i = y) (hz : z + y + c = x + 256 * g) :
    S + 2 ^ (8 * i) * z + b % 2 ^ (8 * (i + 1)) = a % 2 ^ (8 * (i + 1)) + 2 ^ (8 * (i + 1)) * g := by
  rw [mod_d8, mod_d8, hx, hy, pow8, Nat.mul_assoc]
  have e := congrArg (fun t => 2 ^ (8 * i) * t) hz
  simp only [Nat.mul_add] at e
  omega
theorem nsub_end (a b S i c : Nat) (hba : b ≤ a) (ha : a < 2 ^ (8 * i)) (hS : S < 2 ^ (8 * i)) (hE : S + b % 2 ^ (8 * i) = a % 2 ^ (8 * i) + 2 ^ (8 * i) * c) : S = a - b := by
  rw [Nat.mod_eq_of_lt ha, Nat.mod_eq_of_lt (show b < 2 ^ (8 * i) by omega)] at hE
  by_cases h : c = 0
  · rw [h] at hE; omega
  · have : 2 ^ (8 * i) * 1 ≤ 2 ^ (8 * i) * c := Nat.mul_le_mul_left _ (by omega)
    omega

set_option maxHeartbeats 1000000 in
theorem nat_sub (a b : Nat) (s t v : ByteArray) (hs : nbA a = s) (ht : nbA b = t) (hv : nbA (a - b) = v) (hba : b ≤ a) (ha : nl a ≤ 20000) (w : World) :
    Calls Tryz.prog 196 #[.string s, .string t] w fun e w' => e = .returned (.string v) ∧ Below w.heap.size w w' := by
  obtain ⟨L, hL⟩ : ∃ L, nl a = L := ⟨_, rfl⟩
  have hz : s.size = L := by rw [← hs, nbA_size, hL]
  have la := nl_lt a
  have hb := nl_mono b a hba
  rw [hL] at la ha hb
  have LA := box la
  have HBA := box hba
  have HS := box hs
  have HT := box ht
  have HV := box hv
  have NA : Box (nl a ≤ 100000) := box (by omega)
  have NB : Box (nl b ≤ 100000) := box (by omega)
  have hmk := c8_make L (by omega)
  clear hs ht hv hL la hba hb
  go_enter Tryz.func196, Tryz.ntmps196
  go_wp2
  clear hmk
  go_loopw [6, 7] (fun cv iv wr => ∃ (i c S : Nat), i ≤ L ∧ c < 2 ∧ cv = .int .i64 c ∧ iv = .int .i64 i ∧ wr.heap[w.heap.size]? = some (.cells (c8 L S) 5) ∧ Below w.heap.size w wr ∧ Box (S < 2 ^ (8 * i) ∧ S + b % 2 ^ (8 * i) = a % 2 ^ (8 * i) + 2 ^ (8 * i) * c)) (fun _ iv _ => L - (intOf iv).toNat)
  case atStart => exact ⟨0, 0, 0, by omega, by omega, rfl, rfl, heap_alloc_last _ _, (Below.refl _ _).alloc (Nat.le_refl _) _, box ⟨by decide, by simp [Nat.mod_one]⟩⟩
  case round =>
    obtain ⟨i, c, S, hi, hc, rfl, rfl, r0, hbw, HE⟩ := hrel
    by_cases hlt : i < L
    · obtain ⟨x, hx⟩ : ∃ x, d8 a i = x := ⟨_, rfl⟩
      obtain ⟨y, hy2⟩ : ∃ y, d8 b i = y := ⟨_, rfl⟩
      have x256 : x < 256 := by rw [← hx]; exact d8_lt a i
      have y256 : y < 256 := by rw [← hy2]; exact d8_lt b i
      obtain ⟨q, hq⟩ : ∃ q : Int, (x : Int) - (y : Int) - (c : Int) = q := ⟨_, rfl⟩
      obtain ⟨g, hg⟩ : ∃ g, (if x < y + c then 1 else 0) = g := ⟨_, rfl⟩
      obtain ⟨z, hz2⟩ : ∃ z, x + 256 * g - y - c = z := ⟨_, rfl⟩
      have hzz : z + y + c = x + 256 * g ∧ z < 256 ∧ g < 2 := by split at hg <;> omega
      have NE := nsub_step a b S i c x y z g HE.out.2 hx hy2 hzz.1
      have NX : Box (S + 2 ^ (8 * i) * z < 2 ^ (8 * (i + 1)) ∧ S + 2 ^ (8 * i) * z + b % 2 ^ (8 * (i + 1)) = a % 2 ^ (8 * (i + 1)) + 2 ^ (8 * (i + 1)) * g) := box ⟨push8_lt S i z HE.out.1 hzz.2.1, NE⟩
      have n1 : IntKind.i64.wrap ((x : Int) - (y : Int)) = (x : Int) - (y : Int) := wrap_i64_is _ (by omega) (by omega)
      have n3 : IntKind.i64.wrap ((x : Int) - (y : Int) - (c : Int)) = q := by rw [wrap_i64_is _ (by omega) (by omega)]; omega
      have n4 : IntKind.u8.wrap q = (z : Int) := by rw [IntKind.wrap_u8]; omega
      have c1 := c8_cell r0 hlt
      have f0 := fz (k := i) r0
      have z256 := hzz.2.1
      have RS : Box ((wr.setCell ⟨w.heap.size, i, none⟩ (.int .u8 (z : Int))).heap[w.heap.size]? = some (.cells (c8 L (S + 2 ^ (8 * i) * z)) 5)) := box (by rw [setCell_row r0, c8_push L S i z _ hlt HE.out.1 z256 rfl])
      have HX := box hx
      have HY := box hy2
      have dl : decide (i < L) = true := decide_eq_true hlt
      have hcase : (decide (q < 0) = true ∧ g = 1) ∨ (decide (q < 0) = false ∧ g = 0) := by
        rw [decide_eq_true_iff, decide_eq_false_iff_not]
        split at hg <;> omega
      clear hx hy2 hq hz2 hg NE hzz
      rcases hcase with ⟨dq, rfl⟩ | ⟨dq, rfl⟩
      all_goals
        go_wp2_with fail
        refine (nat_at a i x s HS.out HX.out NA.out _).mono ?_
        rintro e w' ⟨rfl, rfl⟩
        go_wp2_with fail
        refine (nat_at b i y t HT.out HY.out NB.out _).mono ?_
        rintro e w' ⟨rfl, rfl⟩
        go_wp2
        go_roundw
        case rel => exact ⟨i + 1, _, _, by omega, (by first | exact (by decide : 1 < 2) | exact (by decide : 0 < 2)), by first | rfl | go_num, by go_num, RS.out, hbw.setCell (Nat.le_refl _) _, NX⟩
        case measure => simp [intOf] <;> omega
    · obtain rfl : i = L := by omega
      have e := nsub_end a b S i c HBA.out LA.out HE.out.1 HE.out.2
      subst e
      have FX := box HE.out.1
      clear HE
      have dl : decide (i < i) = false := by rw [decide_eq_false_iff_not]; omega
      go_wp2_with fail
      refine (nat_fit i (a - b) w.heap.size i v (by omega) FX.out HV.out _ r0).mono ?_
      rintro e w' ⟨rfl, hb2⟩
      go_wp2
      go_ret
      exact ⟨rfl, hbw.trans (hb2.mono hbw.size)⟩

theorem ndbl_step (a o S i c t : Nat) (hE : S + 2 ^ (8 * i) * c = 2 * (a % 2 ^ (8 * i)) + o) (ht : c + 2 * d8 a i = t) :
    S + 2 ^ (8 * i) * (t % 256) + 2 ^ (8 * (i + 1)) * (t / 256) = 2 * (a % 2 ^ (8 * (i + 1))) + o := by
  rw [pow8, carry_step, ← pow8, mod_d8, ← ht, Nat.mul_add, Nat.mul_add 2, Nat.mul_left_comm]
  omega

set_option maxHeartbeats 1000000 in
theorem nat_double (a o : Nat) (s v : ByteArray) (hs : nbA a = s) (ho : o < 2) (hv : nbA (2 * a + o) = v) (ha : nl a ≤ 20000) (w : World) :
    Calls Tryz.prog 194 #[.string s, .int .i64 (o : Nat)] w fun e w' => e = .returned (.string v) ∧ Below w.heap.size w w' := by
  obtain ⟨L, hL⟩ : ∃ L, nl a = L := ⟨_, rfl⟩
  obtain ⟨N, hN⟩ : ∃ N, L + 1 = N := ⟨_, rfl⟩
  have hz : s.size = L := by rw [← hs, nbA_size, hL]
  have la := nl_lt a
  rw [hL] at la ha
  have LA : Box (a < 2 ^ (8 * N)) := box (Nat.lt_of_lt_of_le la (pow8_le _ _ (by omega)))
  have LAB : Box (2 * a + o < 2 ^ (8 * N)) := box (by rw [← hN, pow8]; omega)
  have HS := box hs
  have HV := box hv
  have NA : Box (nl a ≤ 100000) := box (by omega)
  have hmk := c8_makeI N ((L : Int) + 1) (by omega) (by omega)
  clear hs hv hL la
  go_enter Tryz.func194, Tryz.ntmps194
  go_wp2
  clear hmk
  go_loopw [6, 7] (fun cv iv wr => ∃ (i c S : Nat), i ≤ N ∧ c < 2 ∧ cv = .int .i64 c ∧ iv = .int .i64 i ∧ wr.heap[w.heap.size]? = some (.cells (c8 N S) 5) ∧ Below w.heap.size w wr ∧ Box (S < 2 ^ (8 * i) ∧ S + 2 ^ (8 * i) * c = 2 * (a % 2 ^ (8 * i)) + o)) (fun _ iv _ => N - (intOf iv).toNat)
  case atStart => exact ⟨0, o, 0, by omega, ho, rfl, rfl, heap_alloc_last _ _, (Below.refl _ _).alloc (Nat.le_refl _) _, box ⟨by decide, by simp [Nat.mod_one]⟩⟩
  case round =>
    obtain ⟨i, c, S, hi, hc, rfl, rfl, r0, hbw, HE⟩ := hrel
    by_cases hlt : i < N
    · obtain ⟨x, hx⟩ : ∃ x, d8 a i = x := ⟨_, rfl⟩
      have x256 : x < 256 := by rw [← hx]; exact d8_lt a i
      obtain ⟨q, hq⟩ : ∃ q, c + 2 * x = q := ⟨_, rfl⟩
      obtain ⟨z, hz2⟩ : ∃ z, q % 256 = z := ⟨_, rfl⟩
      obtain ⟨g, hg⟩ : ∃ g, q / 256 = g := ⟨_, rfl⟩
      have NE := ndbl_step a o S i c q HE.out.2 (by rw [hx]; exact hq)
      rw [hz2, hg] at NE
      have z256 : z < 256 := by omega
      have NX : Box (S + 2 ^ (8 * i) * z < 2 ^ (8 * (i + 1)) ∧ S + 2 ^ (8 * i) * z + 2 ^ (8 * (i + 1)) * g = 2 * (a % 2 ^ (8 * (i + 1))) + o) := box ⟨push8_lt S i z HE.out.1 z256, NE⟩
      have g2 : g < 2 := by omega
      have n1 : IntKind.i64.wrap (2 * (x : Int)) = 2 * (x : Int) := wrap_i64_is _ (by omega) (by omega)
      have n3 : IntKind.i64.wrap ((c : Int) + 2 * (x : Int)) = (q : Int) := by rw [wrap_i64_is _ (by omega) (by omega)]; omega
      have n4 := wrap_u8_is q z hz2
      have n5 : (q : Int) / 256 = (g : Int) := by omega
      have c1 := c8_cell r0 hlt
      have f0 := fz (k := i) r0
      have RS : Box ((wr.setCell ⟨w.heap.size, i, none⟩ (.int .u8 (z : Int))).heap[w.heap.size]? = some (.cells (c8 N (S + 2 ^ (8 * i) * z)) 5)) := box (by rw [setCell_row r0, c8_push N S i z _ hlt HE.out.1 z256 rfl])
      have HX := box hx
      have dl : decide (i ≤ L) = true := by rw [decide_eq_true_iff]; omega
      clear hx hq hz2 hg NE
      go_wp2_with fail
      refine (nat_at a i x s HS.out HX.out NA.out _).mono ?_
      rintro e w' ⟨rfl, rfl⟩
      go_wp2
      go_roundw
      case rel => exact ⟨i + 1, g, _, by omega, g2, by first | rfl | go_num, by go_num, RS.out, hbw.setCell (Nat.le_refl _) _, NX⟩
      case measure => simp [intOf] <;> omega
    · obtain rfl : i = N := by omega
      have e : S = 2 * a + o := by
        have h := HE.out.2
        rw [Nat.mod_eq_of_lt LA.out] at h
        have h2 := LAB.out
        by_cases hc0 : c = 0
        · rw [hc0] at h; omega
        · have : 2 ^ (8 * i) * 1 ≤ 2 ^ (8 * i) * c := Nat.mul_le_mul_left _ (by omega)
          omega
      subst e
      have FX := box HE.out.1
      clear HE
      have dl : decide (i ≤ L) = false := by rw [decide_eq_false_iff_not]; omega
      go_wp2_with fail
      refine (nat_fit i (2 * a + o) w.heap.size i v (by omega) FX.out HV.out _ r0).mono ?_
      rintro e w' ⟨rfl, hb2⟩
      go_wp2
      go_ret
      exact ⟨rfl, hbw.trans (hb2.mono hbw.size)⟩

theorem nat_bit (a i : Nat) (s : ByteArray) (o : Nat) (hs : nbA a = s) (ho : (a.testBit i).toNat = o) (ha : nl a ≤ 100000) (hi : i ≤ 10000000) (w : World) :
    Calls Tryz.prog 195 #[.string s, .int .i64 (i : Nat)] w fun e w' => e = .returned (.int .i64 (o : Nat)) ∧ w' = w := by
  obtain ⟨q, hq⟩ : ∃ q, q = i / 8 := ⟨_, rfl⟩
  obtain ⟨r, hr⟩ : ∃ r, r = i % 8 := ⟨_, rfl⟩
  have q1 : (i : Int) / 8 = (q : Int) := by omega
  have r1 : (i : Int) % 8 = (r : Int) := by omega
  have r8 : r < 8 := by omega
  obtain ⟨x, hx⟩ : ∃ x, d8 a q = x := ⟨_, rfl⟩
  have x256 : x < 256 := by rw [← hx]; exact d8_lt a q
  have e : x / 2 ^ r % 2 = o := by rw [← ho, ← hx, hq, hr, bit_of_d8, testBit_toNat]
  have hb : bits .and .i64 ((x : Int) / 2 ^ r) 1 = (o : Int) := by
    obtain ⟨y, hy⟩ : ∃ y, x / 2 ^ r = y := ⟨_, rfl⟩
    have e2 : (x : Int) / 2 ^ r = (y : Int) := by rw [← hy]; exact div_cast x r
    have y256 : y < 256 := by rw [← hy]; exact Nat.lt_of_le_of_lt (Nat.div_le_self _ _) x256
    rw [e2]
    show IntKind.i64.wrap ((BitVec.ofInt 64 (y : Int) &&& BitVec.ofInt 64 1).toNat : Int) = _
    have h1 : (BitVec.ofInt 64 1).toNat = 2 ^ 1 - 1 := by decide
    have h2 : (BitVec.ofInt 64 (y : Int)).toNat = y := by simp; omega
    rw [BitVec.toNat_and, h1, Nat.and_two_pow_sub_one_eq_mod, h2, wrap_i64_is _ (by omega) (by omega), ← e, hy]
  have HX := box hx
  clear hq hr hx e ho
  go_enter Tryz.func195, Tryz.ntmps195
  go_wp2_with fail
  refine (nat_at a q x s hs HX.out ha _).mono ?_
  rintro e w' ⟨rfl, rfl⟩
  go_wp2
  go_ret
  exact ⟨rfl, rfl⟩
end Go.Proofs.YtbmhfcppaajgbaaGreatDoor
namespace Go.Proofs.YtbmhfcppaajgbaaGreatDoor
set_option maxRecDepth 100000
open Go.RowKit WMath

/-- A result, or that it is too long. -/
def lg (x : Nat) : ByteArray × Int := if nl x ≤ 16384 then (nbA x, 0) else (⟨#[]⟩, 4)
/-- A difference, or that there is none. -/
def sb (a b : Nat) : ByteArray × Int := if a < b then (⟨#[]⟩, 2) else (nbA (a - b), 0)

end Go.Proofs.YtbmhfcppaajgbaaGreatDoor
namespace Go.Proofs.YtbmhfcppaajgbaaGreatDoor
set_option maxRecDepth 100000
open Go.RowKit WMath

theorem blen_nl (n L x : Nat) (h : n ≠ 0) (hL : nl n = L) (hx : d8 n (L - 1) = x) : 8 * (L - 1) + blen x = blen n := by
  have hp := nl_pos n h
  have ht := nl_top n h
  have hl := nl_lt n
  rw [hL] at hp ht hl
  rw [hx] at ht
  obtain ⟨k, rfl⟩ : ∃ k, L = k + 1 := ⟨L - 1, by omega⟩
  rw [Nat.add_sub_cancel] at hx ⊢
  have e := mod_d8 n k
  rw [Nat.mod_eq_of_lt hl, hx] at e
  rw [e, blen_push _ _ _ (Nat.mod_lt _ (Nat.two_pow_pos _)) ht]

theorem nat_Len (n l : Nat) (s : ByteArray) (hs : nbA n = s) (h : nl n ≤ 16384) (hl : blen n = l) (w : World) :
    Calls Tryz.prog 107 #[.string s] w fun r w' => r = .returned (.int .i64 (l : Nat)) ∧ w' = w := by
  obtain ⟨L, hL⟩ : ∃ L, nl n = L := ⟨_, rfl⟩
  have hz : s.size = L := by rw [← hs, nbA_size, hL]
  have hm : mayB s = true := by rw [← hs]; exact mayB_nb n h
  have HM := box hm
  have d2 := eq_empty s
  rw [hL] at h
  by_cases h0 : n = 0
  · have e : l = 0 := by rw [← hl, h0]; rfl
    have e2 : L = 0 := by rw [← hL, h0]; exact nl_zero
    subst e
    rw [decide_eq_true (by omega)] at d2
    clear hs hl hL hm h0
    go_enter Tryz.func107, Tryz.ntmps107
    go_wp2_with fail
    refine (nat_may s true HM.out _).mono ?_
    rintro r w' ⟨rfl, rfl⟩
    go_wp2
    go_ret
    exact ⟨rfl, rfl⟩
  · have hp := nl_pos n h0
    rw [hL] at hp
    rw [decide_eq_false (by omega)] at d2
    have hp2 : 0 < s.size := by omega
    obtain ⟨x, hx⟩ : ∃ x, (s[0]'hp2).toNat = x := ⟨_, rfl⟩
    have hxd : d8 n (L - 1) = x := by
      rw [← hx]
      subst hs
      rw [nbA_get, hL]
      rfl
    have x256 : x < 256 := by rw [← hxd]; exact d8_lt _ _
    have hb := blen_nl n L x h0 hL hxd
    obtain ⟨y, hy⟩ : ∃ y, blen x = y := ⟨_, rfl⟩
    rw [hy, hl] at hb
    have y8 : y ≤ 8 := by rw [← hy]; exact blen_le_of x 8 (by rw [← two8]; exact x256)
    have HY := box hy
    have hi := idx_run s 0 0 x rfl hp2 hx
    have n1 : IntKind.i64.wrap ((L : Int) - 1) = (L : Int) - 1 := wrap_i64_is _ (by omega) (by omega)
    have n2 : IntKind.i64.wrap (8 * ((L : Int) - 1)) = 8 * ((L : Int) - 1) := wrap_i64_is _ (by omega) (by omega)
    have n3 : IntKind.i64.wrap (8 * ((L : Int) - 1) + (y : Int)) = (l : Int) := by rw [wrap_i64_is _ (by omega) (by omega)]; omega
    have n4 : IntKind.u64.wrap (x : Int) = (x : Int) := by rw [IntKind.wrap_u64]; omega
    have X64 : Box (x < 18446744073709551616) := box (by omega)
    clear hs hl hL hm h0 hxd hb hy hx
    go_enter Tryz.func107, Tryz.ntmps107
    go_wp2_with fail
    refine (nat_may s true HM.out _).mono ?_
    rintro r w' ⟨rfl, rfl⟩
    go_wp2_with fail
    refine (rlen_is x y X64.out HY.out _).mono ?_
    rintro r w' ⟨rfl, rfl⟩
    go_wp2
    go_ret
    exact ⟨rfl, rfl⟩

/-- t is the place of the lowest bit of n that is 1. -/
def LowB (n t : Nat) : Prop := n % 2 ^ t = 0 ∧ n.testBit t = true
theorem lowB_one (n s t : Nat) (h : LowB n s) (g : LowB n t) : s = t := by
  have hlt : ∀ a b, LowB n a → LowB n b → ¬ a < b := by
    intro a b ha hb hab
    have h1 := Nat.testBit_mod_two_pow n b a
    rw [hb.1, ha.2] at h1
    simp [hab] at h1
  have h1 := hlt s t h g
  have h2 := hlt t s g h
  omega
theorem lowB_ex : ∀ (k n : Nat), n ≠ 0 → n < 2 ^ k → ∃ t, t < k ∧ LowB n t
  | 0, n, h, hn => by rw [Nat.pow_zero] at hn; omega
  | k + 1, n, h, hn => by
    by_cases h2 : n % 2 = 0
    · obtain ⟨t, h3, h4, h5⟩ := lowB_ex k (n / 2) (by omega) (by rw [Nat.pow_succ] at hn; omega)
      refine ⟨t + 1, by omega, ?_, ?_⟩
      · rw [Nat.pow_succ, Nat.mul_comm, Nat.mod_mul, h2, h4]
      · rw [Nat.testBit_succ]; exact h5
    · exact ⟨0, by omega, by rw [Nat.pow_zero, Nat.mod_one], by rw [Nat.testBit_zero]; simp; omega⟩
theorem lowB_any (n : Nat) (h : n ≠ 0) : ∃ t, LowB n t := by
  obtain ⟨t, _, ht⟩ := lowB_ex _ n h (blen_lt n)
  exact ⟨t, ht⟩
theorem lowB_d8 (n i r : Nat) (h0 : n % 2 ^ (8 * i) = 0) (h : LowB (d8 n i) r) (hr : r < 8) : LowB n (8 * i + r) := by
  have hb := d8_bit n i r
  refine ⟨?_, ?_⟩
  · rw [Nat.pow_add, Nat.mod_mul, h0, Nat.zero_add]
    have h1 := h.1
    unfold d8 at h1
    rw [two8, Nat.mod_mod_of_dvd _ (Nat.pow_dvd_pow 2 (by omega : r ≤ 8))] at h1
    rw [h1, Nat.mul_zero]
  · rw [h.2, decide_eq_true hr, Bool.true_and] at hb
    exact hb.symm

/-- The place of the lowest bit, 0 of 0. -/
def LowN (n t : Nat) : Prop := (n = 0 ∧ t = 0) ∨ (n ≠ 0 ∧ LowB n t)
theorem nat_Low (n t : Nat) (s : ByteArray) (hs : nbA n = s) (h : nl n ≤ 16384) (ht : LowN n t) (w : World) :
    Calls Tryz.prog 112 #[.string s] w fun r w' => r = .returned (.int .i64 (t : Nat)) ∧ w' = w := by
  obtain ⟨L, hL⟩ : ∃ L, nl n = L := ⟨_, rfl⟩
  have hz : s.size = L := by rw [← hs, nbA_size, hL]
  have hm : mayB s = true := by rw [← hs]; exact mayB_nb n h
  have HM := box hm
  rw [hL] at h
  have HS := box hs
  have HT := box ht
  have HL := box hL
  have NA : Box (nl n ≤ 100000) := box (by omega)
  clear hs hL hm ht
  go_enter Tryz.func112, Tryz.ntmps112
  go_wp2_with fail
  refine (nat_may s true HM.out _).mono ?_
  rintro r w' ⟨rfl, rfl⟩
  go_wp2
  go_loop [3] (fun iv => ∃ i : Nat, i ≤ L ∧ iv = .int .i64 i ∧ Box (n % 2 ^ (8 * i) = 0)) (fun iv => L - (intOf iv).toNat)
  case atStart => exact ⟨0, by omega, rfl, box (by rw [Nat.mul_zero, Nat.pow_zero, Nat.mod_one])⟩
  case round =>
    obtain ⟨i, hi, rfl, HE⟩ := hrel
    by_cases hlt : i < L
    · obtain ⟨x, hx⟩ : ∃ x, d8 n i = x := ⟨_, rfl⟩
      have x256 : x < 256 := by rw [← hx]; exact d8_lt _ _
      have dl : decide (i < L) = true := decide_eq_true hlt
      have HX := box hx
      by_cases h0 : x = 0
      · have y : ((x : Int) != 0) = false := by rw [h0]; rfl
        have NX : Box (n % 2 ^ (8 * (i + 1)) = 0) := box (by rw [mod_d8, HE.out, hx, h0, Nat.mul_zero])
        clear hx h0
        go_wp2_with fail
        refine (nat_at n i x s HS.out HX.out NA.out _).mono ?_
        rintro r w' ⟨rfl, rfl⟩
        go_wp2
        go_round
        case rel => exact ⟨i + 1, by omega, by go_num, NX⟩
        case measure => simp [intOf] <;> omega
      · have y : ((x : Int) != 0) = true := by simp; omega
        obtain ⟨r, hr8, hr⟩ := lowB_ex 8 x h0 (by rw [← two8]; exact x256)
        have LI : Box (LowIs x r) := box ⟨by omega, hr.1, hr.2⟩
        have e : 8 * i + r = t := by
          have h1 := lowB_d8 n i r HE.out (by rw [hx]; exact hr) hr8
          rcases HT.out with ⟨h2, h3⟩ | ⟨h2, h3⟩
          · exact absurd (show x = 0 by rw [← hx, h2, d8_zero]) h0
          · exact lowB_one n _ _ h1 h3
        have n2 : IntKind.i64.wrap (8 * (i : Int)) = 8 * (i : Int) := wrap_i64_is _ (by omega) (by omega)
        have n3 : IntKind.i64.wrap (8 * (i : Int) + (r : Int)) = (t : Int) := by rw [wrap_i64_is _ (by omega) (by omega)]; omega
        have n4 : IntKind.u64.wrap (x : Int) = (x : Int) := by rw [IntKind.wrap_u64]; omega
        have X64 : Box (x < 18446744073709551616) := box (by omega)
        clear hx hr e h0
        go_wp2_with fail
        refine (nat_at n i x s HS.out HX.out NA.out _).mono ?_
        rintro r w' ⟨rfl, rfl⟩
        go_wp2_with fail
        refine (nat_at n i x s HS.out HX.out NA.out _).mono ?_
        rintro r w' ⟨rfl, rfl⟩
        go_wp2_with fail
        refine (rlow_any x r X64.out LI.out _).mono ?_
        rintro r w' ⟨rfl, rfl⟩
        go_wp2
        go_ret
        exact ⟨rfl, rfl⟩
    · obtain rfl : i = L := by omega
      have e : t = 0 := by
        have h1 := HE.out
        rw [Nat.mod_eq_of_lt (by rw [← HL.out]; exact nl_lt n)] at h1
        rcases HT.out with ⟨h2, h3⟩ | ⟨h2, h3⟩
        · exact h3
        · exact absurd h1 h2
      subst e
      have dl : decide (i < i) = false := by rw [decide_eq_false_iff_not]; omega
      go_wp2
      go_ret
      exact ⟨rfl, rfl⟩

theorem Q48 : ∃ L, L = 48 ∧ Q = 2 ^ (8 * L) := by
  obtain ⟨L, hL, hQ⟩ := Q_of
  exact ⟨8 * L, by omega, by rw [hQ]; congr 1; omega⟩

theorem toWide_step (n i q r x : Nat) (hq : q = i / 8) (hr : r = 8 * (i % 8)) (hx : d8 n i = x) : n % 2 ^ (8 * i) ||| x * 2 ^ r * 2 ^ (64 * q) = n % 2 ^ (8 * (i + 1)) := by
  rw [Nat.mul_assoc, ← Nat.pow_add, show r + 64 * q = 8 * i by omega, mod_d8, hx, Nat.mul_comm (2 ^ (8 * i)) x]
  exact (or_disj _ _ _ (Nat.mod_lt _ (Nat.two_pow_pos _))).symm

theorem trows2 (w : World) : RowsL w ((w.alloc (.cells (cw 6 0) 74)).alloc (.cells (cw 6 0) 74)) [0, 0] := rowsL_new (rowsL_new (rowsL_nil w) rfl 0) (by simp) 0

end Go.Proofs.YtbmhfcppaajgbaaGreatDoor
namespace Go.Proofs.YtbmhfcppaajgbaaGreatDoor
set_option maxRecDepth 100000
open Go.RowKit WMath

theorem lg_ok (n : Nat) (v : ByteArray) (h : nl n ≤ 16384) (hv : nbA n = v) : lg n = (v, 0) := by unfold lg; rw [if_pos h, hv]

end Go.Proofs.YtbmhfcppaajgbaaGreatDoor
namespace Go.Proofs.YtbmhfcppaajgbaaGreatDoor
set_option maxRecDepth 100000
open Go.RowKit WMath

/-- What is moved to the left, or that it is too long, or that the count is below 0. -/
def lf (a : Nat) (n : Int) : ByteArray × Int := if n < 0 then (⟨#[]⟩, 2) else lg (a * 2 ^ n.toNat)

theorem lost_low (a n t : Nat) (h : LowB a t) : (a % 2 ^ n ≠ 0) ↔ t < n := by
  constructor
  · intro h1
    rcases Nat.lt_or_ge t n with h2 | h2
    · exact h2
    · exfalso
      apply h1
      obtain ⟨d, hd⟩ := Nat.dvd_of_mod_eq_zero h.1
      apply Nat.mod_eq_zero_of_dvd
      refine Nat.dvd_trans (Nat.pow_dvd_pow 2 h2) ?_
      exact ⟨d, hd⟩
  · intro h1 h2
    have h3 := Nat.testBit_mod_two_pow a n t
    rw [h2, h.2, decide_eq_true h1, Nat.zero_testBit] at h3
    cases h3

theorem right_byte (a i n q r p x y t z : Nat) (hq : q = n / 8) (hr : r = n % 8) (hp : p = i + q) (hx : d8 a p = x) (hy : d8 a (p + 1) = y) (ht : x + 256 * y = t) (hz : t / 2 ^ r % 256 = z) : d8 (a / 2 ^ n) i = z := by
  have e1 : t = a / 2 ^ (8 * p) % 2 ^ 16 := by
    rw [← ht, ← hx, ← hy]
    unfold d8
    rw [pow8, ← Nat.div_div_eq_div_mul]
    omega
  have e2 : a / 2 ^ n / 2 ^ (8 * i) = a / 2 ^ (8 * p) / 2 ^ r := by
    rw [Nat.div_div_eq_div_mul, ← Nat.pow_add, Nat.div_div_eq_div_mul, ← Nat.pow_add]
    congr 2
    omega
  unfold d8
  rw [e2, ← hz, e1]
  generalize a / 2 ^ (8 * p) = A
  rw [two8]
  have e3 : A % 2 ^ 16 = A % 2 ^ (r + (16 - r)) := by congr 2; omega
  rw [e3, Nat.pow_add, Nat.mod_mul_right_div_self, Nat.mod_mod_of_dvd]
  exact Nat.pow_dvd_pow 2 (by omega)

set_option maxHeartbeats 2000000 in
set_option maxRecDepth 100000 in
theorem nat_Right (a : Nat) (n : Int) (s v : ByteArray) (o : Bool) (hs : nbA a = s) (ha : nl a ≤ 16384) (h0 : 0 ≤ n) (hn : n ≤ 9223372036854775807) (hv : nbA (a / 2 ^ n.toNat) = v) (ho : decide (a % 2 ^ n.toNat ≠ 0) = o) (w : World) :
    Calls Tryz.prog 113 #[.string s, .int .i64 n] w fun r w' => r = .returned (.tuple #[.string v, .bool o, .int .i64 0]) ∧ Below w.heap.size w w' := by
  obtain ⟨n, rfl⟩ : ∃ m : Nat, n = (m : Int) := ⟨n.toNat, by omega⟩
  rw [Int.toNat_natCast] at hv ho
  have c0 : decide ((n : Int) < 0) = false := by rw [decide_eq_false_iff_not]; omega
  obtain ⟨L, hL⟩ : ∃ L, nl a = L := ⟨_, rfl⟩
  have hz : s.size = L := by rw [← hs, nbA_size, hL]
  have d2 := eq_empty s
  by_cases ha0 : a = 0
  · subst ha0
    rw [Nat.zero_div, nbA_zero] at hv
    rw [Nat.zero_mod] at ho
    subst hv ho
    rw [decide_eq_true (by rw [hz, ← hL, nl_zero])] at d2
    clear hs hz hL
    go_enter Tryz.func113, Tryz.ntmps113
    go_wp2
    exact bodyPost_ret (v := .tuple #[.string ⟨#[]⟩, .bool false, .int .i64 0]) (by simp [results, Tryz.results113, go_sem]) rfl ⟨rfl, Below.refl _ _⟩
  · have hp := nl_pos a ha0
    have la := nl_lt a
    rw [hL] at hp la ha
    rw [decide_eq_false (by omega)] at d2
    obtain ⟨t, ht⟩ := lowB_any a ha0
    have hlo := lost_low a n t ht
    have hLN : LowN a t := Or.inr ⟨ha0, ht⟩
    have e1 : decide (t < n) = o := by rw [← ho]; exact decide_eq_decide.2 hlo.symm
    have HS := box hs
    have HA : Box (nl a ≤ 16384) := box (by omega)
    have HN := box hLN
    have NA : Box (nl a ≤ 100000) := box (by omega)
    have n0 : IntKind.i64.wrap (8 * (L : Int)) = 8 * (L : Int) := wrap_i64_is _ (by omega) (by omega)
    have LA := box la
    by_cases hb : 8 * L ≤ n
    · have c1 : decide (8 * (L : Int) ≤ (n : Int)) = true := by rw [decide_eq_true_iff]; omega
      have ev : v = ⟨#[]⟩ := by
        rw [← hv, Nat.div_eq_of_lt (Nat.lt_of_lt_of_le la (Nat.pow_le_pow_right (by decide) hb)), nbA_zero]
      subst ev
      clear hs hL hv ho ht hlo hLN hb la ha0
      go_enter Tryz.func113, Tryz.ntmps113
      go_wp2_with fail
      refine (nat_Low a t s HS.out HA.out HN.out _).mono ?_
      rintro e w' ⟨rfl, rfl⟩
      go_wp2
      exact bodyPost_ret (v := .tuple #[.string ⟨#[]⟩, .bool o, .int .i64 0]) (by simp [results, Tryz.results113, go_sem]) rfl ⟨rfl, Below.refl _ _⟩
    · have c1 : decide (8 * (L : Int) ≤ (n : Int)) = false := by rw [decide_eq_false_iff_not]; omega
      obtain ⟨q, hq⟩ : ∃ q, q = n / 8 := ⟨_, rfl⟩
      obtain ⟨r, hr⟩ : ∃ r, r = n % 8 := ⟨_, rfl⟩
      obtain ⟨m, hm⟩ : ∃ m, L - q = m := ⟨_, rfl⟩
      obtain ⟨b, hb2⟩ : ∃ b, a / 2 ^ n = b := ⟨_, rfl⟩
      have q1 : (n : Int) / 8 = (q : Int) := by omega
      have r1 : (n : Int) % 8 = (r : Int) := by omega
      have r8 : r < 8 := by omega
      have m1 : (L : Int) - (q : Int) = (m : Int) := by omega
      have bm : b < 2 ^ (8 * m) := by
        rw [← hb2, Nat.div_lt_iff_lt_mul (Nat.two_pow_pos _), ← Nat.pow_add]
        exact Nat.lt_of_lt_of_le la (Nat.pow_le_pow_right (by decide) (by omega))
      have HB := box hb2
      have BM := box bm
      have HQ := box hq
      have HR := box hr
      rw [hb2] at hv
      have HV := box hv
      have hmk := c8_make m (by omega)
      have m2 : m ≤ 16384 := by omega
      have q2 : q ≤ 16384 := by omega
      have qm : q + m = L := by omega
      have L2 : L ≤ 16384 := by omega
      clear hs hL hv ho ht hlo hLN hb la ha0 hq hr hm hb2 bm
      go_enter Tryz.func113, Tryz.ntmps113
      go_wp2_with fail
      refine (nat_Low a t s HS.out HA.out HN.out _).mono ?_
      rintro e w' ⟨rfl, hw'⟩
      subst hw'
      go_wp2
      clear hmk c0 c1 d2 e1
      go_loopw [10] (fun iv wr => ∃ i : Nat, i ≤ m ∧ iv = .int .i64 i ∧ wr.heap[w'.heap.size]? = some (.cells (c8 m (b % 2 ^ (8 * i))) 5) ∧ Below w'.heap.size w' wr) (fun iv _ => m - (intOf iv).toNat)
      case atStart => exact ⟨0, by omega, rfl, by rw [Nat.mul_zero, Nat.pow_zero, Nat.mod_one]; exact heap_alloc_last _ _, (Below.refl _ _).alloc (Nat.le_refl _) _⟩
      case round =>
        obtain ⟨i, hi, rfl, r0, hbw⟩ := hrel
        by_cases hlt : i < m
        · obtain ⟨p, hp2⟩ : ∃ p, p = i + q := ⟨_, rfl⟩
          obtain ⟨p1, hp1⟩ : ∃ p1, p1 = p + 1 := ⟨_, rfl⟩
          obtain ⟨x, hx⟩ : ∃ x, d8 a p = x := ⟨_, rfl⟩
          obtain ⟨y, hy⟩ : ∃ y, d8 a p1 = y := ⟨_, rfl⟩
          have x256 : x < 256 := by rw [← hx]; exact d8_lt _ _
          have y256 : y < 256 := by rw [← hy]; exact d8_lt _ _
          obtain ⟨u, hu⟩ : ∃ u, x + 256 * y = u := ⟨_, rfl⟩
          obtain ⟨z, hz2⟩ : ∃ z, u / 2 ^ r % 256 = z := ⟨_, rfl⟩
          have z256 : z < 256 := by rw [← hz2]; exact Nat.mod_lt _ (by decide)
          have e1 := right_byte a i n q r p x y u z HQ.out HR.out hp2 hx (by rw [← hp1]; exact hy) hu hz2
          rw [HB.out] at e1
          have pi : (i : Int) + (q : Int) = (p : Int) := by omega
          have pi1 : (p : Int) + 1 = (p1 : Int) := by omega
          obtain ⟨Y, hY⟩ : ∃ Y, 256 * y = Y := ⟨_, rfl⟩
          have n3 : (y : Int) * 256 = (Y : Int) := by omega
          have n4 : IntKind.i64.wrap (Y : Int) = (Y : Int) := wrap_i64_is _ (by omega) (by omega)
          have n5 : bits .or .i64 (x : Int) (Y : Int) = (u : Int) := by
            show IntKind.i64.wrap ((BitVec.ofInt 64 (x : Int) ||| BitVec.ofInt 64 (Y : Int)).toNat : Int) = _
            have h1 : (BitVec.ofInt 64 (x : Int)).toNat = x := by simp; omega
            have h2 : (BitVec.ofInt 64 (Y : Int)).toNat = Y := by simp; omega
            have h3 : x ||| Y = x + Y := by
              have := or_disj x y 8 (by rw [← two8]; exact x256)
              rw [← two8, Nat.mul_comm y, hY] at this
              exact this.symm
            rw [BitVec.toNat_or, h1, h2, h3, show x + Y = u by omega, wrap_i64_is _ (by omega) (by omega)]
          have n6 : IntKind.u8.wrap ((u : Int) / 2 ^ r) = (z : Int) := by
            rw [div_cast]
            exact wrap_u8_is _ z hz2
          have k1 := c8_cell r0 hlt
          have k2 := fz (k := i) r0
          have RS : Box ((wr.setCell ⟨w'.heap.size, i, none⟩ (.int .u8 (z : Int))).heap[w'.heap.size]? = some (.cells (c8 m (b % 2 ^ (8 * (i + 1)))) 5)) := box (by rw [setCell_row r0, c8_push m _ i z _ hlt (Nat.mod_lt _ (Nat.two_pow_pos _)) z256 rfl, mod_d8, e1])
          have HX := box hx
          have HY := box hy
          have dl : decide (i < m) = true := decide_eq_true hlt
          clear hp2 hp1 hx hy hu hz2 e1 hY
          go_wp2_with fail
          refine (nat_at a p x s HS.out HX.out NA.out _).mono ?_
          rintro e w2 ⟨rfl, rfl⟩
          go_wp2_with fail
          refine (nat_at a p1 y s HS.out HY.out NA.out _).mono ?_
          rintro e w2 ⟨rfl, rfl⟩
          go_wp2
          go_roundw
          case rel => exact ⟨i + 1, by omega, by go_num, RS.out, hbw.setCell (Nat.le_refl _) _⟩
          case measure => simp [intOf] <;> omega
        · obtain rfl : i = m := by omega
          have dl : decide (i < i) = false := by rw [decide_eq_false_iff_not]; omega
          rw [Nat.mod_eq_of_lt BM.out] at r0
          go_wp2_with fail
          refine (nat_fit i b w'.heap.size i v (by omega) BM.out HV.out _ r0).mono ?_
          rintro e w2 ⟨rfl, hb2⟩
          go_wp2
          exact bodyPost_ret (v := .tuple #[.string v, .bool o, .int .i64 0]) (by simp [results, Tryz.results113, go_sem]) rfl ⟨rfl, hbw.trans (hb2.mono hbw.size)⟩

end Go.Proofs.YtbmhfcppaajgbaaGreatDoor
namespace Go.Proofs.YtbmhfcppaajgbaaGreatDoor
set_option maxRecDepth 100000
open Go.RowKit WMath

/-- Ahead of the bit at k - 1: the quotient so far, and what is left. -/
def NdivSt (a b k q r : Nat) : Prop := a / 2 ^ k = b * (q / 2 ^ k) + r ∧ r < b ∧ q % 2 ^ k = 0
theorem ndiv_start (a b k r : Nat) (hr : a / 2 ^ k = r) (h : r < b) : NdivSt a b k 0 r := ⟨by rw [Nat.zero_div, Nat.mul_zero, Nat.zero_add]; exact hr, h, Nat.zero_mod _⟩
theorem ndiv_step (a b k q r x : Nat) (S : NdivSt a b (k + 1) q r) (hx : 2 * r + (a.testBit k).toNat = x) :
    (x < b → NdivSt a b k q x) ∧ (b ≤ x → NdivSt a b k (q ||| 2 ^ k) (x - b)) := by
  obtain ⟨h1, h2, h3⟩ := S
  have hb := bit_nat a k
  rw [h1] at hb
  have ht : (a.testBit k).toNat ≤ 1 := by cases a.testBit k <;> decide
  have hd : 2 ^ (k + 1) ∣ q := Nat.dvd_of_mod_eq_zero h3
  have e0 : q / 2 ^ k = 2 * (q / 2 ^ (k + 1)) := by
    obtain ⟨c, rfl⟩ := hd
    rw [Nat.mul_div_cancel_left _ (Nat.two_pow_pos _), Nat.pow_succ, Nat.mul_assoc, Nat.mul_div_cancel_left _ (Nat.two_pow_pos _)]
  have h4 : q % 2 ^ k = 0 := Nat.mod_eq_zero_of_dvd (Nat.dvd_trans (Nat.pow_dvd_pow 2 (by omega)) hd)
  have e1 : 2 * (b * (q / 2 ^ (k + 1)) + r) + (a.testBit k).toNat = b * (2 * (q / 2 ^ (k + 1))) + x := by
    rw [← hx, Nat.mul_add, Nat.mul_left_comm]; omega
  refine ⟨fun h => ⟨?_, h, h4⟩, fun h => ⟨?_, by omega, ?_⟩⟩
  · rw [hb, e1, e0]
  · rw [qor_pow q k hd, Nat.add_div_right _ (Nat.two_pow_pos k), e0, hb, e1, Nat.mul_succ]
    omega
  · rw [qor_pow q k hd, Nat.add_mod_right]; exact h4
theorem ndiv_end (a b q r : Nat) (S : NdivSt a b 0 q r) : q = a / b ∧ r = a % b := by
  obtain ⟨h1, h2, _⟩ := S
  rw [Nat.pow_zero, Nat.div_one, Nat.div_one] at h1
  have hb : 0 < b := by omega
  constructor
  · rw [h1, Nat.mul_add_div hb, Nat.div_eq_of_lt h2, Nat.add_zero]
  · rw [h1, Nat.mul_add_mod, Nat.mod_eq_of_lt h2]

theorem nl_twice (b x : Nat) (h : x < 2 * b) : nl x ≤ nl b + 1 := nl_le_of x _ (by
  have := nl_lt b
  rw [pow8]
  omega)
theorem one_bit8 (k q r : Nat) (hq : q = k / 8) (hr : r = k % 8) : 2 ^ r * 2 ^ (8 * q) = 2 ^ k := by
  rw [← Nat.pow_add]; congr 1; omega

set_option maxHeartbeats 4000000 in
set_option maxRecDepth 100000 in
theorem nat_div_big (a b : Nat) (s t qv rv : ByteArray) (hs : nbA a = s) (ht : nbA b = t) (ha : nl a ≤ 16384) (hb0 : b ≠ 0) (hba : b ≤ a) (hq : nbA (a / b) = qv) (hr : nbA (a % b) = rv) (w : World) :
    Calls Tryz.prog 114 #[.string s, .string t] w fun r w' => r = .returned (.tuple #[.string qv, .string rv, .int .i64 0]) ∧ Below w.heap.size w w' := by
  obtain ⟨L, hL⟩ : ∃ L, nl a = L := ⟨_, rfl⟩
  have hz : s.size = L := by rw [← hs, nbA_size, hL]
  have hbl := nl_mono b a hba
  have e2 := eq_empty t
  have hty : t.size = nl b := by rw [← ht, nbA_size]
  have hbp := nl_pos b hb0
  rw [decide_eq_false (by omega)] at e2
  obtain ⟨c, hc⟩ : ∃ c, cmpv a b = c := ⟨_, rfl⟩
  have dc : decide (c < 0) = false := by
    rw [← hc]; unfold cmpv
    by_cases e : a = b
    · rw [if_pos e]; rfl
    · rw [if_neg e, if_neg (by omega)]; rfl
  obtain ⟨n, hn⟩ : ∃ n, blen a = n := ⟨_, rfl⟩
  obtain ⟨m, hm⟩ : ∃ m, blen b = m := ⟨_, rfl⟩
  have mp : 0 < m := by rw [← hm]; exact blen_pos b hb0
  have nm : m ≤ n := by
    rw [← hm, ← hn]
    exact blen_le_of b _ (Nat.lt_of_le_of_lt hba (blen_lt a))
  have n8 : n ≤ 8 * L := by rw [← hn, ← hL]; unfold nl; omega
  obtain ⟨K, hK⟩ : ∃ K : Nat, n - (m - 1) = K := ⟨_, rfl⟩
  obtain ⟨r0, hr0⟩ : ∃ r0, a / 2 ^ K = r0 := ⟨_, rfl⟩
  have r0b : r0 < b := by
    have h1 := blen_lt a
    have h2 := blen_le b hb0
    rw [hn] at h1
    rw [hm] at h2
    have h3 : r0 < 2 ^ (m - 1) := by
      rw [← hr0, Nat.div_lt_iff_lt_mul (Nat.two_pow_pos _), ← Nat.pow_add, show m - 1 + K = n by omega]
      exact h1
    omega
  obtain ⟨R0, hR0⟩ : ∃ R0, nbA (a / 2 ^ ((K : Int).toNat)) = R0 := ⟨_, rfl⟩
  obtain ⟨o, ho⟩ : ∃ o, decide (a % 2 ^ ((K : Int).toNat) ≠ 0) = o := ⟨_, rfl⟩
  have ST0 : Box (NdivSt a b K 0 r0) := box (ndiv_start a b K r0 hr0 r0b)
  have HR0 : Box (nbA r0 = R0) := box (by rw [← hR0, Int.toNat_natCast, hr0])
  have HR1 := box hR0
  have HO := box ho
  have HC := box hc
  have HN := box hn
  have HM := box hm
  have HS := box hs
  have HT := box ht
  have HQ := box hq
  have HR := box hr
  have HA := box ha
  have HB : Box (nl b ≤ 16384) := box (by omega)
  have NA : Box (nl a ≤ 100000) := box (by omega)
  obtain ⟨N, hN⟩ : ∃ N, L + 1 = N := ⟨_, rfl⟩
  have L2 : L ≤ 16384 := by omega
  have hmk := c8_makeI N ((L : Int) + 1) (by omega) (by omega)
  have w1 : IntKind.i64.wrap ((m : Int) - 1) = (m : Int) - 1 := wrap_i64_is _ (by omega) (by omega)
  have w2 : IntKind.i64.wrap ((n : Int) - ((m : Int) - 1)) = (K : Int) := by rw [wrap_i64_is _ (by omega) (by omega)]; omega
  have KI : Box ((K : Int) ≤ 9223372036854775807) := box (by omega)
  have K8 : K ≤ 8 * L := by omega
  have QB : Box (a / b < 2 ^ (8 * N)) := box (Nat.lt_of_le_of_lt (Nat.div_le_self _ _) (Nat.lt_of_lt_of_le (nl_lt a) (pow8_le _ _ (by omega))))
  clear hs ht hq hr hL hn hm hc hr0 hR0 ho hba hbl hb0 hty ha hK mp nm n8 hbp r0b
  go_enter Tryz.func114, Tryz.ntmps114
  go_wp2_with fail
  refine (nat_cmp a b s t c HS.out HT.out HC.out _).mono ?_
  rintro e w' ⟨rfl, hw'⟩
  subst hw'
  go_wp2_with fail
  refine (nat_Len a n s HS.out HA.out HN.out _).mono ?_
  rintro e w3 ⟨rfl, hw3⟩
  subst hw3
  go_wp2_with fail
  refine (nat_Len b m t HT.out HB.out HM.out _).mono ?_
  rintro e w4 ⟨rfl, hw4⟩
  subst hw4
  go_wp2_with fail
  refine (nat_Right a (K : Int) s R0 o HS.out HA.out (by omega) KI.out HR1.out HO.out _).mono ?_
  rintro e w5 ⟨rfl, hb5⟩
  go_wp2
  clear hmk w1 w2 dc e2 HR1 HO HC HN HM KI
  obtain ⟨g, hg⟩ : ∃ g, w5.heap.size = g := ⟨_, rfl⟩
  have g5 : w4.heap.size ≤ g := by rw [← hg]; exact hb5.size
  have B5 : Below w4.heap.size w4 (w5.alloc (.cells (c8 N 0) 5)) := hb5.alloc hb5.size _
  have r5 : (w5.alloc (.cells (c8 N 0) 5)).heap[g]? = some (.cells (c8 N 0) 5) := by rw [← hg]; exact heap_alloc_last _ _
  rw [hg]
  go_loopw [9, 13] (fun rv iv wr => ∃ (k q r : Nat) (R : ByteArray), iv = .int .i64 ((k : Int) - 1) ∧ rv = .string R ∧ k ≤ K ∧ wr.heap[g]? = some (.cells (c8 N q) 5) ∧ Below w4.heap.size w4 wr ∧ Box (nbA r = R) ∧ Box (NdivSt a b k q r)) (fun _ iv _ => (intOf iv + 1).toNat)
  case atStart => exact ⟨K, 0, r0, R0, by first | rfl | go_num, rfl, by omega, r5, B5, HR0, ST0⟩
  case round =>
    clear r5 B5 HR0 ST0 hb5
    obtain ⟨k, q, r, R, rfl, rfl, hk, row, hbw, HRR, HST⟩ := hrel
    by_cases hk0 : k = 0
    · subst hk0
      obtain ⟨e1, e3⟩ := ndiv_end a b q r HST.out
      rw [e1] at row
      have eR : R = rv := by rw [← HRR.out, ← HR.out, e3]
      subst eR
      clear e1 e3 HST
      go_wp2_with fail
      refine (nat_fit N (a / b) g N qv (by omega) QB.out HQ.out _ row).mono ?_
      rintro e w6 ⟨rfl, hb6⟩
      go_wp2
      exact bodyPost_ret (v := .tuple #[.string qv, .string R, .int .i64 0]) (by simp [results, Tryz.results114, go_sem]) rfl ⟨rfl, hbw.trans (hb6.mono hbw.size)⟩
    · obtain ⟨j, rfl⟩ : ∃ j, k = j + 1 := ⟨k - 1, by omega⟩
      have ej : (((j + 1 : Nat) : Int) - 1) = (j : Int) := by omega
      rw [ej]
      obtain ⟨o1, ho1⟩ : ∃ o1, (a.testBit j).toNat = o1 := ⟨_, rfl⟩
      have o2 : o1 < 2 := by rw [← ho1]; cases a.testBit j <;> decide
      obtain ⟨x, hx⟩ : ∃ x, 2 * r + o1 = x := ⟨_, rfl⟩
      have ST := box (ndiv_step a b j q r x HST.out (by rw [ho1]; exact hx))
      have rb := HST.out.2.1
      have xb : x < 2 * b := by omega
      have HRB : Box (nl r ≤ 20000) := box (by have := nl_mono r b (by omega); have := HB.out; omega)
      have HXB : Box (nl x ≤ 20000) := box (by have := nl_twice b x xb; have := HB.out; omega)
      obtain ⟨X, hX⟩ : ∃ X, nbA x = X := ⟨_, rfl⟩
      have HX := box hX
      have HX2 : Box (nbA (2 * r + o1) = X) := box (by rw [hx]; exact hX)
      obtain ⟨c, hc⟩ : ∃ c, cmpv x b = c := ⟨_, rfl⟩
      have HC := box hc
      have HO1 := box ho1
      have jb : j ≤ 10000000 := by omega
      by_cases hlt : x < b
      · have dc : decide (0 ≤ c) = false := by rw [← hc]; unfold cmpv; rw [if_neg (by omega), if_pos hlt]; rfl
        have NS := box (ST.out.1 hlt)
        clear hx hX hc ho1 rb xb hlt hg
        go_wp2_with fail
        refine (nat_bit a j s o1 HS.out HO1.out NA.out jb _).mono ?_
        rintro e w6 ⟨rfl, hw6⟩
        subst hw6
        go_wp2_with fail
        refine (nat_double r o1 R X HRR.out o2 HX2.out HRB.out _).mono ?_
        rintro e w7 ⟨rfl, hb7⟩
        have row7 := heap_of hb7 _ _ _ row
        have B7 : Below w4.heap.size w4 w7 := hbw.trans (hb7.mono hbw.size)
        clear hb7 row hbw
        go_wp2_with fail
        refine (nat_cmp x b X t c HX.out HT.out HC.out _).mono ?_
        rintro e w8 ⟨rfl, hw8⟩
        subst hw8
        go_wp2
        go_roundw
        case rel => exact ⟨j, q, x, X, by first | rfl | go_num, rfl, by omega, row7, B7, HX, NS⟩
        case measure => simp [intOf] <;> omega
      · have dc : decide (0 ≤ c) = true := by
          rw [← hc]; unfold cmpv
          by_cases e : x = b
          · rw [if_pos e]; rfl
          · rw [if_neg e, if_neg hlt]; rfl
        have NS0 := ST.out.2 (by omega)
        obtain ⟨y, hy⟩ : ∃ y, x - b = y := ⟨_, rfl⟩
        obtain ⟨Y, hY⟩ : ∃ Y, nbA (x - b) = Y := ⟨_, rfl⟩
        have HY := box hY
        have HY2 : Box (nbA y = Y) := box (by rw [← hy]; exact hY)
        rw [hy] at NS0
        have HBX : Box (b ≤ x) := box (by omega)
        obtain ⟨qi, hqi⟩ : ∃ qi, qi = j / 8 := ⟨_, rfl⟩
        obtain ⟨ri, hri⟩ : ∃ ri, ri = j % 8 := ⟨_, rfl⟩
        have q1 : (j : Int) / 8 = (qi : Int) := by omega
        have r1 : (j : Int) % 8 = (ri : Int) := by omega
        have r8 : ri < 8 := by omega
        obtain ⟨v, hv⟩ : ∃ v, v = 2 ^ ri := ⟨_, rfl⟩
        have v256 : v < 256 := by
          rw [hv, two8]
          exact Nat.pow_lt_pow_right (by decide) r8
        have hv2 : IntKind.u8.wrap ((2 : Int) ^ ri) = (v : Int) := by rw [pow_cast, ← hv]; exact wrap_u8_is v v (Nat.mod_eq_of_lt v256)
        have hv3 : IntKind.u8.wrap (1 * (2 : Int) ^ ri) = (v : Int) := by rw [Int.one_mul]; exact hv2
        obtain ⟨Z, hZ⟩ : ∃ Z, q ||| 2 ^ j = Z := ⟨_, rfl⟩
        rw [hZ] at NS0
        have NS := box NS0
        have hZ2 : Z = q ||| v * 2 ^ (8 * qi) := by rw [hv, one_bit8 j qi ri hqi hri, hZ]
        have qN : qi < N := by omega
        have o8 : bits .or .u8 (d8 q qi : Nat) (v : Nat) = ((d8 q qi ||| v : Nat) : Int) := by
          show IntKind.u8.wrap ((BitVec.ofInt 8 (d8 q qi : Int) ||| BitVec.ofInt 8 (v : Int)).toNat : Int) = _
          have h1 : (BitVec.ofInt 8 (d8 q qi : Int)).toNat = d8 q qi := by have := d8_lt q qi; simp; omega
          have h2 : (BitVec.ofInt 8 (v : Int)).toNat = v := by simp; omega
          rw [BitVec.toNat_or, h1, h2]
          exact wrap_u8_is _ _ (Nat.mod_eq_of_lt (or_lt8 _ _ (d8_lt q qi) v256))
        have HZ := box (c8_or N q qi v Z qN v256 hZ2)
        clear hx hX hc ho1 rb xb hlt hg hy hY hqi hri hv hZ hZ2 NS0
        go_wp2_with fail
        refine (nat_bit a j s o1 HS.out HO1.out NA.out jb _).mono ?_
        rintro e w6 ⟨rfl, hw6⟩
        subst hw6
        go_wp2_with fail
        refine (nat_double r o1 R X HRR.out o2 HX2.out HRB.out _).mono ?_
        rintro e w7 ⟨rfl, hb7⟩
        have row7 := heap_of hb7 _ _ _ row
        have B7 : Below w4.heap.size w4 w7 := hbw.trans (hb7.mono hbw.size)
        clear hb7 row hbw
        go_wp2_with fail
        refine (nat_cmp x b X t c HX.out HT.out HC.out _).mono ?_
        rintro e w8 ⟨rfl, hw8⟩
        subst hw8
        go_wp2_with fail
        refine (nat_sub x b X t Y HX.out HT.out HY.out HBX.out HXB.out _).mono ?_
        rintro e w9 ⟨rfl, hb9⟩
        have row9 := heap_of hb9 _ _ _ row7
        have B9 : Below w4.heap.size w4 w9 := B7.trans (hb9.mono B7.size)
        clear hb9 row7 B7
        have k1 := c8_cell row9 qN
        have k2 := fz (k := qi) row9
        have RS : Box ((w9.setCell ⟨g, qi, none⟩ (.int .u8 ((d8 q qi ||| v : Nat) : Int))).heap[g]? = some (.cells (c8 N Z) 5)) := box (by rw [setCell_row row9, HZ.out])
        go_wp2
        go_roundw
        case rel => exact ⟨j, Z, y, Y, by first | rfl | go_num, rfl, by omega, RS.out, B9.setCell (by show w4.heap.size ≤ g; omega) _, HY2, NS⟩
        case measure => simp [intOf] <;> omega

theorem nat_Div (a b : Nat) (s t qv rv : ByteArray) (hs : nbA a = s) (ht : nbA b = t) (ha : nl a ≤ 16384) (hb0 : b ≠ 0) (hq : nbA (a / b) = qv) (hr : nbA (a % b) = rv) (w : World) :
    Calls Tryz.prog 114 #[.string s, .string t] w fun r w' => r = .returned (.tuple #[.string qv, .string rv, .int .i64 0]) ∧ Below w.heap.size w w' := by
  by_cases hba : b ≤ a
  · exact nat_div_big a b s t qv rv hs ht ha hb0 hba hq hr w
  · have e2 := eq_empty t
    have hty : t.size = nl b := by rw [← ht, nbA_size]
    have hbp := nl_pos b hb0
    rw [decide_eq_false (by omega)] at e2
    rw [Nat.div_eq_of_lt (by omega), nbA_zero] at hq
    rw [Nat.mod_eq_of_lt (by omega), hs] at hr
    subst hq hr
    have HC : Box (cmpv a b = -1) := box (by unfold cmpv; rw [if_neg (by omega), if_pos (by omega)])
    clear hba hty hbp ha hb0
    go_enter Tryz.func114, Tryz.ntmps114
    go_wp2_with fail
    refine (nat_cmp a b s t (-1) hs ht HC.out _).mono ?_
    rintro e w' ⟨rfl, rfl⟩
    go_wp2
    exact bodyPost_ret (v := .tuple #[.string ⟨#[]⟩, .string s, .int .i64 0]) (by simp [results, Tryz.results114, go_sem]) rfl ⟨rfl, Below.refl _ _⟩
end Go.Proofs.YtbmhfcppaajgbaaGreatDoor
namespace Go.Proofs.YtbmhfcppaajgbaaGreatDoor
set_option maxRecDepth 100000
open Go.RowKit WMath

/-- What a value says, if it is a string. -/
def strV (v : Value) : Nat := match v with | .string s => bvl s.data.toList | _ => 0
theorem strV_nb (n : Nat) (s : ByteArray) (h : nbA n = s) : strV (.string s) = n := by
  subst h
  exact bvl_nbL n

set_option maxHeartbeats 4000000 in
theorem nat_Gcd (a b : Nat) (s t v : ByteArray) (hs : nbA a = s) (ht : nbA b = t) (ha : nl a ≤ 16384) (hb : nl b ≤ 16384) (hv : nbA (Nat.gcd a b) = v) (w : World) :
    Calls Tryz.prog 78 #[.string s, .string t] w fun e w' => e = .returned (.string v) ∧ Below w.heap.size w w' := by
  have HS := box hs
  have HT := box ht
  have HV := box hv
  have HA := box ha
  have HB := box hb
  clear hs ht hv ha hb
  go_enter Tryz.func78, Tryz.ntmps78
  go_wp2
  go_loopw [0, 1] (fun av bv wr => ∃ (x y : Nat) (X Y : ByteArray), av = .string X ∧ bv = .string Y ∧ Below w.heap.size w wr ∧ Box (nbA x = X) ∧ Box (nbA y = Y) ∧ Box (nl x ≤ 16384) ∧ Box (nl y ≤ 16384) ∧ Box (Nat.gcd x y = Nat.gcd a b)) (fun _ bv _ => strV bv)
  case atStart => exact ⟨a, b, s, t, rfl, rfl, Below.refl _ _, HS, HT, HA, HB, box rfl⟩
  case round =>
    obtain ⟨x, y, X, Y, rfl, rfl, hbw, HX, HY, LX, LY, HG⟩ := hrel
    have e2 := eq_empty Y
    have hz : Y.size = nl y := by rw [← HY.out, nbA_size]
    by_cases hy : y = 0
    · rw [decide_eq_true (by rw [hz, hy, nl_zero])] at e2
      have eX : X = v := by
        have h := HG.out
        rw [hy, Nat.gcd_zero_right] at h
        rw [← HX.out, ← HV.out, h]
      subst eX
      clear hz hy
      go_wp2
      go_ret
      exact ⟨rfl, hbw⟩
    · have hp := nl_pos y hy
      rw [decide_eq_false (by omega)] at e2
      obtain ⟨q, hq⟩ : ∃ q, nbA (x / y) = q := ⟨_, rfl⟩
      obtain ⟨r, hr⟩ : ∃ r, x % y = r := ⟨_, rfl⟩
      obtain ⟨R, hR⟩ : ∃ R, nbA (x % y) = R := ⟨_, rfl⟩
      have rl : r < y := by rw [← hr]; exact Nat.mod_lt _ (by omega)
      have HQ := box hq
      have HR := box hR
      have HR2 : Box (nbA r = R) := box (by rw [← hr]; exact hR)
      have HY0 := box hy
      have LR : Box (nl r ≤ 16384) := box (by have := nl_mono r y (by omega); have := LY.out; omega)
      have NG : Box (Nat.gcd y r = Nat.gcd a b) := box (by rw [← HG.out, ← hr, Nat.gcd_comm y, ← Nat.gcd_rec, Nat.gcd_comm])
      have M1 := box (strV_nb y Y HY.out)
      have M2 := box (strV_nb r R HR2.out)
      clear hz hy hq hr hR hp
      go_wp2_with fail
      refine (nat_Div x y X Y q R HX.out HY.out LX.out HY0.out HQ.out HR.out _).mono ?_
      rintro e w1 ⟨rfl, hb1⟩
      go_wp2
      go_roundw
      case rel => exact ⟨y, r, Y, R, rfl, rfl, hbw.trans (hb1.mono hbw.size), HY, HR2, LY, LR, NG⟩
      case measure => rw [M1.out, M2.out]; exact rl
end Go.Proofs.YtbmhfcppaajgbaaGreatDoor
