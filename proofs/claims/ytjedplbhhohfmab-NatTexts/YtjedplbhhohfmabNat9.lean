/-
  What the functions Text and Read of the document's answer for layer 5 return.
-/
import Derived.Test.YtjedplbhhohfmabNat3
import Derived.Test.YtjedplbhhohfmabMx
import Derived.Test.YtjedplbhhohfmabRwide4
namespace Go.Proofs.Ytjedplbhhohfmab
open Go.RowKit WMath

/-- What bytes say, the first the lowest. -/
def lv : List UInt8 → Nat
  | [] => 0
  | b :: l => 256 * lv l + b.toNat
theorem lv_snoc (b : UInt8) : ∀ l : List UInt8, lv (l ++ [b]) = lv l + 2 ^ (8 * l.length) * b.toNat
  | [] => by simp [lv]
  | c :: l => by
    rw [List.cons_append, lv, lv, lv_snoc b l, List.length_cons, pow8, Nat.mul_add, Nat.mul_comm (2 ^ (8 * l.length)) 256, Nat.mul_assoc]
    omega
theorem lv_lt : ∀ l : List UInt8, lv l < 2 ^ (8 * l.length)
  | [] => by decide
  | c :: l => by
    have := lv_lt l
    have := c.toNat_lt
    rw [lv, List.length_cons, pow8]
    omega
theorem lv_d8 : ∀ (l : List UInt8) (k : Nat) (h : k < l.length), d8 (lv l) k = (l[k]'h).toNat
  | [], k, h => by simp at h
  | c :: l, 0, _ => by rw [lv, d8_snoc0 _ _ c.toNat_lt]; rfl
  | c :: l, k + 1, h => by rw [lv, d8_snocS _ _ _ c.toNat_lt, lv_d8 l k (by simpa using h)]; rfl

theorem c8_room (C : Nat) (k : Int) (hk : k = (C : Int)) (h : C ≤ 1000000) (w : World) : (Instr.makeSlice 43 (.int .i64 0) (.int .i64 k)).run Try.prog w = .ok (.slice (some ⟨w.heap.size, 0, none⟩) 0 C) (w.alloc (.cells (c8 C 0) 5)) := by
  subst hk
  obtain ⟨i, hi, hzz⟩ := Option.map_eq_some_iff.1 (show (Try.prog.info? 5).map (fun i => (i.zero, i.size, i.bytes)) = some (some (.int .u8 0), 1, 1) by kernel_rfl)
  simp only [Prod.mk.injEq] at hzz
  obtain ⟨hz, hs, hb⟩ := hzz
  have hr := run_make (P := Try.prog) w 43 5 i (.int .u8 0) Try.underlying43 hi hz .i64 .i64 0 C (Int.le_refl _) (by omega) (by rw [hb]; omega) (by omega)
  simp only [Int.toNat_natCast, hs, Nat.mul_one, Int.toNat_zero] at hr
  rw [hr, ← c8_made]
  rfl

/-- The first k bytes of a row, as a string. -/
theorem c8_strP {w : World} {b c L k X : Nat} (v : ByteArray) (h : w.heap[b]? = some (.cells (c8 L X) 5)) (hk : v.size = k) (hkL : k ≤ L) (hv : ∀ (j : Nat) (h1 : j < v.size), (v[j]'h1).toNat = d8 X j) :
    (convert 43 9 (.slice (some ⟨b, 0, none⟩) k c)).run Try.prog w = .ok (.string v) w := by
  rw [run_convert_bytes_string w 43 9 5 _ _ _ Try.underlying43 Try.underlying5 Try.underlying9]
  have hz : v.data.toList.length = k := by rw [Array.length_toList]; exact hk
  have hl := run_loadCells_list (P := Try.prog) w ⟨b, 0, none⟩ (v.data.toList.map fun x => Value.int .u8 (x.toNat : Int)) (fun j u hu => by
    have hadd : (⟨b, 0, none⟩ : Addr).add j = ⟨b, j, none⟩ := by unfold Addr.add; split <;> simp_all
    have hj : j < v.data.toList.length := by
      have := (List.getElem?_eq_some_iff.1 hu).1
      rwa [List.length_map] at this
    have hj2 : j < v.size := by rw [hk]; omega
    rw [hadd, c8_cell h (by omega), ← hv j hj2, ← hu, List.getElem?_map, List.getElem?_eq_getElem hj]
    rfl)
  rw [List.length_map, hz] at hl
  rw [run_bytesToString (P := Try.prog) w ⟨b, 0, none⟩ k c (v.data.toList.map fun x => (x.toNat : Int)) (by rw [hl]; simp), show ByteArray.empty = ⟨#[]⟩ from rfl, fold_bytes]
  simp

theorem dig_fact8 (w : World) (d : Nat) (h : d < 16) :
    (Instr.index 9 (.string ⟨#[48, 49, 50, 51, 52, 53, 54, 55, 56, 57, 97, 98, 99, 100, 101, 102]⟩) (.int .u8 (d : Nat))).run Try.prog w = .ok (.int .u8 ((dg d).toNat : Int)) w := by
  have hd : d = 0 ∨ d = 1 ∨ d = 2 ∨ d = 3 ∨ d = 4 ∨ d = 5 ∨ d = 6 ∨ d = 7 ∨ d = 8 ∨ d = 9 ∨ d = 10 ∨ d = 11 ∨ d = 12 ∨ d = 13 ∨ d = 14 ∨ d = 15 := by omega
  rcases hd with rfl | rfl | rfl | rfl | rfl | rfl | rfl | rfl | rfl | rfl | rfl | rfl | rfl | rfl | rfl | rfl <;> (rw [run_index_string (P := Try.prog) w 9 _ _ _ Try.underlying9]; rfl)

/-- The text of the first i bytes. -/
def pt (n L i : Nat) : List UInt8 := if i = 0 then [] else tx (n / 2 ^ (8 * (L - i)))
theorem pt_step (n L i x : Nat) (hL : nl n = L) (hi : i < L) (hx : d8 n (L - 1 - i) = x) :
    pt n L (i + 1) = if 0 < i ∨ 0 < x / 16 then pt n L i ++ [dg (x / 16)] ++ [dg (x % 16)] else pt n L i ++ [dg (x % 16)] := by
  have x256 : x < 256 := by rw [← hx]; exact d8_lt _ _
  have hm : n / 2 ^ (8 * (L - (i + 1))) = 256 * (n / 2 ^ (8 * (L - i))) + x := by
    have e1 : L - i = (L - 1 - i) + 1 := by omega
    have e2 : L - (i + 1) = L - 1 - i := by omega
    rw [e1, e2, ← hx, pow8, ← Nat.div_div_eq_div_mul]
    unfold d8
    omega
  unfold pt
  rw [if_neg (by omega), hm]
  have hn := nl_lt n
  rw [hL] at hn
  by_cases h0 : i = 0
  · subst h0
    rw [Nat.sub_zero, Nat.div_eq_of_lt hn, Nat.mul_zero, Nat.zero_add, if_pos rfl]
    by_cases h1 : 0 < x / 16
    · rw [if_pos (Or.inr h1), tx_big x (by omega), tx_small (x / 16) (by omega)]
      rfl
    · rw [if_neg (by omega), tx_small x (by omega), Nat.mod_eq_of_lt (by omega)]
      rfl
  · have hm0 : 0 < n / 2 ^ (8 * (L - i)) := by
      have h1 := nl_le n (fun e => by rw [e, nl_zero] at hL; omega)
      rw [hL] at h1
      have h2 : 2 ^ (8 * (L - i)) ≤ 2 ^ (8 * (L - 1)) := pow8_le _ _ (by omega)
      exact Nat.div_pos (by omega) (Nat.two_pow_pos _)
    generalize n / 2 ^ (8 * (L - i)) = m at *
    rw [if_neg h0, if_pos (Or.inl (by omega)), tx_big (256 * m + x) (by omega), tx_big ((256 * m + x) / 16) (by omega), show (256 * m + x) / 16 / 16 = m by omega, show (256 * m + x) / 16 % 16 = x / 16 by omega, show (256 * m + x) % 16 = x % 16 by omega]
theorem and15 (x : Nat) (h : x < 256) : bits .and .u8 (x : Nat) 15 = ((x % 16 : Nat) : Int) := by
  show IntKind.u8.wrap ((BitVec.ofInt 8 (x : Int) &&& BitVec.ofInt 8 15).toNat : Int) = _
  have h1 : (BitVec.ofInt 8 15).toNat = 2 ^ 4 - 1 := by decide
  have h2 : (BitVec.ofInt 8 (x : Int)).toNat = x := by simp; omega
  rw [BitVec.toNat_and, h1, Nat.and_two_pow_sub_one_eq_mod, h2]
  exact wrap_u8_is _ _ (by omega)
theorem dg_lt (d : Nat) : (dg d).toNat < 256 := (dg d).toNat_lt

set_option maxHeartbeats 2000000 in
theorem nat_Text (n : Nat) (s v : ByteArray) (hs : nbA n = s) (hn : nl n ≤ 16384) (hv : (⟨(tx n).toArray⟩ : ByteArray) = v) (w : World) :
    Calls Try.prog 11 #[.string s] w fun e w' => e = .returned (.string v) ∧ Below w.heap.size w w' := by
  obtain ⟨L, hL⟩ : ∃ L, nl n = L := ⟨_, rfl⟩
  have hz : s.size = L := by rw [← hs, nbA_size, hL]
  have d2 := eq_empty s
  by_cases h0 : n = 0
  · subst h0
    rw [decide_eq_true (by rw [hz, ← hL, nl_zero])] at d2
    have ev : v = ⟨#[48]⟩ := by rw [← hv, tx_small 0 (by decide)]; rfl
    subst ev
    clear hs hv hL
    go_enter Try.func11, Try.ntmps11
    go_wp2
    go_ret
    exact ⟨rfl, Below.refl _ _⟩
  · have hp := nl_pos n h0
    rw [hL] at hn hp
    rw [decide_eq_false (by omega)] at d2
    obtain ⟨C, hC⟩ : ∃ C, 2 * L = C := ⟨_, rfl⟩
    have n1 : IntKind.i64.wrap (2 * (L : Int)) = (C : Int) := by rw [wrap_i64_is _ (by omega) (by omega)]; omega
    have hmk := c8_room C (C : Int) rfl (by omega)
    have HS := box hs
    have HV := box hv
    have HL := box hL
    have HN := box h0
    clear hs hv hL h0
    go_enter Try.func11, Try.ntmps11
    go_wp2
    clear hmk n1 d2
    obtain ⟨g, hg⟩ : ∃ g, w.heap.size = g := ⟨_, rfl⟩
    have r0 : (w.alloc (.cells (c8 C 0) 5)).heap[g]? = some (.cells (c8 C 0) 5) := by rw [← hg]; exact heap_alloc_last _ _
    rw [hg]
    go_loopw [3, 4] (fun ov iv wr => ∃ (i k : Nat) (l : List UInt8), i ≤ L ∧ iv = .int .i64 i ∧ ov = .slice (some ⟨g, 0, none⟩) k C ∧ k ≤ 2 * i ∧ l.length = k ∧ wr.heap[g]? = some (.cells (c8 C (lv l)) 5) ∧ Below w.heap.size w wr ∧ Box (l = pt n L i)) (fun _ iv _ => L - (intOf iv).toNat)
    case atStart => exact ⟨0, 0, [], by omega, rfl, rfl, by omega, rfl, r0, (Below.refl _ _).alloc (Nat.le_refl _) _, box rfl⟩
    case round =>
      clear r0
      obtain ⟨i, k, l, hi, rfl, rfl, hk, hlk, row, hbw, HP⟩ := hrel
      by_cases hlt : i < L
      · have hi2 : i < s.size := by omega
        obtain ⟨x, hx⟩ : ∃ x, (s[i]'hi2).toNat = x := ⟨_, rfl⟩
        have hxd : d8 n (L - 1 - i) = x := by
          rw [← hx]
          have h := HS.out
          subst h
          rw [nbA_get, HL.out]
        have x256 : x < 256 := by rw [← hxd]; exact d8_lt _ _
        have PS := pt_step n L i x HL.out hlt hxd
        obtain ⟨h, hh⟩ : ∃ h, x / 16 = h := ⟨_, rfl⟩
        obtain ⟨o, ho⟩ : ∃ o, x % 16 = o := ⟨_, rfl⟩
        rw [hh, ho, ← HP.out] at PS
        have h16 : h < 16 := by omega
        have o16 : o < 16 := by omega
        have m1 : (x : Int) / 16 = (h : Int) := by omega
        have m2 := and15 x x256
        rw [ho] at m2
        have hxr := idx_run s i (i : Int) x rfl hi2 hx
        have dl : decide (i < L) = true := decide_eq_true hlt
        have F1 := fun w => dig_fact8 w h h16
        have F2 := fun w => dig_fact8 w o o16
        obtain ⟨dh, hdh⟩ : ∃ dh, (dg h).toNat = dh := ⟨_, rfl⟩
        obtain ⟨eo, hdo⟩ : ∃ eo, (dg o).toNat = eo := ⟨_, rfl⟩
        have dh256 : dh < 256 := by rw [← hdh]; exact dg_lt h
        have do256 : eo < 256 := by rw [← hdo]; exact dg_lt o
        rw [hdh] at F1
        rw [hdo] at F2
        have gs : g < wr.heap.size := (Array.getElem?_eq_some_iff.1 row).1
        have hll := lv_lt l
        rw [hlk] at hll
        have kC : k < C := by omega
        have kC1 : k + 1 < C := by omega
        have c1 := c8_cell row kC
        have f1 := fz (k := k) row
        have hcase : (0 < i ∨ 0 < h) ∨ (¬ (0 < i ∨ 0 < h)) := by by_cases e : 0 < i ∨ 0 < h <;> simp [e]
        rcases hcase with hA | hB
        · rw [if_pos hA] at PS
          obtain ⟨W1, hW1⟩ : ∃ W1, (wr.setCell ⟨g, k, none⟩ (.int .u8 (dh : Nat))).alloc (.cells #[.int .u8 (dh : Nat)] 5) = W1 := ⟨_, rfl⟩
          have row0 : (wr.setCell ⟨g, k, none⟩ (.int .u8 (dh : Nat))).heap[g]? = some (.cells (c8 C (lv (l ++ [dg h]))) 5) := by
            rw [setCell_row row, c8_push C (lv l) k dh _ kC hll dh256 rfl, lv_snoc, hlk, hdh]
          have row1 : W1.heap[g]? = some (.cells (c8 C (lv (l ++ [dg h]))) 5) := by
            rw [← hW1, heap_below _ _ _ (Array.getElem?_eq_some_iff.1 row0).1]; exact row0
          have b0 : Below w.heap.size w (wr.setCell ⟨g, k, none⟩ (.int .u8 (dh : Nat))) := hbw.setCell (by show w.heap.size ≤ g; omega) _
          have b1 : Below w.heap.size w W1 := by rw [← hW1]; exact b0.alloc b0.size _
          have g1 : g < W1.heap.size := (Array.getElem?_eq_some_iff.1 row1).1
          have c2 := c8_cell row1 kC1
          have f2 := fz (k := k + 1) row1
          have hll2 := lv_lt (l ++ [dg h])
          rw [List.length_append, List.length_singleton, hlk] at hll2
          have row2 : (W1.setCell ⟨g, k + 1, none⟩ (.int .u8 (eo : Nat))).heap[g]? = some (.cells (c8 C (lv (l ++ [dg h] ++ [dg o]))) 5) := by
            rw [setCell_row row1, c8_push C _ (k + 1) eo _ kC1 hll2 do256 rfl, lv_snoc _ (l ++ [dg h]), List.length_append, List.length_singleton, hlk, hdo]
          have RS : Box (((W1.setCell ⟨g, k + 1, none⟩ (.int .u8 (eo : Nat))).alloc (.cells #[.int .u8 (eo : Nat)] 5)).heap[g]? = some (.cells (c8 C (lv (l ++ [dg h] ++ [dg o]))) 5)) := box (by
            rw [heap_below _ _ _ (Array.getElem?_eq_some_iff.1 row2).1]; exact row2)
          have b2 : Below w.heap.size w (W1.setCell ⟨g, k + 1, none⟩ (.int .u8 (eo : Nat))) := b1.setCell (by show w.heap.size ≤ g; omega) _
          have BS : Box (Below w.heap.size w ((W1.setCell ⟨g, k + 1, none⟩ (.int .u8 (eo : Nat))).alloc (.cells #[.int .u8 (eo : Nat)] 5))) := box (b2.alloc b2.size _)
          have NP := box PS.symm
          have hcase2 : decide (0 < i) = true ∨ (decide (0 < i) = false ∧ decide (0 < h) = true) := by
            by_cases e : 0 < i
            · exact Or.inl (decide_eq_true e)
            · exact Or.inr ⟨decide_eq_false e, decide_eq_true (by omega)⟩
          clear hx hxd PS hh ho hdh hdo hA row0 row2 hll hll2 b0 b1 b2
          rcases hcase2 with e1 | ⟨e1, e3⟩
          all_goals
            go_wp2
            go_roundw
            case rel => exact ⟨i + 1, k + 1 + 1, l ++ [dg h] ++ [dg o], by omega, by go_num, rfl, by omega, by simp [hlk], RS.out, BS.out, NP⟩
            case measure => simp [intOf] <;> omega
        · rw [if_neg hB] at PS
          have row0 : (wr.setCell ⟨g, k, none⟩ (.int .u8 (eo : Nat))).heap[g]? = some (.cells (c8 C (lv (l ++ [dg o]))) 5) := by
            rw [setCell_row row, c8_push C (lv l) k eo _ kC hll do256 rfl, lv_snoc, hlk, hdo]
          have RS : Box (((wr.setCell ⟨g, k, none⟩ (.int .u8 (eo : Nat))).alloc (.cells #[.int .u8 (eo : Nat)] 5)).heap[g]? = some (.cells (c8 C (lv (l ++ [dg o]))) 5)) := box (by
            rw [heap_below _ _ _ (Array.getElem?_eq_some_iff.1 row0).1]; exact row0)
          have b0 : Below w.heap.size w (wr.setCell ⟨g, k, none⟩ (.int .u8 (eo : Nat))) := hbw.setCell (by show w.heap.size ≤ g; omega) _
          have BS : Box (Below w.heap.size w ((wr.setCell ⟨g, k, none⟩ (.int .u8 (eo : Nat))).alloc (.cells #[.int .u8 (eo : Nat)] 5))) := box (b0.alloc b0.size _)
          have NP := box PS.symm
          have e1 : decide (0 < i) = false := decide_eq_false (by omega)
          have e3 : decide (0 < h) = false := decide_eq_false (by omega)
          clear hx hxd PS hh ho hdh hdo hB row0 hll b0
          go_wp2
          go_roundw
          case rel => exact ⟨i + 1, k + 1, l ++ [dg o], by omega, by go_num, rfl, by omega, by simp [hlk], RS.out, BS.out, NP⟩
          case measure => simp [intOf] <;> omega
      · obtain rfl : i = L := by omega
        have dl : decide (i < i) = false := by rw [decide_eq_false_iff_not]; omega
        have el : l = tx n := by
          rw [HP.out]; unfold pt
          rw [if_neg (by omega), Nat.sub_self, Nat.mul_zero, Nat.pow_zero, Nat.div_one]
        have hvz : v.size = k := by rw [← HV.out, ← el]; show l.toArray.size = _; rw [List.size_toArray, hlk]
        have hsv := c8_strP (c := C) v row hvz (by omega) (fun j h1 => by
          have hj : j < l.length := by omega
          rw [lv_d8 l j hj]
          have hV := HV.out
          rw [← el] at hV
          subst hV
          rfl)
        go_wp2
        go_ret
        exact ⟨rfl, hbw⟩

theorem good_any (l : List UInt8) (v : Nat) (hv : vals l = some v) : tx v = l ↔ (1 ≤ l.length ∧ ¬ (l.head? = some 48 ∧ 1 < l.length)) := by
  constructor
  · intro h
    have hne : l ≠ [] := by rw [← h]; exact tx_ne v
    refine ⟨List.length_pos_iff.2 hne, fun ⟨h1, h2⟩ => ?_⟩
    by_cases h0 : v = 0
    · subst h0
      rw [tx_small 0 (by decide)] at h
      rw [← h] at h2
      simp at h2
    · exact tx_head v h0 48 (by rw [h]; exact h1) rfl
  · intro ⟨h1, h2⟩
    obtain ⟨n, hn⟩ : ∃ n, l.length = n + 1 := ⟨l.length - 1, by omega⟩
    refine (tx_of_vals n l v hn hv ?_).1
    by_cases h3 : n = 0
    · exact Or.inl h3
    · exact Or.inr (fun h => h2 ⟨h, by omega⟩)

/-- What is read out of a text: the number, and the error. -/
def rdn (l : List UInt8) : ByteArray × Int := if l.length ≤ 32768 then (match vals l with | some v => if tx v = l then (nbA v, 0) else (⟨#[]⟩, 20) | none => (⟨#[]⟩, 20)) else (⟨#[]⟩, 20)
theorem rdn_long (l : List UInt8) (h : ¬ l.length ≤ 32768) : rdn l = (⟨#[]⟩, 20) := by unfold rdn; rw [if_neg h]
theorem rdn_none (l : List UInt8) (h : vals l = none) : rdn l = (⟨#[]⟩, 20) := by unfold rdn; rw [h]; simp
theorem rdn_bad (l : List UInt8) (h : ¬ (1 ≤ l.length ∧ ¬ (l.head? = some 48 ∧ 1 < l.length))) : rdn l = (⟨#[]⟩, 20) := by
  unfold rdn
  split
  · cases hv : vals l with
    | none => rfl
    | some v =>
      simp only
      rw [if_neg (fun e => h ((good_any l v hv).1 e))]
  · rfl
theorem rdn_good (l : List UInt8) (v : Nat) (hl : l.length ≤ 32768) (hv : vals l = some v) (h : 1 ≤ l.length ∧ ¬ (l.head? = some 48 ∧ 1 < l.length)) : rdn l = (nbA v, 0) := by
  unfold rdn
  rw [if_pos hl, hv]
  simp only
  rw [if_pos ((good_any l v hv).2 h)]

theorem vals_from (a V : Nat) (m : List UInt8) : vals m = some V → m.foldl vstep (some a) = some (a * 16 ^ m.length + V) := by
  refine rev_ind (P := fun m => ∀ V, vals m = some V → m.foldl vstep (some a) = some (a * 16 ^ m.length + V)) ?_ (fun l b ih => ?_) m V
  · intro V h
    rw [vals_nil] at h
    injection h with h
    simp [← h]
  · intro V h
    rw [vals_snoc] at h
    rw [List.foldl_append, List.foldl_cons, List.foldl_nil]
    unfold vstep at h
    cases h1 : vals l with
    | none => rw [h1] at h; cases h
    | some v =>
      cases h2 : dv b with
      | none => rw [h1, h2] at h; cases h
      | some d =>
        rw [h1, h2] at h
        injection h with h
        rw [ih v h1]
        unfold vstep
        rw [h2]
        simp only [Option.some.injEq, List.length_append, List.length_singleton]
        rw [Nat.pow_succ, Nat.mul_add, ← h, ← Nat.mul_assoc, ← Nat.mul_assoc, Nat.mul_comm 16 a]
        rw [Nat.mul_right_comm]
        omega
theorem vals_cons (c : UInt8) (d V : Nat) (m : List UInt8) (hd : dv c = some d) (hV : vals m = some V) : vals (c :: m) = some (d * 16 ^ m.length + V) := by
  have e : vals (c :: m) = m.foldl vstep (vstep (some 0) c) := rfl
  rw [e]
  have e2 : vstep (some 0) c = some d := by unfold vstep; rw [hd]; simp
  rw [e2]
  exact vals_from d V m hV
theorem vals_no (p m : List UInt8) (c : UInt8) (hd : dv c = none) : vals (p ++ c :: m) = none := by
  unfold vals
  rw [List.foldl_append, List.foldl_cons]
  have : ∀ o, vstep o c = none := by intro o; unfold vstep; rw [hd]; cases o <;> rfl
  rw [this, vstep_none]
theorem drop_one (l : List UInt8) (L i : Nat) (hL : l.length = L) (hi : i < L) : l.drop (L - (i + 1)) = l[L - 1 - i]'(by omega) :: l.drop (L - i) := by
  have h : L - (i + 1) < l.length := by omega
  rw [List.drop_eq_getElem_cons h]
  have e : L - (i + 1) + 1 = L - i := by omega
  have e2 : L - (i + 1) = L - 1 - i := by omega
  rw [e]
  simp only [e2]
theorem nib_step (V d i q r y : Nat) (hV : V < 16 ^ i) (hq : q = i / 2) (hr : r = 4 * (i % 2)) (hy : d * 2 ^ r = y) : V ||| y * 2 ^ (8 * q) = d * 16 ^ i + V := by
  have e : (16 : Nat) ^ i = 2 ^ (4 * i) := by rw [show (16 : Nat) = 2 ^ 4 from rfl, ← Nat.pow_mul]
  rw [e] at hV ⊢
  rw [← hy, Nat.mul_assoc, ← Nat.pow_add, show r + 8 * q = 4 * i by omega, Nat.add_comm]
  exact (or_disj _ _ _ hV).symm

set_option maxRecDepth 100000 in
set_option maxHeartbeats 4000000 in
theorem nat_Read (s : ByteArray) (l : List UInt8) (v : ByteArray) (e : Int) (hs : s.size ≤ 9223372036854775807) (hl : s.data.toList = l) (hr : rdn l = (v, e)) (w : World) :
    Calls Try.prog 8 #[.string s] w fun r w' => r = .returned (.tuple #[.string v, .int .i64 e]) ∧ Below w.heap.size w w' := by
  have hsl : s.size = l.length := by rw [← hl, Array.length_toList]; rfl
  obtain ⟨L, hL⟩ : ∃ L, s.size = L := ⟨_, rfl⟩
  rw [hL] at hsl hs
  have hget : ∀ (k : Nat) (h1 : k < s.size) (h2 : k < l.length), s[k]'h1 = l[k]'h2 := fun k h1 h2 => by subst hl; rfl
  by_cases h0 : L = 0
  · rw [rdn_bad l (by omega)] at hr
    injection hr with e1 e2
    subst e1 e2
    have y1 : decide ((L : Int) < 1) = true := by rw [decide_eq_true_iff]; omega
    clear hl hsl hget
    go_enter Try.func8, Try.ntmps8
    go_wp2
    go_ret2
    exact ⟨rfl, Below.refl _ _⟩
  have y1 : decide ((L : Int) < 1) = false := by rw [decide_eq_false_iff_not]; omega
  by_cases h96 : L ≤ 32768
  · have y2 : decide ((32768 : Int) < (L : Int)) = false := by rw [decide_eq_false_iff_not]; omega
    have hpos : 0 < s.size := by omega
    obtain ⟨c0, hc0⟩ : ∃ c0, s[0]'hpos = c0 := ⟨_, rfl⟩
    obtain ⟨x0, hx0⟩ : ∃ x0, c0.toNat = x0 := ⟨_, rfl⟩
    have hh : l.head? = some c0 := by rw [List.head?_eq_getElem?, List.getElem?_eq_getElem (by omega), ← hget 0 hpos (by omega), hc0]
    have hx := idx_run s 0 0 x0 rfl hpos (by rw [hc0]; exact hx0)
    by_cases h48 : c0 = 48 ∧ 1 < L
    · rw [rdn_bad l (fun h => h.2 ⟨by rw [hh, h48.1], by omega⟩)] at hr
      injection hr with e1 e2
      subst e1 e2
      have y3 : ((x0 : Int) == 48) = true := by rw [← hx0, h48.1]; rfl
      have y4 : decide ((1 : Int) < (L : Int)) = true := by rw [decide_eq_true_iff]; omega
      clear hl hsl hget hh hc0 hx0 h48
      go_enter Try.func8, Try.ntmps8
      go_wp2
      go_ret2
      exact ⟨rfl, Below.refl _ _⟩
    · have hgood : 1 ≤ l.length ∧ ¬ (l.head? = some 48 ∧ 1 < l.length) := by
        refine ⟨by omega, fun ⟨a, b⟩ => h48 ⟨?_, by omega⟩⟩
        rw [hh] at a
        injection a
      have hcase : (((x0 : Int) == 48) = false) ∨ (((x0 : Int) == 48) = true ∧ decide ((1 : Int) < (L : Int)) = false) := by
        by_cases e48 : c0 = 48
        · right
          refine ⟨by rw [← hx0, e48]; rfl, ?_⟩
          have : ¬ 1 < L := fun h => h48 ⟨e48, h⟩
          rw [decide_eq_false_iff_not]; omega
        · left
          have : x0 ≠ 48 := fun h => e48 (by rw [← UInt8.ofNat_toNat (x := c0), hx0, h]; rfl)
          simp; omega
      obtain ⟨N, hN⟩ : ∃ N, L / 2 + 1 = N := ⟨_, rfl⟩
      obtain ⟨H, hH⟩ : ∃ H, L / 2 = H := ⟨_, rfl⟩
      have d1 : (L : Int) / 2 = (H : Int) := by omega
      have hmk := c8_makeI N ((H : Int) + 1) (by omega) (by omega)
      have HG := box hgood
      have HR := box hr
      have HGET := box hget
      have HSL := box hsl
      have N2 : N ≤ 20000 := by omega
      have HN : 2 * N ≤ L + 2 := by omega
      have HN2 : L < 2 * N := by omega
      clear hl hsl hget hh hc0 hx0 h48 hgood hr hN hH
      rcases hcase with y3 | ⟨y3, y4⟩
      all_goals
        go_enter Try.func8, Try.ntmps8
        go_wp2
        clear hmk y1 y2 y3 hx
        go_loopw [5] (fun iv wr => ∃ i V : Nat, i ≤ L ∧ iv = .int .i64 i ∧ wr.heap[w.heap.size]? = some (.cells (c8 N V) 5) ∧ Below w.heap.size w wr ∧ Box (vals (l.drop (L - i)) = some V)) (fun iv _ => L - (intOf iv).toNat)
        case atStart => exact ⟨0, 0, by omega, rfl, heap_alloc_last _ _, (Below.refl _ _).alloc (Nat.le_refl _) _, box (by rw [List.drop_of_length_le (by have := HSL.out; omega)]; rfl)⟩
        case round =>
          obtain ⟨i, V, hi, rfl, row, hbw, HV⟩ := hrel
          by_cases hlt : i < L
          · have hk : L - 1 - i < s.size := by omega
            obtain ⟨c, hc⟩ : ∃ c, s[L - 1 - i]'hk = c := ⟨_, rfl⟩
            have hD := drop_one l L i HSL.out.symm hlt
            rw [← HGET.out (L - 1 - i) hk (by have := HSL.out; omega), hc] at hD
            have hx := idx_run s (L - 1 - i) ((L : Int) - 1 - (i : Int)) c.toNat (by omega) hk (by rw [hc])
            have n1 : IntKind.i64.wrap ((L : Int) - 1) = (L : Int) - 1 := wrap_i64_is _ (by omega) (by omega)
            have n2 : IntKind.i64.wrap ((L : Int) - 1 - (i : Int)) = (L : Int) - 1 - (i : Int) := wrap_i64_is _ (by omega) (by omega)
            have dl : decide (i < L) = true := decide_eq_true hlt
            cases hd : dv c with
            | none =>
              have HD := box hd
              have e1 := HR.out
              rw [rdn_none l (by rw [← List.take_append_drop (L - (i + 1)) l, hD]; exact vals_no _ _ c hd)] at e1
              injection e1 with e1 e2
              subst e1 e2
              clear hd hD hc hk
              go_wp2_with fail
              refine (rdigit_none c HD.out _).mono ?_
              rintro r w' ⟨rfl, hw'⟩
              subst hw'
              go_wp2
              go_ret2
              exact ⟨rfl, hbw⟩
            | some d =>
              have HD := box hd
              have d16 := (dv_spec c d hd).1
              have hdl : (l.drop (L - i)).length = i := by rw [List.length_drop, ← HSL.out]; omega
              have hVl := vals_lt i _ V hdl HV.out
              have hV2 : vals (l.drop (L - (i + 1))) = some (d * 16 ^ i + V) := by
                rw [hD, vals_cons c d V _ hd HV.out, hdl]
              obtain ⟨q, hq⟩ : ∃ q, q = i / 2 := ⟨_, rfl⟩
              obtain ⟨r, hr⟩ : ∃ r, r = 4 * (i % 2) := ⟨_, rfl⟩
              have q1 : (i : Int) / 2 = (q : Int) := by omega
              have r1 : 4 * ((i : Int) % 2) = (r : Int) := by omega
              have r8 : r < 8 := by omega
              have qN : q < N := by omega
              obtain ⟨y, hy⟩ : ∃ y, d * 2 ^ r = y := ⟨_, rfl⟩
              have y256 : y < 256 := by
                have hc2 : r = 0 ∨ r = 4 := by omega
                rw [← hy]
                rcases hc2 with h | h <;> rw [h] <;> omega
              have n4 : IntKind.u8.wrap (d : Int) = (d : Int) := wrap_u8_is d d (by omega)
              have n5 : IntKind.u8.wrap ((d : Int) * 2 ^ r) = (y : Int) := by
                rw [pow_cast, ← Int.natCast_mul, hy]
                exact wrap_u8_is y y (by omega)
              obtain ⟨Z, hZ⟩ : ∃ Z, d * 16 ^ i + V = Z := ⟨_, rfl⟩
              have hor := nib_step V d i q r y hVl hq hr hy
              rw [hZ] at hor
              have o8 : bits .or .u8 (d8 V q : Nat) (y : Nat) = ((d8 V q ||| y : Nat) : Int) := by
                show IntKind.u8.wrap ((BitVec.ofInt 8 (d8 V q : Int) ||| BitVec.ofInt 8 (y : Int)).toNat : Int) = _
                have h1 : (BitVec.ofInt 8 (d8 V q : Int)).toNat = d8 V q := by have := d8_lt V q; simp; omega
                have h2 : (BitVec.ofInt 8 (y : Int)).toNat = y := by simp; omega
                rw [BitVec.toNat_or, h1, h2]
                exact wrap_u8_is _ _ (Nat.mod_eq_of_lt (or_lt8 _ _ (d8_lt V q) y256))
              have RS : Box ((wr.setCell ⟨w.heap.size, q, none⟩ (.int .u8 ((d8 V q ||| y : Nat) : Int))).heap[w.heap.size]? = some (.cells (c8 N Z) 5)) := box (by rw [setCell_row row, c8_or N V q y Z qN y256 hor.symm])
              have k1 := c8_cell row qN
              have k2 := fz (k := q) row
              rw [hZ] at hV2
              have HV2 := box hV2
              clear hd hD hc hk hdl hVl hV2 hq hr hy hZ hor
              go_wp2_with fail
              refine (rdigit_some c d HD.out _).mono ?_
              rintro r w' ⟨rfl, hw'⟩
              subst hw'
              go_wp2
              go_roundw
              case rel => exact ⟨i + 1, Z, by omega, by go_num, RS.out, hbw.setCell (Nat.le_refl _) _, HV2⟩
              case measure => simp [intOf] <;> omega
          · obtain rfl : i = L := by omega
            have dl : decide (i < i) = false := by rw [decide_eq_false_iff_not]; omega
            have hv : vals l = some V := by have := HV.out; rw [Nat.sub_self, List.drop_zero] at this; exact this
            have e1 := HR.out
            rw [rdn_good l V (by have := HSL.out; omega) hv HG.out] at e1
            injection e1 with e1 e2
            subst e2
            have HE := box e1
            have hVl := vals_lt i l V HSL.out.symm hv
            have FX : Box (V < 2 ^ (8 * N)) := box (Nat.lt_of_lt_of_le hVl (by
              rw [show (16 : Nat) = 2 ^ 4 from rfl, ← Nat.pow_mul]
              exact Nat.pow_le_pow_right (by decide) (by omega)))
            clear e1 hv hVl
            go_wp2_with fail
            refine (nat_fit N V w.heap.size N v (by omega) FX.out HE.out _ row).mono ?_
            rintro r w2 ⟨rfl, hb2⟩
            go_wp2
            go_ret2
            exact ⟨rfl, hbw.trans (hb2.mono hbw.size)⟩
  · have y2 : decide ((32768 : Int) < (L : Int)) = true := by rw [decide_eq_true_iff]; omega
    rw [rdn_long l (by omega)] at hr
    injection hr with e1 e2
    subst e1 e2
    clear hl hsl hget h96
    go_enter Try.func8, Try.ntmps8
    go_wp2
    go_ret2
    exact ⟨rfl, Below.refl _ _⟩
end Go.Proofs.Ytjedplbhhohfmab
