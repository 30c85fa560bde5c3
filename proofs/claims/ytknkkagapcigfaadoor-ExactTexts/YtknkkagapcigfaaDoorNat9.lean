/-
  What the functions Text and Read of the document's answer for layer 5 return.
-/
import Derived.Test.YtknkkagapcigfaaDoorGx
import Derived.Test.YtknkkagapcigfaaDoorMx
import Derived.Test.YtknkkagapcigfaaDoorRwide4
namespace Go.Proofs.YtknkkagapcigfaaDoor
open Go.RowKit WMath

/-- What bytes say, the first the lowest. -/
def lv : List UInt8 → Nat
  | [] => 0
  | b :: l => 256 * lv l + b.toNat
theorem lv_snoc (b : UInt8) : ∀ l : List UInt8, lv (l ++ [b]) = lv l + 2 ^ (8 * l.length) * b.toNat
  | [] => by simp [lv]
  | c :: l => by
    rw [List.cons_append, lv, lv, lv_snoc b l, List.length_cons, pow8, Nat.mul_add, Nat.mul_comm (2 ^ (8 * l.length)) 256, Nat.mul_assoc]
    omega
theorem lv_lt : ∀ l : List UInt8, lv l < 2 ^ (8 * l.length)
  | [] => by decide
  | c :: l => by
    have := lv_lt l
    have := c.toNat_lt
    rw [lv, List.length_cons, pow8]
    omega
theorem lv_d8 : ∀ (l : List UInt8) (k : Nat) (h : k < l.length), d8 (lv l) k = (l[k]'h).toNat
  | [], k, h => by simp at h
  | c :: l, 0, _ => by rw [lv, d8_snoc0 _ _ c.toNat_lt]; rfl
  | c :: l, k + 1, h => by rw [lv, d8_snocS _ _ _ c.toNat_lt, lv_d8 l k (by simpa using h)]; rfl

theorem c8_room (C : Nat) (k : Int) (hk : k = (C : Int)) (h : C ≤ 1000000) (w : World) : (Instr.makeSlice 46 (.int .i64 0) (.int .i64 k)).run Tryd.prog w = .ok (.slice (some ⟨w.heap.size, 0, none⟩) 0 C) (w.alloc (.cells (c8 C 0) 5)) := by
  subst hk
  obtain ⟨i, hi, hzz⟩ := Option.map_eq_some_iff.1 (show (Tryd.prog.info? 5).map (fun i => (i.zero, i.size, i.bytes)) = some (some (.int .u8 0), 1, 1) by kernel_rfl)
  simp only [Prod.mk.injEq] at hzz
  obtain ⟨hz, hs, hb⟩ := hzz
  have hr := run_make (P := Tryd.prog) w 46 5 i (.int .u8 0) Tryd.underlying46 hi hz .i64 .i64 0 C (Int.le_refl _) (by omega) (by rw [hb]; omega) (by omega)
  simp only [Int.toNat_natCast, hs, Nat.mul_one, Int.toNat_zero] at hr
  rw [hr, ← c8_made]
  rfl

/-- The first k bytes of a row, as a string. -/
theorem c8_strP {w : World} {b c L k X : Nat} (v : ByteArray) (h : w.heap[b]? = some (.cells (c8 L X) 5)) (hk : v.size = k) (hkL : k ≤ L) (hv : ∀ (j : Nat) (h1 : j < v.size), (v[j]'h1).toNat = d8 X j) :
    (convert 46 9 (.slice (some ⟨b, 0, none⟩) k c)).run Tryd.prog w = .ok (.string v) w := by
  rw [run_convert_bytes_string w 46 9 5 _ _ _ Tryd.underlying46 Tryd.underlying5 Tryd.underlying9]
  have hz : v.data.toList.length = k := by rw [Array.length_toList]; exact hk
  have hl := run_loadCells_list (P := Tryd.prog) w ⟨b, 0, none⟩ (v.data.toList.map fun x => Value.int .u8 (x.toNat : Int)) (fun j u hu => by
    have hadd : (⟨b, 0, none⟩ : Addr).add j = ⟨b, j, none⟩ := by unfold Addr.add; split <;> simp_all
    have hj : j < v.data.toList.length := by
      have := (List.getElem?_eq_some_iff.1 hu).1
      rwa [List.length_map] at this
    have hj2 : j < v.size := by rw [hk]; omega
    rw [hadd, c8_cell h (by omega), ← hv j hj2, ← hu, List.getElem?_map, List.getElem?_eq_getElem hj]
    rfl)
  rw [List.length_map, hz] at hl
  rw [run_bytesToString (P := Tryd.prog) w ⟨b, 0, none⟩ k c (v.data.toList.map fun x => (x.toNat : Int)) (by rw [hl]; simp), show ByteArray.empty = ⟨#[]⟩ from rfl, fold_bytes]
  simp

theorem dig_fact8 (w : World) (d : Nat) (h : d < 16) :
    (Instr.index 9 (.string ⟨#[48, 49, 50, 51, 52, 53, 54, 55, 56, 57, 97, 98, 99, 100, 101, 102]⟩) (.int .u8 (d : Nat))).run Tryd.prog w = .ok (.int .u8 ((dg d).toNat : Int)) w := by
  have hd : d = 0 ∨ d = 1 ∨ d = 2 ∨ d = 3 ∨ d = 4 ∨ d = 5 ∨ d = 6 ∨ d = 7 ∨ d = 8 ∨ d = 9 ∨ d = 10 ∨ d = 11 ∨ d = 12 ∨ d = 13 ∨ d = 14 ∨ d = 15 := by omega
  rcases hd with rfl | rfl | rfl | rfl | rfl | rfl | rfl | rfl | rfl | rfl | rfl | rfl | rfl | rfl | rfl | rfl <;> (rw [run_index_string (P := Tryd.prog) w 9 _ _ _ Tryd.underlying9]; rfl)

/-- The text of the first i bytes. -/
def pt (n L i : Nat) : List UInt8 := if i = 0 then [] else tx (n / 2 ^ (8 * (L - i)))
theorem pt_step (n L i x : Nat) (hL : nl n = L) (hi : i < L) (hx : d8 n (L - 1 - i) = x) :
    pt n L (i + 1) = if 0 < i ∨ 0 < x / 16 then pt n L i ++ [dg (x / 16)] ++ [dg (x % 16)] else pt n L i ++ [dg (x % 16)] := by
  have x256 : x < 256 := by rw [← hx]; exact d8_lt _ _
  have hm : n / 2 ^ (8 * (L - (i + 1))) = 256 * (n / 2 ^ (8 * (L - i))) + x := by
    have e1 : L - i = (L - 1 - i) + 1 := by omega
    have e2 : L - (i + 1) = L - 1 - i := by omega
    rw [e1, e2, ← hx, pow8, ← Nat.div_div_eq_div_mul]
    unfold d8
    omega
  unfold pt
  rw [if_neg (by omega), hm]
  have hn := nl_lt n
  rw [hL] at hn
  by_cases h0 : i = 0
  · subst h0
    rw [Nat.sub_zero, Nat.div_eq_of_lt hn, Nat.mul_zero, Nat.zero_add, if_pos rfl]
    by_cases h1 : 0 < x / 16
    · rw [if_pos (Or.inr h1), tx_big x (by omega), tx_small (x / 16) (by omega)]
      rfl
    · rw [if_neg (by omega), tx_small x (by omega), Nat.mod_eq_of_lt (by omega)]
      rfl
  · have hm0 : 0 < n / 2 ^ (8 * (L - i)) := by
      have h1 := nl_le n (fun e => by rw [e, nl_zero] at hL; omega)
      rw [hL] at h1
      have h2 : 2 ^ (8 * (L - i)) ≤ 2 ^ (8 * (L - 1)) := pow8_le _ _ (by omega)
      exact Nat.div_pos (by omega) (Nat.two_pow_pos _)
    generalize n / 2 ^ (8 * (L - i)) = m at *
    rw [if_neg h0, if_pos (Or.inl (by omega)), tx_big (256 * m + x) (by omega), tx_big ((256 * m + x) / 16) (by omega), show (256 * m + x) / 16 / 16 = m by omega, show (256 * m + x) / 16 % 16 = x / 16 by omega, show (256 * m + x) % 16 = x % 16 by omega]
theorem and15 (x : Nat) (h : x < 256) : bits .and .u8 (x : Nat) 15 = ((x % 16 : Nat) : Int) := by
  show IntKind.u8.wrap ((BitVec.ofInt 8 (x : Int) &&& BitVec.ofInt 8 15).toNat : Int) = _
  have h1 : (BitVec.ofInt 8 15).toNat = 2 ^ 4 - 1 := by decide
  have h2 : (BitVec.ofInt 8 (x : Int)).toNat = x := by simp; omega
  rw [BitVec.toNat_and, h1, Nat.and_two_pow_sub_one_eq_mod, h2]
  exact wrap_u8_is _ _ (by omega)
theorem dg_lt (d : Nat) : (dg d).toNat < 256 := (dg d).toNat_lt

set_option maxHeartbeats 2000000 in
theorem nat_Text (n : Nat) (s v : ByteArray) (hs : nbA n = s) (hn : nl n ≤ 16384) (hv : (⟨(tx n).toArray⟩ : ByteArray) = v) (w : World) :
    Calls Tryd.prog 17 #[.string s] w fun e w' => e = .returned (.string v) ∧ Below w.heap.size w w' := by
  obtain ⟨L, hL⟩ : ∃ L, nl n = L := ⟨_, rfl⟩
  have hz : s.size = L := by rw [← hs, nbA_size, hL]
  have d2 := eq_empty s
  by_cases h0 : n = 0
  · subst h0
    rw [decide_eq_true (by rw [hz, ← hL, nl_zero])] at d2
    have ev : v = ⟨#[48]⟩ := by rw [← hv, tx_small 0 (by decide)]; rfl
    subst ev
    clear hs hv hL
    go_enter Tryd.func17, Tryd.ntmps17
    go_wp2
    go_ret
    exact ⟨rfl, Below.refl _ _⟩
  · have hp := nl_pos n h0
    rw [hL] at hn hp
    rw [decide_eq_false (by omega)] at d2
    obtain ⟨C, hC⟩ : ∃ C, 2 * L = C := ⟨_, rfl⟩
    have n1 : IntKind.i64.wrap (2 * (L : Int)) = (C : Int) := by rw [wrap_i64_is _ (by omega) (by omega)]; omega
    have hmk := c8_room C (C : Int) rfl (by omega)
    have HS := box hs
    have HV := box hv
    have HL := box hL
    have HN := box h0
    clear hs hv hL h0
    go_enter Tryd.func17, Tryd.ntmps17
    go_wp2
    clear hmk n1 d2
    obtain ⟨g, hg⟩ : ∃ g, w.heap.size = g := ⟨_, rfl⟩
    have r0 : (w.alloc (.cells (c8 C 0) 5)).heap[g]? = some (.cells (c8 C 0) 5) := by rw [← hg]; exact heap_alloc_last _ _
    rw [hg]
    go_loopw [3, 4] (fun ov iv wr => ∃ (i k : Nat) (l : List UInt8), i ≤ L ∧ iv = .int .i64 i ∧ ov = .slice (some ⟨g, 0, none⟩) k C ∧ k ≤ 2 * i ∧ l.length = k ∧ wr.heap[g]? = some (.cells (c8 C (lv l)) 5) ∧ Below w.heap.size w wr ∧ Box (l = pt n L i)) (fun _ iv _ => L - (intOf iv).toNat)
    case atStart => exact ⟨0, 0, [], by omega, rfl, rfl, by omega, rfl, r0, (Below.refl _ _).alloc (Nat.le_refl _) _, box rfl⟩
    case round =>
      clear r0
      obtain ⟨i, k, l, hi, rfl, rfl, hk, hlk, row, hbw, HP⟩ := hrel
      by_cases hlt : i < L
      · have hi2 : i < s.size := by omega
        obtain ⟨x, hx⟩ : ∃ x, (s[i]'hi2).toNat = x := ⟨_, rfl⟩
        have hxd : d8 n (L - 1 - i) = x := by
          rw [← hx]
          have h := HS.out
          subst h
          rw [nbA_get, HL.out]
        have x256 : x < 256 := by rw [← hxd]; exact d8_lt _ _
        have PS := pt_step n L i x HL.out hlt hxd
        obtain ⟨h, hh⟩ : ∃ h, x / 16 = h := ⟨_, rfl⟩
        obtain ⟨o, ho⟩ : ∃ o, x % 16 = o := ⟨_, rfl⟩
        rw [hh, ho, ← HP.out] at PS
        have h16 : h < 16 := by omega
        have o16 : o < 16 := by omega
        have m1 : (x : Int) / 16 = (h : Int) := by omega
        have m2 := and15 x x256
        rw [ho] at m2
        have hxr := idx_run s i (i : Int) x rfl hi2 hx
        have dl : decide (i < L) = true := decide_eq_true hlt
        have F1 := fun w => dig_fact8 w h h16
        have F2 := fun w => dig_fact8 w o o16
        obtain ⟨dh, hdh⟩ : ∃ dh, (dg h).toNat = dh := ⟨_, rfl⟩
        obtain ⟨eo, hdo⟩ : ∃ eo, (dg o).toNat = eo := ⟨_, rfl⟩
        have dh256 : dh < 256 := by rw [← hdh]; exact dg_lt h
        have do256 : eo < 256 := by rw [← hdo]; exact dg_lt o
        rw [hdh] at F1
        rw [hdo] at F2
        have gs : g < wr.heap.size := (Array.getElem?_eq_some_iff.1 row).1
        have hll := lv_lt l
        rw [hlk] at hll
        have kC : k < C := by omega
        have kC1 : k + 1 < C := by omega
        have c1 := c8_cell row kC
        have f1 := fz (k := k) row
        have hcase : (0 < i ∨ 0 < h) ∨ (¬ (0 < i ∨ 0 < h)) := by by_cases e : 0 < i ∨ 0 < h <;> simp [e]
        rcases hcase with hA | hB
        · rw [if_pos hA] at PS
          obtain ⟨W1, hW1⟩ : ∃ W1, (wr.setCell ⟨g, k, none⟩ (.int .u8 (dh : Nat))).alloc (.cells #[.int .u8 (dh : Nat)] 5) = W1 := ⟨_, rfl⟩
          have row0 : (wr.setCell ⟨g, k, none⟩ (.int .u8 (dh : Nat))).heap[g]? = some (.cells (c8 C (lv (l ++ [dg h]))) 5) := by
            rw [setCell_row row, c8_push C (lv l) k dh _ kC hll dh256 rfl, lv_snoc, hlk, hdh]
          have row1 : W1.heap[g]? = some (.cells (c8 C (lv (l ++ [dg h]))) 5) := by
            rw [← hW1, heap_below _ _ _ (Array.getElem?_eq_some_iff.1 row0).1]; exact row0
          have b0 : Below w.heap.size w (wr.setCell ⟨g, k, none⟩ (.int .u8 (dh : Nat))) := hbw.setCell (by show w.heap.size ≤ g; omega) _
          have b1 : Below w.heap.size w W1 := by rw [← hW1]; exact b0.alloc b0.size _
          have g1 : g < W1.heap.size := (Array.getElem?_eq_some_iff.1 row1).1
          have c2 := c8_cell row1 kC1
          have f2 := fz (k := k + 1) row1
          have hll2 := lv_lt (l ++ [dg h])
          rw [List.length_append, List.length_singleton, hlk] at hll2
          have row2 : (W1.setCell ⟨g, k + 1, none⟩ (.int .u8 (eo : Nat))).heap[g]? = some (.cells (c8 C (lv (l ++ [dg h] ++ [dg o]))) 5) := by
            rw [setCell_row row1, c8_push C _ (k + 1) eo _ kC1 hll2 do256 rfl, lv_snoc _ (l ++ [dg h]), List.length_append, List.length_singleton, hlk, hdo]
          have RS : Box (((W1.setCell ⟨g, k + 1, none⟩ (.int .u8 (eo : Nat))).alloc (.cells #[.int .u8 (eo : Nat)] 5)).heap[g]? = some (.cells (c8 C (lv (l ++ [dg h] ++ [dg o]))) 5)) := box (by
            rw [heap_below _ _ _ (Array.getElem?_eq_some_iff.1 row2).1]; exact row2)
          have b2 : Below w.heap.size w (W1.setCell ⟨g, k + 1, none⟩ (.int .u8 (eo : Nat))) := b1.setCell (by show w.heap.size ≤ g; omega) _
          have BS : Box (Below w.heap.size w ((W1.setCell ⟨g, k + 1, none⟩ (.int .u8 (eo : Nat))).alloc (.cells #[.int .u8 (eo : Nat)] 5))) := box (b2.alloc b2.size _)
          have NP := box PS.symm
          have hcase2 : decide (0 < i) = true ∨ (decide (0 < i) = false ∧ decide (0 < h) = true) := by
            by_cases e : 0 < i
            · exact Or.inl (decide_eq_true e)
            · exact Or.inr ⟨decide_eq_false e, decide_eq_true (by omega)⟩
          clear hx hxd PS hh ho hdh hdo hA row0 row2 hll hll2 b0 b1 b2
          rcases hcase2 with e1 | ⟨e1, e3⟩
          all_goals
            go_wp2
            go_roundw
            case rel => exact ⟨i + 1, k + 1 + 1, l ++ [dg h] ++ [dg o], by omega, by go_num, rfl, by omega, by simp [hlk], RS.out, BS.out, NP⟩
            case measure => simp [intOf] <;> omega
        · rw [if_neg hB] at PS
          have row0 : (wr.setCell ⟨g, k, none⟩ (.int .u8 (eo : Nat))).heap[g]? = some (.cells (c8 C (lv (l ++ [dg o]))) 5) := by
            rw [setCell_row row, c8_push C (lv l) k eo _ kC hll do256 rfl, lv_snoc, hlk, hdo]
          have RS : Box (((wr.setCell ⟨g, k, none⟩ (.int .u8 (eo : Nat))).alloc (.cells #[.int .u8 (eo : Nat)] 5)).heap[g]? = some (.cells (c8 C (lv (l ++ [dg o]))) 5)) := box (by
            rw [heap_below _ _ _ (Array.getElem?_eq_some_iff.1 row0).1]; exact row0)
          have b0 : Below w.heap.size w (wr.setCell ⟨g, k, none⟩ (.int .u8 (eo : Nat))) := hbw.setCell (by show w.heap.size ≤ g; omega) _
          have BS : Box (Below w.heap.size w ((wr.setCell ⟨g, k, none⟩ (.int .u8 (eo : Nat))).alloc (.cells #[.int .u8 (eo : Nat)] 5))) := box (b0.alloc b0.size _)
          have NP := box PS.symm
          have e1 : decide (0 < i) = false := decide_eq_false (by omega)
          have e3 : decide (0 < h) = false := decide_eq_false (by omega)
          clear hx hxd PS hh ho hdh hdo hB row0 hll b0
          go_wp2
          go_roundw
          case rel => exact ⟨i + 1, k + 1, l ++ [dg o], by omega, by go_num, rfl, by omega, by simp [hlk], RS.out, BS.out, NP⟩
          case measure => simp [intOf] <;> omega
      · obtain rfl : i = L := by omega
        have dl : decide (i < i) = false := by rw [decide_eq_false_iff_not]; omega
        have el : l = tx n := by
          rw [HP.out]; unfold pt
          rw [if_neg (by omega), Nat.sub_self, Nat.mul_zero, Nat.pow_zero, Nat.div_one]
        have hvz : v.size = k := by rw [← HV.out, ← el]; show l.toArray.size = _; rw [List.size_toArray, hlk]
        have hsv := c8_strP (c := C) v row hvz (by omega) (fun j h1 => by
          have hj : j < l.length := by omega
          rw [lv_d8 l j hj]
          have hV := HV.out
          rw [← el] at hV
          subst hV
          rfl)
        go_wp2
        go_ret
        exact ⟨rfl, hbw⟩

theorem good_any (l : List UInt8) (v : Nat) (hv : vals l = some v) : tx v = l ↔ (1 ≤ l.length ∧ ¬ (l.head? = some 48 ∧ 1 < l.length)) := by
  constructor
  · intro h
    have hne : l ≠ [] := by rw [← h]; exact tx_ne v
    refine ⟨List.length_pos_iff.2 hne, fun ⟨h1, h2⟩ => ?_⟩
    by_cases h0 : v = 0
    · subst h0
      rw [tx_small 0 (by decide)] at h
      rw [← h] at h2
      simp at h2
    · exact tx_head v h0 48 (by rw [h]; exact h1) rfl
  · intro ⟨h1, h2⟩
    obtain ⟨n, hn⟩ : ∃ n, l.length = n + 1 := ⟨l.length - 1, by omega⟩
    refine (tx_of_vals n l v hn hv ?_).1
    by_cases h3 : n = 0
    · exact Or.inl h3
    · exact Or.inr (fun h => h2 ⟨h, by omega⟩)

/-- What is read out of a text: the number, and the error. -/
def rdn (l : List UInt8) : ByteArray × Int := if l.length ≤ 32768 then (match vals l with | some v => if tx v = l then (nbA v, 0) else (⟨#[]⟩, 20) | none => (⟨#[]⟩, 20)) else (⟨#[]⟩, 20)
theorem rdn_long (l : List UInt8) (h : ¬ l.length ≤ 32768) : rdn l = (⟨#[]⟩, 20) := by unfold rdn; rw [if_neg h]
theorem rdn_none (l : List UInt8) (h : vals l = none) : rdn l = (⟨#[]⟩, 20) := by unfold rdn; rw [h]; simp
theorem rdn_bad (l : List UInt8) (h : ¬ (1 ≤ l.length ∧ ¬ (l.head? = some 48 ∧ 1 < l.length))) : rdn l = (⟨#[]⟩, 20) := by
  unfold rdn
  split
  · cases hv : vals l with
    | none => rfl
    | some v =>
      simp only
      rw [if_neg (fun e => h ((good_any l v hv).1 e))]
  · rfl
theorem rdn_good (l : List UInt8) (v : Nat) (hl : l.length ≤ 32768) (hv : vals l = some v) (h : 1 ≤ l.length ∧ ¬ (l.head? = some 48 ∧ 1 < l.length)) : rdn l = (nbA v, 0) := by
  unfold rdn
  rw [if_pos hl, hv]
  simp only
  rw [if_pos ((good_any l v hv).2 h)]

theorem vals_from (a V : Nat) (m : List UInt8) : vals m = some V → m.foldl vstep (some a) = some (a * 16 ^ m.length + V) := by
  refine rev_ind (P := fun m => ∀ V, vals m = some V → m.foldl vstep (some a) = some (a * 16 ^ m.length + V)) ?_ (fun l b ih => ?_) m V
  · intro V h
    rw [vals_nil] at h
    injection h with h
    simp [← h]
  · intro V h
    rw [vals_snoc] at h
    rw [List.foldl_append, List.foldl_cons, List.foldl_nil]
    unfold vstep at h
    cases h1 : vals l with
    | none => rw [h1] at h; cases h
    | some v =>
      cases h2 : dv b with
      | none => rw [h1, h2] at h; cases h
      | some d =>
        rw [h1, h2] at h
        injection h with h
        rw [ih v h1]
        unfold vstep
        rw [h2]
        simp only [Option.some.injEq, List.length_append, List.length_singleton]
        rw [Nat.pow_succ, Nat.mul_add, ← h, ← Nat.mul_assoc, ← Nat.mul_assoc, Nat.mul_comm 16 a]
        rw [Nat.mul_right_comm]
        omega
theorem vals_cons (c : UInt8) (d V : Nat) (m : List UInt8) (hd : dv c = some d) (hV : vals m = some V) : vals (c :: m) = some (d * 16 ^ m.length + V) := by
  have e : vals (c :: m) = m.foldl vstep (vstep (some 0) c) := rfl
  rw [e]
  have e2 : vstep (some 0) c = some d := by unfold vstep; rw [hd]; simp
  rw [e2]
  exact vals_from d V m hV
theorem vals_no (p m : List UInt8) (c : UInt8) (hd : dv c = none) : vals (p ++ c :: m) = none := by
  unfold vals
  rw [List.foldl_append, List.foldl_cons]
  have : ∀ o, vstep o c = none := by intro o; unfold vstep; rw [hd]; cases o <;> rfl
  rw [this, vstep_none]
theorem drop_one (l : List UInt8) (L i : Nat) (hL : l.length = L) (hi : i < L) : l.drop (L - (i + 1)) = l[L - 1 - i]'(by omega) :: l.drop (L - i) := by
  have h : L - (i + 1) < l.length := by omega
  rw [List.drop_eq_getElem_cons h]
  have e : L - (i + 1) + 1 = L - i := by omega
  have e2 : L - (i + 1) = L - 1 - i := by omega
  rw [e]
  simp only [e2]
theorem nib_step (V d i q r y : Nat) (hV : V < 16 ^ i) (hq : q = i / 2) (hr : r = 4 * (i % 2)) (hy : d * 2 ^ r = y) : V ||| y * 2 ^ (8 * q) = d * 16 ^ i + V := by
  have e : (16 : Nat) ^ i = 2 ^ (4 * i) := by rw [show (16 : Nat) = 2 ^ 4 from rfl, ← Nat.pow_mul]
  rw [e] at hV ⊢
  rw [← hy, Nat.mul_assoc, ← Nat.pow_add, show r + 8 * q = 4 * i by omega, Nat.add_comm]
  exact (or_disj _ _ _ hV).symm

end Go.Proofs.YtknkkagapcigfaaDoor
