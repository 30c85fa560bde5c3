/-
  What the function Text of package nat returns.
-/
import Derived.Test.YtknkkagapcigfaaDoorList8
import Derived.Test.YtknkkagapcigfaaDoorNat9
namespace Go.Proofs.YtknkkagapcigfaaDoor
open Go.RowKit WMath

theorem ext1 (s : ByteArray) (x : Nat) (hp : 0 < s.size) (hx : (s[0]'hp).toNat = x) : ((s.extract 0 1).toList == [48]) = decide (x = 48) := by
  have e : (s.extract 0 1).toList = [s[0]'hp] := by
    apply List.ext_getElem
    · rw [toList_len, ByteArray.size_extract]; simp; omega
    · intro i h1 h2
      have : i = 0 := by simpa using h2
      subst this
      simp only [ByteArray.toList_eq]
      simp
      rfl
  rw [e, Bool.eq_iff_iff, beq_iff_eq, decide_eq_true_iff, ← hx]
  constructor
  · intro h
    injection h with h
    rw [h]; rfl
  · intro h
    rw [show s[0] = 48 from UInt8.toNat_inj.1 h]
theorem hasP (s : ByteArray) (x : Nat) (hp : 0 < s.size) (hx : (s[0]'hp).toNat = x) (w : World) :
    Calls Tryd.prog 46 #[.string s, .string ⟨#[48]⟩] w fun r w' => r = .returned (.bool (decide (x = 48))) ∧ w' = w := by
  have d1 : decide (1 ≤ s.size) = true := decide_eq_true hp
  have e := ext1 s x hp hx
  clear hx
  go_enter Tryd.func46, Tryd.ntmps46
  go_wp2
  go_ret
  exact ⟨rfl, rfl⟩
theorem trimP0 (s v : ByteArray) (x : Nat) (hp : 0 < s.size) (hx : (s[0]'hp).toNat = x) (hv : (if x = 48 then s.extract 1 s.size else s) = v) (w : World) :
    Calls Tryd.prog 33 #[.string s, .string ⟨#[48]⟩] w fun r w' => r = .returned (.string v) ∧ w' = w := by
  have H := box (hasP s x hp hx)
  by_cases h : x = 48
  · rw [if_pos h] at hv
    rw [decide_eq_true h] at H
    subst hv
    clear hx h
    go_enter Tryd.func33, Tryd.ntmps33
    go_wp2_with fail
    refine (H.out _).mono ?_
    rintro e w' ⟨rfl, rfl⟩
    go_wp2
    go_ret
    exact ⟨rfl, rfl⟩
  · rw [if_neg h] at hv
    rw [decide_eq_false h] at H
    subst hv
    clear hx h
    go_enter Tryd.func33, Tryd.ntmps33
    go_wp2_with fail
    refine (H.out _).mono ?_
    rintro e w' ⟨rfl, rfl⟩
    go_wp2
    go_ret
    exact ⟨rfl, rfl⟩
theorem trimP (s v : ByteArray) (x : Nat) (hp : 0 < s.size) (hx : (s[0]'hp).toNat = x) (hv : (if x = 48 then s.extract 1 s.size else s) = v) (w : World) :
    Calls Tryd.prog 24 #[.string s, .string ⟨#[48]⟩] w fun r w' => r = .returned (.string v) ∧ w' = w := by
  have H := box (trimP0 s v x hp hx hv)
  clear hx hv
  go_enter Tryd.func24, Tryd.ntmps24
  go_wp2_with fail
  refine (H.out _).mono ?_
  rintro e w' ⟨rfl, rfl⟩
  go_wp2
  go_ret
  exact ⟨rfl, rfl⟩

theorem hxs_cons (L n : Nat) : hxs (L + 1) n = dg (n / 16 ^ L % 16) :: hxs L n := by
  unfold hxs
  rw [List.range_succ_eq_map, List.map_cons, List.map_map]
  congr 1
  apply List.map_congr_left
  intro i hi
  rw [List.mem_range] at hi
  show dg (n / 16 ^ (L + 1 - 1 - (i + 1)) % 16) = _
  rw [show L + 1 - 1 - (i + 1) = L - 1 - i by omega]
theorem hxs_two (i m x : Nat) (hx : x < 256) : hxs (2 * (i + 1)) (256 * m + x) = hxs (2 * i) m ++ [dg (x / 16)] ++ [dg (x % 16)] := by
  rw [show 2 * (i + 1) = 2 * i + 1 + 1 by omega, hxs_succ, hxs_succ, show (256 * m + x) / 16 / 16 = m by omega, show (256 * m + x) / 16 % 16 = x / 16 by omega, show (256 * m + x) % 16 = x % 16 by omega]
theorem dg48 (d : Nat) (h : d < 16) : ((dg d).toNat = 48) ↔ d = 0 := by
  have hd : d = 0 ∨ d = 1 ∨ d = 2 ∨ d = 3 ∨ d = 4 ∨ d = 5 ∨ d = 6 ∨ d = 7 ∨ d = 8 ∨ d = 9 ∨ d = 10 ∨ d = 11 ∨ d = 12 ∨ d = 13 ∨ d = 14 ∨ d = 15 := by omega
  rcases hd with rfl | rfl | rfl | rfl | rfl | rfl | rfl | rfl | rfl | rfl | rfl | rfl | rfl | rfl | rfl | rfl <;> decide
theorem sixteen (k : Nat) : 16 ^ k = 2 ^ (4 * k) := by rw [Nat.pow_mul]
/-- The digits of all bytes, without a nought ahead, are the text. -/
theorem tx_trim (n L d : Nat) (hL : nl n = L) (h0 : n ≠ 0) (hd : n / 16 ^ (2 * L - 1) % 16 = d) : hxs (2 * L) n = dg d :: hxs (2 * L - 1) n ∧ (d = 0 → hxs (2 * L - 1) n = tx n) ∧ (d ≠ 0 → hxs (2 * L) n = tx n) := by
  have hp := nl_pos n h0
  rw [hL] at hp
  have h1 := nl_le n h0
  have h2 := nl_lt n
  rw [hL] at h1 h2
  have e : 2 * L = 2 * L - 1 + 1 := by omega
  have h3 : n < 16 ^ (2 * L) := by rw [sixteen, show 4 * (2 * L) = 8 * L by omega]; exact h2
  have h4 : n / 16 ^ (2 * L - 1) < 16 := by
    apply Nat.div_lt_of_lt_mul
    rw [Nat.mul_comm, ← Nat.pow_succ', show (2 * L - 1).succ = 2 * L by omega]
    exact h3
  rw [Nat.mod_eq_of_lt h4] at hd
  have hb := blen_pos n h0
  refine ⟨by
    have := hxs_cons (2 * L - 1) n
    rw [← e, Nat.mod_eq_of_lt h4, hd] at this
    exact this, fun hd0 => ?_, fun hd0 => ?_⟩
  · unfold tx
    congr 1
    have h5 : n < 2 ^ (4 * (2 * L - 1)) := by
      rw [hd0] at hd
      rw [← sixteen]
      exact (Nat.div_eq_zero_iff_lt (Nat.pow_pos (by decide))).1 hd
    have h6 := blen_le_of n _ h5
    have h7 : 8 * (L - 1) < blen n := (Nat.pow_lt_pow_iff_right (by decide : 1 < 2)).1 (Nat.lt_of_le_of_lt h1 (blen_lt n))
    unfold nd
    omega
  · unfold tx
    congr 1
    have h5 : 2 ^ (4 * (2 * L - 1)) ≤ n := by
      rw [← sixteen]
      have : 0 < n / 16 ^ (2 * L - 1) := by omega
      have h6 := Nat.mul_le_of_le_div _ 1 _ this
      omega
    have h7 : 4 * (2 * L - 1) < blen n := (Nat.pow_lt_pow_iff_right (by decide : 1 < 2)).1 (Nat.lt_of_le_of_lt h5 (blen_lt n))
    have h8 := blen_le_of n _ h2
    unfold nd
    omega
theorem pn_text_no (s : ByteArray) (hm : mayB s = false) (w : World) :
    Calls Tryd.prog 11 #[.string s] w fun r w' => r = .returned (.tuple #[.string ⟨#[]⟩, .int .i64 2]) ∧ Below w.heap.size w w' := by
  have HO := box hm
  clear hm
  go_enter Tryd.func11, Tryd.ntmps11
  go_wp2_with fail
  refine (n_may1 s false HO.out _ w).mono ?_
  rintro r w0 ⟨rfl, rfl⟩
  go_wp2
  go_ret2
  exact ⟨rfl, bal _ _⟩

set_option maxRecDepth 100000 in
set_option maxHeartbeats 2000000 in
theorem pn_text_ok (n : Nat) (s v : ByteArray) (hs : nbA n = s) (hn : nl n ≤ 16384) (hv : (⟨(tx n).toArray⟩ : ByteArray) = v) (w : World) :
    Calls Tryd.prog 11 #[.string s] w fun r w' => r = .returned (.tuple #[.string v, .int .i64 0]) ∧ Below w.heap.size w w' := by
  obtain ⟨L, hL⟩ : ∃ L, nl n = L := ⟨_, rfl⟩
  have hz : s.size = L := by rw [← hs, nbA_size, hL]
  have HM : Box (mayB s = true) := box (by rw [← hs]; exact mayB_nb n hn)
  have d2 := eq_empty s
  rw [hL] at hn
  by_cases h0 : n = 0
  · subst h0
    have e2 : L = 0 := by rw [← hL]; exact nl_zero
    rw [decide_eq_true (by omega)] at d2
    have ev : v = ⟨#[48]⟩ := by rw [← hv, tx_small 0 (by decide)]; rfl
    subst ev
    clear hs hv hL
    go_enter Tryd.func11, Tryd.ntmps11
    go_wp2_with fail
    refine (n_may1 s true HM.out _ w).mono ?_
    rintro r w0 ⟨rfl, rfl⟩
    go_wp2
    go_ret2
    exact ⟨rfl, bal _ _⟩
  · have hp := nl_pos n h0
    rw [hL] at hp
    rw [decide_eq_false (by omega)] at d2
    obtain ⟨C, hC⟩ : ∃ C, 2 * L = C := ⟨_, rfl⟩
    have n1 : IntKind.i64.wrap (2 * (L : Int)) = (C : Int) := by rw [wrap_i64_is _ (by omega) (by omega)]; omega
    have hmk := c8_room C (C : Int) rfl (by omega)
    have HS := box hs
    have HV := box hv
    have HL := box hL
    have HN := box h0
    clear hs hv hL h0
    go_enter Tryd.func11, Tryd.ntmps11
    go_wp2_with fail
    refine (n_may1 s true HM.out _ w).mono ?_
    rintro r w0 ⟨rfl, rfl⟩
    go_wp2
    clear hmk n1 d2
    obtain ⟨g, hg⟩ : ∃ g, w.heap.size + 1 = g := ⟨_, rfl⟩
    have hgs : (w.alloc (.cells #[.string s] 22)).heap.size = g := by rw [size_al, hg]
    have r0 : ((w.alloc (.cells #[.string s] 22)).alloc (.cells (c8 C 0) 5)).heap[g]? = some (.cells (c8 C 0) 5) := by rw [← hgs]; exact heap_alloc_last _ _
    have b0 : Below w.heap.size w ((w.alloc (.cells #[.string s] 22)).alloc (.cells (c8 C 0) 5)) := btr (bal _ _) (bal _ _)
    rw [hg]
    go_loopw [4, 18] (fun ov iv wr => ∃ (i : Nat) (l : List UInt8), i ≤ L ∧ iv = .int .i64 i ∧ ov = .slice (some ⟨g, 0, none⟩) (2 * i) C ∧ l.length = 2 * i ∧ wr.heap[g]? = some (.cells (c8 C (lv l)) 5) ∧ Below w.heap.size w wr ∧ Box (l = hxs (2 * i) (n / 2 ^ (8 * (L - i))))) (fun _ iv _ => L - (intOf iv).toNat)
    case atStart => exact ⟨0, [], by omega, rfl, rfl, rfl, r0, b0, box rfl⟩
    case round =>
      clear r0 b0
      obtain ⟨i, l, hi, rfl, rfl, hlk, row, hbw, HP⟩ := hrel
      by_cases hlt : i < L
      · have hi2 : i < s.size := by omega
        obtain ⟨x, hx⟩ : ∃ x, (s[i]'hi2).toNat = x := ⟨_, rfl⟩
        have hxd : d8 n (L - 1 - i) = x := by
          rw [← hx]
          have h := HS.out
          subst h
          rw [nbA_get, HL.out]
        have x256 : x < 256 := by rw [← hxd]; exact d8_lt _ _
        have hm : n / 2 ^ (8 * (L - (i + 1))) = 256 * (n / 2 ^ (8 * (L - i))) + x := by
          have e1 : L - i = (L - 1 - i) + 1 := by omega
          have e2 : L - (i + 1) = L - 1 - i := by omega
          rw [e1, e2, ← hxd, pow8, ← Nat.div_div_eq_div_mul]
          unfold d8
          omega
        have PS := hxs_two i (n / 2 ^ (8 * (L - i))) x x256
        rw [← hm, ← HP.out] at PS
        obtain ⟨h, hh⟩ : ∃ h, x / 16 = h := ⟨_, rfl⟩
        obtain ⟨o, ho⟩ : ∃ o, x % 16 = o := ⟨_, rfl⟩
        rw [hh, ho] at PS
        have h16 : h < 16 := by omega
        have o16 : o < 16 := by omega
        have m1 : (x : Int) / 16 = (h : Int) := by omega
        have m2 := and15 x x256
        rw [ho] at m2
        have hxr := idx_runN s i (i : Int) x rfl hi2 hx
        have dl : decide (i < L) = true := decide_eq_true hlt
        have F1 := fun w => dig_fact8 w h h16
        have F2 := fun w => dig_fact8 w o o16
        obtain ⟨dh, hdh⟩ : ∃ dh, (dg h).toNat = dh := ⟨_, rfl⟩
        obtain ⟨eo, hdo⟩ : ∃ eo, (dg o).toNat = eo := ⟨_, rfl⟩
        have dh256 : dh < 256 := by rw [← hdh]; exact dg_lt h
        have do256 : eo < 256 := by rw [← hdo]; exact dg_lt o
        rw [hdh] at F1
        rw [hdo] at F2
        have gs : g < wr.heap.size := (Array.getElem?_eq_some_iff.1 row).1
        obtain ⟨k, hk⟩ : ∃ k, 2 * i = k := ⟨_, rfl⟩
        rw [hk] at hlk ⊢
        have hll := lv_lt l
        rw [hlk] at hll
        have kC : k < C := by omega
        have kC1 : k + 1 < C := by omega
        have c1 := c8_cell row kC
        have c2 := c8_cell row kC1
        have f1 := fz (k := k) row
        have f2 := fz (k := k + 1) row
        have NP := box PS
        have row1 : (wr.setCell ⟨g, k, none⟩ (.int .u8 (dh : Nat))).heap[g]? = some (.cells (c8 C (lv (l ++ [dg h]))) 5) := by
          rw [setCell_row row, c8_push C (lv l) k dh _ kC hll dh256 rfl, lv_snoc, hlk, hdh]
        have hll2 := lv_lt (l ++ [dg h])
        rw [List.length_append, List.length_singleton, hlk] at hll2
        have row2 : ((wr.setCell ⟨g, k, none⟩ (.int .u8 (dh : Nat))).setCell ⟨g, k + 1, none⟩ (.int .u8 (eo : Nat))).heap[g]? = some (.cells (c8 C (lv (l ++ [dg h] ++ [dg o]))) 5) := by
          rw [setCell_row row1, c8_push C _ (k + 1) eo _ kC1 hll2 do256 rfl, lv_snoc _ (l ++ [dg h]), List.length_append, List.length_singleton, hlk, hdo]
        have row3 : (((wr.setCell ⟨g, k, none⟩ (.int .u8 (dh : Nat))).setCell ⟨g, k + 1, none⟩ (.int .u8 (eo : Nat))).alloc (.cells #[.int .u8 (dh : Nat), .int .u8 (eo : Nat)] 5)).heap[g]? = some (.cells (c8 C (lv (l ++ [dg h] ++ [dg o]))) 5) := by
          rw [heap_below _ _ _ (Array.getElem?_eq_some_iff.1 row2).1]; exact row2
        have b2 : Below w.heap.size w ((wr.setCell ⟨g, k, none⟩ (.int .u8 (dh : Nat))).setCell ⟨g, k + 1, none⟩ (.int .u8 (eo : Nat))) := (hbw.setCell (by show w.heap.size ≤ g; omega) _).setCell (by show w.heap.size ≤ g; omega) _
        have RS := box row3
        have BS := box (b2.alloc b2.size (.cells #[.int .u8 (dh : Nat), .int .u8 (eo : Nat)] 5))
        have hlen2 : (l ++ [dg h] ++ [dg o]).length = 2 * (i + 1) := by simp [hlk]; omega
        have HLN := box hlen2
        have k2 : k + 2 = 2 * (i + 1) := by omega
        have K2 := box k2
        clear hx hxd PS hh ho hdh hdo hm row1 hll2 row2 row3 b2 hlen2 k2
        go_wp2
        go_region
        go_wp2
        go_roundw
        case rel => exact ⟨i + 1, _, by omega, by go_num, by rw [K2.out], HLN.out, RS.out, BS.out.drew, box NP.out.symm⟩
        case measure => simp [intOf] <;> omega
      · obtain rfl : i = L := by omega
        have e := HP.out
        rw [Nat.sub_self, Nat.mul_zero, Nat.pow_zero, Nat.div_one] at e
        subst e
        obtain ⟨V, hV⟩ : ∃ V : ByteArray, (⟨(hxs (2 * i) n).toArray⟩ : ByteArray) = V := ⟨_, rfl⟩
        have hVz : V.size = 2 * i := by rw [← hV]; show (hxs (2 * i) n).toArray.size = _; simp [hxs_len]
        have hst := c8_strP (c := C) (k := 2 * i) V row hVz (by omega) (fun j hj => by
          subst hV
          have hj2 : j < (hxs (2 * i) n).length := by rw [hlk]; rw [hVz] at hj; exact hj
          rw [lv_d8 _ j hj2]
          rfl)
        rw [hC] at hst
        obtain ⟨d, hd⟩ : ∃ d, n / 16 ^ (2 * i - 1) % 16 = d := ⟨_, rfl⟩
        have d16 : d < 16 := by rw [← hd]; exact Nat.mod_lt _ (by decide)
        obtain ⟨t1, t2, t3⟩ := tx_trim n i d HL.out HN.out hd
        have hV0 : 0 < V.size := by omega
        have hx0 : (V[0]'hV0).toNat = (dg d).toNat := by
          subst hV
          have h1 : ((hxs (2 * i) n)[0]?) = some (dg d) := by rw [t1]; rfl
          have h2 : 0 < (hxs (2 * i) n).length := by rw [hlk]; omega
          have h3 : (hxs (2 * i) n)[0]'h2 = dg d := by
            rw [List.getElem?_eq_getElem h2] at h1
            injection h1
          rw [← h3]
          rfl
        have hvv : (if (dg d).toNat = 48 then V.extract 1 V.size else V) = v := by
          rw [← HV.out]
          by_cases e0 : d = 0
          · rw [if_pos ((dg48 d d16).2 e0), ← t2 e0, ← hV]
            apply ByteArray.ext
            show ((⟨(hxs (2 * i) n).toArray⟩ : ByteArray).extract 1 _).data = (hxs (2 * i - 1) n).toArray
            rw [ByteArray.data_extract]
            show ((hxs (2 * i) n).toArray).extract 1 (hxs (2 * i) n).toArray.size = _
            rw [t1]
            simp
          · rw [if_neg (fun h => e0 ((dg48 d d16).1 h)), ← hV, t3 e0]
        have T := box (trimP V v (dg d).toNat hV0 hx0 hvv)
        have dl : decide (i < i) = false := by rw [decide_eq_false_iff_not]; omega
        clear t1 t2 t3 hx0 hvv hd hV
        go_wp2_with fail
        refine (T.out _).mono ?_
        rintro e w' ⟨rfl, rfl⟩
        go_wp2
        go_ret2
        exact ⟨rfl, hbw⟩
end Go.Proofs.YtknkkagapcigfaaDoor
