/-
  What the function Read of package nat returns.
-/
import Derived.Test.YtjedplbhhohfmabList5
import Derived.Test.YtjedplbhhohfmabNat9
import Derived.Test.YtjedplbhhohfmabWide10
namespace Go.Proofs.Ytjedplbhhohfmab
open Go.RowKit WMath

/-- The byte at a place, when T digits stand for v. -/
def bf (v T p : Nat) : Nat := if p < T / 2 then v / 16 ^ (T - 2 * (p + 1)) % 256 else if p = T / 2 ∧ T % 2 = 1 then v % 16 else 0
theorem bf_place (v T : Nat) : bf v T (T / 2) = if T % 2 = 1 then v % 16 else 0 := by
  unfold bf
  rw [if_neg (by omega)]
  by_cases h : T % 2 = 1
  · rw [if_pos ⟨rfl, h⟩, if_pos h]
  · rw [if_neg (fun e => h e.2), if_neg h]
theorem bf_new (v T d x : Nat) (hd : d < 16) (hx : bf v T (T / 2) = x) : x < 16 ∧ bf (16 * v + d) (T + 1) (T / 2) = 16 * x + d := by
  rw [bf_place] at hx
  by_cases h : T % 2 = 1
  · rw [if_pos h] at hx
    refine ⟨by omega, ?_⟩
    unfold bf
    rw [if_pos (by omega), show T + 1 - 2 * (T / 2 + 1) = 0 by omega, Nat.pow_zero, Nat.div_one]
    omega
  · rw [if_neg h] at hx
    refine ⟨by omega, ?_⟩
    unfold bf
    rw [if_neg (by omega), if_pos ⟨by omega, by omega⟩]
    omega
theorem bf_old (v T d p : Nat) (hd : d < 16) (hp : p ≠ T / 2) : bf (16 * v + d) (T + 1) p = bf v T p := by
  unfold bf
  by_cases h : p < T / 2
  · rw [if_pos (by omega), if_pos h, show T + 1 - 2 * (p + 1) = T - 2 * (p + 1) + 1 by omega, Nat.pow_succ, Nat.mul_comm (16 ^ (T - 2 * (p + 1))) 16, ← Nat.div_div_eq_div_mul, show (16 * v + d) / 16 = v by omega]
  · rw [if_neg (by omega), if_neg (by omega), if_neg h, if_neg (by omega)]
theorem bf_zero (T p : Nat) : bf 0 T p = 0 := by unfold bf; simp
theorem or8 : ∀ x d : Fin 16, bits .or .u8 ((16 * x.val : Nat) : Int) ((d.val : Nat) : Int) = ((16 * x.val + d.val : Nat) : Int) := by decide +kernel
theorem nl_nd (v L : Nat) (hv : v ≠ 0) (h : nd v = L) : nl v = (L + 1) / 2 := by
  have hb := blen_pos v hv
  unfold nd at h
  unfold nl
  omega
theorem sixteen' (k : Nat) : 16 ^ k = 2 ^ (4 * k) := by rw [Nat.pow_mul]
theorem bf_end (v m p : Nat) (hp : p < m) : bf v (2 * m) p = d8 v (m - 1 - p) := by
  unfold bf d8
  rw [if_pos (by omega), sixteen', show 4 * (2 * m - 2 * (p + 1)) = 8 * (m - 1 - p) by omega]

set_option maxRecDepth 100000 in
set_option maxHeartbeats 2000000 in
theorem pn_read (s : ByteArray) (l : List UInt8) (v : ByteArray) (e : Int) (hs : s.size ≤ 9223372036854775807) (hl : s.data.toList = l) (hr : rdn l = (v, e)) (w : World) :
    Calls Try.prog 7 #[.string s] w fun r w' => r = .returned (.tuple #[.string v, .int .i64 e]) ∧ Below w.heap.size w w' := by
  have hz : s.size = l.length := by rw [← hl, Array.length_toList]; rfl
  have htl : s.toList = l := by rw [ByteArray.toList_eq, hl]
  have d2 := eq_empty s
  by_cases h1 : l = [48]
  · subst h1
    have er : v = ⟨#[]⟩ ∧ e = 0 := by
      have h0 : vals [48] = some 0 := by decide
      rw [rdn_good [48] 0 (by decide) h0 (by decide), nbA_zero] at hr
      cases hr
      exact ⟨rfl, rfl⟩
    obtain ⟨rfl, rfl⟩ := er
    have t1 : (s.toList == [48]) = true := by rw [htl]; rfl
    clear hr hl htl d2 hz
    go_enter Try.func7, Try.ntmps7
    go_wp2
    go_ret2
    exact ⟨rfl, Below.refl _ _⟩
  · have t1 : (s.toList == [48]) = false := by rw [htl]; simpa using h1
    by_cases h0 : l.length = 0
    · rw [rdn_bad l (by omega)] at hr
      cases hr
      rw [decide_eq_true (by omega)] at d2
      clear hl htl hz
      go_enter Try.func7, Try.ntmps7
      go_wp2
      go_ret2
      exact ⟨rfl, Below.refl _ _⟩
    · rw [decide_eq_false (by omega)] at d2
      by_cases h3 : l.length ≤ 32768
      · have d3 : decide ((32768 : Int) < (s.size : Int)) = false := decide_eq_false (by omega)
        have d3' : decide (32768 < s.size) = false := decide_eq_false (by omega)
        have hp : 0 < s.size := by omega
        obtain ⟨x, hx⟩ : ∃ x, (s[0]'hp).toNat = x := ⟨_, rfl⟩
        have hxr := idx_run s 0 0 x rfl hp hx
        have hh : l.head? = some (s[0]'hp) := by
          subst hl
          rw [List.head?_eq_getElem?, List.getElem?_eq_getElem (by rw [Array.length_toList]; exact hp)]
          rfl
        by_cases h48 : x = 48
        · have e48 : s[0]'hp = 48 := UInt8.toNat_inj.1 (by rw [hx, h48]; rfl)
          rw [rdn_bad l (fun h => h.2 ⟨by rw [hh, e48], by
            by_cases e1 : l.length = 1
            · exfalso
              obtain ⟨c, hc⟩ := List.length_eq_one_iff.1 e1
              rw [hc] at hh h1
              simp at hh
              rw [hh, e48] at h1
              exact h1 rfl
            · omega⟩)] at hr
          cases hr
          have d4 : ((x : Int) == 48) = true := by simp; omega
          clear hl htl hz hx hh h1 e48
          go_enter Try.func7, Try.ntmps7
          go_wp2
          go_ret2
          exact ⟨rfl, Below.refl _ _⟩
        · have d4 : ((x : Int) == 48) = false := by simp; omega
          obtain ⟨L, hL⟩ : ∃ L, s.size = L := ⟨_, rfl⟩
          obtain ⟨A, hA⟩ : ∃ A, L % 2 = A := ⟨_, rfl⟩
          obtain ⟨m, hm⟩ : ∃ m, (L + 1) / 2 = m := ⟨_, rfl⟩
          have hhd : l.head? ≠ some 48 := by
            rw [hh]
            intro e2
            injection e2 with e2
            apply h48
            rw [← hx, e2]
            rfl
          have n1 : IntKind.i64.wrap ((L : Int) + 1) = (L : Int) + 1 := wrap_i64_is _ (by omega) (by omega)
          have hmk := c8_makeI m (((L : Int) + 1) / 2) (by omega) (by omega)
          have a1 : (L : Int) % 2 = (A : Int) := by omega
          have a1' : (L : Int).tmod 2 = (A : Int) := by rw [Int.tmod_eq_emod_of_nonneg (by omega)]; omega
          have HL := box hl
          have HZ : Box (l.length = L) := box (by omega)
          have HHD := box hhd
          have HR := box hr
          have HA := box hA
          have HMM := box hm
          have L2 : L ≤ 32768 := by omega
          have L0 : 0 < L := by omega
          rw [hL] at d3 d3'
          clear hl htl hz hx hh h1 h48 hhd hr hA hm h0 h3 hs
          go_enter Try.func7, Try.ntmps7
          go_wp2
          clear hmk n1 a1 a1' hxr d4 d3 d3' d2 t1
          obtain ⟨g, hg⟩ : ∃ g, w.heap.size = g := ⟨_, rfl⟩
          have r0 : (w.alloc (.cells (c8 m 0) 5)).heap[g]? = some (.cells (c8 m 0) 5) := by rw [← hg]; exact heap_alloc_last _ _
          have b0 : Below g w (w.alloc (.cells (c8 m 0) 5)) := by rw [← hg]; exact (Below.refl _ _).alloc (Nat.le_refl _) _
          rw [hg]
          go_loopw [33] (fun iv wr => ∃ (i Y V : Nat), i ≤ L ∧ iv = .int .i64 i ∧ wr.heap[g]? = some (.cells (c8 m Y) 5) ∧ Below g w wr ∧ Box (vals (l.take i) = some V ∧ ∀ p, p < m → d8 Y p = bf V (i + A) p)) (fun iv _ => L - (intOf iv).toNat)
          case atStart => exact ⟨0, 0, 0, by omega, rfl, r0, b0, box ⟨rfl, fun p _ => by rw [d8_zero, bf_zero]⟩⟩
          case round =>
            clear r0 b0
            obtain ⟨i, Y, V, hi, rfl, r1, hbw, HE⟩ := hrel
            by_cases hlt : i < L
            · have hi2 : i < s.size := by omega
              obtain ⟨c, hc⟩ : ∃ c, s[i]'hi2 = c := ⟨_, rfl⟩
              have hxr := idx_run s i (i : Int) c.toNat rfl hi2 (by rw [hc])
              have hlc : l[i]? = some c := by
                have e := HL.out
                subst e
                rw [List.getElem?_eq_getElem (by rw [Array.length_toList]; exact hi2), ← hc]
                rfl
              have htk : l.take (i + 1) = l.take i ++ [c] := by
                rw [List.take_add_one, hlc]
                rfl
              have dl : decide (i < L) = true := decide_eq_true hlt
              obtain ⟨o, ho⟩ : ∃ o, dv c = o := ⟨_, rfl⟩
              cases o with
              | none =>
                have e1 : vals (l.take (i + 1)) = none := by rw [htk, vals_snoc, HE.out.1]; unfold vstep; rw [ho]
                have e2 := HR.out
                rw [rdn_none l (vals_take_none l _ e1)] at e2
                cases e2
                have IX := box (idx_is c (-1) (by unfold dvi; rw [ho]))
                clear hc hlc htk ho e1 HE
                go_wp2_with fail
                refine (IX.out _).mono ?_
                rintro e w' ⟨rfl, rfl⟩
                go_wp2
                go_ret2
                exact ⟨rfl, by rw [hg]; exact hbw⟩
              | some d =>
                have d16 := (dv_spec c d ho).1
                have e1 : vals (l.take (i + 1)) = some (16 * V + d) := by rw [htk, vals_snoc, HE.out.1]; unfold vstep; rw [ho]
                have IX := box (idx_is c (d : Int) (by unfold dvi; rw [ho]))
                obtain ⟨T, hT⟩ : ∃ T, i + A = T := ⟨_, rfl⟩
                obtain ⟨pl, hpl⟩ : ∃ pl, T / 2 = pl := ⟨_, rfl⟩
                have plm : pl < m := by have := HA.out; have := HMM.out; omega
                obtain ⟨x, hx⟩ : ∃ x, d8 Y pl = x := ⟨_, rfl⟩
                have hbx : bf V T (T / 2) = x := by rw [← hx, HE.out.2 pl plm, hT, hpl]
                obtain ⟨x16, hbn⟩ := bf_new V T d x d16 hbx
                obtain ⟨z, hz⟩ : ∃ z, 16 * x = z := ⟨_, rfl⟩
                obtain ⟨n, hn⟩ : ∃ n, 16 * x + d = n := ⟨_, rfl⟩
                have n256 : n < 256 := by omega
                have q1 : (i : Int) + (A : Int) = (T : Int) := by omega
                have q2 : IntKind.i64.wrap (T : Int) = (T : Int) := wrap_i64_is _ (by have := HA.out; omega) (by have := HA.out; omega)
                have q3 : (T : Int) / 2 = (pl : Int) := by omega
                have q4 : IntKind.i64.wrap (pl : Int) = (pl : Int) := wrap_i64_is _ (by have := HA.out; omega) (by have := HA.out; omega)
                have q5 : IntKind.u8.wrap (d : Int) = (d : Int) := by rw [IntKind.wrap_u8]; omega
                have q6 : (x : Int) * 16 = (z : Int) := by omega
                have q7 : IntKind.u8.wrap (z : Int) = (z : Int) := by rw [IntKind.wrap_u8]; omega
                have q8 : bits .or .u8 (z : Int) (d : Int) = (n : Int) := by rw [← hz, ← hn]; exact or8 ⟨x, x16⟩ ⟨d, d16⟩
                have q9 : (pl : Int) < (m : Int) := by omega
                have c1 := c8_cell r1 plm
                rw [hx] at c1
                have f0 := fz (k := pl) r1
                have RS : Box ((wr.setCell ⟨g, pl, none⟩ (.int .u8 (n : Int))).heap[g]? = some (.cells (c8 m (set8 Y pl n)) 5)) := box (by rw [setCell_row r1, c8_seti m Y pl n _ plm n256 rfl])
                have BS : Box (Below g w (wr.setCell ⟨g, pl, none⟩ (.int .u8 (n : Int)))) := box (hbw.setCell (Nat.le_refl _) _)
                have NE : Box (vals (l.take (i + 1)) = some (16 * V + d) ∧ ∀ p, p < m → d8 (set8 Y pl n) p = bf (16 * V + d) (i + 1 + A) p) := box ⟨e1, fun p hp => by
                  rw [d8_set8 _ _ _ _ n256, show i + 1 + A = T + 1 by omega]
                  by_cases e : p = pl
                  · rw [if_pos e, e, ← hpl, hbn, hn]
                  · rw [if_neg e, HE.out.2 p hp, hT, bf_old V T d p d16 (by rw [hpl]; exact e)]⟩
                have dd : decide ((d : Int) < 0) = false := decide_eq_false (by omega)
                clear hc hlc htk ho e1 HE hT hpl hx hbx hbn hz hn
                go_wp2_with fail
                refine (IX.out _).mono ?_
                rintro e w' ⟨rfl, rfl⟩
                go_wp2
                go_roundw
                case rel => exact ⟨i + 1, _, _, by omega, by go_num, RS.out, BS.out, NE⟩
                case measure => simp [intOf] <;> omega
            · obtain rfl : i = L := by omega
              have hv := HE.out.1
              rw [List.take_of_length_le (by rw [HZ.out]; exact Nat.le_refl _)] at hv
              have hgood : 1 ≤ l.length ∧ ¬ (l.head? = some 48 ∧ 1 < l.length) := ⟨by rw [HZ.out]; omega, fun h => HHD.out h.1⟩
              obtain ⟨k, hk⟩ : ∃ k, i = k + 1 := ⟨i - 1, by omega⟩
              obtain ⟨tx1, tx2⟩ := tx_of_vals k l V (by rw [HZ.out, hk]) hv (Or.inr HHD.out)
              have V0 := tx2 HHD.out
              have hnd : nd V = i := by rw [← HZ.out, ← tx1]; unfold tx; rw [hxs_len]
              have hnl : nl V = m := by rw [nl_nd V i V0 hnd, HMM.out]
              have e2 := HR.out
              rw [rdn_good l V (by rw [HZ.out]; exact L2) hv hgood] at e2
              obtain ⟨ev, ee⟩ := Prod.mk.inj e2
              subst ee
              have hA2 : i + A = 2 * m := by have := HA.out; have := HMM.out; omega
              have hst := c8_strN (c := m) v r1 (by rw [← ev, nbA_size, hnl]) (fun j hj => by
                have hjm : j < m := by rw [← ev, nbA_size, hnl] at hj; exact hj
                rw [HE.out.2 j hjm, hA2, bf_end V m j hjm]
                subst ev
                rw [nbA_get, hnl])
              have dl : decide (i < i) = false := by rw [decide_eq_false_iff_not]; omega
              clear hv hgood tx1 tx2 hnd hnl e2 HE hk hA2
              go_wp2
              go_ret2
              exact ⟨rfl, by rw [hg]; exact hbw⟩
      · rw [rdn_long l h3] at hr
        cases hr
        have d3 : decide ((32768 : Int) < (s.size : Int)) = true := decide_eq_true (by omega)
        have d3' : decide (32768 < s.size) = true := decide_eq_true (by omega)
        clear hl htl hz h1
        go_enter Try.func7, Try.ntmps7
        go_wp2
        go_ret2
        exact ⟨rfl, Below.refl _ _⟩
end Go.Proofs.Ytjedplbhhohfmab
