/-
  What the functions Div, Sqrt and Gcd of the document's answer for layer 5 return.
-/
import Derived.Test.YtknkkagapcigfaaDoorNat6
import Derived.Test.YtknkkagapcigfaaDoorMx
namespace Go.Proofs.YtknkkagapcigfaaDoor
open Go.RowKit WMath

/-- Ahead of the bit at k - 1: the quotient so far, and what is left. -/
def NdivSt (a b k q r : Nat) : Prop := a / 2 ^ k = b * (q / 2 ^ k) + r ∧ r < b ∧ q % 2 ^ k = 0
theorem ndiv_start (a b k r : Nat) (hr : a / 2 ^ k = r) (h : r < b) : NdivSt a b k 0 r := ⟨by rw [Nat.zero_div, Nat.mul_zero, Nat.zero_add]; exact hr, h, Nat.zero_mod _⟩
theorem ndiv_step (a b k q r x : Nat) (S : NdivSt a b (k + 1) q r) (hx : 2 * r + (a.testBit k).toNat = x) :
    (x < b → NdivSt a b k q x) ∧ (b ≤ x → NdivSt a b k (q ||| 2 ^ k) (x - b)) := by
  obtain ⟨h1, h2, h3⟩ := S
  have hb := bit_nat a k
  rw [h1] at hb
  have ht : (a.testBit k).toNat ≤ 1 := by cases a.testBit k <;> decide
  have hd : 2 ^ (k + 1) ∣ q := Nat.dvd_of_mod_eq_zero h3
  have e0 : q / 2 ^ k = 2 * (q / 2 ^ (k + 1)) := by
    obtain ⟨c, rfl⟩ := hd
    rw [Nat.mul_div_cancel_left _ (Nat.two_pow_pos _), Nat.pow_succ, Nat.mul_assoc, Nat.mul_div_cancel_left _ (Nat.two_pow_pos _)]
  have h4 : q % 2 ^ k = 0 := Nat.mod_eq_zero_of_dvd (Nat.dvd_trans (Nat.pow_dvd_pow 2 (by omega)) hd)
  have e1 : 2 * (b * (q / 2 ^ (k + 1)) + r) + (a.testBit k).toNat = b * (2 * (q / 2 ^ (k + 1))) + x := by
    rw [← hx, Nat.mul_add, Nat.mul_left_comm]; omega
  refine ⟨fun h => ⟨?_, h, h4⟩, fun h => ⟨?_, by omega, ?_⟩⟩
  · rw [hb, e1, e0]
  · rw [qor_pow q k hd, Nat.add_div_right _ (Nat.two_pow_pos k), e0, hb, e1, Nat.mul_succ]
    omega
  · rw [qor_pow q k hd, Nat.add_mod_right]; exact h4
theorem ndiv_end (a b q r : Nat) (S : NdivSt a b 0 q r) : q = a / b ∧ r = a % b := by
  obtain ⟨h1, h2, _⟩ := S
  rw [Nat.pow_zero, Nat.div_one, Nat.div_one] at h1
  have hb : 0 < b := by omega
  constructor
  · rw [h1, Nat.mul_add_div hb, Nat.div_eq_of_lt h2, Nat.add_zero]
  · rw [h1, Nat.mul_add_mod, Nat.mod_eq_of_lt h2]

theorem nl_twice (b x : Nat) (h : x < 2 * b) : nl x ≤ nl b + 1 := nl_le_of x _ (by
  have := nl_lt b
  rw [pow8]
  omega)
theorem one_bit8 (k q r : Nat) (hq : q = k / 8) (hr : r = k % 8) : 2 ^ r * 2 ^ (8 * q) = 2 ^ k := by
  rw [← Nat.pow_add]; congr 1; omega

set_option maxHeartbeats 4000000 in
set_option maxRecDepth 100000 in
theorem nat_div_big (a b : Nat) (s t qv rv : ByteArray) (hs : nbA a = s) (ht : nbA b = t) (ha : nl a ≤ 16384) (hb0 : b ≠ 0) (hba : b ≤ a) (hq : nbA (a / b) = qv) (hr : nbA (a % b) = rv) (w : World) :
    Calls Tryd.prog 26 #[.string s, .string t] w fun r w' => r = .returned (.tuple #[.string qv, .string rv, .int .i64 0]) ∧ Below w.heap.size w w' := by
  obtain ⟨L, hL⟩ : ∃ L, nl a = L := ⟨_, rfl⟩
  have hz : s.size = L := by rw [← hs, nbA_size, hL]
  have hbl := nl_mono b a hba
  have e2 := eq_empty t
  have hty : t.size = nl b := by rw [← ht, nbA_size]
  have hbp := nl_pos b hb0
  rw [decide_eq_false (by omega)] at e2
  obtain ⟨c, hc⟩ : ∃ c, cmpv a b = c := ⟨_, rfl⟩
  have dc : decide (c < 0) = false := by
    rw [← hc]; unfold cmpv
    by_cases e : a = b
    · rw [if_pos e]; rfl
    · rw [if_neg e, if_neg (by omega)]; rfl
  obtain ⟨n, hn⟩ : ∃ n, blen a = n := ⟨_, rfl⟩
  obtain ⟨m, hm⟩ : ∃ m, blen b = m := ⟨_, rfl⟩
  have mp : 0 < m := by rw [← hm]; exact blen_pos b hb0
  have nm : m ≤ n := by
    rw [← hm, ← hn]
    exact blen_le_of b _ (Nat.lt_of_le_of_lt hba (blen_lt a))
  have n8 : n ≤ 8 * L := by rw [← hn, ← hL]; unfold nl; omega
  obtain ⟨K, hK⟩ : ∃ K : Nat, n - (m - 1) = K := ⟨_, rfl⟩
  obtain ⟨r0, hr0⟩ : ∃ r0, a / 2 ^ K = r0 := ⟨_, rfl⟩
  have r0b : r0 < b := by
    have h1 := blen_lt a
    have h2 := blen_le b hb0
    rw [hn] at h1
    rw [hm] at h2
    have h3 : r0 < 2 ^ (m - 1) := by
      rw [← hr0, Nat.div_lt_iff_lt_mul (Nat.two_pow_pos _), ← Nat.pow_add, show m - 1 + K = n by omega]
      exact h1
    omega
  obtain ⟨R0, hR0⟩ : ∃ R0, nbA (a / 2 ^ ((K : Int).toNat)) = R0 := ⟨_, rfl⟩
  obtain ⟨o, ho⟩ : ∃ o, decide (a % 2 ^ ((K : Int).toNat) ≠ 0) = o := ⟨_, rfl⟩
  have ST0 : Box (NdivSt a b K 0 r0) := box (ndiv_start a b K r0 hr0 r0b)
  have HR0 : Box (nbA r0 = R0) := box (by rw [← hR0, Int.toNat_natCast, hr0])
  have HR1 := box hR0
  have HO := box ho
  have HC := box hc
  have HN := box hn
  have HM := box hm
  have HS := box hs
  have HT := box ht
  have HQ := box hq
  have HR := box hr
  have HA := box ha
  have HB : Box (nl b ≤ 16384) := box (by omega)
  have NA : Box (nl a ≤ 100000) := box (by omega)
  obtain ⟨N, hN⟩ : ∃ N, L + 1 = N := ⟨_, rfl⟩
  have L2 : L ≤ 16384 := by omega
  have hmk := c8_makeI N ((L : Int) + 1) (by omega) (by omega)
  have w1 : IntKind.i64.wrap ((m : Int) - 1) = (m : Int) - 1 := wrap_i64_is _ (by omega) (by omega)
  have w2 : IntKind.i64.wrap ((n : Int) - ((m : Int) - 1)) = (K : Int) := by rw [wrap_i64_is _ (by omega) (by omega)]; omega
  have KI : Box ((K : Int) ≤ 9223372036854775807) := box (by omega)
  have K8 : K ≤ 8 * L := by omega
  have QB : Box (a / b < 2 ^ (8 * N)) := box (Nat.lt_of_le_of_lt (Nat.div_le_self _ _) (Nat.lt_of_lt_of_le (nl_lt a) (pow8_le _ _ (by omega))))
  clear hs ht hq hr hL hn hm hc hr0 hR0 ho hba hbl hb0 hty ha hK mp nm n8 hbp r0b
  go_enter Tryd.func26, Tryd.ntmps26
  go_wp2_with fail
  refine (nat_cmp a b s t c HS.out HT.out HC.out _).mono ?_
  rintro e w' ⟨rfl, hw'⟩
  subst hw'
  go_wp2_with fail
  refine (nat_Len a n s HS.out HA.out HN.out _).mono ?_
  rintro e w3 ⟨rfl, hw3⟩
  subst hw3
  go_wp2_with fail
  refine (nat_Len b m t HT.out HB.out HM.out _).mono ?_
  rintro e w4 ⟨rfl, hw4⟩
  subst hw4
  go_wp2_with fail
  refine (nat_Right a (K : Int) s R0 o HS.out HA.out (by omega) KI.out HR1.out HO.out _).mono ?_
  rintro e w5 ⟨rfl, hb5⟩
  go_wp2
  clear hmk w1 w2 dc e2 HR1 HO HC HN HM KI
  obtain ⟨g, hg⟩ : ∃ g, w5.heap.size = g := ⟨_, rfl⟩
  have g5 : w4.heap.size ≤ g := by rw [← hg]; exact hb5.size
  have B5 : Below w4.heap.size w4 (w5.alloc (.cells (c8 N 0) 5)) := hb5.alloc hb5.size _
  have r5 : (w5.alloc (.cells (c8 N 0) 5)).heap[g]? = some (.cells (c8 N 0) 5) := by rw [← hg]; exact heap_alloc_last _ _
  rw [hg]
  go_loopw [9, 13] (fun rv iv wr => ∃ (k q r : Nat) (R : ByteArray), iv = .int .i64 ((k : Int) - 1) ∧ rv = .string R ∧ k ≤ K ∧ wr.heap[g]? = some (.cells (c8 N q) 5) ∧ Below w4.heap.size w4 wr ∧ Box (nbA r = R) ∧ Box (NdivSt a b k q r)) (fun _ iv _ => (intOf iv + 1).toNat)
  case atStart => exact ⟨K, 0, r0, R0, by first | rfl | go_num, rfl, by omega, r5, B5, HR0, ST0⟩
  case round =>
    clear r5 B5 HR0 ST0 hb5
    obtain ⟨k, q, r, R, rfl, rfl, hk, row, hbw, HRR, HST⟩ := hrel
    by_cases hk0 : k = 0
    · subst hk0
      obtain ⟨e1, e3⟩ := ndiv_end a b q r HST.out
      rw [e1] at row
      have eR : R = rv := by rw [← HRR.out, ← HR.out, e3]
      subst eR
      clear e1 e3 HST
      go_wp2_with fail
      refine (nat_fit N (a / b) g N qv (by omega) QB.out HQ.out _ row).mono ?_
      rintro e w6 ⟨rfl, hb6⟩
      go_wp2
      exact bodyPost_ret (v := .tuple #[.string qv, .string R, .int .i64 0]) (by simp [results, Tryd.results26, go_sem]) rfl ⟨rfl, hbw.trans (hb6.mono hbw.size)⟩
    · obtain ⟨j, rfl⟩ : ∃ j, k = j + 1 := ⟨k - 1, by omega⟩
      have ej : (((j + 1 : Nat) : Int) - 1) = (j : Int) := by omega
      rw [ej]
      obtain ⟨o1, ho1⟩ : ∃ o1, (a.testBit j).toNat = o1 := ⟨_, rfl⟩
      have o2 : o1 < 2 := by rw [← ho1]; cases a.testBit j <;> decide
      obtain ⟨x, hx⟩ : ∃ x, 2 * r + o1 = x := ⟨_, rfl⟩
      have ST := box (ndiv_step a b j q r x HST.out (by rw [ho1]; exact hx))
      have rb := HST.out.2.1
      have xb : x < 2 * b := by omega
      have HRB : Box (nl r ≤ 20000) := box (by have := nl_mono r b (by omega); have := HB.out; omega)
      have HXB : Box (nl x ≤ 20000) := box (by have := nl_twice b x xb; have := HB.out; omega)
      obtain ⟨X, hX⟩ : ∃ X, nbA x = X := ⟨_, rfl⟩
      have HX := box hX
      have HX2 : Box (nbA (2 * r + o1) = X) := box (by rw [hx]; exact hX)
      obtain ⟨c, hc⟩ : ∃ c, cmpv x b = c := ⟨_, rfl⟩
      have HC := box hc
      have HO1 := box ho1
      have jb : j ≤ 10000000 := by omega
      by_cases hlt : x < b
      · have dc : decide (0 ≤ c) = false := by rw [← hc]; unfold cmpv; rw [if_neg (by omega), if_pos hlt]; rfl
        have NS := box (ST.out.1 hlt)
        clear hx hX hc ho1 rb xb hlt hg
        go_wp2_with fail
        refine (nat_bit a j s o1 HS.out HO1.out NA.out jb _).mono ?_
        rintro e w6 ⟨rfl, hw6⟩
        subst hw6
        go_wp2_with fail
        refine (nat_double r o1 R X HRR.out o2 HX2.out HRB.out _).mono ?_
        rintro e w7 ⟨rfl, hb7⟩
        have row7 := heap_of hb7 _ _ _ row
        have B7 : Below w4.heap.size w4 w7 := hbw.trans (hb7.mono hbw.size)
        clear hb7 row hbw
        go_wp2_with fail
        refine (nat_cmp x b X t c HX.out HT.out HC.out _).mono ?_
        rintro e w8 ⟨rfl, hw8⟩
        subst hw8
        go_wp2
        go_roundw
        case rel => exact ⟨j, q, x, X, by first | rfl | go_num, rfl, by omega, row7, B7, HX, NS⟩
        case measure => simp [intOf] <;> omega
      · have dc : decide (0 ≤ c) = true := by
          rw [← hc]; unfold cmpv
          by_cases e : x = b
          · rw [if_pos e]; rfl
          · rw [if_neg e, if_neg hlt]; rfl
        have NS0 := ST.out.2 (by omega)
        obtain ⟨y, hy⟩ : ∃ y, x - b = y := ⟨_, rfl⟩
        obtain ⟨Y, hY⟩ : ∃ Y, nbA (x - b) = Y := ⟨_, rfl⟩
        have HY := box hY
        have HY2 : Box (nbA y = Y) := box (by rw [← hy]; exact hY)
        rw [hy] at NS0
        have HBX : Box (b ≤ x) := box (by omega)
        obtain ⟨qi, hqi⟩ : ∃ qi, qi = j / 8 := ⟨_, rfl⟩
        obtain ⟨ri, hri⟩ : ∃ ri, ri = j % 8 := ⟨_, rfl⟩
        have q1 : (j : Int) / 8 = (qi : Int) := by omega
        have r1 : (j : Int) % 8 = (ri : Int) := by omega
        have r8 : ri < 8 := by omega
        obtain ⟨v, hv⟩ : ∃ v, v = 2 ^ ri := ⟨_, rfl⟩
        have v256 : v < 256 := by
          rw [hv, two8]
          exact Nat.pow_lt_pow_right (by decide) r8
        have hv2 : IntKind.u8.wrap ((2 : Int) ^ ri) = (v : Int) := by rw [pow_cast, ← hv]; exact wrap_u8_is v v (Nat.mod_eq_of_lt v256)
        have hv3 : IntKind.u8.wrap (1 * (2 : Int) ^ ri) = (v : Int) := by rw [Int.one_mul]; exact hv2
        obtain ⟨Z, hZ⟩ : ∃ Z, q ||| 2 ^ j = Z := ⟨_, rfl⟩
        rw [hZ] at NS0
        have NS := box NS0
        have hZ2 : Z = q ||| v * 2 ^ (8 * qi) := by rw [hv, one_bit8 j qi ri hqi hri, hZ]
        have qN : qi < N := by omega
        have o8 : bits .or .u8 (d8 q qi : Nat) (v : Nat) = ((d8 q qi ||| v : Nat) : Int) := by
          show IntKind.u8.wrap ((BitVec.ofInt 8 (d8 q qi : Int) ||| BitVec.ofInt 8 (v : Int)).toNat : Int) = _
          have h1 : (BitVec.ofInt 8 (d8 q qi : Int)).toNat = d8 q qi := by have := d8_lt q qi; simp; omega
          have h2 : (BitVec.ofInt 8 (v : Int)).toNat = v := by simp; omega
          rw [BitVec.toNat_or, h1, h2]
          exact wrap_u8_is _ _ (Nat.mod_eq_of_lt (or_lt8 _ _ (d8_lt q qi) v256))
        have HZ := box (c8_or N q qi v Z qN v256 hZ2)
        clear hx hX hc ho1 rb xb hlt hg hy hY hqi hri hv hZ hZ2 NS0
        go_wp2_with fail
        refine (nat_bit a j s o1 HS.out HO1.out NA.out jb _).mono ?_
        rintro e w6 ⟨rfl, hw6⟩
        subst hw6
        go_wp2_with fail
        refine (nat_double r o1 R X HRR.out o2 HX2.out HRB.out _).mono ?_
        rintro e w7 ⟨rfl, hb7⟩
        have row7 := heap_of hb7 _ _ _ row
        have B7 : Below w4.heap.size w4 w7 := hbw.trans (hb7.mono hbw.size)
        clear hb7 row hbw
        go_wp2_with fail
        refine (nat_cmp x b X t c HX.out HT.out HC.out _).mono ?_
        rintro e w8 ⟨rfl, hw8⟩
        subst hw8
        go_wp2_with fail
        refine (nat_sub x b X t Y HX.out HT.out HY.out HBX.out HXB.out _).mono ?_
        rintro e w9 ⟨rfl, hb9⟩
        have row9 := heap_of hb9 _ _ _ row7
        have B9 : Below w4.heap.size w4 w9 := B7.trans (hb9.mono B7.size)
        clear hb9 row7 B7
        have k1 := c8_cell row9 qN
        have k2 := fz (k := qi) row9
        have RS : Box ((w9.setCell ⟨g, qi, none⟩ (.int .u8 ((d8 q qi ||| v : Nat) : Int))).heap[g]? = some (.cells (c8 N Z) 5)) := box (by rw [setCell_row row9, HZ.out])
        go_wp2
        go_roundw
        case rel => exact ⟨j, Z, y, Y, by first | rfl | go_num, rfl, by omega, RS.out, B9.setCell (by show w4.heap.size ≤ g; omega) _, HY2, NS⟩
        case measure => simp [intOf] <;> omega

theorem nat_Div (a b : Nat) (s t qv rv : ByteArray) (hs : nbA a = s) (ht : nbA b = t) (ha : nl a ≤ 16384) (hb0 : b ≠ 0) (hq : nbA (a / b) = qv) (hr : nbA (a % b) = rv) (w : World) :
    Calls Tryd.prog 26 #[.string s, .string t] w fun r w' => r = .returned (.tuple #[.string qv, .string rv, .int .i64 0]) ∧ Below w.heap.size w w' := by
  by_cases hba : b ≤ a
  · exact nat_div_big a b s t qv rv hs ht ha hb0 hba hq hr w
  · have e2 := eq_empty t
    have hty : t.size = nl b := by rw [← ht, nbA_size]
    have hbp := nl_pos b hb0
    rw [decide_eq_false (by omega)] at e2
    rw [Nat.div_eq_of_lt (by omega), nbA_zero] at hq
    rw [Nat.mod_eq_of_lt (by omega), hs] at hr
    subst hq hr
    have HC : Box (cmpv a b = -1) := box (by unfold cmpv; rw [if_neg (by omega), if_pos (by omega)])
    clear hba hty hbp ha hb0
    go_enter Tryd.func26, Tryd.ntmps26
    go_wp2_with fail
    refine (nat_cmp a b s t (-1) hs ht HC.out _).mono ?_
    rintro e w' ⟨rfl, rfl⟩
    go_wp2
    exact bodyPost_ret (v := .tuple #[.string ⟨#[]⟩, .string s, .int .i64 0]) (by simp [results, Tryd.results26, go_sem]) rfl ⟨rfl, Below.refl _ _⟩
theorem nat_Div_no (s t : ByteArray) (ht : t.size = 0) (w : World) :
    Calls Tryd.prog 26 #[.string s, .string t] w fun r w' => r = .returned (.tuple #[.string ⟨#[]⟩, .string ⟨#[]⟩, .int .i64 2]) ∧ Below w.heap.size w w' := by
  have e2 := eq_empty t
  rw [decide_eq_true ht] at e2
  clear ht
  go_enter Tryd.func26, Tryd.ntmps26
  go_wp2
  exact bodyPost_ret (v := .tuple #[.string ⟨#[]⟩, .string ⟨#[]⟩, .int .i64 2]) (by simp [results, Tryd.results26, go_sem]) rfl ⟨rfl, Below.refl _ _⟩
end Go.Proofs.YtknkkagapcigfaaDoor
