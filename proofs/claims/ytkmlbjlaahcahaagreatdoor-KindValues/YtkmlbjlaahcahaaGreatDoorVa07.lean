/-
  What the functions that the statement reaches return: part 7 (V2, Door2, Nat7, Nat8, X1, V4, K2, K3, K4).
-/
import Derived.Lib.MinMax
import Derived.Test.YtkmlbjlaahcahaaGreatDoorVa06
namespace Go.Proofs.YtkmlbjlaahcahaaGreatDoor
set_option maxRecDepth 100000
open Go.RowKit WMath XMath
set_option linter.unusedSimpArgs false
set_option linter.unusedVariables false

theorem blen_is (n k : Nat) (h1 : 2 ^ k ≤ n) (h2 : n < 2 ^ (k + 1)) : blen n = k + 1 := by
  have a := (blen_iff n (k + 1)).2 h2
  have b := blen_iff n k
  omega
theorem blen_shift (n k : Nat) (h : n ≠ 0) : blen (n * 2 ^ k) = blen n + k := by
  obtain ⟨l1, l2, l3⟩ := blen_low n h
  have := blen_is (n * 2 ^ k) (blen n - 1 + k) (by rw [Nat.pow_add]; exact Nat.mul_le_mul_right _ l2) (by
    rw [show blen n - 1 + k + 1 = blen n + k by omega, Nat.pow_add]
    exact Nat.mul_lt_mul_of_pos_right l3 (Nat.two_pow_pos _))
  omega
theorem mk_whole (neg : Bool) (s : Nat) (x : Int) (s0 : s ≠ 0) (h1 : -1048576 ≤ x) (h2 : x + (tz s : Int) ≤ 1048576) : mk neg s 1 x = (⟨neg, od s, 1, x + (tz s : Int)⟩, 0) := by
  have o1 : od 1 = 1 := od_odd 1 rfl
  have t1 : tz 1 = 0 := tz_odd 1 rfl
  unfold mk
  rw [if_neg s0, o1, t1, Nat.gcd_one_right, Nat.div_one, Nat.div_one]
  rw [if_pos (by omega)]
  congr 2
  omega
/-- The significand and the exponent of a finite encoding that is not 0. -/
def sV (f : Int) (e t : Nat) : Nat := if e = 0 then t else 2 ^ pV f + t
def xV (f : Int) (e : Nat) : Int := if e = 0 then lx f else lx f + (e : Int) - 1
theorem val_of {f : Int} (hf : Is4 f) (neg : Bool) (e t : Nat) (he : e < oV f) (ht : t < 2 ^ pV f) (nz : sV f e t ≠ 0) :
    mk neg (sV f e t) 1 (xV f e) = (⟨neg, od (sV f e t), 1, xV f e + (tz (sV f e t) : Int)⟩, 0) ∧ ofX f ⟨neg, od (sV f e t), 1, xV f e + (tz (sV f e t) : Int)⟩ = (enc7 f neg e t, true) ∧ ofA f ⟨neg, od (sV f e t), 1, xV f e + (tz (sV f e t) : Int)⟩ = xV f e := by
  obtain ⟨n1, n2, n3, n4, n5, n6⟩ := nm8 hf
  have oe : (oV f : Int) = 2 * fE f + 1 := by unfold oV; omega
  obtain ⟨s, hs⟩ : ∃ s, sV f e t = s := ⟨_, rfl⟩
  obtain ⟨x, hx⟩ : ∃ x, xV f e = x := ⟨_, rfl⟩
  rw [hs] at nz
  rw [hs, hx]
  obtain ⟨o1, o2⟩ := od_is s nz
  have od0 : od s ≠ 0 := by omega
  have bs : blen s = blen (od s) + tz s := by
    have := blen_shift (od s) (tz s) od0
    rw [← o1] at this
    exact this
  have tw := top_whole neg (od s) (x + (tz s : Int)) od0
  have tz1 := tz_blen s
  unfold sV at hs
  unfold xV at hx
  have sl : s < 2 * 2 ^ pV f := by split at hs <;> omega
  have bl : blen s ≤ pV f + 1 := (blen_iff s _).2 (by rw [Nat.pow_succ]; omega)
  have A : ofA f ⟨neg, od s, 1, x + (tz s : Int)⟩ = x ∧ topX ⟨neg, od s, 1, x + (tz s : Int)⟩ ≤ fE f := by
    unfold ofA
    rw [tw]
    by_cases e0 : e = 0
    · rw [if_pos e0] at hs hx
      have : blen s ≤ pV f := (blen_iff s _).2 (by omega)
      omega
    · rw [if_neg e0] at hs hx
      have : blen s = pV f + 1 := blen_is s (pV f) (by omega) (by rw [Nat.pow_succ]; omega)
      omega
  have xl : -20000 ≤ x ∧ x ≤ 20000 := by split at hx <;> omega
  refine ⟨mk_whole neg s x nz (by omega) (by omega), ?_, A.1⟩
  obtain ⟨m, k, t', h1, h2, h3, h4, h5⟩ := of_yes hf neg (od s) (x + (tz s : Int)) od0 A.2 (by rw [A.1]; omega)
  rw [A.1, show (x + (tz s : Int) - x).toNat = tz s by omega, ← o1] at h1
  rw [A.1] at h5
  rw [h4]
  by_cases e0 : e = 0
  · rw [if_pos e0] at hs hx
    rcases h5 with ⟨q1, q2, q3⟩ | ⟨q1, q2, q3⟩
    · rw [q1, e0, show t' = t by omega]
    · omega
  · rw [if_neg e0] at hs hx
    rcases h5 with ⟨q1, q2, q3⟩ | ⟨q1, q2, q3⟩
    · omega
    · rw [show k = e by omega, show t' = t by omega]
end Go.Proofs.YtkmlbjlaahcahaaGreatDoor
namespace Go.Proofs.YtkmlbjlaahcahaaGreatDoor
set_option maxRecDepth 100000
open Go.RowKit WMath

set_option maxRecDepth 100000 in
theorem pn_right_ok (a : Nat) (n : Int) (s v : ByteArray) (o : Bool) (hs : nbA a = s) (ha : nl a ≤ 16384) (h0 : 0 ≤ n) (hn : n ≤ 9223372036854775807) (hv : nbA (a / 2 ^ n.toNat) = v) (ho : decide (a % 2 ^ n.toNat ≠ 0) = o) (w : World) (hT : TabAt w) :
    Calls Tryz.prog 194 #[.string s, .int .i64 n] w fun r w' => r = .returned (.tuple #[.string v, .bool o, .int .i64 0]) ∧ Below w.heap.size w w' := by
  obtain ⟨k, rfl⟩ : ∃ m : Nat, n = (m : Int) := ⟨n.toNat, by omega⟩
  rw [Int.toNat_natCast] at hv ho
  have HM : Box (mayB s = true) := box (by rw [← hs]; exact mayB_nb a ha)
  have b0 := bal w (.cells #[.string s] 26)
  have d0 : decide ((k : Int) < 0) = false := by rw [decide_eq_false_iff_not]; omega
  have d2 := eq_empty s
  obtain ⟨K, hK⟩ : ∃ K, wl a = K := ⟨_, rfl⟩
  obtain ⟨M, hM⟩ : ∃ M, wl (a / 2 ^ k) = M := ⟨_, rfl⟩
  have hK2 : K ≤ 2048 := by rw [← hK]; exact wl_of_nl a ha
  have hM2 : M ≤ 2048 := by rw [← hM]; exact Nat.le_trans (wl_mono _ a (Nat.div_le_self _ _)) (by omega)
  have k2 : k ≤ 9223372036854775807 := by omega
  have HS := box hs
  have HA := box ha
  have HK := box hK
  have HMM := box hM
  have HV := box hv
  by_cases a0 : a = 0
  · subst a0
    have eo : o = false := by rw [← ho, Nat.zero_mod]; rfl
    subst eo
    have es : s = ⟨#[]⟩ := by rw [← hs, nbA_zero]
    subst es
    clear hs ho hv hK hM d2 ha hT
    go_enter Tryz.func194, Tryz.ntmps194
    go_wp2_with fail
    refine (n_may1 _ true HM.out _ w).mono ?_
    rintro r w0 ⟨rfl, rfl⟩
    go_wp2_with fail
    refine (l_wordsOf 0 K _ HS.out (by have := HA.out; omega) HK.out _).mono ?_
    rintro r w2 ⟨p, c, rfl, s2, b2⟩
    go_wp2_with fail
    refine (l_down w2 p K c 0 k M _ s2 (Nat.le_refl _) (by omega) k2 HMM.out).mono ?_
    rintro r w3 ⟨q, d, rfl, s3, b3⟩
    go_wp2_with fail
    refine (l_natOf w3 q M d (0 / 2 ^ k) _ v s3 (Nat.le_refl _) (by omega) HV.out).mono ?_
    rintro r w4 ⟨rfl, b4⟩
    go_wp2
    go_ret3
    exact ⟨rfl, btr b0 (btr b2 (btr b3 b4))⟩
  · rw [decide_eq_false (by rw [← hs, nbA_size]; have := nl_pos a a0; omega)] at d2
    have d3 : (s.toList != []) = true := by rw [bne, d2]; rfl
    obtain ⟨t, ht⟩ := lowB_any a a0
    have hlo := lost_low a k t ht
    have e1 : decide (t < k) = o := by rw [← ho]; exact decide_eq_decide.2 hlo.symm
    have LW := box (fun w hT => pn_low_ok a t s hs ha (Or.inr ⟨a0, ht⟩) w hT)
    have TA := box (tabA hT (.cells #[.string s] 26))
    clear hs ho hv hK hM ha hT ht hlo a0
    go_enter Tryz.func194, Tryz.ntmps194
    go_wp2_with fail
    refine (n_may1 _ true HM.out _ w).mono ?_
    rintro r w0 ⟨rfl, rfl⟩
    go_wp2_with fail
    refine (LW.out _ TA.out).mono ?_
    rintro r w1 ⟨rfl, b1⟩
    go_wp2_with fail
    refine (l_wordsOf a K _ HS.out (by have := HA.out; omega) HK.out _).mono ?_
    rintro r w2 ⟨p, c, rfl, s2, b2⟩
    go_wp2_with fail
    refine (l_down w2 p K c a k M _ s2 (Nat.le_refl _) (by omega) k2 HMM.out).mono ?_
    rintro r w3 ⟨q, d, rfl, s3, b3⟩
    go_wp2_with fail
    refine (l_natOf w3 q M d (a / 2 ^ k) _ v s3 (Nat.le_refl _) (by omega) HV.out).mono ?_
    rintro r w4 ⟨rfl, b4⟩
    go_wp2
    go_ret3
    exact ⟨rfl, btr b0 (btr b1 (btr b2 (btr b3 b4)))⟩

end Go.Proofs.YtkmlbjlaahcahaaGreatDoor
namespace Go.Proofs.YtkmlbjlaahcahaaGreatDoor
set_option maxRecDepth 100000
open Go.RowKit WMath

/-- Ahead of the bit at k - 1: the quotient so far, and what is left. -/
def NdivSt (a b k q r : Nat) : Prop := a / 2 ^ k = b * (q / 2 ^ k) + r ∧ r < b ∧ q % 2 ^ k = 0
theorem ndiv_start (a b k r : Nat) (hr : a / 2 ^ k = r) (h : r < b) : NdivSt a b k 0 r := ⟨by rw [Nat.zero_div, Nat.mul_zero, Nat.zero_add]; exact hr, h, Nat.zero_mod _⟩
theorem ndiv_step (a b k q r x : Nat) (S : NdivSt a b (k + 1) q r) (hx : 2 * r + (a.testBit k).toNat = x) :
    (x < b → NdivSt a b k q x) ∧ (b ≤ x → NdivSt a b k (q ||| 2 ^ k) (x - b)) := by
  obtain ⟨h1, h2, h3⟩ := S
  have hb := bit_nat a k
  rw [h1] at hb
  have ht : (a.testBit k).toNat ≤ 1 := by cases a.testBit k <;> decide
  have hd : 2 ^ (k + 1) ∣ q := Nat.dvd_of_mod_eq_zero h3
  have e0 : q / 2 ^ k = 2 * (q / 2 ^ (k + 1)) := by
    obtain ⟨c, rfl⟩ := hd
    rw [Nat.mul_div_cancel_left _ (Nat.two_pow_pos _), Nat.pow_succ, Nat.mul_assoc, Nat.mul_div_cancel_left _ (Nat.two_pow_pos _)]
  have h4 : q % 2 ^ k = 0 := Nat.mod_eq_zero_of_dvd (Nat.dvd_trans (Nat.pow_dvd_pow 2 (by omega)) hd)
  have e1 : 2 * (b * (q / 2 ^ (k + 1)) + r) + (a.testBit k).toNat = b * (2 * (q / 2 ^ (k + 1))) + x := by
    rw [← hx, Nat.mul_add, Nat.mul_left_comm]; omega
  refine ⟨fun h => ⟨?_, h, h4⟩, fun h => ⟨?_, by omega, ?_⟩⟩
  · rw [hb, e1, e0]
  · rw [qor_pow q k hd, Nat.add_div_right _ (Nat.two_pow_pos k), e0, hb, e1, Nat.mul_succ]
    omega
  · rw [qor_pow q k hd, Nat.add_mod_right]; exact h4
theorem ndiv_end (a b q r : Nat) (S : NdivSt a b 0 q r) : q = a / b ∧ r = a % b := by
  obtain ⟨h1, h2, _⟩ := S
  rw [Nat.pow_zero, Nat.div_one, Nat.div_one] at h1
  have hb : 0 < b := by omega
  constructor
  · rw [h1, Nat.mul_add_div hb, Nat.div_eq_of_lt h2, Nat.add_zero]
  · rw [h1, Nat.mul_add_mod, Nat.mod_eq_of_lt h2]

theorem nl_twice (b x : Nat) (h : x < 2 * b) : nl x ≤ nl b + 1 := nl_le_of x _ (by
  have := nl_lt b
  rw [pow8]
  omega)
theorem one_bit8 (k q r : Nat) (hq : q = k / 8) (hr : r = k % 8) : 2 ^ r * 2 ^ (8 * q) = 2 ^ k := by
  rw [← Nat.pow_add]; congr 1; omega

set_option maxHeartbeats 4000000 in
set_option maxRecDepth 100000 in
theorem nat_div_big (a b : Nat) (s t qv rv : ByteArray) (hs : nbA a = s) (ht : nbA b = t) (ha : nl a ≤ 16384) (hb0 : b ≠ 0) (hba : b ≤ a) (hq : nbA (a / b) = qv) (hr : nbA (a % b) = rv) (w : World) :
    Calls Tryz.prog 109 #[.string s, .string t] w fun r w' => r = .returned (.tuple #[.string qv, .string rv, .int .i64 0]) ∧ Below w.heap.size w w' := by
  obtain ⟨L, hL⟩ : ∃ L, nl a = L := ⟨_, rfl⟩
  have hz : s.size = L := by rw [← hs, nbA_size, hL]
  have hbl := nl_mono b a hba
  have e2 := eq_empty t
  have hty : t.size = nl b := by rw [← ht, nbA_size]
  have hbp := nl_pos b hb0
  rw [decide_eq_false (by omega)] at e2
  obtain ⟨c, hc⟩ : ∃ c, cmpv a b = c := ⟨_, rfl⟩
  have dc : decide (c < 0) = false := by
    rw [← hc]; unfold cmpv
    by_cases e : a = b
    · rw [if_pos e]; rfl
    · rw [if_neg e, if_neg (by omega)]; rfl
  obtain ⟨n, hn⟩ : ∃ n, blen a = n := ⟨_, rfl⟩
  obtain ⟨m, hm⟩ : ∃ m, blen b = m := ⟨_, rfl⟩
  have mp : 0 < m := by rw [← hm]; exact blen_pos b hb0
  have nm : m ≤ n := by
    rw [← hm, ← hn]
    exact blen_le_of b _ (Nat.lt_of_le_of_lt hba (blen_lt a))
  have n8 : n ≤ 8 * L := by rw [← hn, ← hL]; unfold nl; omega
  obtain ⟨K, hK⟩ : ∃ K : Nat, n - (m - 1) = K := ⟨_, rfl⟩
  obtain ⟨r0, hr0⟩ : ∃ r0, a / 2 ^ K = r0 := ⟨_, rfl⟩
  have r0b : r0 < b := by
    have h1 := blen_lt a
    have h2 := blen_le b hb0
    rw [hn] at h1
    rw [hm] at h2
    have h3 : r0 < 2 ^ (m - 1) := by
      rw [← hr0, Nat.div_lt_iff_lt_mul (Nat.two_pow_pos _), ← Nat.pow_add, show m - 1 + K = n by omega]
      exact h1
    omega
  obtain ⟨R0, hR0⟩ : ∃ R0, nbA (a / 2 ^ ((K : Int).toNat)) = R0 := ⟨_, rfl⟩
  obtain ⟨o, ho⟩ : ∃ o, decide (a % 2 ^ ((K : Int).toNat) ≠ 0) = o := ⟨_, rfl⟩
  have ST0 : Box (NdivSt a b K 0 r0) := box (ndiv_start a b K r0 hr0 r0b)
  have HR0 : Box (nbA r0 = R0) := box (by rw [← hR0, Int.toNat_natCast, hr0])
  have HR1 := box hR0
  have HO := box ho
  have HC := box hc
  have HN := box hn
  have HM := box hm
  have HS := box hs
  have HT := box ht
  have HQ := box hq
  have HR := box hr
  have HA := box ha
  have HB : Box (nl b ≤ 16384) := box (by omega)
  have NA : Box (nl a ≤ 100000) := box (by omega)
  obtain ⟨N, hN⟩ : ∃ N, L + 1 = N := ⟨_, rfl⟩
  have L2 : L ≤ 16384 := by omega
  have hmk := c8_makeI N ((L : Int) + 1) (by omega) (by omega)
  have w1 : IntKind.i64.wrap ((m : Int) - 1) = (m : Int) - 1 := wrap_i64_is _ (by omega) (by omega)
  have w2 : IntKind.i64.wrap ((n : Int) - ((m : Int) - 1)) = (K : Int) := by rw [wrap_i64_is _ (by omega) (by omega)]; omega
  have KI : Box ((K : Int) ≤ 9223372036854775807) := box (by omega)
  have K8 : K ≤ 8 * L := by omega
  have QB : Box (a / b < 2 ^ (8 * N)) := box (Nat.lt_of_le_of_lt (Nat.div_le_self _ _) (Nat.lt_of_lt_of_le (nl_lt a) (pow8_le _ _ (by omega))))
  clear hs ht hq hr hL hn hm hc hr0 hR0 ho hba hbl hb0 hty ha hK mp nm n8 hbp r0b
  go_enter Tryz.func109, Tryz.ntmps109
  go_wp2_with fail
  refine (nat_cmp a b s t c HS.out HT.out HC.out _).mono ?_
  rintro e w' ⟨rfl, hw'⟩
  subst hw'
  go_wp2_with fail
  refine (nat_Len a n s HS.out HA.out HN.out _).mono ?_
  rintro e w3 ⟨rfl, hw3⟩
  subst hw3
  go_wp2_with fail
  refine (nat_Len b m t HT.out HB.out HM.out _).mono ?_
  rintro e w4 ⟨rfl, hw4⟩
  subst hw4
  go_wp2_with fail
  refine (nat_Right a (K : Int) s R0 o HS.out HA.out (by omega) KI.out HR1.out HO.out _).mono ?_
  rintro e w5 ⟨rfl, hb5⟩
  go_wp2
  clear hmk w1 w2 dc e2 HR1 HO HC HN HM KI
  obtain ⟨g, hg⟩ : ∃ g, w5.heap.size = g := ⟨_, rfl⟩
  have g5 : w4.heap.size ≤ g := by rw [← hg]; exact hb5.size
  have B5 : Below w4.heap.size w4 (w5.alloc (.cells (c8 N 0) 5)) := hb5.alloc hb5.size _
  have r5 : (w5.alloc (.cells (c8 N 0) 5)).heap[g]? = some (.cells (c8 N 0) 5) := by rw [← hg]; exact heap_alloc_last _ _
  rw [hg]
  go_loopw [9, 13] (fun rv iv wr => ∃ (k q r : Nat) (R : ByteArray), iv = .int .i64 ((k : Int) - 1) ∧ rv = .string R ∧ k ≤ K ∧ wr.heap[g]? = some (.cells (c8 N q) 5) ∧ Below w4.heap.size w4 wr ∧ Box (nbA r = R) ∧ Box (NdivSt a b k q r)) (fun _ iv _ => (intOf iv + 1).toNat)
  case atStart => exact ⟨K, 0, r0, R0, by first | rfl | go_num, rfl, by omega, r5, B5, HR0, ST0⟩
  case round =>
    clear r5 B5 HR0 ST0 hb5
    obtain ⟨k, q, r, R, rfl, rfl, hk, row, hbw, HRR, HST⟩ := hrel
    by_cases hk0 : k = 0
    · subst hk0
      obtain ⟨e1, e3⟩ := ndiv_end a b q r HST.out
      rw [e1] at row
      have eR : R = rv := by rw [← HRR.out, ← HR.out, e3]
      subst eR
      clear e1 e3 HST
      go_wp2_with fail
      refine (nat_fit N (a / b) g N qv (by omega) QB.out HQ.out _ row).mono ?_
      rintro e w6 ⟨rfl, hb6⟩
      go_wp2
      exact bodyPost_ret (v := .tuple #[.string qv, .string R, .int .i64 0]) (by simp [results, Tryz.results109, go_sem]) rfl ⟨rfl, hbw.trans (hb6.mono hbw.size)⟩
    · obtain ⟨j, rfl⟩ : ∃ j, k = j + 1 := ⟨k - 1, by omega⟩
      have ej : (((j + 1 : Nat) : Int) - 1) = (j : Int) := by omega
      rw [ej]
      obtain ⟨o1, ho1⟩ : ∃ o1, (a.testBit j).toNat = o1 := ⟨_, rfl⟩
      have o2 : o1 < 2 := by rw [← ho1]; cases a.testBit j <;> decide
      obtain ⟨x, hx⟩ : ∃ x, 2 * r + o1 = x := ⟨_, rfl⟩
      have ST := box (ndiv_step a b j q r x HST.out (by rw [ho1]; exact hx))
      have rb := HST.out.2.1
      have xb : x < 2 * b := by omega
      have HRB : Box (nl r ≤ 20000) := box (by have := nl_mono r b (by omega); have := HB.out; omega)
      have HXB : Box (nl x ≤ 20000) := box (by have := nl_twice b x xb; have := HB.out; omega)
      obtain ⟨X, hX⟩ : ∃ X, nbA x = X := ⟨_, rfl⟩
      have HX := box hX
      have HX2 : Box (nbA (2 * r + o1) = X) := box (by rw [hx]; exact hX)
      obtain ⟨c, hc⟩ : ∃ c, cmpv x b = c := ⟨_, rfl⟩
      have HC := box hc
      have HO1 := box ho1
      have jb : j ≤ 10000000 := by omega
      by_cases hlt : x < b
      · have dc : decide (0 ≤ c) = false := by rw [← hc]; unfold cmpv; rw [if_neg (by omega), if_pos hlt]; rfl
        have NS := box (ST.out.1 hlt)
        clear hx hX hc ho1 rb xb hlt hg
        go_wp2_with fail
        refine (nat_bit a j s o1 HS.out HO1.out NA.out jb _).mono ?_
        rintro e w6 ⟨rfl, hw6⟩
        subst hw6
        go_wp2_with fail
        refine (nat_double r o1 R X HRR.out o2 HX2.out HRB.out _).mono ?_
        rintro e w7 ⟨rfl, hb7⟩
        have row7 := heap_of hb7 _ _ _ row
        have B7 : Below w4.heap.size w4 w7 := hbw.trans (hb7.mono hbw.size)
        clear hb7 row hbw
        go_wp2_with fail
        refine (nat_cmp x b X t c HX.out HT.out HC.out _).mono ?_
        rintro e w8 ⟨rfl, hw8⟩
        subst hw8
        go_wp2
        go_roundw
        case rel => exact ⟨j, q, x, X, by first | rfl | go_num, rfl, by omega, row7, B7, HX, NS⟩
        case measure => simp [intOf] <;> omega
      · have dc : decide (0 ≤ c) = true := by
          rw [← hc]; unfold cmpv
          by_cases e : x = b
          · rw [if_pos e]; rfl
          · rw [if_neg e, if_neg hlt]; rfl
        have NS0 := ST.out.2 (by omega)
        obtain ⟨y, hy⟩ : ∃ y, x - b = y := ⟨_, rfl⟩
        obtain ⟨Y, hY⟩ : ∃ Y, nbA (x - b) = Y := ⟨_, rfl⟩
        have HY := box hY
        have HY2 : Box (nbA y = Y) := box (by rw [← hy]; exact hY)
        rw [hy] at NS0
        have HBX : Box (b ≤ x) := box (by omega)
        obtain ⟨qi, hqi⟩ : ∃ qi, qi = j / 8 := ⟨_, rfl⟩
        obtain ⟨ri, hri⟩ : ∃ ri, ri = j % 8 := ⟨_, rfl⟩
        have q1 : (j : Int) / 8 = (qi : Int) := by omega
        have r1 : (j : Int) % 8 = (ri : Int) := by omega
        have r8 : ri < 8 := by omega
        obtain ⟨v, hv⟩ : ∃ v, v = 2 ^ ri := ⟨_, rfl⟩
        have v256 : v < 256 := by
          rw [hv, two8]
          exact Nat.pow_lt_pow_right (by decide) r8
        have hv2 : IntKind.u8.wrap ((2 : Int) ^ ri) = (v : Int) := by rw [pow_cast, ← hv]; exact wrap_u8_is v v (Nat.mod_eq_of_lt v256)
        have hv3 : IntKind.u8.wrap (1 * (2 : Int) ^ ri) = (v : Int) := by rw [Int.one_mul]; exact hv2
        obtain ⟨Z, hZ⟩ : ∃ Z, q ||| 2 ^ j = Z := ⟨_, rfl⟩
        rw [hZ] at NS0
        have NS := box NS0
        have hZ2 : Z = q ||| v * 2 ^ (8 * qi) := by rw [hv, one_bit8 j qi ri hqi hri, hZ]
        have qN : qi < N := by omega
        have o8 : bits .or .u8 (d8 q qi : Nat) (v : Nat) = ((d8 q qi ||| v : Nat) : Int) := by
          show IntKind.u8.wrap ((BitVec.ofInt 8 (d8 q qi : Int) ||| BitVec.ofInt 8 (v : Int)).toNat : Int) = _
          have h1 : (BitVec.ofInt 8 (d8 q qi : Int)).toNat = d8 q qi := by have := d8_lt q qi; simp; omega
          have h2 : (BitVec.ofInt 8 (v : Int)).toNat = v := by simp; omega
          rw [BitVec.toNat_or, h1, h2]
          exact wrap_u8_is _ _ (Nat.mod_eq_of_lt (or_lt8 _ _ (d8_lt q qi) v256))
        have HZ := box (c8_or N q qi v Z qN v256 hZ2)
        clear hx hX hc ho1 rb xb hlt hg hy hY hqi hri hv hZ hZ2 NS0
        go_wp2_with fail
        refine (nat_bit a j s o1 HS.out HO1.out NA.out jb _).mono ?_
        rintro e w6 ⟨rfl, hw6⟩
        subst hw6
        go_wp2_with fail
        refine (nat_double r o1 R X HRR.out o2 HX2.out HRB.out _).mono ?_
        rintro e w7 ⟨rfl, hb7⟩
        have row7 := heap_of hb7 _ _ _ row
        have B7 : Below w4.heap.size w4 w7 := hbw.trans (hb7.mono hbw.size)
        clear hb7 row hbw
        go_wp2_with fail
        refine (nat_cmp x b X t c HX.out HT.out HC.out _).mono ?_
        rintro e w8 ⟨rfl, hw8⟩
        subst hw8
        go_wp2_with fail
        refine (nat_sub x b X t Y HX.out HT.out HY.out HBX.out HXB.out _).mono ?_
        rintro e w9 ⟨rfl, hb9⟩
        have row9 := heap_of hb9 _ _ _ row7
        have B9 : Below w4.heap.size w4 w9 := B7.trans (hb9.mono B7.size)
        clear hb9 row7 B7
        have k1 := c8_cell row9 qN
        have k2 := fz (k := qi) row9
        have RS : Box ((w9.setCell ⟨g, qi, none⟩ (.int .u8 ((d8 q qi ||| v : Nat) : Int))).heap[g]? = some (.cells (c8 N Z) 5)) := box (by rw [setCell_row row9, HZ.out])
        go_wp2
        go_roundw
        case rel => exact ⟨j, Z, y, Y, by first | rfl | go_num, rfl, by omega, RS.out, B9.setCell (by show w4.heap.size ≤ g; omega) _, HY2, NS⟩
        case measure => simp [intOf] <;> omega

theorem nat_Div (a b : Nat) (s t qv rv : ByteArray) (hs : nbA a = s) (ht : nbA b = t) (ha : nl a ≤ 16384) (hb0 : b ≠ 0) (hq : nbA (a / b) = qv) (hr : nbA (a % b) = rv) (w : World) :
    Calls Tryz.prog 109 #[.string s, .string t] w fun r w' => r = .returned (.tuple #[.string qv, .string rv, .int .i64 0]) ∧ Below w.heap.size w w' := by
  by_cases hba : b ≤ a
  · exact nat_div_big a b s t qv rv hs ht ha hb0 hba hq hr w
  · have e2 := eq_empty t
    have hty : t.size = nl b := by rw [← ht, nbA_size]
    have hbp := nl_pos b hb0
    rw [decide_eq_false (by omega)] at e2
    rw [Nat.div_eq_of_lt (by omega), nbA_zero] at hq
    rw [Nat.mod_eq_of_lt (by omega), hs] at hr
    subst hq hr
    have HC : Box (cmpv a b = -1) := box (by unfold cmpv; rw [if_neg (by omega), if_pos (by omega)])
    clear hba hty hbp ha hb0
    go_enter Tryz.func109, Tryz.ntmps109
    go_wp2_with fail
    refine (nat_cmp a b s t (-1) hs ht HC.out _).mono ?_
    rintro e w' ⟨rfl, rfl⟩
    go_wp2
    exact bodyPost_ret (v := .tuple #[.string ⟨#[]⟩, .string s, .int .i64 0]) (by simp [results, Tryz.results109, go_sem]) rfl ⟨rfl, Below.refl _ _⟩
end Go.Proofs.YtkmlbjlaahcahaaGreatDoor
namespace Go.Proofs.YtkmlbjlaahcahaaGreatDoor
set_option maxRecDepth 100000
open Go.RowKit WMath

/-- What a value says, if it is a string. -/
def strV (v : Value) : Nat := match v with | .string s => bvl s.data.toList | _ => 0
theorem strV_nb (n : Nat) (s : ByteArray) (h : nbA n = s) : strV (.string s) = n := by
  subst h
  exact bvl_nbL n

set_option maxHeartbeats 4000000 in
theorem nat_Gcd (a b : Nat) (s t v : ByteArray) (hs : nbA a = s) (ht : nbA b = t) (ha : nl a ≤ 16384) (hb : nl b ≤ 16384) (hv : nbA (Nat.gcd a b) = v) (w : World) :
    Calls Tryz.prog 59 #[.string s, .string t] w fun e w' => e = .returned (.string v) ∧ Below w.heap.size w w' := by
  have HS := box hs
  have HT := box ht
  have HV := box hv
  have HA := box ha
  have HB := box hb
  clear hs ht hv ha hb
  go_enter Tryz.func59, Tryz.ntmps59
  go_wp2
  go_loopw [0, 1] (fun av bv wr => ∃ (x y : Nat) (X Y : ByteArray), av = .string X ∧ bv = .string Y ∧ Below w.heap.size w wr ∧ Box (nbA x = X) ∧ Box (nbA y = Y) ∧ Box (nl x ≤ 16384) ∧ Box (nl y ≤ 16384) ∧ Box (Nat.gcd x y = Nat.gcd a b)) (fun _ bv _ => strV bv)
  case atStart => exact ⟨a, b, s, t, rfl, rfl, Below.refl _ _, HS, HT, HA, HB, box rfl⟩
  case round =>
    obtain ⟨x, y, X, Y, rfl, rfl, hbw, HX, HY, LX, LY, HG⟩ := hrel
    have e2 := eq_empty Y
    have hz : Y.size = nl y := by rw [← HY.out, nbA_size]
    by_cases hy : y = 0
    · rw [decide_eq_true (by rw [hz, hy, nl_zero])] at e2
      have eX : X = v := by
        have h := HG.out
        rw [hy, Nat.gcd_zero_right] at h
        rw [← HX.out, ← HV.out, h]
      subst eX
      clear hz hy
      go_wp2
      go_ret
      exact ⟨rfl, hbw⟩
    · have hp := nl_pos y hy
      rw [decide_eq_false (by omega)] at e2
      obtain ⟨q, hq⟩ : ∃ q, nbA (x / y) = q := ⟨_, rfl⟩
      obtain ⟨r, hr⟩ : ∃ r, x % y = r := ⟨_, rfl⟩
      obtain ⟨R, hR⟩ : ∃ R, nbA (x % y) = R := ⟨_, rfl⟩
      have rl : r < y := by rw [← hr]; exact Nat.mod_lt _ (by omega)
      have HQ := box hq
      have HR := box hR
      have HR2 : Box (nbA r = R) := box (by rw [← hr]; exact hR)
      have HY0 := box hy
      have LR : Box (nl r ≤ 16384) := box (by have := nl_mono r y (by omega); have := LY.out; omega)
      have NG : Box (Nat.gcd y r = Nat.gcd a b) := box (by rw [← HG.out, ← hr, Nat.gcd_comm y, ← Nat.gcd_rec, Nat.gcd_comm])
      have M1 := box (strV_nb y Y HY.out)
      have M2 := box (strV_nb r R HR2.out)
      clear hz hy hq hr hR hp
      go_wp2_with fail
      refine (nat_Div x y X Y q R HX.out HY.out LX.out HY0.out HQ.out HR.out _).mono ?_
      rintro e w1 ⟨rfl, hb1⟩
      go_wp2
      go_roundw
      case rel => exact ⟨y, r, Y, R, rfl, rfl, hbw.trans (hb1.mono hbw.size), HY, HR2, LY, LR, NG⟩
      case measure => rw [M1.out, M2.out]; exact rl
end Go.Proofs.YtkmlbjlaahcahaaGreatDoor
namespace Go.Proofs.YtkmlbjlaahcahaaGreatDoor
set_option maxRecDepth 100000
open Go.RowKit WMath XMath

theorem nb1 : nbA 1 = ⟨#[1]⟩ := by decide +kernel
theorem nl1 : nl 1 ≤ 16384 := by decide +kernel
theorem eq_one (g : Nat) (v : ByteArray) (h : nbA g = v) : (v.toList == [1]) = decide (g = 1) := by
  rw [Bool.eq_iff_iff, beq_iff_eq, decide_eq_true_iff, ByteArray.toList_eq]
  constructor
  · intro e
    apply nbA_inj
    rw [h, nb1]
    obtain ⟨⟨l⟩⟩ := v
    show (⟨⟨l⟩⟩ : ByteArray) = ⟨#[1]⟩
    have : l = [1] := e
    rw [this]
  · intro e
    subst e
    rw [nb1] at h
    rw [← h]
theorem eq_nil (n : Nat) (s : ByteArray) (h : nbA n = s) (h0 : n ≠ 0) : (s.toList == []) = false := by
  rw [eq_empty, decide_eq_false_iff_not, ← h, nbA_size]
  have := nl_pos n h0
  omega

theorem quiet_world {w W : World} (b : Below w.heap.size w W) (n : Nat) : ∃ V, W.drewN n = V ∧ Below w.heap.size w V ∧ V.heap = W.heap := ⟨_, rfl, below_drewN b n, rfl⟩
theorem cells4 {w : World} {g : Nat} {T : TypeId} {c : Array Value} (row : w.heap[g]? = some (.cells c T)) (k : Nat) (v : Value) (h : c[k]? = some v) : w.cell? ⟨g, k, none⟩ = some v := by
  rw [cell_of_row w g k _ _ _ row]
  exact h

theorem cells4s {w : World} {g : Nat} {T : TypeId} {a b c d : Value} (R : w.heap[g]? = some (.cells #[a, b, c, d] T)) : w.cell? ⟨g, 0, none⟩ = some a ∧ w.cell? ⟨g, 1, none⟩ = some b ∧ w.cell? ⟨g, 2, none⟩ = some c ∧ w.cell? ⟨g, 3, none⟩ = some d := ⟨cells4 R 0 _ rfl, cells4 R 1 _ rfl, cells4 R 2 _ rfl, cells4 R 3 _ rfl⟩
theorem cells2s {w : World} {g : Nat} {T : TypeId} {a b : Value} (R : w.heap[g]? = some (.cells #[a, b] T)) : w.cell? ⟨g, 0, none⟩ = some a ∧ w.cell? ⟨g, 1, none⟩ = some b := ⟨cells4 R 0 _ rfl, cells4 R 1 _ rfl⟩
theorem opn1 (w : World) (o : Obj) : (w.alloc o).heap[w.heap.size]? = some o ∧ Below w.heap.size w (w.alloc o) := ⟨heap_alloc_last _ _, (Below.refl _ _).alloc (Nat.le_refl _) _⟩
theorem opn2 (w : World) (o1 o2 : Obj) : ((w.alloc o1).alloc o2).heap[w.heap.size]? = some o1 ∧ ((w.alloc o1).alloc o2).heap[w.heap.size + 1]? = some o2 ∧ Below w.heap.size w ((w.alloc o1).alloc o2) := by
  obtain ⟨r0, b⟩ := opn1 w o1
  have z : (w.alloc o1).heap.size = w.heap.size + 1 := by simp only [size_al]
  exact ⟨by rw [heap_below _ _ _ (by omega)]; exact r0, by rw [← z]; exact heap_alloc_last _ _, b.alloc (by omega) _⟩
theorem set4_below {n : Nat} {w wr : World} {b : Nat} (h : Below n w wr) (hb : n ≤ b) (v0 v1 v2 v3 : Value) : Below n w ((((wr.setCell ⟨b, 0, none⟩ v0).setCell ⟨b, 1, none⟩ v1).setCell ⟨b, 2, none⟩ v2).setCell ⟨b, 3, none⟩ v3) :=
  (((h.setCell hb _).setCell hb _).setCell hb _).setCell hb _
theorem set4_row {w : World} {b : Nat} {c : Array Value} {T : TypeId} (h : w.heap[b]? = some (.cells c T)) (hc : c.size = 4) (v0 v1 v2 v3 : Value) :
    ((((w.setCell ⟨b, 0, none⟩ v0).setCell ⟨b, 1, none⟩ v1).setCell ⟨b, 2, none⟩ v2).setCell ⟨b, 3, none⟩ v3).heap[b]? = some (.cells #[v0, v1, v2, v3] T) := by
  rw [setCell_row (setCell_row (setCell_row (setCell_row h)))]
  obtain ⟨l⟩ := c
  match l, hc with
  | [a, b, c, d], _ => rfl
theorem set4_cells {w : World} {b : Nat} {c : Array Value} {T : TypeId} (h : w.heap[b]? = some (.cells c T)) (hc : c.size = 4) (v0 v1 v2 v3 : Value) :
    ((((w.setCell ⟨b, 0, none⟩ v0).setCell ⟨b, 1, none⟩ v1).setCell ⟨b, 2, none⟩ v2).setCell ⟨b, 3, none⟩ v3).cell? ⟨b, 0, none⟩ = some v0 ∧
    ((((w.setCell ⟨b, 0, none⟩ v0).setCell ⟨b, 1, none⟩ v1).setCell ⟨b, 2, none⟩ v2).setCell ⟨b, 3, none⟩ v3).cell? ⟨b, 1, none⟩ = some v1 ∧
    ((((w.setCell ⟨b, 0, none⟩ v0).setCell ⟨b, 1, none⟩ v1).setCell ⟨b, 2, none⟩ v2).setCell ⟨b, 3, none⟩ v3).cell? ⟨b, 2, none⟩ = some v2 ∧
    ((((w.setCell ⟨b, 0, none⟩ v0).setCell ⟨b, 1, none⟩ v1).setCell ⟨b, 2, none⟩ v2).setCell ⟨b, 3, none⟩ v3).cell? ⟨b, 3, none⟩ = some v3 := by
  have r := set4_row h hc v0 v1 v2 v3
  exact ⟨cells4 r 0 _ rfl, cells4 r 1 _ rfl, cells4 r 2 _ rfl, cells4 r 3 _ rfl⟩

/-- May a number be that is told by strings? -/
def MayX (b : Bool) (s t : ByteArray) (e : Int) : Prop := ∃ n d, nbA n = s ∧ nbA d = t ∧ (XN.mk b n d e).can
/-- Does o tell whether it may be? -/
def IsM (o : Bool) (b : Bool) (s t : ByteArray) (e : Int) : Prop := o = true ↔ MayX b s t e
theorem mayX_iff (b : Bool) (n d : Nat) (s t : ByteArray) (e : Int) (hs : nbA n = s) (ht : nbA d = t) : MayX b s t e ↔ (XN.mk b n d e).can := by
  constructor
  · rintro ⟨n', d', h1, h2, h⟩
    rw [nbA_inj _ _ (h1.trans hs.symm), nbA_inj _ _ (h2.trans ht.symm)] at h
    exact h
  · intro h
    exact ⟨n, d, hs, ht, h⟩
theorem mayX_s (b : Bool) (s t : ByteArray) (e : Int) (h : MayX b s t e) : mayB s = true ∧ mayB t = true := by
  obtain ⟨n, d, rfl, rfl, h⟩ := h
  exact ⟨mayB_nb n h.1, mayB_nb d h.2.1⟩

theorem xnull (w : World) : Calls Tryz.prog 58 #[] w fun r w' => r = .returned (.agg #[.bool false, .string ⟨#[]⟩, .string ⟨#[1]⟩, .int .i64 0]) ∧ Below w.heap.size w w' := by
  go_enter Tryz.func58, Tryz.ntmps58
  go_wp2
  exact bodyPost_ret (v := .agg #[.bool false, .string ⟨#[]⟩, .string ⟨#[1]⟩, .int .i64 0]) (by simp [results, Tryz.results58, go_sem]) rfl ⟨rfl, by first | exact Below.refl _ _ | exact bal _ _⟩
theorem zerox (w : World) : Calls Tryz.prog 88 #[] w fun r w' => r = .returned (.agg #[.bool false, .string ⟨#[]⟩, .string ⟨#[1]⟩, .int .i64 0]) ∧ Below w.heap.size w w' := by
  go_enter Tryz.func88, Tryz.ntmps88
  go_wp2
  exact bodyPost_ret (v := .agg #[.bool false, .string ⟨#[]⟩, .string ⟨#[1]⟩, .int .i64 0]) (by simp [results, Tryz.results88, go_sem]) rfl ⟨rfl, by first | exact Below.refl _ _ | exact bal _ _⟩
theorem withinx (n b : Int) (o : Bool) (hb : 0 ≤ b) (hb2 : b ≤ 9223372036854775807) (ho : (decide (-b ≤ n) && decide (n ≤ b)) = o) (w : World) : Calls Tryz.prog 89 #[.int .i64 n, .int .i64 b] w fun r w' => r = .returned (.bool o) ∧ Below w.heap.size w w' := by
  have n1 : IntKind.i64.wrap (-b) = -b := wrap_i64_is _ (by omega) (by omega)
  by_cases h : -b ≤ n
  · have d1 : decide (-b ≤ n) = true := decide_eq_true h
    rw [d1, Bool.true_and] at ho
    have B0 : Below w.heap.size w w := (Below.refl _ _)
    go_enter Tryz.func89, Tryz.ntmps89
    go_wp2
    go_ret
    exact ⟨rfl, B0⟩
  · have d1 : decide (-b ≤ n) = false := decide_eq_false h
    rw [d1, Bool.false_and] at ho
    subst ho
    have B0 : Below w.heap.size w w := (Below.refl _ _)
    go_enter Tryz.func89, Tryz.ntmps89
    go_wp2
    go_ret
    exact ⟨rfl, B0⟩
theorem and1 (x : Nat) (h : x < 256) : bits .and .u8 (x : Nat) 1 = ((x % 2 : Nat) : Int) := by
  show IntKind.u8.wrap ((BitVec.ofInt 8 (x : Int) &&& BitVec.ofInt 8 1).toNat : Int) = _
  have h1 : (BitVec.ofInt 8 1).toNat = 2 ^ 1 - 1 := by decide
  have h2 : (BitVec.ofInt 8 (x : Int)).toNat = x := by simp; omega
  rw [BitVec.toNat_and, h1, Nat.and_two_pow_sub_one_eq_mod, h2]
  exact wrap_u8_is _ _ (by omega)
theorem rodd (n : Nat) (s : ByteArray) (o : Bool) (hs : nbA n = s) (hl : nl n ≤ 16384) (ho : decide (n % 2 = 1) = o) (w : World) : Calls Tryz.prog 57 #[.string s] w fun r w' => r = .returned (.bool o) ∧ Below w.heap.size w w' := by
  by_cases h0 : n = 0
  · subst h0
    rw [nbA_zero] at hs
    subst hs
    have e : o = false := by rw [← ho]; rfl
    subst e
    clear ho hl
    have B0 : Below w.heap.size w w := (Below.refl _ _)
    go_enter Tryz.func57, Tryz.ntmps57
    go_wp2
    go_ret
    exact ⟨rfl, B0⟩
  · have d0 := eq_nil n s hs h0
    obtain ⟨L, hL⟩ : ∃ L, nl n = L := ⟨_, rfl⟩
    have hz : s.size = L := by rw [← hs, nbA_size, hL]
    have L0 : 0 < L := by rw [← hL]; exact nl_pos n h0
    have hk : L - 1 < s.size := by omega
    obtain ⟨x, hx⟩ : ∃ x, (s[L - 1]'hk).toNat = x := ⟨_, rfl⟩
    have hxd : n % 256 = x := by
      rw [← hx]
      subst hs
      rw [nbA_get, hL, show L - 1 - (L - 1) = 0 by omega]
      unfold d8
      rw [Nat.mul_zero, Nat.pow_zero, Nat.div_one]
    have x256 : x < 256 := by omega
    have hxr := idx_run s (L - 1) ((L : Int) - 1) x (by omega) hk hx
    have n1 : IntKind.i64.wrap ((L : Int) - 1) = (L : Int) - 1 := wrap_i64_is _ (by omega) (by omega)
    have ha := and1 x x256
    obtain ⟨y, hy⟩ : ∃ y, x % 2 = y := ⟨_, rfl⟩
    rw [hy] at ha
    have hc : ((y : Int) == 1) = o := by
      rw [← ho, Bool.eq_iff_iff, beq_iff_eq, decide_eq_true_iff]
      omega
    have hc2 : decide (y = 1) = o := by
      rw [← ho, Bool.eq_iff_iff, decide_eq_true_iff, decide_eq_true_iff]
      omega
    clear hs hL hx hxd hy ho
    have B0 : Below w.heap.size w w := (Below.refl _ _)
    go_enter Tryz.func57, Tryz.ntmps57
    go_wp2
    go_ret
    exact ⟨rfl, B0⟩
theorem oddx (n : Nat) (s : ByteArray) (o : Bool) (hs : nbA n = s) (hl : nl n ≤ 16384) (ho : decide (n % 2 = 1) = o) (w : World) (hT : TabAt w) : Calls Tryz.prog 112 #[.string s] w fun r w' => r = .returned (.bool o) ∧ Below w.heap.size w w' := by
  by_cases h0 : n = 0
  · subst h0
    rw [nbA_zero] at hs
    subst hs
    have e : o = false := by rw [← ho]; rfl
    subst e
    clear ho hl
    have B0 : Below w.heap.size w w := (Below.refl _ _)
    go_enter Tryz.func112, Tryz.ntmps112
    go_wp2
    go_ret
    exact ⟨rfl, B0⟩
  · have d0 := eq_nil n s hs h0
    obtain ⟨t, ht⟩ : ∃ t, tz n = t := ⟨_, rfl⟩
    have HT := box (tz_low n)
    rw [ht] at HT
    have hc : ((t : Int) == 0) = o := by
      rw [← ho, ← ht, Bool.eq_iff_iff, beq_iff_eq, decide_eq_true_iff]
      constructor
      · intro h
        obtain ⟨a, b⟩ := od_is n h0
        have e : tz n = 0 := by omega
        unfold od at b
        rw [e, Nat.pow_zero, Nat.div_one] at b
        exact b
      · intro h
        rw [tz_odd n h]
        rfl
    have hc2 : decide (t = 0) = o := by
      rw [← hc, Bool.eq_iff_iff, beq_iff_eq, decide_eq_true_iff]
      omega
    have HS := box hs
    have HL := box hl
    have TT := box hT
    clear hs hl ht ho hT
    have B0 : Below w.heap.size w w := (Below.refl _ _)
    go_enter Tryz.func112, Tryz.ntmps112
    go_wp2_with fail
    refine (pn_low_ok n t s HS.out HL.out HT.out _ (tabB TT.out B0)).mono ?_
    rintro r w1 ⟨rfl, b1⟩
    have B1 : Below w.heap.size w w1 := btr B0 b1
    clear b1 B0 
    go_wp2
    go_ret
    exact ⟨rfl, B1⟩
end Go.Proofs.YtkmlbjlaahcahaaGreatDoor
namespace Go.Proofs.YtkmlbjlaahcahaaGreatDoor
set_option maxRecDepth 100000
open Go.RowKit WMath
set_option linter.unusedSimpArgs false
set_option linter.unusedVariables false

set_option maxRecDepth 100000 in
set_option maxHeartbeats 1000000 in
theorem knatOf_is (n : Nat) (v : ByteArray) (hn : n < Q) (hv : nbA n = v) (w : World) : Calls Tryz.prog 38 #[.agg (cw 6 n)] w fun r w' => r = .returned (.string v) ∧ Below w.heap.size w w' := by
  have hat := cw_at 6
  have hz := cw6z
  have hff := cw6f
  have hs0 := st0
  have hcs : ∀ x, ((cw 6 x).size = 6) = True := fun x => eq_true (cw_size 6 x)
  obtain ⟨l, hl⟩ : ∃ l, blen n = l := ⟨_, rfl⟩
  obtain ⟨m, hm⟩ : ∃ m, nl n = m := ⟨_, rfl⟩
  have hml : m = (l + 7) / 8 := by rw [← hm, ← hl]; rfl
  obtain ⟨K, hK, hQ⟩ := Q48
  have m48 : m ≤ 48 := by rw [← hm, ← hK]; exact nl_le_of n K (by rw [← hQ]; exact hn)
  have l384 : l ≤ 384 := by omega
  have n1 : IntKind.i64.wrap ((l : Int) + 7) = (l : Int) + 7 := wrap_i64_is _ (by omega) (by omega)
  have n1t : ((l : Int) + 7).tdiv 8 = (m : Int) := by rw [Int.tdiv_eq_ediv_of_nonneg (by omega)]; omega
  have n1w : IntKind.i64.wrap (m : Int) = (m : Int) := wrap_i64_is _ (by omega) (by omega)
  have hmk := c8_make m (by omega)
  have hvz : v.size = m := by rw [← hv, nbA_size, hm]
  have KL := box (wlen_is n l hn hl)
  have HM := box hm
  have HV := box hv
  clear hm hl hv hml hK hQ hn
  obtain ⟨Ra_0, B0⟩ := opn1 w (Obj.cells (cw 6 n) 53)
  go_enter Tryz.func38, Tryz.ntmps38
  go_wp2_with fail
  refine (KL.out _).mono ?_
  rintro r w1 ⟨rfl, b1⟩
  have B1 : Below w.heap.size w w1 := btr B0 b1
  have Ra_1 := heap_of b1 _ _ _ Ra_0
  clear b1 B0 Ra_0
  have ca_1_0 := row_cell Ra_1
  go_wp2
  clear hmk n1 n1t n1w
  obtain ⟨g, hg⟩ : ∃ g, w1.heap.size = g := ⟨_, rfl⟩
  have hgw : w.heap.size < g := by rw [← hg]; exact (Array.getElem?_eq_some_iff.1 Ra_1).1
  have r0 : (w1.alloc (.cells (c8 m 0) 5)).heap[g]? = some (.cells (c8 m 0) 5) := by rw [← hg]; exact heap_alloc_last _ _
  have r2 : (w1.alloc (.cells (c8 m 0) 5)).heap[w.heap.size]? = some (.cells (cw 6 n) 53) := heap_of (bal _ _) _ _ _ Ra_1
  have b0 : Below w.heap.size w (w1.alloc (.cells (c8 m 0) 5)) := btr B1 (bal _ _)
  rw [hg]
  clear hg
  go_loopw [12] (fun iv wr => ∃ (i Y : Nat), i ≤ m ∧ iv = .int .i64 i ∧ wr.heap[w.heap.size]? = some (.cells (cw 6 n) 53) ∧ wr.heap[g]? = some (.cells (c8 m Y) 5) ∧ Below w.heap.size w wr ∧ Box (∀ j, m - i ≤ j → j < m → d8 Y j = d8 n (m - 1 - j))) (fun iv _ => m - (intOf iv).toNat)
  case atStart => exact ⟨0, 0, by omega, rfl, r2, r0, b0, box (fun j h1 h2 => absurd h2 (by omega))⟩
  case round =>
    clear r0 r2 b0 Ra_1 B1
    obtain ⟨i, Y, hi, rfl, r2, r1, hbw, HX⟩ := hrel
    by_cases hlt : i < m
    · obtain ⟨pl, hpl⟩ : ∃ pl, m - 1 - i = pl := ⟨_, rfl⟩
      obtain ⟨x, hx⟩ : ∃ x, d8 n i = x := ⟨_, rfl⟩
      obtain ⟨q, hq⟩ : ∃ q, i / 8 = q := ⟨_, rfl⟩
      obtain ⟨r, hr⟩ : ∃ r, i % 8 = r := ⟨_, rfl⟩
      have x256 : x < 256 := by rw [← hx]; exact d8_lt n i
      have n1 : IntKind.i64.wrap ((m : Int) - 1) = (m : Int) - 1 := wrap_i64_is _ (by omega) (by omega)
      have n2 : IntKind.i64.wrap ((m : Int) - 1 - (i : Int)) = (pl : Int) := by rw [wrap_i64_is _ (by omega) (by omega)]; omega
      have n2' : (m : Int) - 1 - (i : Int) = (pl : Int) := by omega
      have q1 : (i : Int) / 8 = (q : Int) := by omega
      have tm : (i : Int).tmod 8 = (r : Int) := by rw [Int.tmod_eq_emod_of_nonneg (by omega)]; omega
      have tm2 : (i : Int) % 8 = (r : Int) := by omega
      have w1' : IntKind.i64.wrap (q : Int) = (q : Int) := wrap_i64_is _ (by omega) (by omega)
      obtain ⟨k, hk⟩ : ∃ k, 8 * r = k := ⟨_, rfl⟩
      have w2' : IntKind.i64.wrap (k : Int) = (k : Int) := wrap_i64_is _ (by omega) (by omega)
      have w3 : (r : Int) * 8 = (k : Int) := by omega
      obtain ⟨z, hz'⟩ : ∃ z, wd n q = z := ⟨_, rfl⟩
      obtain ⟨y, hy⟩ : ∃ y, z / 2 ^ k = y := ⟨_, rfl⟩
      have hyx : y % 256 = x := by rw [← hy, ← hz', ← hq, ← hk, ← hr, ld8_wd, hx]
      have n4 := wrap_u8_is y x hyx
      have n5 : (z : Int) / 2 ^ k = (y : Int) := by rw [div_cast, hy]
      have q6 : q < 6 := by omega
      have plm : pl < m := by omega
      have c0 := row_cell r2 q q6
      rw [hz'] at c0
      have c1 := c8_cell r1 plm
      have f0 := fz (k := pl) r1
      have R2 : Box ((wr.setCell ⟨g, pl, none⟩ (.int .u8 (x : Int))).heap[g]? = some (.cells (c8 m (set8 Y pl x)) 5)) := box (by rw [setCell_row r1, c8_seti m Y pl x _ plm x256 rfl])
      have R3 : Box ((wr.setCell ⟨g, pl, none⟩ (.int .u8 (x : Int))).heap[w.heap.size]? = some (.cells (cw 6 n) 53)) := box ((setCell_other (w := wr) (by omega)).trans r2)
      have B2 : Box (Below w.heap.size w (wr.setCell ⟨g, pl, none⟩ (.int .u8 (x : Int)))) := box (hbw.setCell (by show w.heap.size ≤ g; omega) _)
      have NX : Box (∀ j, m - (i + 1) ≤ j → j < m → d8 (set8 Y pl x) j = d8 n (m - 1 - j)) := box (fun j h1 h2 => by
        rw [d8_set8 _ _ _ _ x256]
        by_cases e : j = pl
        · rw [if_pos e, ← hx]; congr 1; omega
        · rw [if_neg e]; exact HX.out j (by omega) h2)
      have k64 : k < 64 := by omega
      have dl : decide (i < m) = true := decide_eq_true hlt
      have dz : decide ((k : Int) < 0) = false := by rw [decide_eq_false_iff_not]; omega
      clear hpl hx hq hr hk hy hz' HX hyx
      go_wp2
      go_roundw
      case rel => exact ⟨i + 1, _, by omega, by go_num, R3.out, R2.out, B2.out, NX⟩
      case measure => simp [intOf] <;> omega
    · obtain rfl : i = m := by omega
      have hst := c8_strN (c := i) v r1 hvz (fun j hj => by
        rw [HX.out j (by omega) (by omega)]
        have e := HV.out
        subst e
        rw [nbA_get, HM.out])
      have dl : decide (i < i) = false := by rw [decide_eq_false_iff_not]; omega
      go_wp2
      go_ret
      exact ⟨rfl, hbw⟩
set_option maxRecDepth 100000 in
set_option maxHeartbeats 2000000 in
theorem kwideOf_is (n : Nat) (s : ByteArray) (hs : nbA n = s) (h : nl n ≤ 48) (w : World) : Calls Tryz.prog 55 #[.string s] w fun r w' => r = .returned (.agg (cw 6 n)) ∧ Below w.heap.size w w' := by
  have hat := cw_at 6
  have hz := cw6z
  have hff := cw6f
  have hs0 := st0
  have hcs : ∀ x, ((cw 6 x).size = 6) = True := fun x => eq_true (cw_size 6 x)
  have hs1 := st1
  obtain ⟨L, hL⟩ : ∃ L, nl n = L := ⟨_, rfl⟩
  have hsz : s.size = L := by rw [← hs, nbA_size, hL]
  have ln := nl_lt n
  rw [hL] at h ln
  have HS := box hs
  have HN := box ln
  have HL := box hL
  clear hs hL ln
  have R0 := trows2 w
  go_enter Tryz.func55, Tryz.ntmps55
  go_wp2
  go_loopw [7] (fun iv wr => ∃ i : Nat, i ≤ L ∧ iv = .int .i64 i ∧ RowsL w wr [0, n % 2 ^ (8 * i)]) (fun iv _ => L - (intOf iv).toNat)
  case atStart => exact ⟨0, by omega, rfl, by rw [Nat.mul_zero, Nat.pow_zero, Nat.mod_one]; exact R0⟩
  case round =>
    clear R0
    obtain ⟨i, hi, rfl, R⟩ := hrel
    by_cases hlt : i < L
    · obtain ⟨q, hq⟩ : ∃ q, q = i / 8 := ⟨_, rfl⟩
      obtain ⟨r, hr⟩ : ∃ r, r = 8 * (i % 8) := ⟨_, rfl⟩
      obtain ⟨x, hx⟩ : ∃ x, d8 n i = x := ⟨_, rfl⟩
      obtain ⟨k, hk⟩ : ∃ k, L - 1 - i = k := ⟨_, rfl⟩
      have x256 : x < 256 := by rw [← hx]; exact d8_lt n i
      have hk2 : k < s.size := by omega
      have hxd : (s[k]'hk2).toNat = x := by
        have e := HS.out
        subst e
        rw [nbA_get, HL.out, ← hk, show L - 1 - (L - 1 - i) = i by omega, hx]
      have hxr := idx_runN s k (k : Int) x rfl hk2 hxd
      have n1 : IntKind.i64.wrap ((L : Int) - 1) = (L : Int) - 1 := wrap_i64_is _ (by omega) (by omega)
      have n2 : IntKind.i64.wrap ((L : Int) - 1 - (i : Int)) = (k : Int) := by rw [wrap_i64_is _ (by omega) (by omega)]; omega
      have n2' : (L : Int) - 1 - (i : Int) = (k : Int) := by omega
      have q1 : (i : Int) / 8 = (q : Int) := by omega
      obtain ⟨r0, hr0⟩ : ∃ r0, i % 8 = r0 := ⟨_, rfl⟩
      have tm : (i : Int).tmod 8 = (r0 : Int) := by rw [Int.tmod_eq_emod_of_nonneg (by omega)]; omega
      have tm2 : (i : Int) % 8 = (r0 : Int) := by omega
      have w1 : IntKind.i64.wrap (q : Int) = (q : Int) := wrap_i64_is _ (by omega) (by omega)
      have w2 : IntKind.i64.wrap ((r0 : Int) * 8) = (r : Int) := by rw [wrap_i64_is _ (by omega) (by omega)]; omega
      have w2' : (r0 : Int) * 8 = (r : Int) := by omega
      have w4 : IntKind.i64.wrap (r : Int) = (r : Int) := wrap_i64_is _ (by omega) (by omega)
      have q6 : q < 6 := by omega
      have r64 : r < 64 := by omega
      have qi6 : (q : Int) < 6 := by omega
      have HST := box (toWide_step n i q r x hq hr hx)
      obtain ⟨y, hy⟩ : ∃ y, x * 2 ^ r = y := ⟨_, rfl⟩
      have y64 : y < 18446744073709551616 := by rw [← hy, hr]; exact byte_sh x (i % 8) x256 (by omega)
      have n4 : IntKind.u64.wrap (x : Int) = (x : Int) := by rw [IntKind.wrap_u64]; omega
      have n5 : IntKind.u64.wrap ((x : Int) * 2 ^ r) = (y : Int) := by
        rw [pow_cast, ← Int.natCast_mul, hy]
        exact wrap_nat y y64
      rw [hy] at HST
      obtain ⟨X, hX⟩ : ∃ X, n % 2 ^ (8 * i) = X := ⟨_, rfl⟩
      obtain ⟨Y, hY⟩ : ∃ Y, n % 2 ^ (8 * (i + 1)) = Y := ⟨_, rfl⟩
      rw [hX] at R
      rw [hX, hY] at HST
      have x3 := bor X q y y64
      have x4 := cw_or 6 X q y Y q6 y64 HST.out.symm
      have R2 : RowsL w (wr.setCell ⟨w.heap.size + 1, q, none⟩ (.int .u64 ((wd X q ||| y : Nat) : Int))) [0, Y] := rowsL_setCell R 1 X Y _ q _ rfl rfl x4 rfl
      have HY := box hY
      have c1 := row_cell (rows1 R) q q6
      have f0 := fz (k := q) (rows1 R)
      have dl : decide (i < L) = true := decide_eq_true hlt
      have dz : decide ((r : Int) < 0) = false := by rw [decide_eq_false_iff_not]; omega
      clear hr hx hq hy hX hY HST x4 hr0 hk hxd
      go_wp2
      go_region
      all_goals go_wp2
      all_goals go_roundw
      all_goals first | (show (_ : Nat) < _; simp [intOf]; omega) | exact ⟨i + 1, by omega, by go_num, by rw [HY.out]; exact rowsL_drew R2 1⟩
    · obtain rfl : i = L := by omega
      have dl : decide (i < i) = false := by rw [decide_eq_false_iff_not]; omega
      rw [Nat.mod_eq_of_lt HN.out] at R
      have hst := st_any wr w.heap.size n 0 (rows0 R)
      have c1 := row_cell (rows1 R)
      have R2 : RowsL w (wr.setRow w.heap.size (cw 6 n)) [n, n] := rowsL_set R 0 n _ (by simp) rfl rfl
      have c2 := row_cell (rows0 R2)
      go_wp2
      exact bodyPost_ret (v := .agg (cw 6 n)) (by simp [results, Tryz.results55, go_sem, c2, hff]) rfl ⟨rfl, R2.2⟩
end Go.Proofs.YtkmlbjlaahcahaaGreatDoor
namespace Go.Proofs.YtkmlbjlaahcahaaGreatDoor
set_option maxRecDepth 100000
open Go.RowKit WMath

theorem cell7t {w : World} {g : Nat} {T : TypeId} {a b : Value} (R : w.heap[g]? = some (.cells #[a, b] T)) : w.cell? ⟨g, 0, none⟩ = some a ∧ w.cell? ⟨g, 1, none⟩ = some b := ⟨cell7 R 0 _ rfl, cell7 R 1 _ rfl⟩
theorem kopn1 (w : World) (o : Obj) : (w.alloc o).heap[w.heap.size]? = some o ∧ Below w.heap.size w (w.alloc o) := ⟨heap_alloc_last _ _, (Below.refl _ _).alloc (Nat.le_refl _) _⟩
theorem kopn2 (w : World) (o1 o2 : Obj) : ((w.alloc o1).alloc o2).heap[w.heap.size]? = some o1 ∧ ((w.alloc o1).alloc o2).heap[w.heap.size + 1]? = some o2 ∧ Below w.heap.size w ((w.alloc o1).alloc o2) := by
  obtain ⟨r0, b⟩ := kopn1 w o1
  have z : (w.alloc o1).heap.size = w.heap.size + 1 := by simp only [size_al]
  exact ⟨by rw [heap_below _ _ _ (by omega)]; exact r0, by rw [← z]; exact heap_alloc_last _ _, b.alloc (by omega) _⟩
theorem k_from (x y pl : Nat) (v : Int) (hv : bits .or .u64 ((y : Int) / 2 ^ min pl 64) ((x : Int) / 2 ^ min (IntKind.u64.wrap ((pl : Int) - 64)).toNat 64) = v) (w : World) :
    Calls Tryz.prog 183 #[.agg #[.int .u64 (x : Nat), .int .u64 (y : Nat)], .int .u64 (pl : Nat)] w fun e w' => e = .returned (.int .u64 v) ∧ Below w.heap.size w w' := by
  subst hv
  go_enter Tryz.func183, Tryz.ntmps183
  go_wp2
  go_ret
  exact ⟨rfl, bal7 _ _⟩

theorem k_placed (x pl : Nat) (H L : Int) (hH : IntKind.u64.wrap ((x : Int) * 2 ^ min (IntKind.u64.wrap ((pl : Int) - 64)).toNat 64) = H) (hL : IntKind.u64.wrap ((x : Int) * 2 ^ min pl 64) = L) (w : World) :
    Calls Tryz.prog 120 #[.int .u64 (x : Nat), .int .u64 (pl : Nat)] w fun e w' => e = .returned (.agg #[.int .u64 H, .int .u64 L]) ∧ Below w.heap.size w w' := by
  subst hH hL
  go_enter Tryz.func120, Tryz.ntmps120
  go_wp2
  exact bodyPost_ret (v := .agg #[.int .u64 _, .int .u64 _]) (by simp [results, Tryz.results120, go_sem]; exact ⟨rfl, rfl⟩) rfl ⟨by simp, bal7 _ _⟩

theorem k_plus (a b c d H L K : Int) (hH : IntKind.u64.wrap (a + c) = H) (hL : IntKind.u64.wrap (b + d) = L) (hK : (if L < b then IntKind.u64.wrap (H + 1) else H) = K) (w : World) :
    Calls Tryz.prog 80 #[.agg #[.int .u64 a, .int .u64 b], .agg #[.int .u64 c, .int .u64 d]] w fun e w' => e = .returned (.agg #[.int .u64 K, .int .u64 L]) ∧ Below w.heap.size w w' := by
  by_cases h : L < b
  · rw [if_pos h] at hK
    have hd : decide (L < b) = true := decide_eq_true h
    go_enter Tryz.func80, Tryz.ntmps80
    go_wp2
    exact bodyPost_ret (v := .agg #[.int .u64 K, .int .u64 L]) (by simp [results, Tryz.results80, go_sem]) rfl ⟨rfl, btr7 (bal7 _ _) (btr7 (bal7 _ _) (btr7 (bal7 _ _) (bal7 _ _)))⟩
  · rw [if_neg h] at hK
    subst hK
    have hd : decide (L < b) = false := decide_eq_false h
    go_enter Tryz.func80, Tryz.ntmps80
    go_wp2
    exact bodyPost_ret (v := .agg #[.int .u64 H, .int .u64 L]) (by simp [results, Tryz.results80, go_sem]) rfl ⟨rfl, btr7 (bal7 _ _) (btr7 (bal7 _ _) (btr7 (bal7 _ _) (bal7 _ _)))⟩
theorem kb_width (f v : Int) (h0 : 0 ≤ f) (h1 : f ≤ 255) (hv : fW f = v) (w : World) (hT : FAt w) :
    Calls Tryz.prog 98 #[.int .u8 f] w fun e w' => e = .returned (.int .i64 v) ∧ Below w.heap.size w w' :=
  (s_width f v h0 h1 hv w hT).mono fun _ _ h => ⟨h.1, by rw [h.2]; exact bal7 _ _⟩
theorem kb_precision (f v : Int) (h0 : 0 ≤ f) (h1 : f ≤ 255) (hv : fP f = v) (w : World) (hT : FAt w) :
    Calls Tryz.prog 51 #[.int .u8 f] w fun e w' => e = .returned (.int .i64 v) ∧ Below w.heap.size w w' :=
  (s_precision f v h0 h1 hv w hT).mono fun _ _ h => ⟨h.1, by rw [h.2]; exact bal7 _ _⟩
theorem kb_emax (f v : Int) (h0 : 0 ≤ f) (h1 : f ≤ 255) (hv : fE f = v) (w : World) (hT : FAt w) :
    Calls Tryz.prog 49 #[.int .u8 f] w fun e w' => e = .returned (.int .i64 v) ∧ Below w.heap.size w w' :=
  (s_emax f v h0 h1 hv w hT).mono fun _ _ h => ⟨h.1, by rw [h.2]; exact bal7 _ _⟩
end Go.Proofs.YtkmlbjlaahcahaaGreatDoor
namespace Go.Proofs.YtkmlbjlaahcahaaGreatDoor
set_option maxRecDepth 100000
open Go.RowKit WMath
set_option linter.unusedSimpArgs false
set_option linter.unusedVariables false

def frm (n pl : Nat) : Nat := if pl < 64 then n % 18446744073709551616 / 2 ^ pl else n / 2 ^ pl
theorem or0 (a : Nat) (h : a < 18446744073709551616) : bits .or .u64 (a : Int) 0 = (a : Int) := by
  have := bits_or_u64_nat a 0 h (by decide)
  simpa using this
theorem or1 (a : Nat) (h : a < 18446744073709551616) : bits .or .u64 0 (a : Int) = (a : Int) := by
  have := bits_or_u64_nat 0 a (by decide) h
  simpa using this
theorem pow64 (k : Nat) : ((2 : Int) ^ k) = ((2 ^ k : Nat) : Int) := by norm_cast
theorem from_is (x y n pl : Nat) (hx : x < 18446744073709551616) (hy : y < 18446744073709551616) (hn : y + 18446744073709551616 * x = n) (hp : pl < 128) :
    bits .or .u64 ((y : Int) / 2 ^ min pl 64) ((x : Int) / 2 ^ min (IntKind.u64.wrap ((pl : Int) - 64)).toNat 64) = (frm n pl : Int) := by
  unfold frm
  rw [IntKind.wrap_u64]
  by_cases h : pl < 64
  · have e1 : min (((pl : Int) - 64) % 18446744073709551616).toNat 64 = 64 := by omega
    have e2 : min pl 64 = pl := by omega
    have e3 : ((x : Int) / 2 ^ 64) = 0 := by
      rw [show ((2 : Int) ^ 64) = 18446744073709551616 by decide]; omega
    have e4 : n % 18446744073709551616 = y := by omega
    rw [e1, e2, e3, if_pos h, e4, pow64, ← Int.natCast_ediv]
    exact or0 _ (Nat.lt_of_le_of_lt (Nat.div_le_self _ _) hy)
  · have e1 : min (((pl : Int) - 64) % 18446744073709551616).toNat 64 = pl - 64 := by omega
    have e2 : min pl 64 = 64 := by omega
    have e3 : ((y : Int) / 2 ^ 64) = 0 := by
      rw [show ((2 : Int) ^ 64) = 18446744073709551616 by decide]; omega
    have e4 : n / 2 ^ pl = x / 2 ^ (pl - 64) := by
      rw [show (2 : Nat) ^ pl = 18446744073709551616 * 2 ^ (pl - 64) by rw [show (18446744073709551616 : Nat) = 2 ^ 64 by decide, ← Nat.pow_add]; congr 1; omega, ← Nat.div_div_eq_div_mul]
      congr 1; omega
    rw [e1, e2, e3, if_neg h, e4, pow64, ← Int.natCast_ediv]
    exact or1 _ (Nat.lt_of_le_of_lt (Nat.div_le_self _ _) hx)
theorem kfrom_is (x y n pl v : Nat) (hx : x < 18446744073709551616) (hy : y < 18446744073709551616) (hn : y + 18446744073709551616 * x = n) (hp : pl < 128) (hv : frm n pl = v) (w : World) : Calls Tryz.prog 183 #[.agg #[.int .u64 (x : Nat), .int .u64 (y : Nat)], .int .u64 (pl : Nat)] w fun r w' => r = .returned (.int .u64 (v : Nat)) ∧ Below w.heap.size w w' := by
  subst hv
  exact k_from x y pl _ (from_is x y n pl hx hy hn hp) w

theorem and_one (a : Nat) (h : a < 18446744073709551616) : bits .and .u64 (a : Int) 1 = ((a % 2 : Nat) : Int) := and_mask a 1 h (by decide)
theorem frm_lt (n pl : Nat) (hn : n < 340282366920938463463374607431768211456) : frm n pl < 18446744073709551616 := by
  unfold frm
  split
  · exact Nat.lt_of_le_of_lt (Nat.div_le_self _ _) (Nat.mod_lt _ (by decide))
  · rename_i h
    have : (2 : Nat) ^ 64 ≤ 2 ^ pl := Nat.pow_le_pow_right (by decide) (by omega)
    rw [Nat.div_lt_iff_lt_mul (Nat.two_pow_pos _)]
    rw [show (2 : Nat) ^ 64 = 18446744073709551616 by decide] at this
    have h2 := Nat.mul_le_mul_left 18446744073709551616 this
    omega
theorem kbit_is (x y n pl : Nat) (o : Bool) (hx : x < 18446744073709551616) (hy : y < 18446744073709551616) (hn : y + 18446744073709551616 * x = n) (hp : pl < 128) (ho : decide (frm n pl % 2 = 1) = o) (w : World) : Calls Tryz.prog 97 #[.agg #[.int .u64 (x : Nat), .int .u64 (y : Nat)], .int .u64 (pl : Nat)] w fun r w' => r = .returned (.bool o) ∧ Below w.heap.size w w' := by
  obtain ⟨v, hv⟩ : ∃ v, frm n pl = v := ⟨_, rfl⟩
  rw [hv] at ho
  have KF := box (kfrom_is x y n pl v hx hy hn hp hv)
  have vl := frm_lt n pl (by omega)
  rw [hv] at vl
  have ha := and_one v vl
  have hd : (((v % 2 : Nat) : Int) == 1) = o := by rw [← ho]; by_cases h : v % 2 = 1 <;> simp [h] <;> omega
  obtain ⟨u, hu⟩ : ∃ u, v % 2 = u := ⟨_, rfl⟩
  rw [hu] at ha hd
  clear ho hv hn hx hy hp hu vl
  obtain ⟨Rb_0, B0⟩ := kopn1 w (Obj.cells #[.int .u64 (x : Nat), .int .u64 (y : Nat)] 25)
  go_enter Tryz.func97, Tryz.ntmps97
  go_wp2_with fail
  refine (KF.out _).mono ?_
  rintro r w1 ⟨rfl, b1⟩
  have B1 : Below w.heap.size w w1 := btr7 B0 b1
  have Rb_1 := heap_of b1 _ _ _ Rb_0
  clear b1 B0 Rb_0
  obtain ⟨cb_1_0, cb_1_1⟩ := cell7t Rb_1
  go_wp2
  go_ret
  exact ⟨rfl, B1⟩

theorem pV_lim {f : Int} (h : Is4 f) : fP f - 1 = (pV f : Int) ∧ IntKind.i64.wrap (fP f - 1) = (pV f : Int) ∧ IntKind.u64.wrap ((pV f : Nat) : Int) = (pV f : Int) ∧ pV f < 128 ∧ wV f < 128 ∧ fW f - 1 = (wV f : Int) ∧ IntKind.i64.wrap (fW f - 1) = (wV f : Int) ∧ IntKind.u64.wrap ((wV f : Nat) : Int) = (wV f : Int) := by
  rcases h with rfl | rfl | rfl | rfl <;> decide +kernel

theorem kfw (f : Int) (hf : Is4 f) (p : Nat) (hp : pV f = p) (w : World) (hT : FAt w) : Calls Tryz.prog 122 #[.int .u8 f] w fun r w' => r = .returned (.int .u64 (p : Nat)) ∧ Below w.heap.size w w' := by
  subst hp
  have f4 := is4_ok hf
  obtain ⟨_, a2, a3, _⟩ := pV_lim hf
  obtain ⟨P, hP⟩ : ∃ P, fP f = P := ⟨_, rfl⟩
  rw [hP] at a2
  obtain ⟨p, hp⟩ : ∃ p, pV f = p := ⟨_, rfl⟩
  rw [hp] at a2 a3 ⊢
  have TT := box hT
  have HP := box hP
  clear hT hf hp hP
  have B0 : Below w.heap.size w w := (Below.refl _ _)
  go_enter Tryz.func122, Tryz.ntmps122
  go_wp2_with fail
  refine ((kb_precision f P f4.1 f4.2.1 HP.out _ (fatB TT.out B0))).mono ?_
  rintro r w1 ⟨rfl, b1⟩
  have B1 : Below w.heap.size w w1 := btr7 B0 b1
  clear b1 B0 
  go_wp2
  go_ret
  exact ⟨rfl, B1⟩

/-- The exponent field and the fraction, as the words have them. -/
theorem field_of {f : Int} (h : Is4 f) (n : Nat) : frm n (pV f) % (oV f + 1) = kE f n := by
  unfold frm kE
  rcases h with rfl | rfl | rfl | rfl
  all_goals
    simp only [show pV 0 = 23 by decide, show wV 0 = 31 by decide, show oV 0 = 255 by decide, show pV 1 = 52 by decide, show wV 1 = 63 by decide, show oV 1 = 2047 by decide, show pV 2 = 10 by decide, show wV 2 = 15 by decide, show oV 2 = 31 by decide, show pV 3 = 112 by decide, show wV 3 = 127 by decide, show oV 3 = 32767 by decide]
    simp only [Nat.reducePow, Nat.reduceAdd, Nat.reduceLT, if_true, if_false]
    try omega
theorem sign_of {f : Int} (h : Is4 f) (n : Nat) : decide (frm n (wV f) % 2 = 1) = kN f n := by
  unfold frm kN
  rcases h with rfl | rfl | rfl | rfl
  all_goals
    simp only [show wV 0 = 31 by decide, show wV 1 = 63 by decide, show wV 2 = 15 by decide, show wV 3 = 127 by decide]
    simp only [Nat.reducePow, Nat.reduceAdd, Nat.reduceLT, if_true, if_false, decide_eq_decide]
    try omega
theorem quiet_of {f : Int} (h : Is4 f) (t : Nat) (ht : t < 2 ^ pV f) : decide (frm t (pV f - 1) % 2 = 1) = decide (2 ^ (pV f - 1) ≤ t) := by
  unfold frm
  rcases h with rfl | rfl | rfl | rfl
  all_goals
    simp only [show pV 0 = 23 by decide, show pV 1 = 52 by decide, show pV 2 = 10 by decide, show pV 3 = 112 by decide] at ht ⊢
    simp only [Nat.reducePow, Nat.reduceAdd, Nat.reduceSub, Nat.reduceLT, if_true, if_false, decide_eq_decide] at ht ⊢
    omega
theorem top_mask {f : Int} (h : Is4 f) : IntKind.i64.wrap (fW f - fP f) = fW f - fP f ∧ 0 ≤ fW f - fP f ∧ IntKind.u64.wrap (IntKind.u64.wrap (2 ^ min (fW f - fP f).toNat 64) - 1) = (oV f : Int) ∧ oV f = 2 ^ (fW f - fP f).toNat - 1 ∧ (fW f - fP f).toNat ≤ 64 := by
  rcases h with rfl | rfl | rfl | rfl <;> decide +kernel
set_option maxHeartbeats 1000000 in
theorem kfield_is (f : Int) (hf : Is4 f) (x y n e : Nat) (hx : x < 18446744073709551616) (hy : y < 18446744073709551616) (hn : y + 18446744073709551616 * x = n) (he : kE f n = e) (w : World) (hT : FAt w) : Calls Tryz.prog 154 #[.int .u8 f, .agg #[.int .u64 (x : Nat), .int .u64 (y : Nat)]] w fun r w' => r = .returned (.int .u64 (e : Nat)) ∧ Below w.heap.size w w' := by
  have f4 := is4_ok hf
  obtain ⟨_, _, _, a4, _⟩ := pV_lim hf
  obtain ⟨t1, t2, t3, t4, t5⟩ := top_mask hf
  obtain ⟨v, hv⟩ : ∃ v, frm n (pV f) = v := ⟨_, rfl⟩
  have KF := box (kfrom_is x y n (pV f) v hx hy hn a4 hv)
  have vl := frm_lt n (pV f) (by omega)
  rw [hv] at vl
  have ha : bits .and .u64 (v : Int) (oV f : Int) = (e : Int) := by
    have := and_mask v (fW f - fP f).toNat vl t5
    rw [← t4] at this
    rw [this, ← he, ← field_of hf, hv, t4]
    have := Nat.two_pow_pos (fW f - fP f).toNat
    rw [Nat.sub_add_cancel this]
  obtain ⟨q, hq⟩ : ∃ q, fW f = q := ⟨_, rfl⟩
  obtain ⟨p, hp⟩ : ∃ q, fP f = q := ⟨_, rfl⟩
  obtain ⟨k, hk⟩ : ∃ q, pV f = q := ⟨_, rfl⟩
  obtain ⟨o, ho⟩ : ∃ q, oV f = q := ⟨_, rfl⟩
  rw [hq, hp] at t1 t2 t3
  rw [ho] at t3 ha
  rw [hk] at KF
  obtain ⟨d, hd⟩ : ∃ d, q - p = d := ⟨_, rfl⟩
  rw [hd] at t2 t3
  have t1' : IntKind.i64.wrap (q - p) = d := t1.trans hd
  obtain ⟨m, rfl⟩ := Int.eq_ofNat_of_zero_le t2
  rw [Int.toNat_natCast] at t3
  have TT := box hT
  have HQ := box hq
  have HP := box hp
  have HK := box hk
  have HF := box hf
  clear hT hf hq hp hk ho hv hn hx hy he vl t1 t2 t4 t5 a4 hd
  obtain ⟨Rb_0, B0⟩ := kopn1 w (Obj.cells #[.int .u64 (x : Nat), .int .u64 (y : Nat)] 25)
  go_enter Tryz.func154, Tryz.ntmps154
  go_wp2_with fail
  refine (kb_width f q f4.1 f4.2.1 HQ.out _ (fatB TT.out B0)).mono ?_
  rintro r w1 ⟨rfl, b1⟩
  have B1 : Below w.heap.size w w1 := btr7 B0 b1
  have Rb_1 := heap_of b1 _ _ _ Rb_0
  clear b1 B0 Rb_0
  obtain ⟨cb_1_0, cb_1_1⟩ := cell7t Rb_1
  go_wp2_with fail
  refine (kb_precision f p f4.1 f4.2.1 HP.out _ (fatB TT.out B1)).mono ?_
  rintro r w2 ⟨rfl, b2⟩
  have B2 : Below w.heap.size w w2 := btr7 B1 b2
  have Rb_2 := heap_of b2 _ _ _ Rb_1
  clear b2 B1 Rb_1 cb_1_0 cb_1_1
  obtain ⟨cb_2_0, cb_2_1⟩ := cell7t Rb_2
  go_wp2_with fail
  obtain ⟨F, hF1, hF2⟩ := below_fun w2
  have fb_0 := fun u => cell7 (heap_of (hF1 u) _ _ _ Rb_2) 0 _ rfl
  have fb_1 := fun u => cell7 (heap_of (hF1 u) _ _ _ Rb_2) 1 _ rfl
  have TF : Box (∀ u, FAt (F u)) := box (fun u => fatB TT.out (btr7 B2 (hF1 u)))
  refine wp_region_below F hF2 (by kernel_rfl) (by kernel_rfl) ?_
  repeat first | go_big_quiet_step (first | (go_at_call 122; exact quietF hF1 hF2 (kfw f HF.out k HK.out _ (TF.out _))) | (go_at_call 183; exact quietF hF1 hF2 (KF.out _)) | fail) | quiet_step (first | (go_at_call 122; exact quietF hF1 hF2 (kfw f HF.out k HK.out _ (TF.out _))) | (go_at_call 183; exact quietF hF1 hF2 (KF.out _)) | fail)
  refine wpQuiet_nil ?_
  rintro _ ⟨uW, rfl⟩
  have B3 := btr7 B2 (hF1 uW)
  have Rb_3 := heap_of (hF1 uW) _ _ _ Rb_2
  obtain ⟨w3, hw⟩ : ∃ V, F uW = V := ⟨_, rfl⟩
  rw [hw] at B3 Rb_3
  try rw [hw]
  clear hw hF1 hF2 B2 fb_0 fb_1 Rb_2 cb_2_0 cb_2_1
  clear TF
  clear F
  obtain ⟨cb_3_0, cb_3_1⟩ := cell7t Rb_3
  go_wp2
  go_ret
  exact ⟨rfl, B3⟩
end Go.Proofs.YtkmlbjlaahcahaaGreatDoor
namespace Go.Proofs.YtkmlbjlaahcahaaGreatDoor
set_option maxRecDepth 100000
open Go.RowKit WMath
set_option linter.unusedSimpArgs false
set_option linter.unusedVariables false

theorem and_zero (a : Nat) (h : a < 18446744073709551616) : bits .and .u64 (a : Int) 0 = 0 := by
  have := and_mask a 0 h (by decide)
  simpa [Nat.mod_one] using this
theorem and_at (a k : Nat) (m : Int) (v : Nat) (h : a < 18446744073709551616) (hk : k ≤ 64) (hm : ((2 ^ k - 1 : Nat) : Int) = m) (hv : a % 2 ^ k = v) : bits .and .u64 (a : Int) m = (v : Int) := by
  subst hm hv
  exact and_mask a k h hk
set_option maxHeartbeats 1000000 in
theorem kfraction_is (f : Int) (hf : Is4 f) (x y n u v : Nat) (hx : x < 18446744073709551616) (hy : y < 18446744073709551616) (hn : y + 18446744073709551616 * x = n) (hv : bv7 (kT f n) = (u, v)) (w : World) (hT : FAt w) : Calls Tryz.prog 150 #[.int .u8 f, .agg #[.int .u64 (x : Nat), .int .u64 (y : Nat)]] w fun r w' => r = .returned (.agg #[.int .u64 (u : Nat), .int .u64 (v : Nat)]) ∧ Below w.heap.size w w' := by
  unfold bv7 kT at hv
  injection hv with h1 h2
  have TT := box hT
  rcases hf with rfl | rfl | rfl | rfl
  · rw [show pV 0 = 23 by decide] at h1 h2
    have hm : max (23 : Int) 64 = 64 := by decide
    have a1 := and_zero x hx
    have a2 := and_at y 23 8388607 v hy (by decide) (by decide) (by rw [← h2, ← hn]; simp only [Nat.reducePow]; omega)
    have u0 : u = 0 := by rw [← h1]; simp only [Nat.reducePow]; omega
    subst u0
    clear hT h1 h2 hn hx hy
    obtain ⟨Rb_0, Rz_0, B0⟩ := kopn2 w (Obj.cells #[.int .u64 (x : Nat), .int .u64 (y : Nat)] 25) (Obj.cells #[.int .u64 0, .int .u64 0] 25)
    go_enter Tryz.func150, Tryz.ntmps150
    go_wp2_with fail
    refine (kfw 0 (Or.inl rfl) 23 (by decide) _ (fatB TT.out B0)).mono ?_
    rintro r w1 ⟨rfl, b1⟩
    have B1 : Below w.heap.size w w1 := btr7 B0 b1
    have Rb_1 := heap_of b1 _ _ _ Rb_0
    have Rz_1 := heap_of b1 _ _ _ Rz_0
    clear b1 B0 Rb_0 Rz_0
    obtain ⟨cb_1_0, cb_1_1⟩ := cell7t Rb_1
    obtain ⟨cz_1_0, cz_1_1⟩ := cell7t Rz_1
    have q0 := fz (k := 0) Rz_1
    have q1 := fz (k := 1) Rz_1
    obtain ⟨E0, E1⟩ := set2_cells Rz_1 (.int .u64 0) (.int .u64 (v : Nat))
    go_wp2
    exact bodyPost_ret (v := .agg #[.int .u64 0, .int .u64 (v : Nat)]) (by simp [results, Tryz.results150, go_sem, E0, E1]) rfl ⟨rfl, set2_below B1 (by first | exact Nat.le_refl _ | omega | (skip; omega)) _ _⟩
  · rw [show pV 1 = 52 by decide] at h1 h2
    have hm : max (52 : Int) 64 = 64 := by decide
    have a1 := and_zero x hx
    have a2 := and_at y 52 4503599627370495 v hy (by decide) (by decide) (by rw [← h2, ← hn]; simp only [Nat.reducePow]; omega)
    have u0 : u = 0 := by rw [← h1]; simp only [Nat.reducePow]; omega
    subst u0
    clear hT h1 h2 hn hx hy
    obtain ⟨Rb_0, Rz_0, B0⟩ := kopn2 w (Obj.cells #[.int .u64 (x : Nat), .int .u64 (y : Nat)] 25) (Obj.cells #[.int .u64 0, .int .u64 0] 25)
    go_enter Tryz.func150, Tryz.ntmps150
    go_wp2_with fail
    refine (kfw 1 (Or.inr (Or.inl rfl)) 52 (by decide) _ (fatB TT.out B0)).mono ?_
    rintro r w1 ⟨rfl, b1⟩
    have B1 : Below w.heap.size w w1 := btr7 B0 b1
    have Rb_1 := heap_of b1 _ _ _ Rb_0
    have Rz_1 := heap_of b1 _ _ _ Rz_0
    clear b1 B0 Rb_0 Rz_0
    obtain ⟨cb_1_0, cb_1_1⟩ := cell7t Rb_1
    obtain ⟨cz_1_0, cz_1_1⟩ := cell7t Rz_1
    have q0 := fz (k := 0) Rz_1
    have q1 := fz (k := 1) Rz_1
    obtain ⟨E0, E1⟩ := set2_cells Rz_1 (.int .u64 0) (.int .u64 (v : Nat))
    go_wp2
    exact bodyPost_ret (v := .agg #[.int .u64 0, .int .u64 (v : Nat)]) (by simp [results, Tryz.results150, go_sem, E0, E1]) rfl ⟨rfl, set2_below B1 (by first | exact Nat.le_refl _ | omega | (skip; omega)) _ _⟩
  · rw [show pV 2 = 10 by decide] at h1 h2
    have hm : max (10 : Int) 64 = 64 := by decide
    have a1 := and_zero x hx
    have a2 := and_at y 10 1023 v hy (by decide) (by decide) (by rw [← h2, ← hn]; simp only [Nat.reducePow]; omega)
    have u0 : u = 0 := by rw [← h1]; simp only [Nat.reducePow]; omega
    subst u0
    clear hT h1 h2 hn hx hy
    obtain ⟨Rb_0, Rz_0, B0⟩ := kopn2 w (Obj.cells #[.int .u64 (x : Nat), .int .u64 (y : Nat)] 25) (Obj.cells #[.int .u64 0, .int .u64 0] 25)
    go_enter Tryz.func150, Tryz.ntmps150
    go_wp2_with fail
    refine (kfw 2 (Or.inr (Or.inr (Or.inl rfl))) 10 (by decide) _ (fatB TT.out B0)).mono ?_
    rintro r w1 ⟨rfl, b1⟩
    have B1 : Below w.heap.size w w1 := btr7 B0 b1
    have Rb_1 := heap_of b1 _ _ _ Rb_0
    have Rz_1 := heap_of b1 _ _ _ Rz_0
    clear b1 B0 Rb_0 Rz_0
    obtain ⟨cb_1_0, cb_1_1⟩ := cell7t Rb_1
    obtain ⟨cz_1_0, cz_1_1⟩ := cell7t Rz_1
    have q0 := fz (k := 0) Rz_1
    have q1 := fz (k := 1) Rz_1
    obtain ⟨E0, E1⟩ := set2_cells Rz_1 (.int .u64 0) (.int .u64 (v : Nat))
    go_wp2
    exact bodyPost_ret (v := .agg #[.int .u64 0, .int .u64 (v : Nat)]) (by simp [results, Tryz.results150, go_sem, E0, E1]) rfl ⟨rfl, set2_below B1 (by first | exact Nat.le_refl _ | omega | (skip; omega)) _ _⟩
  · rw [show pV 3 = 112 by decide] at h1 h2
    have hm : max (112 : Int) 64 = 112 := by decide
    have hm2 : IntKind.u64.wrap (IntKind.u64.wrap 18446744073709551616 - 1) = 18446744073709551615 := by decide
    have a1 := and_at x 48 281474976710655 u hx (by decide) (by decide) (by rw [← h1, ← hn]; simp only [Nat.reducePow]; omega)
    have a2 := and_at y 64 18446744073709551615 v hy (by decide) (by decide) (by rw [← h2, ← hn]; simp only [Nat.reducePow]; omega)
    clear hT h1 h2 hn hx hy
    obtain ⟨Rb_0, Rz_0, B0⟩ := kopn2 w (Obj.cells #[.int .u64 (x : Nat), .int .u64 (y : Nat)] 25) (Obj.cells #[.int .u64 0, .int .u64 0] 25)
    go_enter Tryz.func150, Tryz.ntmps150
    go_wp2_with fail
    refine (kfw 3 (Or.inr (Or.inr (Or.inr rfl))) 112 (by decide) _ (fatB TT.out B0)).mono ?_
    rintro r w1 ⟨rfl, b1⟩
    have B1 : Below w.heap.size w w1 := btr7 B0 b1
    have Rb_1 := heap_of b1 _ _ _ Rb_0
    have Rz_1 := heap_of b1 _ _ _ Rz_0
    clear b1 B0 Rb_0 Rz_0
    obtain ⟨cb_1_0, cb_1_1⟩ := cell7t Rb_1
    obtain ⟨cz_1_0, cz_1_1⟩ := cell7t Rz_1
    have q0 := fz (k := 0) Rz_1
    have q1 := fz (k := 1) Rz_1
    obtain ⟨E0, E1⟩ := set2_cells Rz_1 (.int .u64 (u : Nat)) (.int .u64 (v : Nat))
    go_wp2
    exact bodyPost_ret (v := .agg #[.int .u64 (u : Nat), .int .u64 (v : Nat)]) (by simp [results, Tryz.results150, go_sem, E0, E1]) rfl ⟨rfl, set2_below B1 (by first | exact Nat.le_refl _ | omega | (skip; omega)) _ _⟩

theorem ksign_is (f : Int) (hf : Is4 f) (x y n : Nat) (o : Bool) (hx : x < 18446744073709551616) (hy : y < 18446744073709551616) (hn : y + 18446744073709551616 * x = n) (ho : kN f n = o) (w : World) (hT : FAt w) : Calls Tryz.prog 37 #[.int .u8 f, .agg #[.int .u64 (x : Nat), .int .u64 (y : Nat)]] w fun r w' => r = .returned (.bool o) ∧ Below w.heap.size w w' := by
  have f4 := is4_ok hf
  obtain ⟨_, _, _, _, a5, a6, a7, a8⟩ := pV_lim hf
  have KB := box (kbit_is x y n (wV f) o hx hy hn a5 (by rw [sign_of hf, ho]))
  obtain ⟨q, hq⟩ : ∃ q, fW f = q := ⟨_, rfl⟩
  obtain ⟨k, hk⟩ : ∃ q, wV f = q := ⟨_, rfl⟩
  rw [hq, hk] at a7
  rw [hk] at KB a8
  have TT := box hT
  have HQ := box hq
  clear hT hf hq hk hn hx hy ho a5 a6
  obtain ⟨Rb_0, B0⟩ := kopn1 w (Obj.cells #[.int .u64 (x : Nat), .int .u64 (y : Nat)] 25)
  go_enter Tryz.func37, Tryz.ntmps37
  go_wp2_with fail
  obtain ⟨F, hF1, hF2⟩ := below_fun (w.alloc (Obj.cells #[.int .u64 (x : Nat), .int .u64 (y : Nat)] 25))
  have fb_0 := fun u => cell7 (heap_of (hF1 u) _ _ _ Rb_0) 0 _ rfl
  have fb_1 := fun u => cell7 (heap_of (hF1 u) _ _ _ Rb_0) 1 _ rfl
  have TF : Box (∀ u, FAt (F u)) := box (fun u => fatB TT.out (btr7 B0 (hF1 u)))
  refine wp_region_below F hF2 (by kernel_rfl) (by kernel_rfl) ?_
  repeat first | go_big_quiet_step (first | (go_at_call 98; exact quietF hF1 hF2 (kb_width f q f4.1 f4.2.1 HQ.out _ (TF.out _))) | (go_at_call 97; exact quietF hF1 hF2 (KB.out _)) | fail) | quiet_step (first | (go_at_call 98; exact quietF hF1 hF2 (kb_width f q f4.1 f4.2.1 HQ.out _ (TF.out _))) | (go_at_call 97; exact quietF hF1 hF2 (KB.out _)) | fail)
  refine wpQuiet_nil ?_
  rintro _ ⟨uW, rfl⟩
  have B1 := btr7 B0 (hF1 uW)
  have Rb_1 := heap_of (hF1 uW) _ _ _ Rb_0
  obtain ⟨w1, hw⟩ : ∃ V, F uW = V := ⟨_, rfl⟩
  rw [hw] at B1 Rb_1
  try rw [hw]
  clear hw hF1 hF2 B0 fb_0 fb_1 Rb_0
  clear TF
  clear F
  obtain ⟨cb_1_0, cb_1_1⟩ := cell7t Rb_1
  go_wp2
  go_ret
  exact ⟨rfl, B1⟩

theorem lx_lim {f : Int} (h : Is4 f) : IntKind.i64.wrap (1 - fE f - fP f) = 1 - fE f - fP f ∧ IntKind.i64.wrap (1 - fE f - fP f + 1) = lx f ∧ lx f ≤ 0 ∧ -16494 ≤ lx f ∧ lx f = 1 - fE f - fP f + 1 := by
  rcases h with rfl | rfl | rfl | rfl <;> decide +kernel
theorem kleast_is (f : Int) (hf : Is4 f) (v : Int) (hv : lx f = v) (w : World) (hT : FAt w) : Calls Tryz.prog 121 #[.int .u8 f] w fun r w' => r = .returned (.int .i64 v) ∧ Below w.heap.size w w' := by
  have f4 := is4_ok hf
  obtain ⟨a1, a2, _⟩ := lx_lim hf
  rw [hv] at a2
  obtain ⟨p, hp⟩ : ∃ q, fP f = q := ⟨_, rfl⟩
  obtain ⟨m, hm⟩ : ∃ q, 1 - fE f = q := ⟨_, rfl⟩
  rw [hm, hp] at a1 a2
  have TT := box hT
  have HP := box hp
  have HM := box hm
  clear hT hf hv hp hm
  have B0 : Below w.heap.size w w := (Below.refl _ _)
  go_enter Tryz.func121, Tryz.ntmps121
  go_wp2_with fail
  refine (s_emin f _ m f4.1 f4.2.1 rfl (by rw [if_pos f4.2.2.1]; exact HM.out) _ (fatB TT.out B0)).mono ?_
  rintro r w1 ⟨rfl, b1⟩
  have B1 : Below w.heap.size w w1 := btr7 B0 b1
  clear b1 B0 
  go_wp2_with fail
  refine (kb_precision f p f4.1 f4.2.1 HP.out _ (fatB TT.out B1)).mono ?_
  rintro r w2 ⟨rfl, b2⟩
  have B2 : Below w.heap.size w w2 := btr7 B1 b2
  clear b2 B1 
  go_wp2
  go_ret
  exact ⟨rfl, B2⟩
end Go.Proofs.YtkmlbjlaahcahaaGreatDoor
