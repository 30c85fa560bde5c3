/-
  What the functions that the statement reaches return: part 5 (List8, List10, List11, Door1, Door2, Dmath, List12, List13, List14, List15).
-/
import Derived.Test.YtkblmpmkchkpjaaGreatDoorNe04
namespace Go.Proofs.YtkblmpmkchkpjaaGreatDoor
set_option maxRecDepth 100000
set_option maxHeartbeats 40000000
open Go.RowKit WMath
theorem y7 (n l : Nat) (s : ByteArray) (hs : yG n = s) (h : nl n ≤ 16384) (hl : z7 n = l) (w : World) :
  Calls Tryz.prog 202 #[.string s] w fun r w' => r = .returned (.int .i64 (l : Nat)) ∧ Below w.heap.size w w' := by
 obtain ⟨L, hL⟩ : ∃ L, nl n = L := ⟨_, rfl⟩
 have hz : s.size = L := by rw [← hs, yE, hL]
 have HM : zS (qB s = true) := zH (by rw [← hs]; exact qR n h)
 have d2 := xX s
 rw [hL] at h
 by_cases h0 : n = 0
 ·
  have e : l = 0 := by rw [← hl, h0]; rfl
  have e2 : L = 0 := by rw [← hL, h0]; exact nl_zero
  subst e
  rw [decide_eq_true (by omega)] at d2
  clear hs hl hL h0
  go_enter Tryz.func202, Tryz.ntmps202
  go_wp2_with fail
  refine (n_may1 s true HM.out _ w).mono ?_
  rintro r w0 ⟨rfl, rfl⟩
  go_wp2
  go_ret
  exact ⟨rfl, yK _ _⟩
 ·
  have hp := nl_pos n h0
  rw [hL] at hp
  rw [decide_eq_false (by omega)] at d2
  have hp2 : 0 < s.size := by omega
  obtain ⟨x, hx⟩ : ∃ x, (s[0]'hp2).toNat = x := ⟨_, rfl⟩
  have hxd : d8 n (L - 1) = x := by
   rw [← hx]
   have e := hs
   subst e
   rw [xT, hL, Nat.sub_zero]
  have hi := idx_runN s 0 0 x rfl hp2 hx
  have x256 : x < 256 := by rw [← hxd]; exact qD _ _
  have e := blen_nl n L x h0 hL hxd
  rw [hl] at e
  obtain ⟨y, hy⟩ : ∃ y, Lib.bitLen x = y := ⟨_, rfl⟩
  rw [← qV x (by omega), hy] at e
  have n4 : IntKind.u64.wrap (x : Int) = (x : Int) := by rw [IntKind.wrap_u64]; omega
  have n1 : IntKind.i64.wrap ((L : Int) - 1) = (L : Int) - 1 := zK _ (by omega) (by omega)
  have n2 : IntKind.i64.wrap (((L : Int) - 1) * 8) = ((L : Int) - 1) * 8 := zK _ (by omega) (by omega)
  have y64 : y ≤ 64 := by rw [← hy, qV x (by omega)]; exact xL x 64 (by rw [← xK]; omega)
  have n3 : IntKind.i64.wrap (((L : Int) - 1) * 8 + (y : Int)) = (l : Int) := by rw [zK _ (by omega) (by omega)]; omega
  have x64 : x < 18446744073709551616 := by omega
  have HY := zH hy
  clear hs hl hL h0 hx hxd hy e
  go_enter Tryz.func202, Tryz.ntmps202
  go_wp2_with fail
  refine (n_may1 s true HM.out _ w).mono ?_
  rintro r w0 ⟨rfl, rfl⟩
  go_wp2_with fail
  refine (len_any x x64 _).mono ?_
  rintro e w' ⟨rfl, rfl⟩
  rw [HY.out]
  go_wp2
  go_ret
  exact ⟨rfl, yK _ _⟩

theorem xO (a b : Nat) (s t v : ByteArray) (e : Int) (hs : yG a = s) (ht : yG b = t) (ha : nl a ≤ 16384) (hb : nl b ≤ 16384) (hr : lg (a * b) = (v, e)) (w : World) :
  Calls Tryz.prog 132 #[.string s, .string t] w fun r w' => r = .returned (.tuple #[.string v, .int .i64 e]) ∧ Below w.heap.size w w' := by
 have HO := zH (ok2 hs ht ha hb)
 have HS := zH hs
 have HT := zH ht
 have HR := zH hr
 have HA := zH ha
 have HB := zH hb
 obtain ⟨K, hK⟩ : ∃ K, wl a = K := ⟨_, rfl⟩
 obtain ⟨M, hM⟩ : ∃ M, wl b = M := ⟨_, rfl⟩
 obtain ⟨N, hN⟩ : ∃ N, wl (a * b) = N := ⟨_, rfl⟩
 obtain ⟨x, hx⟩ : ∃ x, z7 a = x := ⟨_, rfl⟩
 obtain ⟨y, hy⟩ : ∃ y, z7 b = y := ⟨_, rfl⟩
 have hK2 : K ≤ 2048 := by rw [← hK]; exact xU a ha
 have hM2 : M ≤ 2048 := by rw [← hM]; exact xU b hb
 have hN2 : N ≤ 4096 := by rw [← hN]; have := wl_mul_le a b; omega
 have x2 : x ≤ 131072 := by rw [← hx]; unfold nl at ha; omega
 have y2 : y ≤ 131072 := by rw [← hy]; unfold nl at hb; omega
 have n1 : IntKind.i64.wrap ((x : Int) + (y : Int)) = (x : Int) + (y : Int) := zK _ (by omega) (by omega)
 have n2 : IntKind.i64.wrap ((x : Int) + (y : Int) - 1) = (x : Int) + (y : Int) - 1 := zK _ (by omega) (by omega)
 have HK := zH hK
 have HM := zH hM
 have HN := zH hN
 have HX := zH hx
 have HY := zH hy
 have b0 := yK w (.cells #[.string s, .string t] 39)
 by_cases hc : (131072 : Int) < (x : Int) + (y : Int) - 1
 ·
  have e0 : v = ⟨#[]⟩ ∧ e = 4 := by
   unfold lg at hr
   have a0 : a ≠ 0 := fun h => by rw [h, blen_zero] at hx; omega
   have b0 : b ≠ 0 := fun h => by rw [h, blen_zero] at hy; omega
   have hg := blen_mul_ge a b a0 b0
   rw [if_neg (by unfold nl; omega)] at hr
   cases hr
   exact ⟨rfl, rfl⟩
  obtain ⟨rfl, rfl⟩ := e0
  have d1 : decide ((131072 : Int) < (x : Int) + (y : Int) - 1) = true := decide_eq_true hc
  clear hs ht ha hb hr hK hM hN hx hy
  go_enter Tryz.func132, Tryz.ntmps132
  go_wp2_with fail
  refine (n_may2 s t true HO.out _ w).mono ?_
  rintro r w0 ⟨rfl, rfl⟩
  go_wp2_with fail
  refine (y7 a x s HS.out HA.out HX.out _).mono ?_
  rintro r w1 ⟨rfl, b1⟩
  go_wp2_with fail
  refine (y7 b y t HT.out HB.out HY.out _).mono ?_
  rintro r w2 ⟨rfl, b2⟩
  go_wp2
  go_ret2
  exact ⟨rfl, zO b0 (zO b1 b2)⟩
 ·
  have d1 : decide ((131072 : Int) < (x : Int) + (y : Int) - 1) = false := decide_eq_false hc
  clear hs ht ha hb hr hK hM hN hx hy
  go_enter Tryz.func132, Tryz.ntmps132
  go_wp2_with fail
  refine (n_may2 s t true HO.out _ w).mono ?_
  rintro r w0 ⟨rfl, rfl⟩
  go_wp2_with fail
  refine (y7 a x s HS.out HA.out HX.out _).mono ?_
  rintro r w1 ⟨rfl, b1⟩
  go_wp2_with fail
  refine (y7 b y t HT.out HB.out HY.out _).mono ?_
  rintro r w2 ⟨rfl, b2⟩
  go_wp2_with fail
  refine (y9 a K s HS.out (by have := HA.out; omega) HK.out _).mono ?_
  rintro r w3 ⟨p, c, rfl, s3, b3⟩
  go_wp2_with fail
  refine (y9 b M t HT.out (by have := HB.out; omega) HM.out _).mono ?_
  rintro r w4 ⟨q, d, rfl, s4, b4⟩
  go_wp2_with fail
  refine (l_product w4 p q K c a M d b w4.heap.size N ((s3.below b4 (Nat.le_refl _)).mono b4.size) s4 (Nat.le_refl _) (by omega) (by omega) HN.out).mono ?_
  rintro r w5 ⟨u, f, rfl, s5, b5⟩
  go_wp2_with fail
  refine (l_answer w5 u N f (a * b) _ v e s5 (Nat.le_refl _) (by omega) HN.out HR.out).mono ?_
  rintro r w6 ⟨rfl, b6⟩
  go_wp2
  go_ret2
  exact ⟨rfl, zO b0 (zO b1 (zO b2 (zO b3 (zO b4 (zO b5 b6)))))⟩

theorem nan_str (s : ByteArray) (w : World) : Calls Tryz.prog 220 #[.string s] w fun r w' => r = .returned (.bool false) ∧ w' = w := by
 have h : (s.toList != s.toList) = false := by simp
 go_enter Tryz.func220, Tryz.ntmps220
 go_wp2
 go_ret
 exact ⟨by first | rfl | simp, rfl⟩
theorem cmp_str (a b : Nat) (s t : ByteArray) (c : Int) (hs : yG a = s) (ht : yG b = t) (hl : nl a = nl b) (hc : xY a b = c) (w : World) : Calls Tryz.prog 138 #[.string s, .string t] w fun r w' => r = .returned (.int .i64 c) ∧ w' = w := by
 have h1 := bless_nb a b hl
 have h2 := bless_nb b a hl.symm
 have h3 := beq_nb a b
 rw [hs, ht] at h1 h2 h3
 have hcase : (decide (a < b) = true ∧ decide (b < a) = false ∧ decide (a = b) = false ∧ c = -1) ∨ (decide (a < b) = false ∧ decide (b < a) = true ∧ decide (a = b) = false ∧ c = 1) ∨ (decide (a < b) = false ∧ decide (b < a) = false ∧ decide (a = b) = true ∧ c = 0) := by
  rw [decide_eq_true_iff, decide_eq_true_iff, decide_eq_true_iff, decide_eq_false_iff_not, decide_eq_false_iff_not, decide_eq_false_iff_not]
  unfold xY at hc
  by_cases e : a = b
  ·
   rw [if_pos e] at hc; omega
  ·
   rw [if_neg e] at hc
   by_cases e2 : a < b
   ·
    rw [if_pos e2] at hc; omega
   ·
    rw [if_neg e2] at hc; omega
 clear hs ht hl hc
 rcases hcase with ⟨k1, k2, k3, rfl⟩ | ⟨k1, k2, k3, rfl⟩ | ⟨k1, k2, k3, rfl⟩
 all_goals
  rw [k1] at h1
  rw [k2] at h2
  rw [k3] at h3
  clear k1 k2 k3
  go_enter Tryz.func138, Tryz.ntmps138
  go_wp2_with fail
  refine (nan_str s _).mono ?_
  rintro e w' ⟨rfl, rfl⟩
  go_wp2_with fail
  refine (nan_str t _).mono ?_
  rintro e w' ⟨rfl, rfl⟩
  go_wp2
  go_ret
  exact ⟨rfl, rfl⟩
theorem pn_cmp_ok (a b : Nat) (s t : ByteArray) (c : Int) (hs : yG a = s) (ht : yG b = t) (ha : nl a ≤ 16384) (hb : nl b ≤ 16384) (hc : xY a b = c) (w : World) :
  Calls Tryz.prog 58 #[.string s, .string t] w fun r w' => r = .returned (.tuple #[.int .i64 c, .int .i64 0]) ∧ Below w.heap.size w w' := by
 have HO := zH (ok2 hs ht ha hb)
 have hz : s.size = nl a := by rw [← hs, yE]
 have hy : t.size = nl b := by rw [← ht, yE]
 have b0 := yK w (.cells #[.string s, .string t] 39)
 by_cases h : nl a = nl b
 ·
  have H := zH (cmp_str a b s t c hs ht h hc)
  have d1 : ((s.size : Int) != (t.size : Int)) = false := by simp; omega
  have d2 : (s.size : Int) = (t.size : Int) := by omega
  clear hs ht ha hb hc hz hy h
  go_enter Tryz.func58, Tryz.ntmps58
  go_wp2_with fail
  refine (n_may2 s t true HO.out _ w).mono ?_
  rintro r w0 ⟨rfl, rfl⟩
  go_wp2_with fail
  refine (H.out _).mono ?_
  rintro r w1 ⟨rfl, rfl⟩
  go_wp2
  go_ret2
  exact ⟨rfl, b0⟩
 ·
  have d1 : ((s.size : Int) != (t.size : Int)) = true := by simp; omega
  have d2 : ¬ (s.size : Int) = (t.size : Int) := by omega
  have d3 : ¬ s.size = t.size := by omega
  have e : cmpi (s.size : Int) (t.size : Int) = c := by
   rw [cmpi_nat, hz, hy, ← hc]
   by_cases h2 : nl a < nl b
   ·
    rw [cmpv_lt _ _ h2, cmpv_lt a b (by
     by_cases e : a < b
     ·
      exact e
     ·
      have := xF b a (by omega)
      omega)]
   ·
    rw [cmpv_gt _ _ (show nl b < nl a by omega), cmpv_gt a b (by
     by_cases e : b < a
     ·
      exact e
     ·
      have := xF a b (by omega)
      omega)]
  have E := zH e
  clear hs ht ha hb hc hz hy h e
  go_enter Tryz.func58, Tryz.ntmps58
  go_wp2_with fail
  refine (n_may2 s t true HO.out _ w).mono ?_
  rintro r w0 ⟨rfl, rfl⟩
  go_wp2_with fail
  refine (cmp_int _ _ c E.out _).mono ?_
  rintro r w1 ⟨rfl, rfl⟩
  go_wp2
  go_ret2
  exact ⟨rfl, b0⟩
theorem raise_lt (n L s q : Nat) (hn : n < 2 ^ (64 * L)) (hs : s < 64 * (q + 1)) : n * 2 ^ s < 2 ^ (64 * (L + q + 1)) := by
 have h1 : n * 2 ^ s < 2 ^ (64 * L) * 2 ^ s := Nat.mul_lt_mul_of_pos_right hn (Nat.two_pow_pos _)
 rw [← Nat.pow_add] at h1
 exact Nat.lt_of_lt_of_le h1 (Nat.pow_le_pow_right (by decide) (by omega))

theorem l_raise (w : World) (p : Option Addr) (L c n s q B : Nat) (h : SL B w p L c n) (hB : B ≤ w.heap.size) (hL : L ≤ 100000) (hs : s ≤ 1000000) (hq : s / 64 = q) :
  Calls Tryz.prog 304 #[.slice p L c, .int .i64 (s : Nat)] w fun r w' => ∃ g, r = .returned (.slice (some ⟨g, 0, none⟩) (L + q + 1) (L + q + 1)) ∧ w.heap.size ≤ g ∧ w'.heap[g]? = some (.cells (cw (L + q + 1) (n * 2 ^ s)) 23) ∧ Below w.heap.size w w' := by
 obtain ⟨r, hr⟩ : ∃ r, s % 64 = r := ⟨_, rfl⟩
 have r64 : r < 64 := by omega
 obtain ⟨N, hN⟩ : ∃ N, L + q + 1 = N := ⟨_, rfl⟩
 have q1 : (s : Int) / 64 = (q : Int) := by omega
 have tm : (s : Int).tmod 64 = (r : Int) := by rw [Int.tmod_eq_emod_of_nonneg (by omega)]; omega
 have tm2 : (s : Int) % 64 = (r : Int) := by omega
 have q2 : q ≤ 20000 := by omega
 have HSR : zS (s = 64 * q + r) := zH (by omega)
 have hmk := qA N ((L : Int) + (q : Int) + 1) (by omega) (by omega)
 have n1 : IntKind.i64.wrap ((L : Int) + (q : Int)) = (L : Int) + (q : Int) := zK _ (by omega) (by omega)
 have n2 : IntKind.i64.wrap ((L : Int) + (q : Int) + 1) = (L : Int) + (q : Int) + 1 := zK _ (by omega) (by omega)
 have w1 : IntKind.i64.wrap (q : Int) = (q : Int) := zK _ (by omega) (by omega)
 have HR := zH hr
 have HQ := zH hq
 rw [hN]
 have HN := zH hN
 clear hr hq hN
 go_enter Tryz.func304, Tryz.ntmps304
 go_wp2
 clear hmk n1 n2 w1 q1 tm tm2
 obtain ⟨g, hg⟩ : ∃ g, w.heap.size = g := ⟨_, rfl⟩
 have r0 : (w.alloc (.cells (cw N 0) 23)).heap[g]? = some (.cells (cw N 0) 23) := by rw [← hg]; exact heap_alloc_last _ _
 have b0 : Below g w (w.alloc (.cells (cw N 0) 23)) := by rw [← hg]; exact (Below.refl _ _).alloc (Nat.le_refl _) _
 rw [hg] at hB ⊢
 go_loopw [22] (fun iv wr => ∃ (i X : Nat), i ≤ L ∧ iv = .int .i64 i ∧ wr.heap[g]? = some (.cells (cw N X) 23) ∧ Below g w wr ∧ zS (X = (n % 2 ^ (64 * i)) * 2 ^ s)) (fun iv _ => L - (intOf iv).toNat)
 case atStart => exact ⟨0, 0, by omega, rfl, r0, b0, zH (by simp [Nat.mod_one])⟩
 case round =>
  clear r0 b0
  obtain ⟨i, X, hi, rfl, r1, hbw, HX⟩ := hrel
  by_cases hlt : i < L
  ·
   obtain ⟨bp, op, rfl, _⟩ := h.ptr (by omega)
   obtain ⟨x, hx⟩ : ∃ x, wd n i = x := ⟨_, rfl⟩
   obtain ⟨t, ht⟩ : ∃ t, i + q = t := ⟨_, rfl⟩
   obtain ⟨lo, hlo⟩ : ∃ lo, x * 2 ^ r % 18446744073709551616 = lo := ⟨_, rfl⟩
   obtain ⟨hj, hhj⟩ : ∃ hj, x / 2 ^ (64 - r) = hj := ⟨_, rfl⟩
   obtain ⟨k, hk⟩ : ∃ k, 64 - r = k := ⟨_, rfl⟩
   have x64 : x < 18446744073709551616 := by rw [← hx]; exact yU _ _
   have lo64 : lo < 18446744073709551616 := by rw [← hlo]; exact Nat.mod_lt _ (by decide)
   have hj64 : hj < 18446744073709551616 := by rw [← hhj]; exact Nat.lt_of_le_of_lt (Nat.div_le_self _ _) x64
   have ST := raise_step n i s q r t X lo hj HSR.out r64 ht.symm HX.out (by rw [hx]; exact hlo) (by rw [hx]; exact hhj)
   have c0 := (h.below hbw (by omega)).cell i x hlt hx
   have tN : t + 1 < N := by rw [← HN.out]; omega
   have tN0 : t < N := by omega
   have t1 : (i : Int) + (q : Int) = (t : Int) := by omega
   have k1 : (64 : Int) - (r : Int) = (k : Int) := by omega
   have k2 : IntKind.i64.wrap (k : Int) = (k : Int) := zK _ (by omega) (by omega)
   have t2 : IntKind.i64.wrap (t : Int) = (t : Int) := zK _ (by omega) (by omega)
   have t3 : IntKind.i64.wrap ((t : Int) + 1) = (t : Int) + 1 := zK _ (by omega) (by omega)
   have tNi : (t : Int) < (N : Int) := by omega
   have tNj : (t : Int) + 1 < (N : Int) := by omega
   have c1 : wr.cell? ⟨g, t, none⟩ = some (.int .u64 (wd X t : Nat)) := by rw [cell_of_row wr g t _ _ _ r1, yS N X t tN0]
   have c2 : wr.cell? ⟨g, t + 1, none⟩ = some (.int .u64 (wd X (t + 1) : Nat)) := by rw [cell_of_row wr g (t + 1) _ _ _ r1, yS N X (t + 1) tN]
   have f1 := fz (k := t) r1
   have f2 := fz (k := t + 1) r1
   have x1 := bor X t lo lo64
   have x2 := bor X (t + 1) hj hj64
   have LO := zH (l_left x r lo (by omega) hlo)
   have HJ := zH (l_right x k hj (by omega) (by rw [← hk]; exact hhj))
   have dl : decide (i < L) = true := decide_eq_true hlt
   obtain ⟨X1, hX1⟩ : ∃ X1, X1 = X ||| lo * 2 ^ (64 * t) := ⟨_, rfl⟩
   have row1 : (wr.setCell ⟨g, t, none⟩ (.int .u64 ((wd X t ||| lo : Nat) : Int))).heap[g]? = some (.cells (cw N X1) 23) := by rw [z6 r1, cw_or N X t lo X1 tN0 lo64 hX1]
   have e1 : wd X1 (t + 1) = wd X (t + 1) := by
    rw [hX1, wd_or, wd_high (n := lo * 2 ^ (64 * t)) (q := t + 1) (by rw [pow64, Nat.mul_comm]; exact Nat.mul_lt_mul_of_pos_left lo64 (Nat.two_pow_pos _)) (Nat.le_refl _), Nat.or_zero]
   have row2 : ((wr.setCell ⟨g, t, none⟩ (.int .u64 ((wd X t ||| lo : Nat) : Int))).setCell ⟨g, t + 1, none⟩ (.int .u64 ((wd X (t + 1) ||| hj : Nat) : Int))).heap[g]? = some (.cells (cw N ((n % 2 ^ (64 * (i + 1))) * 2 ^ s)) 23) := by
    rw [z6 row1, ← e1, cw_or N X1 (t + 1) hj _ tN hj64 (by rw [hX1, ST])]
   have RS := zH row2
   have BS : zS (Below g w ((wr.setCell ⟨g, t, none⟩ (.int .u64 ((wd X t ||| lo : Nat) : Int))).setCell ⟨g, t + 1, none⟩ (.int .u64 ((wd X (t + 1) ||| hj : Nat) : Int)))) := zH ((hbw.setCell (Nat.le_refl _) _).setCell (Nat.le_refl _) _)
   clear hx ht hlo hhj hk h hX1 row1 row2 e1 ST HX
   go_wp2
   go_region_with (go_at_call 244; refine (LO.out _).mono ?_; rintro e w' ⟨rfl, rfl⟩)
   all_goals go_wp2
   all_goals go_region_with (go_at_call 245; refine (HJ.out _).mono ?_; rintro e w' ⟨rfl, rfl⟩)
   all_goals go_wp2
   all_goals exact ⟨⟨i + 1, _, by omega, by go_num, RS.out, BS.out.drew.drew, zH rfl⟩, by simp [intOf]; omega⟩
  ·
   obtain rfl : i = L := by omega
   have e := HX.out
   rw [Nat.mod_eq_of_lt h.1] at e
   subst e
   have dl : decide (i < i) = false := by rw [decide_eq_false_iff_not]; omega
   go_wp2
   go_ret
   exact ⟨g, rfl, by omega, r1, by rw [hg]; exact hbw⟩
theorem l_up (w : World) (p : Option Addr) (L c n s K B : Nat) (h : SL B w p L c n) (hB : B ≤ w.heap.size) (hL : L ≤ 50000) (hs : s ≤ 1000000) (hK : wl (n * 2 ^ s) = K) :
  Calls Tryz.prog 264 #[.slice p L c, .int .i64 (s : Nat)] w fun r w' => ∃ g d, r = .returned (.slice g K d) ∧ SL w'.heap.size w' g K d (n * 2 ^ s) ∧ Below w.heap.size w w' := by
 obtain ⟨q, hq⟩ : ∃ q, s / 64 = q := ⟨_, rfl⟩
 have hlt := raise_lt n L s q h.1 (by omega)
 have HK := zH hK
 have HQ := zH hq
 have HL := zH hlt
 have q2 : q ≤ 20000 := by omega
 clear hK hq hlt
 go_enter Tryz.func264, Tryz.ntmps264
 go_wp2_with fail
 refine (l_raise w p L c n s q B h hB (by omega) hs HQ.out).mono ?_
 rintro e w1 ⟨g, rfl, hg, r1, b1⟩
 have s1 : SL w1.heap.size w1 (some ⟨g, 0, none⟩) (L + q + 1) (L + q + 1) (n * 2 ^ s) := SL.row r1 _ (Array.getElem?_eq_some_iff.1 r1).1 HL.out (Nat.le_refl _)
 go_wp2_with fail
 refine (l_trim w1 _ _ _ _ K _ s1 (by omega) HK.out).mono ?_
 rintro e w2 ⟨u, d, rfl, s2, rfl⟩
 go_wp2
 go_ret
 exact ⟨u, d, rfl, s2, b1⟩

theorem down_lt (n L s q N : Nat) (hn : n < 2 ^ (64 * L)) (hs : 64 * q ≤ s) (hN : L - q = N) : n / 2 ^ s < 2 ^ (64 * N) := by
 apply Nat.div_lt_of_lt_mul
 rw [← Nat.pow_add]
 exact Nat.lt_of_lt_of_le hn (Nat.pow_le_pow_right (by decide) (by omega))

theorem l_down (w : World) (p : Option Addr) (L c n s K B : Nat) (h : SL B w p L c n) (hB : B ≤ w.heap.size) (hL : L ≤ 100000) (hs : s ≤ 9223372036854775807) (hK : wl (n / 2 ^ s) = K) :
  Calls Tryz.prog 253 #[.slice p L c, .int .i64 (s : Nat)] w fun r w' => ∃ g d, r = .returned (.slice g K d) ∧ SL w'.heap.size w' g K d (n / 2 ^ s) ∧ Below w.heap.size w w' := by
 obtain ⟨q, hq⟩ : ∃ q, s / 64 = q := ⟨_, rfl⟩
 obtain ⟨r, hr⟩ : ∃ r, s % 64 = r := ⟨_, rfl⟩
 have r64 : r < 64 := by omega
 obtain ⟨N, hN⟩ : ∃ N, L - q = N := ⟨_, rfl⟩
 have hDN := down_lt n L s q N h.1 (by omega) hN
 obtain ⟨D, hD⟩ : ∃ D, n / 2 ^ s = D := ⟨_, rfl⟩
 have q1 : (s : Int) / 64 = (q : Int) := by omega
 have q1' : (s : Int).tdiv 64 = (q : Int) := by rw [Int.tdiv_eq_ediv_of_nonneg (by omega)]; omega
 have tm : (s : Int).tmod 64 = (r : Int) := by rw [Int.tmod_eq_emod_of_nonneg (by omega)]; omega
 have tm2 : (s : Int) % 64 = (r : Int) := by omega
 have HSR : zS (s = 64 * q + r) := zH (by omega)
 have q57 : q ≤ 144115188075855871 := by omega
 have w1 : IntKind.i64.wrap (q : Int) = (q : Int) := zK _ (by omega) (by omega)
 have n1 : IntKind.i64.wrap ((L : Int) - (q : Int)) = (L : Int) - (q : Int) := zK _ (by omega) (by omega)
 rw [hD] at hK hDN ⊢
 have HD := zH hD
 have HDN := zH hDN
 have HK := zH hK
 clear hr hq hD hDN hK
 have hcase : ((L : Int) - (q : Int) = (N : Int) ∧ ((N : Int) < 0) = False) ∨ (((L : Int) - (q : Int) < 0) = True ∧ (0 : Int) = (N : Int)) := by
  by_cases hqL : q ≤ L
  ·
   left; exact ⟨by omega, eq_false (by omega)⟩
  ·
   right; exact ⟨eq_true (by omega), by omega⟩
 have hNL : N ≤ L := by omega
 have HNL := zH hN
 obtain ⟨g, hg⟩ : ∃ g, w.heap.size = g := ⟨_, rfl⟩
 have hB2 := hB
 rw [hg] at hB2
 have r0 : (w.alloc (.cells (cw N 0) 23)).heap[g]? = some (.cells (cw N 0) 23) := by rw [← hg]; exact heap_alloc_last _ _
 have b0 : Below g w (w.alloc (.cells (cw N 0) 23)) := by rw [← hg]; exact (Below.refl _ _).alloc (Nat.le_refl _) _
 have R0 := zH r0
 have B0 := zH b0
 clear hN r0 b0
 rcases hcase with ⟨e1, e2⟩ | ⟨e1, e2⟩
 all_goals
  first
   | (have hmk := qA N (N : Int) rfl (by omega); have n3 : IntKind.i64.wrap (N : Int) = (N : Int) := zK _ (by omega) (by omega); have e3 : ((N : Int) < 0) = False := e2)
   | (have hmk := qA N (0 : Int) e2 (by omega); clear e2)
  go_enter Tryz.func253, Tryz.ntmps253
  go_wp2
  clear hmk
  try rw [hg]
  go_loopw [21] (fun iv wr => ∃ (i : Nat), i ≤ N ∧ iv = .int .i64 i ∧ wr.heap[g]? = some (.cells (cw N (D % 2 ^ (64 * i))) 23) ∧ Below g w wr) (fun iv _ => N - (intOf iv).toNat)
  case atStart => exact ⟨0, by omega, rfl, by rw [Nat.mul_zero, Nat.pow_zero, Nat.mod_one]; exact R0.out, B0.out⟩
  case round =>
   obtain ⟨i, hi, rfl, r1, hbw⟩ := hrel
   by_cases hlt : i < N
   ·
    obtain ⟨bp, op, rfl, _⟩ := h.ptr (by omega)
    obtain ⟨t, ht⟩ : ∃ t, i + q = t := ⟨_, rfl⟩
    have tL : t < L := by have := HNL.out; omega
    obtain ⟨x, hx⟩ : ∃ x, wd n t = x := ⟨_, rfl⟩
    obtain ⟨t', ht'⟩ : ∃ t', t + 1 = t' := ⟨_, rfl⟩
    obtain ⟨y, hy⟩ : ∃ y, wd n t' = y := ⟨_, rfl⟩
    obtain ⟨k, hk⟩ : ∃ k, 64 - r = k := ⟨_, rfl⟩
    obtain ⟨z1, hz1⟩ : ∃ z1, x / 2 ^ r = z1 := ⟨_, rfl⟩
    obtain ⟨z2, hz2⟩ : ∃ z2, y * 2 ^ k % 18446744073709551616 = z2 := ⟨_, rfl⟩
    obtain ⟨z, hz⟩ : ∃ z, wd D i = z := ⟨_, rfl⟩
    have x64 : x < 18446744073709551616 := by rw [← hx]; exact yU _ _
    have z164 : z1 < 18446744073709551616 := by rw [← hz1]; exact Nat.lt_of_le_of_lt (Nat.div_le_self _ _) x64
    have z264 : z2 < 18446744073709551616 := by rw [← hz2]; exact Nat.mod_lt _ (by decide)
    have z64 : z < 18446744073709551616 := by rw [← hz]; exact yU _ _
    have e4 : z1 ||| z2 = z := by rw [← hz, ← HD.out, down_wd n s q r i HSR.out r64, ht, ht', hx, hy, hz1, hk, hz2]
    have bo : bits .or .u64 (z1 : Nat) (z2 : Nat) = (z : Int) := by rw [← e4]; exact bits_or_u64_nat _ _ z164 z264
    have s0 := h.below hbw hB2
    have c0 := s0.cell t x tL hx
    have t1 : (i : Int) + (q : Int) = (t : Int) := by omega
    have k1 : (64 : Int) - (r : Int) = (k : Int) := by omega
    have k2 : IntKind.i64.wrap (k : Int) = (k : Int) := zK _ (by omega) (by omega)
    have t2 : IntKind.i64.wrap (t : Int) = (t : Int) := zK _ (by omega) (by omega)
    have t3 : (t : Int) + 1 = (t' : Int) := by omega
    have t4 : IntKind.i64.wrap (t' : Int) = (t' : Int) := zK _ (by omega) (by omega)
    have tLi : (t : Int) < (L : Int) := by omega
    have c1 : wr.cell? ⟨g, i, none⟩ = some (.int .u64 (wd (D % 2 ^ (64 * i)) i : Nat)) := by rw [cell_of_row wr g i _ _ _ r1, yS N _ i hlt]
    have f1 := fz (k := i) r1
    have RS : zS ((wr.setCell ⟨g, i, none⟩ (.int .u64 (z : Int))).heap[g]? = some (.cells (cw N (D % 2 ^ (64 * (i + 1)))) 23)) := zH (by
     rw [z6 r1, cw_push N _ i z _ hlt (Nat.mod_lt _ (Nat.two_pow_pos _)) z64 rfl, qZ, hz])
    have BS : zS (Below g w (wr.setCell ⟨g, i, none⟩ (.int .u64 (z : Int)))) := zH (hbw.setCell (Nat.le_refl _) _)
    have RI := zH (l_right x r z1 (by omega) hz1)
    have LE := zH (l_left y k z2 (by omega) hz2)
    have HY := zH hy
    have dl : decide (i < N) = true := decide_eq_true hlt
    clear hx hy ht ht' hz1 hz2 hk hz e4 h
    go_wp2_with fail
    refine (RI.out _).mono ?_
    rintro e w' ⟨rfl, rfl⟩
    go_wp2_with fail
    refine (l_at _ _ L c n t' y s0 HY.out hL).mono ?_
    rintro e w' ⟨rfl, rfl⟩
    go_wp2_with fail
    refine (LE.out _).mono ?_
    rintro e w' ⟨rfl, rfl⟩
    go_wp2
    go_roundw
    case rel => exact ⟨i + 1, by omega, by go_num, RS.out, BS.out⟩
    case measure => simp [intOf] <;> omega
   ·
    obtain rfl : i = N := by omega
    rw [Nat.mod_eq_of_lt HDN.out] at r1
    have dl : decide (i < i) = false := by rw [decide_eq_false_iff_not]; omega
    have s1 : SL wr.heap.size wr (some ⟨g, 0, none⟩) i i D := SL.row r1 _ (Array.getElem?_eq_some_iff.1 r1).1 HDN.out (Nat.le_refl _)
    go_wp2_with fail
    refine (l_trim wr _ _ _ _ K _ s1 (by omega) HK.out).mono ?_
    rintro e w2 ⟨u, d, rfl, s2, rfl⟩
    go_wp2
    go_ret
    exact ⟨u, d, rfl, s2, by rw [hg]; exact hbw⟩
theorem zV {w w' : World} (h : zN w) (hb : Below w.heap.size w w') : zN w' := fun i hi => by
 rw [hb.cell (p := ⟨5, i, none⟩) (World.block_lt_of_cell? w _ (h i hi))]
 exact h i hi
theorem tabA {w : World} (h : zN w) (o : Obj) : zN (w.alloc o) := zV h (yK w o)

theorem lowB8 (x r : Nat) (hx : x < 256) (h : LowB x r) : LowIs x r ∧ r < 8 := by
 have h8 : r < 8 := by
  by_cases e : r < 8
  ·
   exact e
  ·
   have := lt_bit (n := x) (q := 8) (by rw [← two8]; exact hx) (show 8 ≤ r by omega)
   rw [h.2] at this
   exact absurd this (by decide)
 exact ⟨⟨by omega, h.1, h.2⟩, h8⟩

theorem pn_low_ok (n t : Nat) (s : ByteArray) (hs : yG n = s) (h : nl n ≤ 16384) (ht : LowN n t) (w : World) (hT : zN w) :
  Calls Tryz.prog 215 #[.string s] w fun r w' => r = .returned (.int .i64 (t : Nat)) ∧ Below w.heap.size w w' := by
 obtain ⟨L, hL⟩ : ∃ L, nl n = L := ⟨_, rfl⟩
 have hz : s.size = L := by rw [← hs, yE, hL]
 have HM : zS (qB s = true) := zH (by rw [← hs]; exact qR n h)
 rw [hL] at h
 have HS := zH hs
 have HT := zH ht
 have HL := zH hL
 have TA := zH (tabA hT (.cells #[.string s] 39))
 have b0 := yK w (.cells #[.string s] 39)
 clear hs ht hL hT
 go_enter Tryz.func215, Tryz.ntmps215
 go_wp2_with fail
 refine (n_may1 s true HM.out _ w).mono ?_
 rintro r w0 ⟨rfl, rfl⟩
 go_wp2
 go_loopw [11] (fun iv wr => ∃ i : Nat, i ≤ L ∧ iv = .int .i64 i ∧ wr = w.alloc (.cells #[.string s] 39) ∧ zS (n % 2 ^ (8 * i) = 0)) (fun iv _ => L - (intOf iv).toNat)
 case atStart => exact ⟨0, by omega, rfl, rfl, zH (by rw [Nat.mul_zero, Nat.pow_zero, Nat.mod_one])⟩
 case round =>
  obtain ⟨i, hi, rfl, rfl, HE⟩ := hrel
  by_cases hlt : i < L
  ·
   obtain ⟨k, hk⟩ : ∃ k, L - 1 - i = k := ⟨_, rfl⟩
   have hk2 : k < s.size := by omega
   obtain ⟨x, hx⟩ : ∃ x, (s[k]'hk2).toNat = x := ⟨_, rfl⟩
   have hxd : d8 n i = x := by
    rw [← hx]
    have e := HS.out
    subst e
    rw [xT, HL.out, ← hk, show L - 1 - (L - 1 - i) = i by omega]
   have x256 : x < 256 := by rw [← hxd]; exact qD _ _
   have n1 : IntKind.i64.wrap ((L : Int) - 1) = (L : Int) - 1 := zK _ (by omega) (by omega)
   have n2 : IntKind.i64.wrap ((L : Int) - 1 - (i : Int)) = (k : Int) := by rw [zK _ (by omega) (by omega)]; omega
   have n2' : (L : Int) - 1 - (i : Int) = (k : Int) := by omega
   have n2'' : IntKind.i64.wrap (k : Int) = (k : Int) := zK _ (by omega) (by omega)
   have hxr := idx_runN s k (k : Int) x rfl hk2 hx
   have dl : decide (i < L) = true := decide_eq_true hlt
   by_cases hx0 : x = 0
   ·
    have NE : zS (n % 2 ^ (8 * (i + 1)) = 0) := zH (by rw [mod_d8, HE.out, hxd, hx0, Nat.mul_zero])
    have d0 : ((x : Int) != 0) = false := by simp; omega
    clear hk hx hxd HE hx0
    go_wp2
    go_roundw
    case rel => exact ⟨i + 1, by omega, by go_num, by first | rfl | trivial, NE⟩
    case measure => simp [intOf] <;> omega
   ·
    obtain ⟨r, hr⟩ := lowB_any x hx0
    obtain ⟨hr1, r8⟩ := lowB8 x r x256 hr
    have hnl := lowB_d8 n i r HE.out (by rw [hxd]; exact hr) r8
    have et : 8 * i + r = t := by
     rcases HT.out with ⟨h1, _⟩ | ⟨_, h2⟩
     ·
      exfalso
      rw [h1, d8_zero] at hxd
      exact hx0 hxd.symm
     ·
      exact lowB_one n _ _ hnl h2
    have d0 : ((x : Int) != 0) = true := by simp; omega
    have LW := zH (low_any x r (by omega) hr1 _ TA.out)
    have n3 : IntKind.u64.wrap (x : Int) = (x : Int) := by rw [IntKind.wrap_u64]; omega
    have n4 : IntKind.i64.wrap ((i : Int) * 8) = (i : Int) * 8 := zK _ (by omega) (by omega)
    have n5 : IntKind.i64.wrap ((i : Int) * 8 + (r : Int)) = (t : Int) := by rw [zK _ (by omega) (by omega)]; omega
    clear hk hx hxd HE hx0 hr hr1 hnl et
    go_wp2_with fail
    refine LW.out.mono ?_
    rintro e w' ⟨rfl, rfl⟩
    go_wp2
    go_ret
    exact ⟨rfl, b0⟩
  ·
   obtain rfl : i = L := by omega
   have e := HE.out
   rw [Nat.mod_eq_of_lt (by rw [← HL.out]; exact nl_lt n)] at e
   have et : t = 0 := by
    rcases HT.out with ⟨_, h2⟩ | ⟨h1, _⟩
    ·
     exact h2
    ·
     exact absurd e h1
   subst et
   have dl : decide (i < i) = false := by rw [decide_eq_false_iff_not]; omega
   clear e
   go_wp2
   go_ret
   exact ⟨rfl, b0⟩

theorem blen_shl (b n : Nat) (hb : b ≠ 0) : z7 (b * 2 ^ n) = z7 b + n := by
 have h1 := qI b hb
 have h2 := xN b
 have h3 := xQ b hb
 have e : z7 b + n = z7 b - 1 + n + 1 := by omega
 rw [e]
 apply blen_of
 ·
  rw [Nat.pow_add]; exact Nat.mul_le_mul_right _ h1
 ·
  rw [show z7 b - 1 + n + 1 = z7 b + n by omega, Nat.pow_add]
  exact Nat.mul_lt_mul_of_pos_right h2 (Nat.two_pow_pos _)
theorem xS (a : Nat) (n : Int) (s v : ByteArray) (e : Int) (hs : yG a = s) (ha : nl a ≤ 16384) (h63 : -9223372036854775808 ≤ n) (hn : n ≤ 9223372036854775807) (hr : lf a n = (v, e)) (w : World) :
  Calls Tryz.prog 218 #[.string s, .int .i64 n] w fun r w' => r = .returned (.tuple #[.string v, .int .i64 e]) ∧ Below w.heap.size w w' := by
 have HM : zS (qB s = true) := zH (by rw [← hs]; exact qR a ha)
 have b0 := yK w (.cells #[.string s] 39)
 unfold lf at hr
 by_cases h0 : n < 0
 ·
  rw [if_pos h0] at hr
  cases hr
  have d0 : decide (n < 0) = true := decide_eq_true h0
  clear hs
  go_enter Tryz.func218, Tryz.ntmps218
  go_wp2_with fail
  refine (n_may1 s true HM.out _ w).mono ?_
  rintro r w0 ⟨rfl, rfl⟩
  go_wp2
  go_ret2
  exact ⟨rfl, b0⟩
 ·
  rw [if_neg h0] at hr
  obtain ⟨k, rfl⟩ : ∃ k : Nat, n = (k : Int) := ⟨n.toNat, by omega⟩
  rw [Int.toNat_natCast] at hr
  have d0 : decide ((k : Int) < 0) = false := by rw [decide_eq_false_iff_not]; omega
  have d2 := xX s
  by_cases a0 : a = 0
  ·
   subst a0
   rw [yM] at hs
   subst hs
   have ez : v = ⟨#[]⟩ ∧ e = 0 := by
    unfold lg at hr
    rw [Nat.zero_mul, if_pos (by rw [nl_zero]; omega), yM] at hr
    cases hr
    exact ⟨rfl, rfl⟩
   obtain ⟨rfl, rfl⟩ := ez
   clear d2
   go_enter Tryz.func218, Tryz.ntmps218
   go_wp2_with fail
   refine (n_may1 _ true HM.out _ w).mono ?_
   rintro r w0 ⟨rfl, rfl⟩
   go_wp2
   go_ret2
   exact ⟨rfl, b0⟩
  ·
   rw [decide_eq_false (by rw [← hs, yE]; have := nl_pos a a0; omega)] at d2
   obtain ⟨l, hl⟩ : ∃ l, z7 a = l := ⟨_, rfl⟩
   have l2 : l ≤ 131072 := by rw [← hl]; unfold nl at ha; omega
   have n1 : IntKind.i64.wrap (131072 - (l : Int)) = 131072 - (l : Int) := zK _ (by omega) (by omega)
   have hb := blen_shl a k a0
   rw [hl] at hb
   have HS := zH hs
   have HA := zH ha
   have HL := zH hl
   by_cases hc : l + k ≤ 131072
   ·
    have d1 : decide ((131072 : Int) - (l : Int) < (k : Int)) = false := decide_eq_false (by omega)
    have hv : yG (a * 2 ^ k) = v ∧ e = 0 := by
     unfold lg at hr
     rw [if_pos (by unfold nl; rw [hb]; omega)] at hr
     cases hr
     exact ⟨rfl, rfl⟩
    obtain ⟨hv, rfl⟩ := hv
    obtain ⟨K, hK⟩ : ∃ K, wl a = K := ⟨_, rfl⟩
    obtain ⟨M, hM⟩ : ∃ M, wl (a * 2 ^ k) = M := ⟨_, rfl⟩
    have hK2 : K ≤ 2048 := by rw [← hK]; exact xU a ha
    have hM2 : M ≤ 2048 := by rw [← hM]; unfold wl; rw [hb]; omega
    have k2 : k ≤ 131072 := by omega
    have HK := zH hK
    have HMM := zH hM
    have HV := zH hv
    clear hs ha hr hl hb hv hK hM a0
    go_enter Tryz.func218, Tryz.ntmps218
    go_wp2_with fail
    refine (n_may1 s true HM.out _ w).mono ?_
    rintro r w0 ⟨rfl, rfl⟩
    go_wp2_with fail
    refine (y7 a l s HS.out HA.out HL.out _).mono ?_
    rintro r w1 ⟨rfl, b1⟩
    go_wp2_with fail
    refine (y9 a K s HS.out (by have := HA.out; omega) HK.out _).mono ?_
    rintro r w2 ⟨p, c, rfl, s2, b2⟩
    go_wp2_with fail
    refine (l_up w2 p K c a k M _ s2 (Nat.le_refl _) (by omega) (by omega) HMM.out).mono ?_
    rintro r w3 ⟨q, d, rfl, s3, b3⟩
    go_wp2_with fail
    refine (l_natOf w3 q M d (a * 2 ^ k) _ v s3 (Nat.le_refl _) (by omega) HV.out).mono ?_
    rintro r w4 ⟨rfl, b4⟩
    go_wp2
    go_ret2
    exact ⟨rfl, zO b0 (zO b1 (zO b2 (zO b3 b4)))⟩
   ·
    have d1 : decide ((131072 : Int) - (l : Int) < (k : Int)) = true := decide_eq_true (by omega)
    have hv : v = ⟨#[]⟩ ∧ e = 4 := by
     unfold lg at hr
     rw [if_neg (by unfold nl; rw [hb]; omega)] at hr
     cases hr
     exact ⟨rfl, rfl⟩
    obtain ⟨rfl, rfl⟩ := hv
    clear hs ha hr hl hb a0
    go_enter Tryz.func218, Tryz.ntmps218
    go_wp2_with fail
    refine (n_may1 s true HM.out _ w).mono ?_
    rintro r w0 ⟨rfl, rfl⟩
    go_wp2_with fail
    refine (y7 a l s HS.out HA.out HL.out _).mono ?_
    rintro r w1 ⟨rfl, b1⟩
    go_wp2
    go_ret2
    exact ⟨rfl, zO b0 b1⟩
theorem pn_right_ok (a : Nat) (n : Int) (s v : ByteArray) (o : Bool) (hs : yG a = s) (ha : nl a ≤ 16384) (h0 : 0 ≤ n) (hn : n ≤ 9223372036854775807) (hv : yG (a / 2 ^ n.toNat) = v) (ho : decide (a % 2 ^ n.toNat ≠ 0) = o) (w : World) (hT : zN w) :
  Calls Tryz.prog 199 #[.string s, .int .i64 n] w fun r w' => r = .returned (.tuple #[.string v, .bool o, .int .i64 0]) ∧ Below w.heap.size w w' := by
 obtain ⟨k, rfl⟩ : ∃ m : Nat, n = (m : Int) := ⟨n.toNat, by omega⟩
 rw [Int.toNat_natCast] at hv ho
 have HM : zS (qB s = true) := zH (by rw [← hs]; exact qR a ha)
 have b0 := yK w (.cells #[.string s] 39)
 have d0 : decide ((k : Int) < 0) = false := by rw [decide_eq_false_iff_not]; omega
 have d2 := xX s
 obtain ⟨K, hK⟩ : ∃ K, wl a = K := ⟨_, rfl⟩
 obtain ⟨M, hM⟩ : ∃ M, wl (a / 2 ^ k) = M := ⟨_, rfl⟩
 have hK2 : K ≤ 2048 := by rw [← hK]; exact xU a ha
 have hM2 : M ≤ 2048 := by rw [← hM]; exact Nat.le_trans (wl_mono _ a (Nat.div_le_self _ _)) (by omega)
 have k2 : k ≤ 9223372036854775807 := by omega
 have HS := zH hs
 have HA := zH ha
 have HK := zH hK
 have HMM := zH hM
 have HV := zH hv
 by_cases a0 : a = 0
 ·
  subst a0
  have eo : o = false := by rw [← ho, Nat.zero_mod]; rfl
  subst eo
  have es : s = ⟨#[]⟩ := by rw [← hs, yM]
  subst es
  clear hs ho hv hK hM d2 ha hT
  go_enter Tryz.func199, Tryz.ntmps199
  go_wp2_with fail
  refine (n_may1 _ true HM.out _ w).mono ?_
  rintro r w0 ⟨rfl, rfl⟩
  go_wp2_with fail
  refine (y9 0 K _ HS.out (by have := HA.out; omega) HK.out _).mono ?_
  rintro r w2 ⟨p, c, rfl, s2, b2⟩
  go_wp2_with fail
  refine (l_down w2 p K c 0 k M _ s2 (Nat.le_refl _) (by omega) k2 HMM.out).mono ?_
  rintro r w3 ⟨q, d, rfl, s3, b3⟩
  go_wp2_with fail
  refine (l_natOf w3 q M d (0 / 2 ^ k) _ v s3 (Nat.le_refl _) (by omega) HV.out).mono ?_
  rintro r w4 ⟨rfl, b4⟩
  go_wp2
  go_ret3
  exact ⟨rfl, zO b0 (zO b2 (zO b3 b4))⟩
 ·
  rw [decide_eq_false (by rw [← hs, yE]; have := nl_pos a a0; omega)] at d2
  have d3 : (s.toList != []) = true := by rw [bne, d2]; rfl
  obtain ⟨t, ht⟩ := lowB_any a a0
  have hlo := lost_low a k t ht
  have e1 : decide (t < k) = o := by rw [← ho]; exact decide_eq_decide.2 hlo.symm
  have LW := zH (fun w hT => pn_low_ok a t s hs ha (Or.inr ⟨a0, ht⟩) w hT)
  have TA := zH (tabA hT (.cells #[.string s] 39))
  clear hs ho hv hK hM ha hT ht hlo a0
  go_enter Tryz.func199, Tryz.ntmps199
  go_wp2_with fail
  refine (n_may1 _ true HM.out _ w).mono ?_
  rintro r w0 ⟨rfl, rfl⟩
  go_wp2_with fail
  refine (LW.out _ TA.out).mono ?_
  rintro r w1 ⟨rfl, b1⟩
  go_wp2_with fail
  refine (y9 a K _ HS.out (by have := HA.out; omega) HK.out _).mono ?_
  rintro r w2 ⟨p, c, rfl, s2, b2⟩
  go_wp2_with fail
  refine (l_down w2 p K c a k M _ s2 (Nat.le_refl _) (by omega) k2 HMM.out).mono ?_
  rintro r w3 ⟨q, d, rfl, s3, b3⟩
  go_wp2_with fail
  refine (l_natOf w3 q M d (a / 2 ^ k) _ v s3 (Nat.le_refl _) (by omega) HV.out).mono ?_
  rintro r w4 ⟨rfl, b4⟩
  go_wp2
  go_ret3
  exact ⟨rfl, zO b0 (zO b1 (zO b2 (zO b3 b4)))⟩

end Go.Proofs.YtkblmpmkchkpjaaGreatDoor
namespace Go.Proofs.YtkblmpmkchkpjaaGreatDoor.WMath
set_option maxRecDepth 100000
set_option maxHeartbeats 40000000
def gs (hi lo top : Nat) : Nat := if hi < top then (hi * 18446744073709551616 + lo) / top else 18446744073709551615
theorem gs_lt (hi lo top : Nat) (hl : lo < 18446744073709551616) : gs hi lo top < 18446744073709551616 := by
 unfold gs
 split
 ·
  rename_i h
  apply Nat.div_lt_of_lt_mul
  have : (hi + 1) * 18446744073709551616 ≤ top * 18446744073709551616 := Nat.mul_le_mul_right _ h
  omega
 ·
  omega
theorem div_top (V m : Nat) (hV : V < 2 ^ (64 * (m + 1))) : V / 2 ^ (64 * m) = wd V m := by
 unfold wd
 rw [Nat.mod_eq_of_lt]
 apply Nat.div_lt_of_lt_mul
 rw [← pow64]
 exact hV
theorem div_top2 (V m : Nat) (hV : V < 2 ^ (64 * (m + 2))) : V / 2 ^ (64 * m) = wd V (m + 1) * 18446744073709551616 + wd V m := by
 have h1 := div_top V (m + 1) hV
 rw [pow64, ← Nat.div_div_eq_div_mul] at h1
 have h2 : wd V m = V / 2 ^ (64 * m) % 18446744073709551616 := rfl
 omega
theorem gs_ge (V b m hi lo top : Nat) (hV : V < 2 ^ (64 * (m + 2))) (hb : b < 2 ^ (64 * (m + 1))) (hlt : V < 18446744073709551616 * b) (h1 : wd V (m + 1) = hi) (h2 : wd V m = lo) (h3 : wd b m = top) : V / b ≤ gs hi lo top := by
 unfold gs
 split
 ·
  rename_i h
  have e1 := div_top2 V m hV
  have e2 := div_top b m hb
  rw [h1, h2] at e1
  rw [h3] at e2
  rw [← e1]
  have htop : 0 < top := by omega
  rw [Nat.le_div_iff_mul_le htop, Nat.le_div_iff_mul_le (Nat.two_pow_pos _)]
  have h4 : top * 2 ^ (64 * m) ≤ b := by rw [← e2]; exact Nat.div_mul_le_self _ _
  have h5 : V / b * (top * 2 ^ (64 * m)) ≤ V / b * b := Nat.mul_le_mul_left _ h4
  have h6 : V / b * b ≤ V := Nat.div_mul_le_self _ _
  rw [Nat.mul_assoc]
  omega
 ·
  have hb0 : 0 < b := by
   by_cases e : b = 0
   ·
    rw [e] at hlt; omega
   ·
    omega
  have : V / b < 18446744073709551616 := Nat.div_lt_of_lt_mul (by rw [Nat.mul_comm]; exact hlt)
  omega

def DigSt (V b P t S : Nat) (u : Bool) : Prop := V / b ≤ t ∧ S + t * b = V + P * u.toNat ∧ S < P
theorem digSt_end {V b P t S : Nat} (h : DigSt V b P t S false) (hb : 0 < b) : t = V / b ∧ S = V % b := by
 obtain ⟨h1, h2, _⟩ := h
 rw [Bool.toNat_false, Nat.mul_zero, Nat.add_zero] at h2
 have h3 : t ≤ V / b := (Nat.le_div_iff_mul_le hb).2 (by omega)
 have e : t = V / b := by omega
 refine ⟨e, ?_⟩
 have := Nat.div_add_mod V b
 rw [← e, Nat.mul_comm] at this
 omega
theorem digSt_start (V b P t S : Nat) (u : Bool) (h1 : V / b ≤ t) (h2 : S + b * t = V + P * u.toNat) (h3 : S < P) : DigSt V b P t S u := ⟨h1, by rw [Nat.mul_comm t b]; exact h2, h3⟩
theorem digSt_next {V b P t S : Nat} (h : DigSt V b P t S true) (hb : 0 < b) (hbP : b < P) : 0 < t ∧ DigSt V b P (t - 1) ((S + b * 1) % P) (!decide (P ≤ S + b * 1)) := by
 obtain ⟨h1, h2, h3⟩ := h
 rw [Bool.toNat_true, Nat.mul_one] at h2
 have ht : V < t * b := by omega
 have h4 : V / b < t := (Nat.div_lt_iff_lt_mul hb).2 ht
 have t0 : 0 < t := Nat.pos_of_ne_zero (fun e => by rw [e, Nat.zero_mul] at ht; omega)
 have h6 : V / b ≤ t - 1 := Nat.le_sub_one_of_lt h4
 clear h1 h4
 have h5 : (t - 1) * b + b = t * b := by
  have : t - 1 + 1 = t := by omega
  rw [← Nat.succ_mul, Nat.succ_eq_add_one, this]
 refine ⟨t0, h6, ?_, Nat.mod_lt _ (by omega)⟩
 rw [Nat.mul_one]
 by_cases e : P ≤ S + b
 ·
  rw [decide_eq_true e, Nat.mod_eq_sub_mod e, Nat.mod_eq_of_lt (by omega)]
  simp only [Bool.not_true, Bool.toNat_false]
  omega
 ·
  rw [decide_eq_false e, Nat.mod_eq_of_lt (by omega)]
  simp only [Bool.not_false, Bool.toNat_true]
  omega

def LdSt (A b i X q : Nat) : Prop := X < b * 2 ^ (64 * i) ∧ X + b * q = A ∧ q % 2 ^ (64 * i) = 0
theorem ldSt_next {A b i X q M V : Nat} (h : LdSt A b (i + 1) X q) (hb : b < 2 ^ (64 * M)) (hb0 : 0 < b) (hV : vw X i (M + 1) = V) :
  V < 18446744073709551616 * b ∧ V / b < 18446744073709551616 ∧ LdSt A b i (xR X i (M + 1) (V % b)) (q + 2 ^ (64 * i) * (V / b)) := by
 obtain ⟨h1, h2, h3⟩ := h
 have hX : X < 2 ^ (64 * (i + (M + 1))) := by
  have e : b * 2 ^ (64 * (i + 1)) ≤ 2 ^ (64 * M) * 2 ^ (64 * (i + 1)) := Nat.mul_le_mul_right _ (Nat.le_of_lt hb)
  rw [← Nat.pow_add, show 64 * M + 64 * (i + 1) = 64 * (i + (M + 1)) by omega] at e
  omega
 have eV : V = X / 2 ^ (64 * i) := by rw [← hV]; exact vw_top X i (M + 1) hX
 have hVb : V < 18446744073709551616 * b := by
  rw [eV]
  apply Nat.div_lt_of_lt_mul
  rw [pow64] at h1
  rw [← Nat.mul_assoc, Nat.mul_comm _ b]
  exact h1
 have hq : V / b < 18446744073709551616 := Nat.div_lt_of_lt_mul (by rw [Nat.mul_comm]; exact hVb)
 refine ⟨hVb, hq, ?_⟩
 rw [putw_top X i (M + 1) _ hX]
 have d1 := Nat.div_add_mod X (2 ^ (64 * i))
 have d2 := Nat.div_add_mod V b
 have d3 := Nat.mod_lt X (Nat.two_pow_pos (64 * i))
 have d4 := Nat.mod_lt V hb0
 rw [← eV] at d1
 have d5 : 2 ^ (64 * i) * V = 2 ^ (64 * i) * (b * (V / b)) + 2 ^ (64 * i) * (V % b) := by rw [← Nat.mul_add, d2]
 have d6 : 2 ^ (64 * i) * (b * (V / b)) = b * (2 ^ (64 * i) * (V / b)) := by rw [Nat.mul_left_comm]
 have d7 : 2 ^ (64 * i) * (V % b + 1) ≤ 2 ^ (64 * i) * b := Nat.mul_le_mul_left _ d4
 rw [Nat.mul_add, Nat.mul_one] at d7
 refine ⟨by rw [Nat.mul_comm b]; omega, by rw [Nat.mul_add]; omega, ?_⟩
 rw [Nat.add_mul_mod_self_left]
 rw [pow64] at h3
 have h4 := Nat.mod_mod_of_dvd q (Nat.dvd_mul_right (2 ^ (64 * i)) 18446744073709551616)
 rw [h3, Nat.zero_mod] at h4
 exact h4.symm
theorem ldSt_end {A b X q : Nat} (h : LdSt A b 0 X q) (hb : 0 < b) : q = A / b ∧ X = A % b := by
 obtain ⟨h1, h2, _⟩ := h
 rw [Nat.mul_zero, Nat.pow_zero, Nat.mul_one] at h1
 have e : q = A / b := by
  apply Nat.le_antisymm
  ·
   rw [Nat.le_div_iff_mul_le hb, Nat.mul_comm]; omega
  ·
   have : A / b < q + 1 := by
    rw [Nat.div_lt_iff_lt_mul hb, Nat.add_mul, Nat.mul_comm q b]
    omega
   omega
 refine ⟨e, ?_⟩
 have := Nat.div_add_mod A b
 rw [← e] at this
 omega
theorem ldSt_start (a b n L M K : Nat) (ha : a < 2 ^ (64 * L)) (hb : 2 ^ (64 * M - 1) ≤ b * 2 ^ n) (hb2 : 2 ^ (64 * (M - 1)) ≤ b) (hM : 0 < M) (hn : n < 64) (hK : K = L + 1 - M) : LdSt (a * 2 ^ n) (b * 2 ^ n) K (a * 2 ^ n) 0 := by
 refine ⟨?_, by omega, Nat.zero_mod _⟩
 by_cases h : M ≤ L
 ·
  have h1 : a * 2 ^ n < 2 ^ (64 * L) * 2 ^ n := Nat.mul_lt_mul_of_pos_right ha (Nat.two_pow_pos _)
  have h2 : 2 ^ (64 * M - 1) * 2 ^ (64 * K) ≤ b * 2 ^ n * 2 ^ (64 * K) := Nat.mul_le_mul_right _ hb
  rw [← Nat.pow_add] at h1 h2
  have h3 : 2 ^ (64 * L + n) ≤ 2 ^ (64 * M - 1 + 64 * K) := Nat.pow_le_pow_right (by decide) (by omega)
  omega
 ·
  have hK0 : K = 0 := by omega
  rw [hK0, Nat.mul_zero, Nat.pow_zero, Nat.mul_one]
  apply Nat.mul_lt_mul_of_pos_right _ (Nat.two_pow_pos _)
  have h3 : 2 ^ (64 * L) ≤ 2 ^ (64 * (M - 1)) := yV _ _ (by omega)
  omega
end Go.Proofs.YtkblmpmkchkpjaaGreatDoor.WMath
namespace Go.Proofs.YtkblmpmkchkpjaaGreatDoor
set_option maxRecDepth 100000
set_option maxHeartbeats 40000000
open Go.RowKit WMath
theorem div_is (hi lo d q r : Nat) (hh : hi < d) (hl : lo < 18446744073709551616) (hd : d < 18446744073709551616) (hq : (hi * 18446744073709551616 + lo) / d = q) (hr : (hi * 18446744073709551616 + lo) % d = r) (w : World) :
  Calls Tryz.prog 334 #[.int .u64 hi, .int .u64 lo, .int .u64 d] w fun e w' => e = .returned (.tuple #[.int .u64 q, .int .u64 r, .int .i64 0]) ∧ w' = w := by
 subst hq hr; exact div_any hi lo d hh hl hd w
theorem l_guess (hi lo d q : Nat) (hl : lo < 18446744073709551616) (hd : d < 18446744073709551616) (hq : gs hi lo d = q) (w : World) :
  Calls Tryz.prog 330 #[.int .u64 hi, .int .u64 lo, .int .u64 d] w fun e w' => e = .returned (.int .u64 q) ∧ w' = w := by
 unfold gs at hq
 by_cases h : hi < d
 ·
  rw [if_pos h] at hq
  have H := zH (div_is hi lo d q _ h hl hd hq rfl)
  clear hq h
  go_enter Tryz.func330, Tryz.ntmps330
  go_wp2_with fail
  refine (H.out _).mono ?_
  rintro e w' ⟨rfl, rfl⟩
  go_wp2
  go_ret
  exact ⟨rfl, rfl⟩
 ·
  rw [if_neg h] at hq
  subst hq
  have H := zH (div_no hi lo d (by omega))
  clear h
  go_enter Tryz.func330, Tryz.ntmps330
  go_wp2_with fail
  refine (H.out _).mono ?_
  rintro e w' ⟨rfl, rfl⟩
  go_wp2
  go_ret
  exact ⟨rfl, rfl⟩

theorem l_digit (w : World) (g o m c N X : Nat) (T : TypeId) (row : w.heap[g]? = some (.cells (cw N X) T)) (hN : o + (m + 2) ≤ N) (q : Option Addr) (d b B : Nat) (hb : SL B w q (m + 1) d b) (hB : B ≤ g) (hm : m ≤ 50000) (V : Nat) (hV : vw X o (m + 2) = V) (hVb : V < 18446744073709551616 * b) (hb0 : 0 < b) (t : Nat) (ht : V / b = t) :
  Calls Tryz.prog 322 #[.slice (some ⟨g, o, none⟩) (m + 2) c, .slice q (m + 1) d] w fun r w' => r = .returned (.int .u64 t) ∧ w'.heap[g]? = some (.cells (cw N (xR X o (m + 2) (V % b))) T) ∧ qP g w w' := by
 obtain ⟨qb, qo, rfl, _⟩ := hb.ptr (by omega)
 obtain ⟨hi, hhi⟩ : ∃ x, wd V (m + 1) = x := ⟨_, rfl⟩
 obtain ⟨lo, hlo⟩ : ∃ x, wd V m = x := ⟨_, rfl⟩
 obtain ⟨top, htop⟩ : ∃ x, wd b m = x := ⟨_, rfl⟩
 obtain ⟨G, hG⟩ : ∃ G, gs hi lo top = G := ⟨_, rfl⟩
 have lo64 : lo < 18446744073709551616 := by rw [← hlo]; exact yU _ _
 have top64 : top < 18446744073709551616 := by rw [← htop]; exact yU _ _
 have VL : V < 2 ^ (64 * (m + 2)) := by rw [← hV]; exact vw_lt _ _ _
 have hge := gs_ge V b m hi lo top VL hb.1 hVb hhi hlo htop
 have G64 : G < 18446744073709551616 := by rw [← hG]; exact gs_lt hi lo top lo64
 rw [hG] at hge
 have c1 : w.cell? ⟨g, o + (m + 1), none⟩ = some (.int .u64 hi) := by
  rw [cell_of_row w g _ _ _ _ row, yS _ _ _ (by omega), ← hhi, ← hV, wd_vw _ _ _ _ (by omega)]
 have c2 : w.cell? ⟨g, o + m, none⟩ = some (.int .u64 lo) := by
  rw [cell_of_row w g _ _ _ _ row, yS _ _ _ (by omega), ← hlo, ← hV, wd_vw _ _ _ _ (by omega)]
 have c3 := hb.cell m top (by omega) htop
 have n1 : IntKind.i64.wrap ((m : Int) + 1) = (m : Int) + 1 := zK _ (by omega) (by omega)
 have n2 : IntKind.i64.wrap ((m : Int) + 1 - 1) = (m : Int) := by rw [zK _ (by omega) (by omega)]; omega
 have n3 : IntKind.i64.wrap (m : Int) = (m : Int) := zK _ (by omega) (by omega)
 have GS := zH (l_guess hi lo top G lo64 top64 hG)
 have HV := zH hV
 have HVB := zH hVb
 have HT := zH ht
 have HGE := zH hge
 have HVL := zH VL
 clear hhi hlo htop hG hV hVb ht hge VL
 go_enter Tryz.func322, Tryz.ntmps322
 go_wp2
 go_quiet ((go_at_call 330; exact (GS.out _).mono (fun _ _ h => ⟨h.1, _, h.2⟩)))
 go_wp2_with fail
 obtain ⟨P, hP⟩ : ∃ P, 2 ^ (64 * (m + 2)) = P := ⟨_, rfl⟩
 have bP : b < P := by rw [← hP]; exact Nat.lt_of_lt_of_le hb.1 (yV _ _ (by omega))
 have bGP : b * G < P := by
  rw [← hP, show m + 2 = m + 1 + 1 by omega, pow64]
  exact Nat.mul_lt_mul_of_lt_of_le hb.1 (Nat.le_of_lt G64) (by decide)
 obtain ⟨u0, hu0⟩ : ∃ u, decide (V < b * G) = u := ⟨_, rfl⟩
 have hVP : V < P := by rw [← hP]; exact HVL.out
 obtain ⟨S0, hS0, hS0P⟩ : ∃ S, S + b * G = V + P * u0.toNat ∧ S < P := by
  by_cases e : V < b * G
  ·
   rw [decide_eq_true e] at hu0
   subst hu0
   exact ⟨V + P - b * G, by rw [Bool.toNat_true]; omega, by omega⟩
  ·
   rw [decide_eq_false e] at hu0
   subst hu0
   exact ⟨V - b * G, by rw [Bool.toNat_false]; omega, by omega⟩
 have sb : SL B (w.drewN nq) (some ⟨qb, qo, none⟩) (m + 1) d b := hb.below (below_drewN (Below.refl w.heap.size w) nq) (by have := (Array.getElem?_eq_some_iff.1 row).1; omega)
 have o0 : qP g w (w.drewN nq) := qP.ofBelow (below_drewN (Below.refl w.heap.size w) nq) (Nat.le_refl _)
 refine (l_takeFrom (w.drewN nq) g o (m + 2) c N X T row hN _ (m + 1) d b B sb hB G G64 (by omega) (by omega) (by rw [hP]; exact bGP) V S0 u0 HV.out hu0 (by rw [hP]; exact hS0)).mono ?_
 rintro e w1 ⟨rfl, r1, o1⟩
 have D0 : zS (DigSt V b P G S0 u0) := zH (digSt_start V b P G S0 u0 HGE.out hS0 hS0P)
 have O1 := o0.trans o1
 clear hu0 hS0 c1 c2 c3 o0 o1 sb bGP hS0P n1 n2 n3
 go_wp2
 go_loopw [6, 7] (fun tv uv wr => ∃ (t S : Nat) (u : Bool), t < 18446744073709551616 ∧ tv = .int .u64 t ∧ uv = .bool u ∧ wr.heap[g]? = some (.cells (cw N (xR X o (m + 2) S)) T) ∧ qP g w wr ∧ zS (DigSt V b P t S u)) (fun tv _ _ => (intOf tv).toNat)
 case atStart => exact ⟨G, S0, u0, G64, rfl, rfl, r1, O1, D0⟩
 case round =>
  clear r1 O1 D0
  obtain ⟨y, S, u, y64, rfl, rfl, r2, o2, HD⟩ := hrel
  cases u
  ·
   obtain ⟨e1, e2⟩ := digSt_end HD.out hb0
   rw [HT.out] at e1
   subst e1
   rw [e2] at r2
   clear e2 HD
   go_wp2
   go_ret
   exact ⟨rfl, r2, o2⟩
  ·
   obtain ⟨h0, hn⟩ := digSt_next HD.out hb0 bP
   have SP : S < 2 ^ (64 * (m + 2)) := by rw [hP]; exact HD.out.2.2
   obtain ⟨z, rfl⟩ : ∃ z, y = z + 1 := ⟨y - 1, by omega⟩
   rw [Nat.add_sub_cancel] at hn
   have s2 := hb.only o2 hB
   have A1 : zS (b * 1 < 2 ^ (64 * (m + 2))) := zH (by rw [hP]; omega)
   have A2 := zH (vw_putw X o (m + 2) S SP)
   obtain ⟨S2, hS2⟩ : ∃ S2, (S + b * 1) % P = S2 := ⟨_, rfl⟩
   obtain ⟨ov, hov⟩ : ∃ ov, decide (P ≤ S + b * 1) = ov := ⟨_, rfl⟩
   rw [hS2, hov] at hn
   have A3 : zS ((S + b * 1) % 2 ^ (64 * (m + 2)) = S2) := zH (by rw [hP]; exact hS2)
   have A4 : zS (decide (2 ^ (64 * (m + 2)) ≤ S + b * 1) = ov) := zH (by rw [hP]; exact hov)
   have A5 := zH (putw_putw X o (m + 2) S S2 SP)
   have HN := zH hn
   have nz : IntKind.u64.wrap (z : Int) = (z : Int) := by rw [IntKind.wrap_u64]; omega
   have nz2 : ((z + 1 : Nat) : Int) - 1 = (z : Int) := by omega
   clear hS2 hov hn HD SP h0
   go_wp2_with fail
   refine (l_addTo wr g o (m + 2) c N (xR X o (m + 2) S) T r2 hN _ (m + 1) d b B s2 hB 1 (by decide) (by omega) (by omega) A1.out S S2 ov A2.out A3.out A4.out).mono ?_
   rintro e w3 ⟨rfl, r3, o3⟩
   rw [A5.out] at r3
   have o4 := o2.trans o3
   go_wp2
   go_roundw
   case rel => exact ⟨z, S2, !ov, by omega, by first | rfl | go_num, rfl, r3, o4, HN⟩
   case measure => simp [intOf]
theorem blen_sh (b n : Nat) (hb : b ≠ 0) : z7 (b * 2 ^ n) = z7 b + n := by
 have h1 := qI b hb
 have h2 := xN b
 have h3 := xQ b hb
 have e : z7 b + n = z7 b - 1 + n + 1 := by omega
 rw [e]
 apply blen_of
 ·
  rw [Nat.pow_add]; exact Nat.mul_le_mul_right _ h1
 ·
  rw [show z7 b - 1 + n + 1 = z7 b + n by omega, Nat.pow_add]
  exact Nat.mul_lt_mul_of_pos_right h2 (Nat.two_pow_pos _)
theorem dv_norm (b M n : Nat) (hb : b ≠ 0) (hM : wl b = M) (hn : n = 64 * M - z7 b) : 0 < M ∧ n < 64 ∧ z7 b + n = 64 * M ∧ wl (b * 2 ^ n) = M ∧ 2 ^ (64 * M - 1) ≤ b * 2 ^ n ∧ b * 2 ^ n < 2 ^ (64 * M) := by
 have h0 := wl_pos b hb
 rw [hM] at h0
 have h1 := xQ b hb
 have e : z7 b + n = 64 * M ∧ n < 64 := by rw [← hM] at hn ⊢; unfold wl at *; omega
 have hs := blen_sh b n hb
 rw [e.1] at hs
 have hne : b * 2 ^ n ≠ 0 := Nat.mul_ne_zero hb (Nat.ne_of_gt (Nat.two_pow_pos _))
 refine ⟨h0, e.2, e.1, by unfold wl; rw [hs]; omega, ?_, ?_⟩
 ·
  have := qI _ hne
  rw [hs] at this
  exact this
 ·
  have := xN (b * 2 ^ n)
  rw [hs] at this
  exact this
theorem q_set (q i t : Nat) (h : q % 2 ^ (64 * (i + 1)) = 0) : setw q i t = q + 2 ^ (64 * i) * t := by
 have h1 := qZ q i
 rw [h] at h1
 have h2 : 2 ^ (64 * i) * wd q i = 0 := by omega
 have := setw_add q i t
 omega

theorem l_divide (w : World) (p q : Option Addr) (L c a M d b B K1 K2 : Nat) (ha : SL B w p L c a) (hb : SL B w q M d b) (hB : B ≤ w.heap.size) (hL : L ≤ 40000) (hM : M ≤ 40000) (lb : wl b = M) (hb0 : b ≠ 0) (hK1 : wl (a / b) = K1) (hK2 : wl (a % b) = K2) :
  Calls Tryz.prog 300 #[.slice p L c, .slice q M d] w fun r w' => ∃ u e v f, r = .returned (.tuple #[.slice u K1 e, .slice v K2 f]) ∧ SL w'.heap.size w' u K1 e (a / b) ∧ SL w'.heap.size w' v K2 f (a % b) ∧ Below w.heap.size w w' := by
 obtain ⟨l, hl⟩ : ∃ l, z7 b = l := ⟨_, rfl⟩
 obtain ⟨n, hn⟩ : ∃ n, 64 * M - l = n := ⟨_, rfl⟩
 obtain ⟨hM0, n64, hln, hby, hlow, hhigh⟩ := dv_norm b M n hb0 lb (by rw [hl, hn])
 rw [hl] at hln
 have hb2 : 2 ^ (64 * (M - 1)) ≤ b := by rw [← lb]; exact wl_le b hb0
 obtain ⟨N, hN⟩ : ∃ N, L + 1 - M = N := ⟨_, rfl⟩
 have LD := zH (ldSt_start a b n L M N ha.1 hlow hb2 hM0 n64 hN.symm)
 have hraise := raise_lt a L n 0 ha.1 (by omega)
 obtain ⟨m, rfl⟩ : ∃ m, M = m + 1 := ⟨M - 1, by omega⟩
 have n1 : IntKind.i64.wrap (((m : Int) + 1) * 64) = ((m : Int) + 1) * 64 := zK _ (by omega) (by omega)
 have n2 : IntKind.i64.wrap (((m : Int) + 1) * 64 - (l : Int)) = (n : Int) := by rw [zK _ (by omega) (by omega)]; omega
 have hl2 : l ≤ 3000000 := by omega
 have n2' : ((m : Int) + 1) * 64 - (l : Int) = (n : Int) := by omega
 have n2'' : IntKind.i64.wrap (n : Int) = (n : Int) := zK _ (by omega) (by omega)
 have n3 : IntKind.i64.wrap ((L : Int) - ((m : Int) + 1)) = (L : Int) - ((m : Int) + 1) := zK _ (by omega) (by omega)
 have n4 : IntKind.i64.wrap ((L : Int) - ((m : Int) + 1) + 1) = (L : Int) - ((m : Int) + 1) + 1 := zK _ (by omega) (by omega)
 have HLB := zH lb
 have HL := zH hl
 have HBY := zH hby
 have HRA := zH hraise
 have HHI := zH hhigh
 have HB0 := zH hb0
 have HN := zH hN
 have HK1 := zH hK1
 have HK2 := zH hK2
 have Hn := zH hn
 have Hln := zH hln
 clear lb hl hby hraise hhigh hb0 hlow hb2 hK1 hK2 hn hN hln
 go_enter Tryz.func300, Tryz.ntmps300
 go_wp2_with fail
 refine (l_bitLen w q (m + 1) d b l B hb (by omega) HLB.out HL.out).mono ?_
 rintro e w1 ⟨rfl, rfl⟩
 go_wp2_with fail
 refine (l_up w1 q (m + 1) d b n (m + 1) B hb hB (by omega) (by omega) HBY.out).mono ?_
 rintro e w2 ⟨y, yd, rfl, s2, b2⟩
 go_wp2_with fail
 refine (l_raise w2 p L c a n 0 B (ha.below b2 hB) (by have := b2.size; omega) (by omega) (by omega) (by omega)).mono ?_
 rintro e w3 ⟨g, rfl, hg, r3, b3⟩
 have hcase : ((L : Int) - ((m : Int) + 1) + 1 = (N : Int) ∧ ((N : Int) < 0) = False) ∨ (((L : Int) - ((m : Int) + 1) + 1 < 0) = True ∧ (0 : Int) = (N : Int)) := by
  have := HN.out
  by_cases hqL : m ≤ L
  ·
   left; exact ⟨by omega, eq_false (by omega)⟩
  ·
   right; exact ⟨eq_true (by omega), by omega⟩
 have N2 : N ≤ 40001 := by have := HN.out; omega
 obtain ⟨h, hh⟩ : ∃ h, w3.heap.size = h := ⟨_, rfl⟩
 have gh : g < h := by rw [← hh]; exact (Array.getElem?_eq_some_iff.1 r3).1
 have q4 : (w3.alloc (.cells (cw N 0) 23)).heap[h]? = some (.cells (cw N 0) 23) := by rw [← hh]; exact heap_alloc_last _ _
 have b4 : Below h w3 (w3.alloc (.cells (cw N 0) 23)) := by rw [← hh]; exact (Below.refl _ _).alloc (Nat.le_refl _) _
 have r4 : (w3.alloc (.cells (cw N 0) 23)).heap[g]? = some (.cells (cw (L + 1) (a * 2 ^ n)) 23) := by rw [b4.block g gh]; exact r3
 have s3 : SL w2.heap.size w3 y (m + 1) yd (b * 2 ^ n) := s2.below b3 (Nat.le_refl _)
 have h2 : w2.heap.size ≤ h := by rw [← hh]; exact b3.size
 have s4 : SL w2.heap.size (w3.alloc (.cells (cw N 0) 23)) y (m + 1) yd (b * 2 ^ n) := s3.below b4 h2
 have c4 : Below w1.heap.size w1 (w3.alloc (.cells (cw N 0) 23)) := zO (zO b2 b3) (yK _ _)
 have z4 : (w3.alloc (.cells (cw N 0) 23)).heap.size = h + 1 := by rw [zX, hh]
 have h1 : w1.heap.size ≤ w2.heap.size := b2.size
 have Q4 := zH q4
 have R4 := zH r4
 have S4 := zH s4
 have C4 := zH c4
 have Z4 := zH z4
 clear q4 b4 r4 s3 s4 c4 z4 s2 b2 b3 r3
 rcases hcase with ⟨e1, e2⟩ | ⟨e1, e2⟩
 all_goals
  first
   | (have hmk := qA N (N : Int) rfl (by omega); have n6 : IntKind.i64.wrap (N : Int) = (N : Int) := zK _ (by omega) (by omega); have e3 : ((N : Int) < 0) = False := e2)
   | (have hmk := qA N (0 : Int) e2 (by omega); clear e2)
  have n7 : IntKind.i64.wrap ((N : Int) - 1) = (N : Int) - 1 := zK _ (by omega) (by omega)
  go_wp2
  clear hmk
  go_loopw [9] (fun iv wr => ∃ (i X q : Nat), i ≤ N ∧ iv = .int .i64 ((i : Int) - 1) ∧ wr.heap[g]? = some (.cells (cw (L + 1) X) 23) ∧ wr.heap[h]? = some (.cells (cw N q) 23) ∧ SL w2.heap.size wr y (m + 1) yd (b * 2 ^ n) ∧ Below w1.heap.size w1 wr ∧ zS (LdSt (a * 2 ^ n) (b * 2 ^ n) i X q ∧ X < 2 ^ (64 * (L + 1)) ∧ q < 2 ^ (64 * N))) (fun iv _ => (intOf iv + 1).toNat)
  case atStart => exact ⟨N, a * 2 ^ n, 0, Nat.le_refl _, rfl, R4.out, Q4.out, S4.out, C4.out, zH ⟨LD.out, HRA.out, Nat.two_pow_pos _⟩⟩
  case round =>
   obtain ⟨i, X, q', hi, rfl, r5, q5, s5, c5, HE⟩ := hrel
   by_cases h0 : i = 0
   ·
    subst h0
    obtain ⟨E1, E2, E3⟩ := HE.out
    have bb0 : 0 < b * 2 ^ n := Nat.mul_pos (Nat.pos_of_ne_zero HB0.out) (Nat.two_pow_pos _)
    obtain ⟨f1, f2⟩ := ldSt_end E1 bb0
    rw [Nat.mul_div_mul_right _ _ (Nat.two_pow_pos _)] at f1
    rw [Nat.mul_mod_mul_right] at f2
    subst f1
    have sq : SL wr.heap.size wr (some ⟨h, 0, none⟩) N N (a / b) := SL.row q5 _ (Array.getElem?_eq_some_iff.1 q5).1 E3 (Nat.le_refl _)
    have sx : SL wr.heap.size wr (some ⟨g, 0, none⟩) (L + 1) (L + 1) X := SL.row r5 _ (Array.getElem?_eq_some_iff.1 r5).1 E2 (Nat.le_refl _)
    have ex : X / 2 ^ n = a % b := by rw [f2, Nat.mul_div_cancel _ (Nat.two_pow_pos _)]
    have EX := zH ex
    clear E1 E2 E3 f2 ex bb0
    go_wp2_with fail
    refine (l_trim wr _ N N (a / b) K1 _ sq (by omega) HK1.out).mono ?_
    rintro e w7 ⟨u, d7, rfl, s7, rfl⟩
    go_wp2_with fail
    refine (l_down w7 _ (L + 1) (L + 1) X n K2 _ sx (Nat.le_refl _) (by omega) (by omega) (by rw [EX.out]; exact HK2.out)).mono ?_
    rintro e w8 ⟨v, d8, rfl, s8, b8⟩
    rw [EX.out] at s8
    go_wp2
    go_ret2
    exact ⟨u, d7, v, d8, rfl, (s7.below b8 (Nat.le_refl _)).mono b8.size, s8, zO c5 b8⟩
   ·
    obtain ⟨j, rfl⟩ : ∃ j, i = j + 1 := ⟨i - 1, by omega⟩
    obtain ⟨E1, E2, E3⟩ := HE.out
    obtain ⟨V, hV⟩ : ∃ V, vw X j (m + 2) = V := ⟨_, rfl⟩
    have bb0 : 0 < b * 2 ^ n := Nat.mul_pos (Nat.pos_of_ne_zero HB0.out) (Nat.two_pow_pos _)
    obtain ⟨v1, v2, v3⟩ := ldSt_next E1 HHI.out bb0 hV
    obtain ⟨t, ht⟩ : ∃ t, V / (b * 2 ^ n) = t := ⟨_, rfl⟩
    rw [ht] at v2 v3
    have hjN : j < N := by omega
    have hfit : j + (m + 2) ≤ L + 1 := by have := HN.out; omega
    have x3 : xR X j (m + 2) (V % (b * 2 ^ n)) < 2 ^ (64 * (L + 1)) := putw_lt X j (m + 2) _ (L + 1) E2 (Nat.lt_of_lt_of_le (Nat.mod_lt _ bb0) (Nat.le_of_lt (Nat.lt_of_lt_of_le HHI.out (yV _ _ (by omega))))) hfit
    have es := q_set q' j t E1.2.2
    have q3 : setw q' j t < 2 ^ (64 * N) := setw_lt q' j t N E3 hjN v2
    rw [es] at q3
    have NE : zS (LdSt (a * 2 ^ n) (b * 2 ^ n) j (xR X j (m + 2) (V % (b * 2 ^ n))) (q' + 2 ^ (64 * j) * t) ∧ xR X j (m + 2) (V % (b * 2 ^ n)) < 2 ^ (64 * (L + 1)) ∧ q' + 2 ^ (64 * j) * t < 2 ^ (64 * N)) := zH ⟨v3, x3, q3⟩
    have ES := zH es
    have BB := zH bb0
    have HV := zH hV
    have V1 := zH v1
    have HT := zH ht
    have T64 := zH v2
    have ej : (((j + 1 : Nat) : Int) - 1) = (j : Int) := by omega
    rw [ej]
    have hji : (j : Int) < (N : Int) := by omega
    have n8 : IntKind.i64.wrap ((j : Int) - 1) = (j : Int) - 1 := zK _ (by omega) (by omega)
    have k1 : IntKind.i64.wrap ((j : Int) + ((m : Int) + 1)) = (j : Int) + ((m : Int) + 1) := zK _ (by omega) (by omega)
    have k2 : IntKind.i64.wrap ((j : Int) + ((m : Int) + 1) + 1) = (j : Int) + ((m : Int) + 1) + 1 := zK _ (by omega) (by omega)
    clear E1 E2 E3 hV v1 v2 v3 ht x3 es q3 bb0 ej
    go_wp2_with fail
    rw [show j + (m + 1) + 1 - j = m + 2 by omega]
    refine (l_digit wr g j m (L + 1 - j) (L + 1) X 23 r5 hfit y yd (b * 2 ^ n) w2.heap.size s5 hg (by omega) V HV.out V1.out BB.out t HT.out).mono ?_
    rintro e w6 ⟨rfl, r6, o6⟩
    have q6 := o6.row (show h ≠ g by omega) q5
    have s6 := s5.only o6 hg
    have c6 : Below w1.heap.size w1 w6 := o6.toBelow c5 (by omega) c5.size
    have c7 : w6.cell? ⟨h, j, none⟩ = some (.int .u64 (wd q' j : Nat)) := by rw [cell_of_row w6 h j _ _ _ q6, yS N q' j hjN]
    have f7 := fz (k := j) q6
    have RS : zS ((w6.setCell ⟨h, j, none⟩ (.int .u64 (t : Int))).heap[h]? = some (.cells (cw N (q' + 2 ^ (64 * j) * t)) 23)) := zH (by rw [z6 q6, cw_set N q' j t hjN T64.out, ES.out])
    have RG : zS ((w6.setCell ⟨h, j, none⟩ (.int .u64 (t : Int))).heap[g]? = some (.cells (cw (L + 1) (xR X j (m + 2) (V % (b * 2 ^ n)))) 23)) := zH (by rw [zG (show h ≠ g by omega)]; exact r6)
    have SS : zS (SL w2.heap.size (w6.setCell ⟨h, j, none⟩ (.int .u64 (t : Int))) y (m + 1) yd (b * 2 ^ n)) := zH (s6.only ((qP.refl h w6).setCell _) h2)
    have CS : zS (Below w1.heap.size w1 (w6.setCell ⟨h, j, none⟩ (.int .u64 (t : Int)))) := zH (c6.setCell (by show w1.heap.size ≤ h; omega) _)
    clear r5 q5 s5 c5 r6 o6 q6 s6 c6
    go_wp2
    go_roundw
    case rel => exact ⟨j, _, _, by omega, by first | rfl | go_num, RG.out, RS.out, SS.out, CS.out, NE⟩
    case measure => simp [intOf]
theorem num_fun : ∃ F : World → Value → Nat, ∀ (B : Nat) (w : World) (p : Option Addr) (L c n : Nat), SL B w p L c n → F w (.slice p L c) = n := by
 classical
 refine ⟨fun w v => if h : ∃ n B p L c, v = .slice p L c ∧ SL B w p L c n then Classical.choose h else 0, fun B w p L c n hn => ?_⟩
 have hex : ∃ n B p' L' c', Value.slice p L c = .slice p' L' c' ∧ SL B w p' L' c' n := ⟨n, B, p, L, c, rfl, hn⟩
 simp only [hex, dif_pos]
 obtain ⟨B', p', L', c', e, h'⟩ := Classical.choose_spec hex
 injection e with e1 e2 e3
 subst e1 e2 e3
 refine wd_ext h'.1 hn.1 (fun k hk => ?_)
 obtain ⟨b, o, rfl, _⟩ := hn.ptr (by omega)
 have h1 := h'.cell k _ hk rfl
 have h2 := hn.cell k _ hk rfl
 rw [h1] at h2
 simp only [Option.some.injEq, Value.int.injEq, true_and] at h2
 omega

theorem pn_div_ok (a b : Nat) (s t qv rv : ByteArray) (hs : yG a = s) (ht : yG b = t) (ha : nl a ≤ 16384) (hb : nl b ≤ 16384) (hb0 : b ≠ 0) (hq : yG (a / b) = qv) (hr : yG (a % b) = rv) (w : World) :
  Calls Tryz.prog 258 #[.string s, .string t] w fun r w' => r = .returned (.tuple #[.string qv, .string rv, .int .i64 0]) ∧ Below w.heap.size w w' := by
 have HO := zH (ok2 hs ht ha hb)
 have HS := zH hs
 have HT := zH ht
 have HA := zH ha
 have HB := zH hb
 have HB0 := zH hb0
 have HQ := zH hq
 have HR := zH hr
 have d2 := xX t
 rw [decide_eq_false (by rw [← ht, yE]; have := nl_pos b hb0; omega)] at d2
 obtain ⟨K, hK⟩ : ∃ K, wl a = K := ⟨_, rfl⟩
 obtain ⟨M, hM⟩ : ∃ M, wl b = M := ⟨_, rfl⟩
 obtain ⟨K1, hK1⟩ : ∃ N, wl (a / b) = N := ⟨_, rfl⟩
 obtain ⟨K2, hK2⟩ : ∃ N, wl (a % b) = N := ⟨_, rfl⟩
 have hK2' : K ≤ 2048 := by rw [← hK]; exact xU a ha
 have hM2 : M ≤ 2048 := by rw [← hM]; exact xU b hb
 have k1 : K1 ≤ 2048 := by rw [← hK1]; exact Nat.le_trans (wl_mono _ a (Nat.div_le_self _ _)) (by omega)
 have k2 : K2 ≤ 2048 := by rw [← hK2]; exact Nat.le_trans (wl_mono _ a (Nat.mod_le _ _)) (by omega)
 have HK := zH hK
 have HM := zH hM
 have HK1 := zH hK1
 have HK2 := zH hK2
 have b0 := yK w (.cells #[.string s, .string t] 39)
 clear hs ht ha hb hb0 hq hr hK hM hK1 hK2
 go_enter Tryz.func258, Tryz.ntmps258
 go_wp2_with fail
 refine (n_may2 s t true HO.out _ w).mono ?_
 rintro r w0 ⟨rfl, rfl⟩
 go_wp2_with fail
 refine (y9 a K s HS.out (by have := HA.out; omega) HK.out _).mono ?_
 rintro r w1 ⟨p, c, rfl, s1, b1⟩
 go_wp2_with fail
 refine (y9 b M t HT.out (by have := HB.out; omega) HM.out _).mono ?_
 rintro r w2 ⟨q, d, rfl, s2, b2⟩
 go_wp2_with fail
 refine (l_divide w2 p q K c a M d b w2.heap.size K1 K2 ((s1.below b2 (Nat.le_refl _)).mono b2.size) s2 (Nat.le_refl _) (by omega) (by omega) HM.out HB0.out HK1.out HK2.out).mono ?_
 rintro r w3 ⟨u, e, v, f, rfl, s3, t3, b3⟩
 go_wp2_with fail
 refine (l_natOf w3 u K1 e (a / b) _ qv s3 (Nat.le_refl _) (by omega) HQ.out).mono ?_
 rintro r w4 ⟨rfl, b4⟩
 go_wp2_with fail
 refine (l_natOf w4 v K2 f (a % b) _ rv (t3.below b4 (Nat.le_refl _)) b4.size (by omega) HR.out).mono ?_
 rintro r w5 ⟨rfl, b5⟩
 go_wp2
 go_ret3
 exact ⟨rfl, zO b0 (zO b1 (zO b2 (zO b3 (zO b4 b5))))⟩
end Go.Proofs.YtkblmpmkchkpjaaGreatDoor
