/-
  What the functions that the statement reaches return: part 18 (RA, RB, RC, RD, RE, RF, R10, R16, R18, SL, VL).
-/
import Derived.Deep.RegionHeld3
import Derived.Test.YtkblmpmkchkpjaaGreatDoorRows
import Derived.OpenShut
import Derived.LaidMore
import Derived.Lib.LaidTab
import Derived.Stop.Joined
import Derived.Stop.LaidErr
import Derived.Test.YtkblmpmkchkpjaaGreatDoorNe17
namespace Go.Proofs.YtkblmpmkchkpjaaGreatDoor
set_option maxRecDepth 100000
set_option maxHeartbeats 40000000
open Go.RowKit WMath XMath
set_option linter.unusedSimpArgs false
set_option linter.unusedVariables false
theorem odd_ne (x : Nat) : decide (x % 2 ^ (1 : Int).toNat ≠ 0) = decide (x % 2 = 1) := by
 rw [show (1 : Int).toNat = 1 from rfl, Nat.pow_one, decide_eq_decide]
 omega
theorem lg_is (x : Nat) (h : nl x ≤ 16384) : lg x = (yG x, 0) := by unfold lg; rw [if_pos h]
theorem kround (m : Int) (hm : 0 ≤ m ∧ m ≤ 4) (neg : Bool) (T La st : Int) (W k : Nat) (more : Bool) (ws rs : ByteArray) (hws : yG W = ws) (lw : nl W ≤ 8192) (s1 : -2000000 ≤ st) (s2 : st ≤ 2000000) (l1 : -2000000 ≤ La) (l2 : La ≤ 2000000) (hk : st - 1 - La = (k : Int)) (half mo : Bool) (hh : rH W k = half) (hmo : rM W k more = mo) (hr : yG (rG m neg W k more) = rs) (w : World) (hT2 : zN w) :
  Calls Tryz.prog 113 #[.int .u8 m, .agg #[.bool neg, .int .i64 T, .int .i64 La, .string ws, .bool more], .int .i64 st] w fun r w' => r = .returned (.agg #[.string rs, .int .i64 st, .bool half, .bool mo]) ∧ Below w.heap.size w w' := by
 have d1 : nl (W / 2 ^ k) ≤ 8192 := Nat.le_trans (xF _ _ (Nat.div_le_self _ _)) lw
 have d2 : nl (rS W k) ≤ 8192 := Nat.le_trans (xF _ _ (Nat.div_le_self _ _)) d1
 have d3 : nl (rS W k + 1) ≤ 16384 := by
  have q : z7 (rS W k + 1) ≤ z7 (rS W k) + 1 := (y6 _ _).2 (by
   have a := (y6 (rS W k) _).1 (Nat.le_refl _)
   have b := Nat.two_pow_pos (z7 (rS W k))
   rw [Nat.pow_succ]
   omega)
  unfold nl at d2 ⊢
  omega
 refine ru_round m st neg T La ws more (st - 1) (k : Int) 0 0 0 0 (yG (W / 2 ^ k)) (yG (rS W k)) (yG (rS W k / 2)) (yG (rS W k + 1)) rs (decide (W % 2 ^ k ≠ 0)) half (rO W k) (gO m neg (rO W k) half mo) mo w
  (zH (fun w hT => pn_right_ok W (k : Int) ws _ _ hws (by omega) (by omega) (by omega) (by rw [Int.toNat_natCast]) (by rw [Int.toNat_natCast]) w hT))
  (zH (fun w hT => pn_right_ok (W / 2 ^ k) 1 _ _ _ rfl (by omega) (by omega) (by omega) (by rw [show (1 : Int).toNat = 1 from rfl, Nat.pow_one]; rfl) (by rw [odd_ne]; exact hh) w hT))
  (zH (fun w hT => pn_right_ok (rS W k) 1 _ _ _ rfl (by omega) (by omega) (by omega) (by rw [show (1 : Int).toNat = 1 from rfl, Nat.pow_one]) (by rw [odd_ne]; rfl) w hT))
  (zH (fun w => ru_goesOn m hm neg _ _ _ _ rfl w))
  (zH (fun _ w => pn_add_ok (rS W k) 1 _ _ _ 0 rfl nb1 (by omega) nl1 (lg_is _ d3) w))
  (zK _ (by omega) (by omega)) (by rw [zK _ (by omega) (by omega)]; exact hk) ?_ ?_ hT2
 ·
  exact hmo
 ·
  rw [← hr]
  unfold rG
  rw [hh, hmo]
  split <;> rfl
theorem nl_W {f : Int} (hf : xH f) {W : Nat} (h : Wok f W) : nl W ≤ 8192 := by
 obtain ⟨n1, n2, n3, n4, n5, n6⟩ := nm8 hf
 have := qO W 17 (by
  have a := h.2
  have b : 2 ^ pV f ≤ 2 ^ 127 := Nat.pow_le_pow_right (by decide) (by omega)
  rw [show (2 : Nat) ^ (8 * 17) = 4 * 2 ^ 127 * 128 by decide]
  omega)
 omega
theorem k_emin (f : Int) (hf : xH f) (w : World) (hT : yF w) : Calls Tryz.prog 115 #[.int .u8 f] w fun r w' => r = .returned (.int .i64 (1 - fE f)) ∧ Below w.heap.size w w' :=
 s_emin f _ _ (yY hf).1 (yY hf).2.1 rfl (em_lim hf).2.2.2.2.1 w hT
theorem k_step (f : Int) (hf : xH f) (T : Int) (h1 : -1900000 ≤ T) (h2 : T ≤ 1900000) (v : Int) (hv : T - fP f + 1 = v) (w : World) (hT : yF w) : Calls Tryz.prog 114 #[.int .u8 f, .int .i64 T] w fun r w' => r = .returned (.int .i64 v) ∧ Below w.heap.size w w' := by
 have p := fp8 hf
 have n4 := (nm8 hf).2.2.2.1
 exact ru_stepAt f T (fP f) (T - fP f) v w (zH (fun w hT => qG f _ (yY hf).1 (yY hf).2.1 rfl w hT)) (zK _ (by omega) (by omega)) (by rw [zK _ (by omega) (by omega)]; exact hv) hT
theorem k_rtop (S l : Nat) (s : ByteArray) (hs : yG S = s) (ls : nl S ≤ 16384) (hl : z7 S = l) (st v : Int) (s1 : -2000000 ≤ st) (s2 : st ≤ 2000000) (half mo : Bool) (hv : st + (l : Int) - 1 = v) (w : World) : Calls Tryz.prog 116 #[.agg #[.string s, .int .i64 st, .bool half, .bool mo]] w fun r w' => r = .returned (.int .i64 v) ∧ Below w.heap.size w w' := by
 have : l ≤ 131072 + 7 := by rw [← hl]; unfold nl at ls; omega
 exact ru_rtop s st half mo l (st + l) v w (zH (fun w => y7 S l s hs ls hl w)) (zK _ (by omega) (by omega)) (by rw [zK _ (by omega) (by omega)]; exact hv)
theorem ktiny (f m : Int) (hf : xH f) (hm : 0 ≤ m ∧ m ≤ 4) (neg : Bool) (T : Int) (h1 : -1300000 ≤ T) (h2 : T ≤ 1300000) (W : Nat) (more : Bool) (hW : Wok f W) (ws : ByteArray) (hws : yG W = ws) (La : Int) (hLa : T - fP f = La) (o : Bool) (ho : tnB f m neg T W more = o) (w : World) (hT : yF w) (hT2 : zN w) :
  Calls Tryz.prog 120 #[.int .u8 f, .int .u8 m, .agg #[.bool neg, .int .i64 T, .int .i64 La, .string ws, .bool more]] w fun r w' => r = .returned (.bool o) ∧ Below w.heap.size w w' := by
 have p := fp8 hf
 obtain ⟨n1, n2, n3, n4, n5, n6⟩ := nm8 hf
 have lim := (rG_lim hW m neg 0 more).1
 exact ru_tiny f m neg T La ws more (1 - fE f) (T - fP f + 1) (T - fP f + 1 + (z7 (rG m neg W 0 more) : Int) - 1) _ _ _ o w
  (zH (fun w hT => k_emin f hf w hT)) (zH (fun w hT => k_step f hf T (by omega) (by omega) _ rfl w hT))
  (zH (fun w hT => kround m hm neg T La (T - fP f + 1) W 0 more ws _ hws (nl_W hf hW) (by omega) (by omega) (by omega) (by omega) (by omega) _ _ rfl rfl rfl w hT))
  (zH (fun w => k_rtop _ _ _ rfl (nl_small hf _ lim) rfl _ _ (by omega) (by omega) _ _ rfl w)) (by
   rw [← ho]
   unfold tnB
   rw [decide_eq_decide]
   omega) hT hT2
theorem eS_flip {f : Int} (hf : xH f) (j S : Nat) (hS : j * 2 ^ pV f + S < 2 ^ wV f) : sgB f (eS f false j S) true = eS f true j S := by
 unfold eS
 rw [if_neg (by decide), Nat.add_zero, sgB_low hS]
theorem eS_lt {f : Int} (hf : xH f) (j S : Nat) (hS : S ≤ 2 * 2 ^ pV f) (hj : j = 0 ∨ 2 ^ pV f ≤ S) (ht : lx f + (j : Int) - 1 + (z7 S : Int) ≤ fE f) : j * 2 ^ pV f + S < 2 ^ wV f := by
 obtain ⟨g1, g2, g3, g4, g5, g6, g7⟩ := fm hf
 have p := Nat.two_pow_pos (pV f)
 by_cases s0 : S = 0
 ·
  obtain rfl : j = 0 := by omega
  subst s0
  rw [Nat.zero_mul]
  exact Nat.two_pow_pos _
 obtain ⟨e, t, he, htt, nz, h1, h2⟩ := rep hf j S s0 hS hj ht
 have := h1 false
 unfold yQ eS at this
 rw [if_neg (by decide), Nat.add_zero, Nat.add_zero] at this
 rw [← this, g1]
 have := Nat.mul_le_mul_right (2 ^ pV f) (show e + 1 ≤ oV f + 1 by omega)
 rw [Nat.add_mul, Nat.one_mul] at this
 omega
theorem kencoded (f : Int) (hf : xH f) (neg : Bool) (j S : Nat) (s : ByteArray) (hs : yG S = s) (st : Int) (hst : st = lx f + (j : Int)) (hS : S ≤ 2 * 2 ^ pV f) (hj : j = 0 ∨ 2 ^ pV f ≤ S) (ht : lx f + (j : Int) - 1 + (z7 S : Int) ≤ fE f) (half mo : Bool) (u v : Nat) (hv : bv7 (eS f neg j S) = (u, v)) (w : World) (hT : yF w) (hT2 : zN w) :
  Calls Tryz.prog 119 #[.int .u8 f, .bool neg, .agg #[.string s, .int .i64 st, .bool half, .bool mo]] w fun r w' => r = .returned (.agg #[.int .u64 u, .int .u64 v]) ∧ Below w.heap.size w w' := by
 obtain ⟨n1, n2, n3, n4, n5, n6⟩ := nm8 hf
 obtain ⟨g1, g2, g3, g4, g5, g6, g7⟩ := fm hf
 have elt := eS_lt hf j S hS hj ht
 have e0 : eS f false j S = j * 2 ^ pV f + S := by unfold eS; rw [if_neg (by decide), Nat.add_zero]
 have lim : eS f false j S < 340282366920938463463374607431768211456 := by omega
 have j4 : j ≤ 40000 := by
  rcases hj with h | h
  ·
   omega
  ·
   have := (blen_low S (by have := Nat.two_pow_pos (pV f); omega)).1
   omega
 obtain ⟨x, hx, xc, hof⟩ : ∃ x : XN, mk false S 1 st = (x, 0) ∧ x.can ∧ ofX f x = (eS f false j S, true) := by
  by_cases s0 : S = 0
  ·
   subst s0
   obtain rfl : j = 0 := by have := Nat.two_pow_pos (pV f); omega
   refine ⟨X0, mk_null _ _ _, x0_can, ?_⟩
   rw [e0]
   unfold ofX
   rw [if_pos (show X0.n = 0 from rfl), Nat.zero_mul]
  ·
   obtain ⟨a, b, c, d⟩ := mk_small hf false j S s0 hS j4
   exact ⟨_, by rw [hst]; exact a, b, of_rep hf false j S s0 hS hj ht⟩
 obtain ⟨xb, xn, xd, xe⟩ := x
 obtain ⟨i, k, hik⟩ : ∃ i k, bv7 (eS f false j S) = (i, k) := ⟨_, _, rfl⟩
 obtain ⟨i1, i2, i3⟩ := bv_lt lim hik
 have KM : zS (∀ w, zN w → Calls Tryz.prog 130 #[.bool false, .string s, .string ⟨#[1]⟩, .int .i64 st] w fun r w' => r = .returned (.tuple #[.agg #[.bool xb, .string (yG xn), .string (yG xd), .int .i64 xe], .int .i64 0]) ∧ Below w.heap.size w w') := zH (fun w hT => makex_ok false S 1 st s _ xb xn xd xe 0 _ _ hs nb1 (nl_small hf S hS) nl1 (by decide) (by omega) (by omega) hx rfl rfl w hT)
 have KO : zS (∀ w, yF w → zN w → Calls Tryz.prog 204 #[.int .u8 f, .agg #[.bool xb, .string (yG xn), .string (yG xd), .int .i64 xe]] w fun r w' => r = .returned (.tuple #[.agg #[.int .u64 i, .int .u64 k], .bool true, .int .i64 0]) ∧ Below w.heap.size w w') := zH (fun w hT hT2 => kOf_is f hf xb xn xd _ _ xe rfl rfl xc _ true i k hof hik w hT hT2)
 cases neg
 ·
  rw [hik] at hv
  injection hv with a b
  subst a b
  exact ru_encoded_pos f s st half mo xb _ _ xe 0 i k true 0 w KM KO hT hT2
 ·
  exact ru_encoded_neg f s st half mo xb _ _ xe 0 i k u v true 0 w KM KO (zH (fun w hT => kFlip_yes f hf i k _ u v i1 i2 i3 (by unfold okB; rw [decide_eq_true_iff]; exact ⟨by rcases hf with rfl | rfl | rfl | rfl <;> decide, by omega⟩) (by rw [eS_flip hf j S elt]; exact hv) w hT)) hT hT2
theorem kbeyond (f m : Int) (hf : xH f) (hm : 0 ≤ m ∧ m ≤ 4) (neg : Bool) (u v : Nat) (hv : bv7 (ovB f m neg) = (u, v)) (w : World) (hT : yF w) : Calls Tryz.prog 118 #[.int .u8 f, .int .u8 m, .bool neg] w fun r w' => r = .returned (.agg #[.int .u64 u, .int .u64 v]) ∧ Below w.heap.size w w' := by
 refine ru_beyond f m neg (gO m neg false true true) u v w (zH (fun w => ru_goesOn m hm neg false true true _ rfl w)) (zH (fun h w hT => sk_inf f neg hf u v ?_ w hT)) (zH (fun h w hT => ?_)) hT
 ·
  unfold ovB at hv; rw [if_pos h] at hv; exact hv
 ·
  unfold ovB at hv
  rw [if_neg (by rw [h]; decide)] at hv
  have := s_greatest f neg hf _ rfl w hT
  rw [hv] at this
  exact this
theorem kdelivered (f m : Int) (hf : xH f) (hm : 0 ≤ m ∧ m ≤ 4) (neg : Bool) (T : Int) (h1 : -1300000 ≤ T) (h2 : T ≤ 1300000) (W : Nat) (more : Bool) (hW : Wok f W) (ws : ByteArray) (hws : yG W = ws) (La : Int) (hLa : T - fP f = La) (M : Nat) (fl : Int) (hd : dlv f m neg T W more = (M, fl)) (u v : Nat) (hv : bv7 M = (u, v)) (w : World) (hT : yF w) (hT2 : zN w) :
  Calls Tryz.prog 49 #[.int .u8 f, .int .u8 m, .agg #[.bool neg, .int .i64 T, .int .i64 La, .string ws, .bool more]] w fun r w' => r = .returned (.tuple #[.agg #[.int .u64 u, .int .u64 v], .int .u8 fl]) ∧ Below w.heap.size w w' := by
 have p := fp8 hf
 obtain ⟨n1, n2, n3, n4, n5, n6⟩ := nm8 hf
 have lim := rG_lim hW m neg (dK f T) more
 obtain ⟨S, hS⟩ : ∃ S, rG m neg W (dK f T) more = S := ⟨_, rfl⟩
 have stx := st_lx hf T
 have kk : stE f T - T = (dK f T : Int) := by unfold dK stE; omega
 have sl : -1300000 ≤ stE f T ∧ stE f T ≤ 1300000 := by unfold stE; omega
 unfold dlv at hd
 rw [hS] at hd lim
 have hj : dJ f T = 0 ∨ 2 ^ pV f ≤ S := by
  rcases jk (f := f) T with ⟨a, _⟩ | ⟨a, _⟩
  ·
   exact Or.inl a
  ·
   exact Or.inr (lim.2.1 a)
 refine ru_delivered f m neg T La ws more (1 - fE f) (stE f T - fP f + 1) (stE f T - fP f + (z7 S : Int)) (fE f) fl (yG S) (rH W (dK f T)) (rM W (dK f T) more) (decide (fE f < stE f T - fP f + (z7 S : Int))) (tnB f m neg T W more) u v w
  (zH (fun w hT => k_emin f hf w hT)) (zH (fun w hT => k_step f hf (max T (1 - fE f)) (by unfold stE at sl; omega) (by unfold stE at sl; omega) _ rfl w hT))
  (zH (fun w hT => kround m hm neg T La _ W (dK f T) more ws _ hws (nl_W hf hW) (by omega) (by omega) (by omega) (by omega) (by omega) _ _ rfl rfl (by rw [hS]) w hT))
  (zH (fun w => k_rtop S _ _ rfl (nl_small hf _ lim.1) rfl _ _ (by omega) (by omega) _ _ (by omega) w))
  (zH (fun w hT => kb_emax f _ (yY hf).1 (yY hf).2.1 rfl w hT))
  (zH (fun h w hT => kbeyond f m hf hm neg u v (by
   rw [if_pos (of_decide_eq_true h)] at hd
   injection hd with a b
   rw [a]; exact hv) w hT))
  (zH (fun h w hT hT2 => kencoded f hf neg (dJ f T) S _ rfl _ stx lim.1 hj (by have := of_decide_eq_false h; omega) _ _ u v (by
   rw [if_neg (of_decide_eq_false h)] at hd
   injection hd with a b
   rw [a]; exact hv) w hT hT2))
  (zH (fun w hT hT2 => ktiny f m hf hm neg T h1 h2 W more hW ws hws La hLa _ rfl w hT hT2)) rfl ?_ hT hT2
 by_cases c : fE f < stE f T - fP f + (z7 S : Int)
 ·
  rw [if_pos c] at hd
  injection hd with a b
  rw [if_pos (decide_eq_true c)]
  exact b
 ·
  rw [if_neg c] at hd
  injection hd with a b
  rw [if_neg (by simpa using c)]
  exact b
theorem kencoded0 (f : Int) (hf : xH f) (st : Int) (s1 : -1000000 ≤ st) (s2 : st ≤ 1000000) (half mo : Bool) (w : World) (hT : yF w) (hT2 : zN w) :
  Calls Tryz.prog 119 #[.int .u8 f, .bool false, .agg #[.string ⟨#[]⟩, .int .i64 st, .bool half, .bool mo]] w fun r w' => r = .returned (.agg #[.int .u64 ((0 : Nat) : Nat), .int .u64 ((0 : Nat) : Nat)]) ∧ Below w.heap.size w w' := by
 have hx : XMath.mk false 0 1 st = (⟨false, 0, 1, 0⟩, 0) := mk_null _ _ _
 have hof : ofX f ⟨false, 0, 1, 0⟩ = (0, true) := by unfold ofX; rw [if_pos rfl]
 exact ru_encoded_pos f _ st half mo false _ _ 0 0 0 0 true 0 w (zH (fun w hT => makex_ok false 0 1 st _ _ false 0 1 0 0 _ _ yM nb1 nl0 nl1 (by decide) (by omega) (by omega) hx rfl rfl w hT)) (zH (fun w hT hT2 => kOf_is f hf false 0 1 _ _ 0 rfl rfl x0_can 0 true 0 0 hof rfl w hT hT2)) hT hT2
theorem kdelivered0 (f m : Int) (hf : xH f) (hm : 0 ≤ m ∧ m ≤ 4) (La : Int) (hLa : 0 - fP f = La) (w : World) (hT : yF w) (hT2 : zN w) :
  Calls Tryz.prog 49 #[.int .u8 f, .int .u8 m, .agg #[.bool false, .int .i64 0, .int .i64 La, .string ⟨#[]⟩, .bool false]] w fun r w' => r = .returned (.tuple #[.agg #[.int .u64 ((0 : Nat) : Nat), .int .u64 ((0 : Nat) : Nat)], .int .u8 0]) ∧ Below w.heap.size w w' := by
 have p := fp8 hf
 obtain ⟨n1, n2, n3, n4, n5, n6⟩ := nm8 hf
 have b0 : z7 0 = 0 := by decide
 have e1 : 1 ≤ fE f := by rcases hf with rfl | rfl | rfl | rfl <;> decide
 have g0 : ∀ m, rG m false 0 0 false = 0 := fun m => by
  unfold rG gO rS rH rM rO
  simp
 have h0 : rH 0 0 = false := rfl
 have m0 : rM 0 0 false = false := rfl
 have mx : max 0 (1 - fE f) = 0 := by omega
 have hR : zS (∀ w, zN w → Calls Tryz.prog 113 #[.int .u8 m, .agg #[.bool false, .int .i64 0, .int .i64 La, .string ⟨#[]⟩, .bool false], .int .i64 (0 - fP f + 1)] w fun r w' => r = .returned (.agg #[.string ⟨#[]⟩, .int .i64 (0 - fP f + 1), .bool false, .bool false]) ∧ Below w.heap.size w w') :=
  zH (fun w hT => kround m hm false 0 La _ 0 0 false _ _ yM (by rw [nl_zero]; decide) (by omega) (by omega) (by omega) (by omega) (by omega) false false h0 m0 (by rw [g0]; exact yM) w hT)
 have KT : zS (∀ w, Calls Tryz.prog 116 #[.agg #[.string ⟨#[]⟩, .int .i64 (0 - fP f + 1), .bool false, .bool false]] w fun r w' => r = .returned (.int .i64 (0 - fP f)) ∧ Below w.heap.size w w') := zH (fun w => k_rtop 0 0 _ yM nl0 b0 _ _ (by omega) (by omega) _ _ (by omega) w)
 exact ru_delivered f m false 0 La _ false (1 - fE f) (0 - fP f + 1) (0 - fP f) (fE f) 0 _ false false false (decide (0 - fP f < 1 - fE f)) 0 0 w
  (zH (fun w hT => k_emin f hf w hT)) (zH (fun w hT => by rw [mx]; exact k_step f hf 0 (by omega) (by omega) _ rfl w hT)) hR KT
  (zH (fun w hT => kb_emax f _ (yY hf).1 (yY hf).2.1 rfl w hT)) (zH (fun h => Bool.noConfusion h)) (zH (fun h w hT hT2 => kencoded0 f hf _ (by omega) (by omega) _ _ w hT hT2))
  (zH (fun w hT hT2 => ru_tiny f m false 0 La _ false (1 - fE f) (0 - fP f + 1) (0 - fP f) _ _ _ _ w (zH (fun w hT => k_emin f hf w hT)) (zH (fun w hT => k_step f hf 0 (by omega) (by omega) _ rfl w hT)) hR KT rfl hT hT2))
  (by rw [decide_eq_false_iff_not]; omega) rfl hT hT2
theorem xW_is {f : Int} (x : XN) (h : (flX x (yI x - fP f)).2 = 0) : flX x (yI x - fP f) = ((xW f x, !xM f x), 0) := by
 unfold xW xM
 rw [Bool.not_not, ← h]
theorem kofExact (f : Int) (hf : xH f) (b : Bool) (n d : Nat) (s t : ByteArray) (e : Int) (hs : yG n = s) (ht : yG d = t) (hc : (XN.mk b n d e).can) (n0 : n ≠ 0) (ld : nl d ≤ 8192) (T La : Int) (hTop : yI ⟨b, n, d, e⟩ = T) (hLa : T - fP f = La) (W : Nat) (ws : ByteArray) (more : Bool) (hW : xW f ⟨b, n, d, e⟩ = W) (hM : xM f ⟨b, n, d, e⟩ = more) (hws : yG W = ws) (w : World) (hT : yF w) (hT2 : zN w) :
  Calls Tryz.prog 50 #[.int .u8 f, .agg #[.bool b, .string s, .string t, .int .i64 e]] w fun r w' => r = .returned (.agg #[.bool b, .int .i64 T, .int .i64 La, .string ws, .bool more]) ∧ Below w.heap.size w w' := by
 have p := fp8 hf
 have n4 := (nm8 hf).2.2.2.1
 obtain ⟨t1, t2⟩ := top_lim hc
 rw [hTop] at t1 t2
 have ok := fl_ok (XN.mk b n d e) (yI ⟨b, n, d, e⟩ - fP f) n0 ld (by omega) (by omega) (by omega)
 have fi := xW_is (f := f) (XN.mk b n d e) ok
 rw [hTop, hLa, hW, hM] at fi
 exact ru_ofExact f b s t e T La ws more w (zH (fun w hT => ru_topOf b s t e T 0 w (zH (fun w hT => Topx_ok b n d e s t T hs ht n0 hc hTop w hT)) hT))
  (zH (fun w hT hT2 => ru_known1 f b T (T - fP f + 1) La b s t e ws (!more) more w (zH (fun w hT => k_step f hf T (by omega) (by omega) _ rfl w hT)) (by rw [zK _ (by omega) (by omega)]; omega) (Bool.not_not _)
   (zH (fun w hT => ru_ratio b s t e La 0 ws _ w (zH (fun w hT => Floorx_ok b n d e s t La W _ 0 ws hs ht hc (by omega) (by omega) fi hws w hT)) hT)) hT hT2)) hT hT2
theorem kofExact0 (f : Int) (hf : xH f) (La : Int) (hLa : 0 - fP f = La) (w : World) (hT : yF w) (hT2 : zN w) :
  Calls Tryz.prog 50 #[.int .u8 f, .agg #[.bool false, .string ⟨#[]⟩, .string ⟨#[1]⟩, .int .i64 0]] w fun r w' => r = .returned (.agg #[.bool false, .int .i64 0, .int .i64 La, .string ⟨#[]⟩, .bool false]) ∧ Below w.heap.size w w' := by
 have p := fp8 hf
 have n4 := (nm8 hf).2.2.2.1
 have fi : flX (XN.mk false 0 1 0) La = ((0, true), 0) := by unfold flX; rw [if_neg (by omega), if_pos rfl]
 exact ru_ofExact f false _ _ 0 0 La _ false w (zH (fun w hT => ru_topOf false _ _ 0 0 2 w (zH (fun w hT => Topx_null w hT)) hT))
  (zH (fun w hT hT2 => ru_known1 f false 0 (0 - fP f + 1) La false _ _ 0 _ true false w (zH (fun w hT => k_step f hf 0 (by omega) (by omega) _ rfl w hT)) (by rw [zK _ (by omega) (by omega)]; omega) rfl
   (zH (fun w hT => ru_ratio false _ _ 0 La 0 _ _ w (zH (fun w hT => Floorx_ok false 0 1 0 _ _ La 0 _ 0 _ yM nb1 x0_can (by omega) (by omega) fi yM w hT)) hT)) hT hT2)) hT hT2
def RtN (f : Int) (x : XN) (W : Nat) (more : Bool) : Prop := ∀ k : Nat, yI x / 2 - fP f + (k : Int) ≤ 1000000 → ∃ N ex, flX x (2 * (yI x / 2 - fP f + (k : Int))) = ((N, ex), 0) ∧ RootIs N (W / 2 ^ k) ∧ (ex && decide (N - W / 2 ^ k * (W / 2 ^ k) = 0)) = (!more && decide (W % 2 ^ k = 0))
def Fnd (f : Int) (x : XN) (root : Bool) (T : Int) (W : Nat) (more : Bool) : Prop :=
  if root = true then T = yI x / 2 ∧ RtN f x W more else T = yI x ∧ ∀ k : Nat, T - fP f + (k : Int) ≤ 2000000 → flX x (T - fP f + (k : Int)) = ((W / 2 ^ k, !more && decide (W % 2 ^ k = 0)), 0)
end Go.Proofs.YtkblmpmkchkpjaaGreatDoor
namespace Go.Proofs.YtkblmpmkchkpjaaGreatDoor
set_option maxRecDepth 100000
set_option maxHeartbeats 40000000
open Go.RowKit WMath
set_option linter.unusedSimpArgs false
set_option linter.unusedVariables false
theorem ru_Round_ok (f m : Int) (b : Bool) (s t : ByteArray) (e : Int) (nb : Bool) (T La : Int) (ws : ByteArray) (more : Bool) (u v : Nat) (fl : Int) (w : World)
  (KC : zS (∀ w, zN w → Calls Tryz.prog 48 #[.int .u8 f, .int .u8 m, .agg #[.bool b, .string s, .string t, .int .i64 e]] w fun r w' => r = .returned (.int .i64 0) ∧ Below w.heap.size w w'))
  (KX : zS (∀ w, yF w → zN w → Calls Tryz.prog 50 #[.int .u8 f, .agg #[.bool b, .string s, .string t, .int .i64 e]] w fun r w' => r = .returned (.agg #[.bool nb, .int .i64 T, .int .i64 La, .string ws, .bool more]) ∧ Below w.heap.size w w'))
  (KD : zS (∀ w, yF w → zN w → Calls Tryz.prog 49 #[.int .u8 f, .int .u8 m, .agg #[.bool nb, .int .i64 T, .int .i64 La, .string ws, .bool more]] w fun r w' => r = .returned (.tuple #[.agg #[.int .u64 u, .int .u64 v], .int .u8 fl]) ∧ Below w.heap.size w w'))
  (hT : yF w) (hT2 : zN w) : Calls Tryz.prog 18 #[.int .u8 f, .int .u8 m, .agg #[.bool b, .string s, .string t, .int .i64 e]] w fun r w' => r = .returned (.tuple #[.agg #[.int .u64 u, .int .u64 v], .int .u8 fl, .int .i64 0]) ∧ Below w.heap.size w w' := by
 have FF := zH hT
 have TT := zH hT2
 clear hT hT2
 obtain ⟨Ah, Ai, B0⟩ := qW w (Obj.cells #[.bool b, .string s, .string t, .int .i64 e] 41) (Obj.cells #[.int .u64 0, .int .u64 0] 25)
 go_enter Tryz.func18, Tryz.ntmps18
 go_wp2_with fail
 refine (KC.out _ (zV TT.out B0)).mono ?_
 rintro r w1 ⟨rfl, b1⟩
 have B1 := zO B0 b1
 obtain ⟨Ad, Ae⟩ := yB b1 Ah Ai
 clear b1 B0 Ah Ai
 obtain ⟨Aj, Ak, Al, Am⟩ := zC Ad
 obtain ⟨An, Ao⟩ := zF Ae
 go_wp2_with fail
 refine (KX.out _ (zW FF.out B1) (zV TT.out B1)).mono ?_
 rintro r w2 ⟨rfl, b2⟩
 have B2 := zO B1 b2
 obtain ⟨Af, Ag⟩ := yB b2 Ad Ae
 clear b2 B1 Ad Aj Ak Al Am Ae An Ao
 obtain ⟨Ap, Aq, Ar, As⟩ := zC Af
 obtain ⟨At, Au⟩ := zF Ag
 go_wp2_with fail
 refine (KD.out _ (zW FF.out B2) (zV TT.out B2)).mono ?_
 rintro r w3 ⟨rfl, b3⟩
 have B3 := zO B2 b3
 obtain ⟨Aa, Ab⟩ := yB b3 Af Ag
 clear b3 B2 Af Ap Aq Ar As Ag At Au
 obtain ⟨Av, Aw, Ax, Ay⟩ := zC Aa
 obtain ⟨Az, AA⟩ := zF Ab
 have S4 := zH B3.size
 have AB := z8 Aa
 have AC := z8 Ab
 have AD := heap_alloc_last w3 (Obj.cells #[.int .u64 u, .int .u64 v] 25)
 have B4 := zO B3 (yK w3 (Obj.cells #[.int .u64 u, .int .u64 v] 25))
 obtain ⟨AE, Ac⟩ := yB (yK w3 (Obj.cells #[.int .u64 u, .int .u64 v] 25)) Aa Ab
 clear B3 Aa Av Aw Ax Ay Ab Az AA
 obtain ⟨AF, AG, AH, AI⟩ := zC AE
 obtain ⟨AJ, AK⟩ := zF Ac
 obtain ⟨AL, AM⟩ := zF AD
 have q0 := fz (k := 0) Ac
 have q1 := fz (k := 1) Ac
 obtain ⟨E0, E1⟩ := yH Ac (.int .u64 u) (.int .u64 v)
 go_wp2
 exact bodyPost_ret (v := .tuple #[.agg #[.int .u64 u, .int .u64 v], .int .u8 fl, .int .i64 0]) (by simp [results, Tryz.results18, go_sem, E0, E1]) rfl ⟨rfl, zY B4 (by first | exact Nat.le_refl _ | omega | (have := S4.out; have := AB.out; have := AC.out; omega)) _ _⟩
end Go.Proofs.YtkblmpmkchkpjaaGreatDoor
namespace Go.Proofs.YtkblmpmkchkpjaaGreatDoor
set_option maxRecDepth 100000
set_option maxHeartbeats 40000000
open Go.RowKit WMath XMath
set_option linter.unusedSimpArgs false
set_option linter.unusedVariables false
def flt (f m : Int) (may : Bool) (s t : ByteArray) : Int := if f ≤ 3 ∧ m ≤ 4 ∧ may = true then (if 8192 < s.size ∨ 8192 < t.size then 4 else 0) else 2
theorem k_mode (m c : Int) (hc : (if m ≤ 4 then (0 : Int) else 2) = c) (w : World) : Calls Tryz.prog 112 #[.int .u8 m] w fun r w' => r = .returned (.int .i64 c) ∧ Below w.heap.size w w' := by
 subst hc
 exact bel_same (s_checkMode m w)
theorem k_form (f : Int) (h0 : 0 ≤ f) (h1 : f ≤ 255) (c : Int) (hc : (if f ≤ 3 then (0 : Int) else 2) = c) (w : World) : Calls Tryz.prog 37 #[.int .u8 f] w fun r w' => r = .returned (.int .i64 c) ∧ Below w.heap.size w w' := by
 refine bel_same (xI f c h0 h1 ?_ w)
 rw [← hc]
 by_cases h : f ≤ 3
 ·
  rw [if_pos h]; exact fC_yes (is4_of h0 h)
 ·
  rw [if_neg h]; exact fC_no h0 (by unfold xH; omega)
theorem kcheck (f m : Int) (h0 : 0 ≤ f) (h1 : f ≤ 255) (b : Bool) (s t : ByteArray) (e : Int) (may : Bool) (hm : IsM may b s t e) (c : Int) (hc : flt f m may s t = c) (w : World) (hT2 : zN w) : Calls Tryz.prog 48 #[.int .u8 f, .int .u8 m, .agg #[.bool b, .string s, .string t, .int .i64 e]] w fun r w' => r = .returned (.int .i64 c) ∧ Below w.heap.size w w' := by
 have K1 : zS (∀ w, Calls Tryz.prog 37 #[.int .u8 f] w fun r w' => r = .returned (.int .i64 (if f ≤ 3 then (0 : Int) else 2)) ∧ Below w.heap.size w w') := zH (fun w => k_form f h0 h1 _ rfl w)
 have K2 : zS (∀ w, Calls Tryz.prog 112 #[.int .u8 m] w fun r w' => r = .returned (.int .i64 (if m ≤ 4 then (0 : Int) else 2)) ∧ Below w.heap.size w w') := zH (fun w => k_mode m _ rfl w)
 have K3 : zS (∀ w, zN w → Calls Tryz.prog 110 #[.agg #[.bool b, .string s, .string t, .int .i64 e]] w fun r w' => r = .returned (.int .i64 (if may then (0 : Int) else 2)) ∧ Below w.heap.size w w') := zH (fun w hT => xcheckM b s t e may hm _ rfl w hT)
 unfold flt at hc
 by_cases c1 : f ≤ 3
 ·
  rw [if_pos c1] at K1
  by_cases c2 : m ≤ 4
  ·
   rw [if_pos c2] at K2
   cases may
   ·
    rw [if_neg (by simp)] at hc
    subst hc
    exact ru_check_c f m b s t e 0 0 2 w K1 K2 K3 (by decide) (by decide) (by decide) hT2
   ·
    rw [if_pos ⟨c1, c2, rfl⟩] at hc
    by_cases c4 : 8192 < s.size
    ·
     rw [if_pos (Or.inl c4)] at hc
     subst hc
     exact ru_check_d f m b s t e 0 0 0 w K1 K2 K3 (by decide) (by decide) (by decide) (decide_eq_true (by omega)) hT2
    ·
     by_cases c5 : 8192 < t.size
     ·
      rw [if_pos (Or.inr c5)] at hc
      subst hc
      exact ru_check_e f m b s t e 0 0 0 w K1 K2 K3 (by decide) (by decide) (by decide) (decide_eq_false (by omega)) (decide_eq_true (by omega)) hT2
     ·
      rw [if_neg (by omega)] at hc
      subst hc
      exact ru_check_f f m b s t e 0 0 0 w K1 K2 K3 (by decide) (by decide) (by decide) (decide_eq_false (by omega)) (decide_eq_false (by omega)) hT2
  ·
   rw [if_neg c2] at K2
   rw [if_neg (by omega)] at hc
   subst hc
   exact ru_check_b f m b s t e 0 2 _ w K1 K2 K3 (by decide) (by decide) hT2
 ·
  rw [if_neg c1] at K1
  rw [if_neg (by omega)] at hc
  subst hc
  exact ru_check_a f m b s t e 2 _ _ w K1 K2 K3 (by decide) hT2
theorem flt_ok {f m : Int} (hf : xH f) (hm : 0 ≤ m ∧ m ≤ 4) {n d : Nat} {s t : ByteArray} (hs : yG n = s) (ht : yG d = t) (ln : nl n ≤ 8192) (ld : nl d ≤ 8192) : flt f m true s t = 0 := by
 have a : s.size = nl n := by rw [← hs, yE]
 have c : t.size = nl d := by rw [← ht, yE]
 have f3 : f ≤ 3 := by rcases hf with rfl | rfl | rfl | rfl <;> decide
 unfold flt
 rw [if_pos ⟨f3, hm.2, rfl⟩, if_neg (by omega)]
def rnd (f m : Int) (x : XN) : Nat × Int := if x.n = 0 then (0, 0) else dlv f m x.b (yI x) (xW f x) (xM f x)
theorem fnd_x {f : Int} (hf : xH f) {x : XN} (hx : x.can) (n0 : x.n ≠ 0) (hd : nl x.d ≤ 8192) : Wok f (xW f x) ∧ Fnd f x false (yI x) (xW f x) (xM f x) := by
 obtain ⟨t1, t2⟩ := top_lim hx
 obtain ⟨a, b⟩ := x_num hf x hx n0 hd t1 t2
 refine ⟨a, ?_⟩
 unfold Fnd
 rw [if_neg (by decide)]
 exact ⟨rfl, b⟩
theorem kRound_is (f m : Int) (hf : xH f) (hm : 0 ≤ m ∧ m ≤ 4) (b : Bool) (n d : Nat) (s t : ByteArray) (e : Int) (hs : yG n = s) (ht : yG d = t) (hc : (XN.mk b n d e).can) (ln : nl n ≤ 8192) (ld : nl d ≤ 8192) (M : Nat) (fl : Int) (hd : rnd f m ⟨b, n, d, e⟩ = (M, fl)) (u v : Nat) (hv : bv7 M = (u, v)) (w : World) (hT : yF w) (hT2 : zN w) :
  Calls Tryz.prog 18 #[.int .u8 f, .int .u8 m, .agg #[.bool b, .string s, .string t, .int .i64 e]] w fun r w' => r = .returned (.tuple #[.agg #[.int .u64 u, .int .u64 v], .int .u8 fl, .int .i64 0]) ∧ Below w.heap.size w w' := by
 have f4 := yY hf
 have KC : zS (∀ w, zN w → Calls Tryz.prog 48 #[.int .u8 f, .int .u8 m, .agg #[.bool b, .string s, .string t, .int .i64 e]] w fun r w' => r = .returned (.int .i64 0) ∧ Below w.heap.size w w') := zH (fun w hT => kcheck f m f4.1 f4.2.1 b s t e true (qQ hs ht hc) 0 (flt_ok hf hm hs ht ln ld) w hT)
 unfold rnd at hd
 rcases x_cases hs ht hc with ⟨n0, rfl, rfl, rfl, rfl, rfl⟩ | ⟨n0, e0⟩
 ·
  rw [if_pos n0] at hd
  injection hd with h1 h2
  subst h1 h2
  injection hv with h3 h4
  subst h3 h4
  exact ru_Round_ok f m _ _ _ _ _ _ _ _ _ 0 0 0 w KC (zH (fun w hT hT2 => kofExact0 f hf _ rfl w hT hT2)) (zH (fun w hT hT2 => kdelivered0 f m hf hm _ rfl w hT hT2)) hT hT2
 ·
  rw [if_neg n0] at hd
  obtain ⟨t1, t2⟩ := top_lim hc
  exact ru_Round_ok f m b s t e _ _ _ _ _ u v fl w KC (zH (fun w hT hT2 => kofExact f hf b n d s t e hs ht hc n0 ld _ _ rfl rfl _ _ _ rfl rfl rfl w hT hT2))
   (zH (fun w hT hT2 => kdelivered f m hf hm b _ (by omega) (by omega) _ _ (fnd_x hf hc n0 ld).1 _ rfl _ rfl M fl hd u v hv w hT hT2)) hT hT2
theorem may_part {may : Bool} {b : Bool} {s t : ByteArray} {e : Int} (hm : IsM may b s t e) (h : may = true) : ∃ n d, yG n = s ∧ yG d = t ∧ (XN.mk b n d e).can := hm.1 h
theorem may_any (b : Bool) (s t : ByteArray) (e : Int) : ∃ may, IsM may b s t e := by
 by_cases h : MayX b s t e
 ·
  exact ⟨true, fun _ => h, fun _ => rfl⟩
 ·
  exact ⟨false, fun q => Bool.noConfusion q, fun q => absurd q h⟩
theorem third_can : (XN.mk false 1 3 0).can := ⟨nl1, by decide +kernel, by decide, by decide, Or.inr ⟨rfl, rfl, by decide⟩⟩
theorem nb3 : yG 3 = ⟨#[3]⟩ := by decide +kernel
theorem third_ev : rnd 2 0 ⟨false, 1, 3, 0⟩ = (13653, 1) := by decide +kernel
theorem third_up : rnd 2 3 ⟨false, 1, 3, 0⟩ = (13654, 1) := by decide +kernel
theorem r9alive (w : World) (hT : yF w) (hT2 : zN w) : Calls Tryz.prog 17 #[] w fun r w' => r = .returned (.bool true) ∧ Below w.heap.size w w' := by
 have FF := zH hT
 have TT := zH hT2
 have K1 : zS (∀ w, yF w → zN w → Calls Tryz.prog 18 #[.int .u8 2, .int .u8 0, .agg #[.bool false, .string ⟨#[1]⟩, .string ⟨#[3]⟩, .int .i64 0]] w fun r w' => r = .returned (.tuple #[.agg #[.int .u64 0, .int .u64 13653], .int .u8 1, .int .i64 0]) ∧ Below w.heap.size w w') := zH (fun w hT hT2 => kRound_is 2 0 (by unfold xH; omega) (by decide) false 1 3 _ _ 0 nb1 nb3 third_can (by decide +kernel) (by decide +kernel) _ _ third_ev 0 13653 rfl w hT hT2)
 have K2 : zS (∀ w, yF w → zN w → Calls Tryz.prog 18 #[.int .u8 2, .int .u8 3, .agg #[.bool false, .string ⟨#[1]⟩, .string ⟨#[3]⟩, .int .i64 0]] w fun r w' => r = .returned (.tuple #[.agg #[.int .u64 0, .int .u64 13654], .int .u8 1, .int .i64 0]) ∧ Below w.heap.size w w') := zH (fun w hT hT2 => kRound_is 2 3 (by unfold xH; omega) (by decide) false 1 3 _ _ 0 nb1 nb3 third_can (by decide +kernel) (by decide +kernel) _ _ third_up 0 13654 rfl w hT hT2)
 clear hT hT2
 have B0 : Below w.heap.size w w := (Below.refl _ _)
 go_enter Tryz.func17, Tryz.ntmps17
 have S1 := zH B0.size
 have Ad := heap_alloc_last w (Obj.cells #[.bool false, .string ⟨#[1]⟩, .string ⟨#[3]⟩, .int .i64 0] 41)
 have B1 := zO B0 (yK w (Obj.cells #[.bool false, .string ⟨#[1]⟩, .string ⟨#[3]⟩, .int .i64 0] 41))
 clear B0 
 obtain ⟨Ag, Ah, Ai, Aj⟩ := zC Ad
 go_wp2_with fail
 refine (K1.out _ (zW FF.out B1) (zV TT.out B1)).mono ?_
 rintro r w2 ⟨rfl, b2⟩
 have B2 := zO B1 b2
 have Aa := zA b2 _ _ _ Ad
 clear b2 B1 Ad Ag Ah Ai Aj
 obtain ⟨Ak, Al, Am, An⟩ := zC Aa
 have S3 := zH B2.size
 have AD := z8 Aa
 have Ae := heap_alloc_last w2 (Obj.cells #[.int .u64 0, .int .u64 13653] 25)
 have B3 := zO B2 (yK w2 (Obj.cells #[.int .u64 0, .int .u64 13653] 25))
 have Af := zA (yK w2 (Obj.cells #[.int .u64 0, .int .u64 13653] 25)) _ _ _ Aa
 clear B2 Aa Ak Al Am An
 obtain ⟨Ao, Ap, Aq, Ar⟩ := zC Af
 obtain ⟨As, At⟩ := zF Ae
 go_wp2_with fail
 refine (K2.out _ (zW FF.out B3) (zV TT.out B3)).mono ?_
 rintro r w4 ⟨rfl, b4⟩
 have B4 := zO B3 b4
 obtain ⟨Ab, Ac⟩ := yB b4 Af Ae
 clear b4 B3 Af Ao Ap Aq Ar Ae As At
 obtain ⟨Au, Av, Aw, Ax⟩ := zC Ab
 obtain ⟨Ay, Az⟩ := zF Ac
 have S5 := zH B4.size
 have AE := z8 Ab
 have AF := z8 Ac
 have AA := heap_alloc_last w4 (Obj.cells #[.int .u64 0, .int .u64 13654] 25)
 have B5 := zO B4 (yK w4 (Obj.cells #[.int .u64 0, .int .u64 13654] 25))
 obtain ⟨AB, AC⟩ := yB (yK w4 (Obj.cells #[.int .u64 0, .int .u64 13654] 25)) Ab Ac
 clear B4 Ab Au Av Aw Ax Ac Ay Az
 obtain ⟨AG, AH, AI, AJ⟩ := zC AB
 obtain ⟨AK, AL⟩ := zF AC
 obtain ⟨AM, AN⟩ := zF AA
 go_wp2
 go_ret
 exact ⟨rfl, B5⟩
theorem r9short (b : Bool) (s t : ByteArray) (e : Int) (o : Bool) (ho : (decide (s.size ≤ 60) && decide (t.size ≤ 60)) = o) (w : World) : Calls Tryz.prog 13 #[.agg #[.bool b, .string s, .string t, .int .i64 e]] w fun r w' => r = .returned (.bool o) ∧ Below w.heap.size w w' := by
 by_cases h1 : s.size ≤ 60
 ·
  rw [decide_eq_true h1, Bool.true_and] at ho
  have d1 : decide ((s.size : Int) ≤ 60) = true := decide_eq_true (by omega)
  have d2 : decide ((t.size : Int) ≤ 60) = o := by rw [← ho, decide_eq_decide]; omega
  obtain ⟨Aa, B0⟩ := yO w (Obj.cells #[.bool b, .string s, .string t, .int .i64 e] 41)
  go_enter Tryz.func13, Tryz.ntmps13
  go_wp2
  go_ret
  exact ⟨rfl, B0⟩
 ·
  rw [decide_eq_false h1, Bool.false_and] at ho
  subst ho
  have d1 : decide ((s.size : Int) ≤ 60) = false := decide_eq_false (by omega)
  obtain ⟨Aa, B0⟩ := yO w (Obj.cells #[.bool b, .string s, .string t, .int .i64 e] 41)
  go_enter Tryz.func13, Tryz.ntmps13
  go_wp2
  go_ret
  exact ⟨rfl, B0⟩
def tmo (m : Int) : Int := if m = 2 then 3 else if m = 3 then 2 else m
theorem gO_turn (m : Int) (neg o h mo : Bool) : gO (tmo m) (!neg) o h mo = gO m neg o h mo := by
 unfold gO tmo
 by_cases c2 : m = 2
 ·
  subst c2; simp
 by_cases c3 : m = 3
 ·
  subst c3; simp
 rw [if_neg c2, if_neg c3, if_neg c2, if_neg c3, if_neg c2, if_neg c3]
theorem rG_turn (m : Int) (neg : Bool) (W k : Nat) (more : Bool) : rG (tmo m) (!neg) W k more = rG m neg W k more := by unfold rG; rw [gO_turn]
theorem eS_enc {f : Int} (hf : xH f) (j S : Nat) (hS : S ≤ 2 * 2 ^ pV f) (hj : j = 0 ∨ 2 ^ pV f ≤ S) (ht : lx f + (j : Int) - 1 + (z7 S : Int) ≤ fE f) : ∃ e t, e < oV f ∧ t < 2 ^ pV f ∧ ∀ neg, eS f neg j S = yQ f neg e t := by
 by_cases s0 : S = 0
 ·
  obtain rfl : j = 0 := by have := Nat.two_pow_pos (pV f); omega
  subst s0
  exact ⟨0, 0, (nm8 hf).2.1, Nat.two_pow_pos _, fun neg => rfl⟩
 ·
  obtain ⟨e, t, he, ht, _, h, _⟩ := rep hf j S s0 hS hj ht
  exact ⟨e, t, he, ht, fun neg => (h neg).symm⟩
theorem dlv_enc {f : Int} (hf : xH f) {W : Nat} (hW : Wok f W) (m : Int) (neg : Bool) (T : Int) (more : Bool) : ∃ e t fl, e ≤ oV f ∧ t < 2 ^ pV f ∧ (e = oV f → t = 0) ∧ dlv f m neg T W more = (yQ f neg e t, fl) ∧ dlv f (tmo m) (!neg) T W more = (yQ f (!neg) e t, fl) := by
 have lim := rG_lim hW m neg (dK f T) more
 have stx := st_lx hf T
 have p := Nat.two_pow_pos (pV f)
 obtain ⟨n1, n2, n3, n4, n5, n6⟩ := nm8 hf
 have tt : tnB f (tmo m) (!neg) T W more = tnB f m neg T W more := by unfold tnB; rw [rG_turn]
 unfold dlv
 rw [rG_turn, tt]
 by_cases c : fE f < stE f T - fP f + (z7 (rG m neg W (dK f T) more) : Int)
 ·
  rw [if_pos c, if_pos c]
  unfold ovB
  rw [gO_turn]
  by_cases g : gO m neg false true true = true
  ·
   rw [if_pos g, if_pos g]
   exact ⟨oV f, 0, 5, Nat.le_refl _, p, fun _ => rfl, rfl, rfl⟩
  ·
   rw [if_neg g, if_neg g]
   exact ⟨oV f - 1, 2 ^ pV f - 1, 5, by omega, by omega, fun h => by omega, rfl, rfl⟩
 ·
  rw [if_neg c, if_neg c]
  have hj : dJ f T = 0 ∨ 2 ^ pV f ≤ rG m neg W (dK f T) more := by
   rcases jk (f := f) T with ⟨a, _⟩ | ⟨a, _⟩
   ·
    exact Or.inl a
   ·
    exact Or.inr (lim.2.1 a)
  obtain ⟨e, t, he, ht, h⟩ := eS_enc hf (dJ f T) _ lim.1 hj (by omega)
  exact ⟨e, t, _, by omega, ht, fun q => by omega, by rw [h], by rw [h]⟩
theorem rq_le (u v : Rat) (h0 : 0 ≤ u) (h : u ≤ v) : u * u ≤ v * v := by
 have a := Rat.mul_le_mul_of_nonneg_right h h0
 have b := Rat.mul_le_mul_of_nonneg_left h (show 0 ≤ v by grind)
 grind
theorem rq_lt (u v : Rat) (h0 : 0 ≤ u) (h : u < v) : u * u < v * v := by
 have a := rq_le u v h0 (Rat.le_of_lt h)
 have pv : 0 < v := by grind
 have b := (Rat.mul_lt_mul_right pv).2 h
 have c := Rat.mul_le_mul_of_nonneg_left (Rat.le_of_lt h) h0
 grind
theorem fin_lt {f : Int} (n : Nat) (hc : 0 < kC f n ∧ kC f n < 7) : kE f n < oV f := by
 have el := kE_le (f := f) n
 rcases Nat.lt_or_ge (kE f n) (oV f) with c | c
 ·
  exact c
 ·
  exfalso
  have e : kE f n = oV f := by omega
  obtain ⟨h1, h2⟩ := hc
  unfold kC at h1 h2
  rw [if_pos e] at h1 h2
  revert h1 h2
  (repeat' split) <;> omega
end Go.Proofs.YtkblmpmkchkpjaaGreatDoor
namespace Go.Proofs.YtkblmpmkchkpjaaGreatDoor
set_option maxRecDepth 100000
set_option maxHeartbeats 40000000
open WMath
open Go.ChangeShapes Go.WideShapes Go.ChangeAt Go.RowKit
theorem trod_row4 {H : Type} {enc : TypeId × Value → H} {P : Program} {w : World} {base : Nat} {spare : Nat → Bool} {held : Bool} {t : TypeId} {f0 f1 f2 f3 : Field} {fuel : Nat} {cs : List Value} {x : DataW H × List MemPlace} (ht : P.underlying t = some (.struct #[f0, f1, f2, f3])) (h : DataW.trod enc P w base spare held fuel t cs = some x) :
  ∃ y0 y1 y2 y3 n, x = (.agg [y0.1, y1.1, y2.1, y3.1], y0.2 ++ (y1.2 ++ (y2.2 ++ y3.2))) ∧ DataW.trod enc P w base spare held n f0.type ((cs.drop f0.offset).take (P.cellsOf f0.type)) = some y0 ∧
   DataW.trod enc P w base spare held n f1.type ((cs.drop f1.offset).take (P.cellsOf f1.type)) = some y1 ∧ DataW.trod enc P w base spare held n f2.type ((cs.drop f2.offset).take (P.cellsOf f2.type)) = some y2 ∧
   DataW.trod enc P w base spare held n f3.type ((cs.drop f3.offset).take (P.cellsOf f3.type)) = some y3 := by
 obtain ⟨xs, n, _, rfl, hl, hlen, hf⟩ := DataW.trod_struct ht h
 match xs, hlen with
 | [y0, y1, y2, y3], _ => exact ⟨y0, y1, y2, y3, n, by simp, by simpa using hf 0 f0 rfl, by simpa using hf 1 f1 rfl, by simpa using hf 2 f2 rfl, by simpa using hf 3 f3 rfl⟩


theorem list4' {α : Type} (l : List α) (h : l.length = 4) : ∃ a b c d, l = [a, b, c, d] := by
 match l, h with
 | [a, b, c, d], _ => exact ⟨a, b, c, d, rfl⟩

theorem row_read {w : World} {fuel : Nat} {enc : TypeId × Value → Unit} {base : Nat} {spare : Nat → Bool} {held : Bool} {l : List Value} {a b c : Int} {s : List UInt8} {p : List MemPlace}
  (h : DataW.trod enc Tryz.prog w base spare held fuel 200 l = some (.agg [.lit (.int .i64 a), .lit (.int .i64 b), .lit (.int .i64 c), .lit (.string s)], p)) (hl : l.length = 4) :
  l = [.int .i64 a, .int .i64 b, .int .i64 c, .string ⟨⟨s⟩⟩] := by
 have h3 : Tryz.prog.cellsOf 3 = 1 := by kernel_rfl
 have h9 : Tryz.prog.cellsOf 9 = 1 := by kernel_rfl
 obtain ⟨c0, c1, c2, c3, rfl⟩ := list4' l hl
 obtain ⟨y0, y1, y2, y3, n, hx, g0, g1, g2, g3⟩ := trod_row4 Tryz.underlying200 h
 simp only [h3, h9] at g0 g1 g2 g3
 obtain ⟨x0, e0, k0, w0⟩ := DataW.trod_int Tryz.underlying3 g0
 obtain ⟨x1, e1, k1, w1⟩ := DataW.trod_int Tryz.underlying3 g1
 obtain ⟨x2, e2, k2, w2⟩ := DataW.trod_int Tryz.underlying3 g2
 obtain ⟨x3, e3, k3, w3⟩ := DataW.trod_string Tryz.underlying9 g3
 simp at e0 e1 e2 e3
 subst e0 e1 e2 e3
 rw [k0, k1, k2, k3] at hx
 simp at hx
 obtain ⟨⟨rfl, rfl, rfl, rfl⟩, _⟩ := hx
 rfl

def laid7 : List (String × DataW Unit) := [("abacus/shape.formats", Rows.laid_abacus_shape_formats)]
theorem gTab7 : Tryz.prog.globalNamed "abacus/shape.formats" = some 0 := by kernel_rfl
theorem gType7 : (Tryz.prog.globals[0]?).map (·.type) = some 261 := by kernel_rfl

theorem of_laid7 {W : World} (h : laidMetH Tryz.prog laid7 W) : yF W := by
 have hce : Tryz.prog.cellsOf 200 = 4 := by kernel_rfl
 have hct : Tryz.prog.cellsOf 261 = 16 := by kernel_rfl
 rw [MakeChecks.laidMetH_plain _ _ _ (by kernel_rfl)] at h
 obtain ⟨ps, ⟨g', t', cs, fuel, p, q, hg', ht', hvar, hd, _, _⟩, _⟩ := h
 obtain rfl := Option.some.inj (gTab7.symm.trans hg')
 obtain rfl := Option.some.inj (gType7.symm.trans ht')
 obtain ⟨xs, m, rfl, hx, hl, hxl, hel⟩ := DataW.trod_array Tryz.underlying261 hd
 rw [hce] at hel
 rw [hct] at hl
 have hl2 : cs.size = 16 := by simpa using hl
 match xs, hxl with
 | [y0, y1, y2, y3], _ =>
  have hx1 := congrArg Prod.fst hx
  simp [Rows.laid_abacus_shape_formats] at hx1
  obtain ⟨h0, h1, h2, h3⟩ := hx1
  have q0 := hel 0 (by decide)
  have q1 := hel 1 (by decide)
  have q2 := hel 2 (by decide)
  have q3 := hel 3 (by decide)
  simp only [List.getElem?_cons_zero, List.getElem?_cons_succ] at q0 q1 q2 q3
  have z0 := row_read (p := y0.2) (by rw [q0, h0]) (by simp; omega)
  have z1 := row_read (p := y1.2) (by rw [q1, h1]) (by simp; omega)
  have z2 := row_read (p := y2.2) (by rw [q2, h2]) (by simp; omega)
  have z3 := row_read (p := y3.2) (by rw [q3, h3]) (by simp; omega)
  have hcs : ∀ i, i < 16 → cs.toList[i]? = fcells[i]? := by
   intro i hi
   have e0 : cs.toList[i]? = (cs.toList.drop (i / 4 * 4))[i % 4]? := by rw [List.getElem?_drop]; congr 1; omega
   have e1 : (cs.toList.drop (i / 4 * 4))[i % 4]? = ((cs.toList.drop (i / 4 * 4)).take 4)[i % 4]? := by rw [List.getElem?_take, if_pos (by omega)]
   rw [e0, e1]
   have : i / 4 = 0 ∨ i / 4 = 1 ∨ i / 4 = 2 ∨ i / 4 = 3 := by omega
   have hj : i % 4 = 0 ∨ i % 4 = 1 ∨ i % 4 = 2 ∨ i % 4 = 3 := by omega
   have hi2 : i = i / 4 * 4 + i % 4 := by omega
   rcases this with e | e | e | e <;> rw [e] at hi2 ⊢ <;> rcases hj with k | k | k | k <;> rw [k] at hi2 ⊢ <;> subst hi2 <;> first | (rw [z0]; rfl) | (rw [z1]; rfl) | (rw [z2]; rfl) | (rw [z3]; rfl)
  intro i hi
  rw [World.var?_cell gTab7 hvar i, ← hcs i hi]
  simp

def tabZ8 : List Int := [0, 1, 56, 2, 57, 49, 28, 3, 61, 58, 42, 50, 38, 29, 17, 4, 62, 47, 59, 36, 45, 43, 51, 22, 53, 39, 33, 30, 24, 18, 12, 5, 63, 55, 48, 27, 60, 41, 37, 16, 46, 35, 44, 21, 52, 32, 23, 11, 54, 26, 40, 15, 34, 20, 31, 10, 25, 14, 19, 9, 13, 8, 7, 6]
def laid8 : List (String × DataW Unit) := [("math/bits.deBruijn64tab", Rows.laid_math_bits_deBruijn64tab), ("abacus/shape.formats", Rows.laid_abacus_shape_formats)]
theorem gTab8 : Tryz.prog.globalNamed "math/bits.deBruijn64tab" = some 5 := by kernel_rfl
theorem gType8 : (Tryz.prog.globals[5]?).map (·.type) = some 325 := by kernel_rfl
theorem cells58 : Tryz.prog.cellsOf 5 = 1 := by kernel_rfl
theorem cellsT8 : Tryz.prog.cellsOf 325 = 64 := by kernel_rfl
theorem tab_at8 : ∀ i : Fin 64, tabZ8.getD i.val 0 = ((Lib.deBruijn64tab.getD i.val 0 : Nat) : Int) := by decide +kernel

theorem of_laid8 {W : World} (h : laidMetH Tryz.prog laid8 W) : zN W ∧ yF W := by
 rw [MakeChecks.laidMetH_plain _ _ _ (by kernel_rfl)] at h
 have ht := laidMet.tail h
 constructor
 ·
  have h' : laidMet Tryz.prog (("math/bits.deBruijn64tab", Lib.tabData .u8 tabZ8) :: [("abacus/shape.formats", Rows.laid_abacus_shape_formats)]) W := h
  have hT := Lib.tabIs_of_head gTab8 gType8 Tryz.underlying325 Tryz.underlying5 cells58 cellsT8 h'
  intro i hi
  have hc := hT.cell gTab8 i (show i < tabZ8.length from hi)
  rw [tab_at8 ⟨i, hi⟩] at hc
  exact hc
 ·
  refine of_laid7 ?_
  rw [MakeChecks.laidMetH_plain _ _ _ (by kernel_rfl)]
  exact ht

theorem door_met8 (os : Os) (args : Array Value) : laidMetH Tryz.prog laid8 ((World.doorLaid Tryz.prog 400 os).forCall (fun _ _ => 0) ⟨#[], args, []⟩).memory :=
 laidMetH_of_parts3 (fuel := 8) (laidMet_of_run' 8 (by kernel_rfl) (by kernel_rfl)) (by kernel_rfl) (by kernel_rfl)
end Go.Proofs.YtkblmpmkchkpjaaGreatDoor
