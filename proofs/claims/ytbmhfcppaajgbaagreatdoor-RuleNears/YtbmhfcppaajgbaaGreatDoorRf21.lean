/-
  What the functions that the statement reaches return: part 21 (RA, RB, RC, RD, RE).
-/
import Derived.Test.YtbmhfcppaajgbaaGreatDoorRf20
namespace Go.Proofs.YtbmhfcppaajgbaaGreatDoor
set_option maxRecDepth 100000
open Go.RowKit WMath XMath
set_option linter.unusedSimpArgs false
set_option linter.unusedVariables false

theorem odd_ne (x : Nat) : decide (x % 2 ^ (1 : Int).toNat ≠ 0) = decide (x % 2 = 1) := by
  rw [show (1 : Int).toNat = 1 from rfl, Nat.pow_one, decide_eq_decide]
  omega
theorem lg_is (x : Nat) (h : nl x ≤ 16384) : lg x = (nbA x, 0) := by unfold lg; rw [if_pos h]
theorem kround (m : Int) (hm : 0 ≤ m ∧ m ≤ 4) (neg : Bool) (T La st : Int) (W k : Nat) (more : Bool) (ws rs : ByteArray) (hws : nbA W = ws) (lw : nl W ≤ 8192) (s1 : -2000000 ≤ st) (s2 : st ≤ 2000000) (l1 : -2000000 ≤ La) (l2 : La ≤ 2000000) (hk : st - 1 - La = (k : Int)) (half mo : Bool) (hh : rH W k = half) (hmo : rM W k more = mo) (hr : nbA (rG m neg W k more) = rs) (w : World) (hT2 : TabAt w) :
    Calls Tryz.prog 147 #[.int .u8 m, .agg #[.bool neg, .int .i64 T, .int .i64 La, .string ws, .bool more], .int .i64 st] w fun r w' => r = .returned (.agg #[.string rs, .int .i64 st, .bool half, .bool mo]) ∧ Below w.heap.size w w' := by
  have d1 : nl (W / 2 ^ k) ≤ 8192 := Nat.le_trans (nl_mono _ _ (Nat.div_le_self _ _)) lw
  have d2 : nl (rS W k) ≤ 8192 := Nat.le_trans (nl_mono _ _ (Nat.div_le_self _ _)) d1
  have d3 : nl (rS W k + 1) ≤ 16384 := by
    have q : blen (rS W k + 1) ≤ blen (rS W k) + 1 := (blen_iff _ _).2 (by
      have a := (blen_iff (rS W k) _).1 (Nat.le_refl _)
      have b := Nat.two_pow_pos (blen (rS W k))
      rw [Nat.pow_succ]
      omega)
    unfold nl at d2 ⊢
    omega
  refine ru_round m st neg T La ws more (st - 1) (k : Int) 0 0 0 0 (nbA (W / 2 ^ k)) (nbA (rS W k)) (nbA (rS W k / 2)) (nbA (rS W k + 1)) rs (decide (W % 2 ^ k ≠ 0)) half (rO W k) (gO m neg (rO W k) half mo) mo w
    (box (fun w hT => pn_right_ok W (k : Int) ws _ _ hws (by omega) (by omega) (by omega) (by rw [Int.toNat_natCast]) (by rw [Int.toNat_natCast]) w hT))
    (box (fun w hT => pn_right_ok (W / 2 ^ k) 1 _ _ _ rfl (by omega) (by omega) (by omega) (by rw [show (1 : Int).toNat = 1 from rfl, Nat.pow_one]; rfl) (by rw [odd_ne]; exact hh) w hT))
    (box (fun w hT => pn_right_ok (rS W k) 1 _ _ _ rfl (by omega) (by omega) (by omega) (by rw [show (1 : Int).toNat = 1 from rfl, Nat.pow_one]) (by rw [odd_ne]; rfl) w hT))
    (box (fun w => ru_goesOn m hm neg _ _ _ _ rfl w))
    (box (fun _ w => pn_add_ok (rS W k) 1 _ _ _ 0 rfl nb1 (by omega) nl1 (lg_is _ d3) w))
    (wrap_i64_is _ (by omega) (by omega)) (by rw [wrap_i64_is _ (by omega) (by omega)]; exact hk) ?_ ?_ hT2
  · exact hmo
  · rw [← hr]
    unfold rG
    rw [hh, hmo]
    split <;> rfl
theorem nl_W {f : Int} (hf : Is4 f) {W : Nat} (h : Wok f W) : nl W ≤ 8192 := by
  obtain ⟨n1, n2, n3, n4, n5, n6⟩ := nm8 hf
  have := nl_le_of W 17 (by
    have a := h.2
    have b : 2 ^ pV f ≤ 2 ^ 127 := Nat.pow_le_pow_right (by decide) (by omega)
    rw [show (2 : Nat) ^ (8 * 17) = 4 * 2 ^ 127 * 128 by decide]
    omega)
  omega
theorem k_emin (f : Int) (hf : Is4 f) (w : World) (hT : FAt w) : Calls Tryz.prog 98 #[.int .u8 f] w fun r w' => r = .returned (.int .i64 (1 - fE f)) ∧ Below w.heap.size w w' :=
  s_emin f _ _ (is4_ok hf).1 (is4_ok hf).2.1 rfl (em_lim hf).2.2.2.2.1 w hT
theorem k_step (f : Int) (hf : Is4 f) (T : Int) (h1 : -1900000 ≤ T) (h2 : T ≤ 1900000) (v : Int) (hv : T - fP f + 1 = v) (w : World) (hT : FAt w) : Calls Tryz.prog 148 #[.int .u8 f, .int .i64 T] w fun r w' => r = .returned (.int .i64 v) ∧ Below w.heap.size w w' := by
  have p := fp8 hf
  have n4 := (nm8 hf).2.2.2.1
  exact ru_stepAt f T (fP f) (T - fP f) v w (box (fun w hT => kb_precision f _ (is4_ok hf).1 (is4_ok hf).2.1 rfl w hT)) (wrap_i64_is _ (by omega) (by omega)) (by rw [wrap_i64_is _ (by omega) (by omega)]; exact hv) hT
theorem k_rtop (S l : Nat) (s : ByteArray) (hs : nbA S = s) (ls : nl S ≤ 16384) (hl : blen S = l) (st v : Int) (s1 : -2000000 ≤ st) (s2 : st ≤ 2000000) (half mo : Bool) (hv : st + (l : Int) - 1 = v) (w : World) : Calls Tryz.prog 149 #[.agg #[.string s, .int .i64 st, .bool half, .bool mo]] w fun r w' => r = .returned (.int .i64 v) ∧ Below w.heap.size w w' := by
  have : l ≤ 131072 + 7 := by rw [← hl]; unfold nl at ls; omega
  exact ru_rtop s st half mo l (st + l) v w (box (fun w => pn_len_ok S l s hs ls hl w)) (wrap_i64_is _ (by omega) (by omega)) (by rw [wrap_i64_is _ (by omega) (by omega)]; exact hv)
theorem ktiny (f m : Int) (hf : Is4 f) (hm : 0 ≤ m ∧ m ≤ 4) (neg : Bool) (T : Int) (h1 : -1300000 ≤ T) (h2 : T ≤ 1300000) (W : Nat) (more : Bool) (hW : Wok f W) (ws : ByteArray) (hws : nbA W = ws) (La : Int) (hLa : T - fP f = La) (o : Bool) (ho : tnB f m neg T W more = o) (w : World) (hT : FAt w) (hT2 : TabAt w) :
    Calls Tryz.prog 72 #[.int .u8 f, .int .u8 m, .agg #[.bool neg, .int .i64 T, .int .i64 La, .string ws, .bool more]] w fun r w' => r = .returned (.bool o) ∧ Below w.heap.size w w' := by
  have p := fp8 hf
  obtain ⟨n1, n2, n3, n4, n5, n6⟩ := nm8 hf
  have lim := (rG_lim hW m neg 0 more).1
  exact ru_tiny f m neg T La ws more (1 - fE f) (T - fP f + 1) (T - fP f + 1 + (blen (rG m neg W 0 more) : Int) - 1) _ _ _ o w
    (box (fun w hT => k_emin f hf w hT)) (box (fun w hT => k_step f hf T (by omega) (by omega) _ rfl w hT))
    (box (fun w hT => kround m hm neg T La (T - fP f + 1) W 0 more ws _ hws (nl_W hf hW) (by omega) (by omega) (by omega) (by omega) (by omega) _ _ rfl rfl rfl w hT))
    (box (fun w => k_rtop _ _ _ rfl (nl_small hf _ lim) rfl _ _ (by omega) (by omega) _ _ rfl w)) (by
      rw [← ho]
      unfold tnB
      rw [decide_eq_decide]
      omega) hT hT2
theorem eS_flip {f : Int} (hf : Is4 f) (j S : Nat) (hS : j * 2 ^ pV f + S < 2 ^ wV f) : sgB f (eS f false j S) true = eS f true j S := by
  unfold eS
  rw [if_neg (by decide), Nat.add_zero, sgB_low hS]
theorem eS_lt {f : Int} (hf : Is4 f) (j S : Nat) (hS : S ≤ 2 * 2 ^ pV f) (hj : j = 0 ∨ 2 ^ pV f ≤ S) (ht : lx f + (j : Int) - 1 + (blen S : Int) ≤ fE f) : j * 2 ^ pV f + S < 2 ^ wV f := by
  obtain ⟨g1, g2, g3, g4, g5, g6, g7⟩ := fm hf
  have p := Nat.two_pow_pos (pV f)
  by_cases s0 : S = 0
  · obtain rfl : j = 0 := by omega
    subst s0
    rw [Nat.zero_mul]
    exact Nat.two_pow_pos _
  obtain ⟨e, t, he, htt, nz, h1, h2⟩ := rep hf j S s0 hS hj ht
  have := h1 false
  unfold enc7 eS at this
  rw [if_neg (by decide), Nat.add_zero, Nat.add_zero] at this
  rw [← this, g1]
  have := Nat.mul_le_mul_right (2 ^ pV f) (show e + 1 ≤ oV f + 1 by omega)
  rw [Nat.add_mul, Nat.one_mul] at this
  omega
theorem kencoded (f : Int) (hf : Is4 f) (neg : Bool) (j S : Nat) (s : ByteArray) (hs : nbA S = s) (st : Int) (hst : st = lx f + (j : Int)) (hS : S ≤ 2 * 2 ^ pV f) (hj : j = 0 ∨ 2 ^ pV f ≤ S) (ht : lx f + (j : Int) - 1 + (blen S : Int) ≤ fE f) (half mo : Bool) (u v : Nat) (hv : bv7 (eS f neg j S) = (u, v)) (w : World) (hT : FAt w) (hT2 : TabAt w) :
    Calls Tryz.prog 151 #[.int .u8 f, .bool neg, .agg #[.string s, .int .i64 st, .bool half, .bool mo]] w fun r w' => r = .returned (.agg #[.int .u64 (u : Nat), .int .u64 (v : Nat)]) ∧ Below w.heap.size w w' := by
  obtain ⟨n1, n2, n3, n4, n5, n6⟩ := nm8 hf
  obtain ⟨g1, g2, g3, g4, g5, g6, g7⟩ := fm hf
  have elt := eS_lt hf j S hS hj ht
  have e0 : eS f false j S = j * 2 ^ pV f + S := by unfold eS; rw [if_neg (by decide), Nat.add_zero]
  have lim : eS f false j S < 340282366920938463463374607431768211456 := by omega
  have j4 : j ≤ 40000 := by
    rcases hj with h | h
    · omega
    · have := (blen_low S (by have := Nat.two_pow_pos (pV f); omega)).1
      omega
  obtain ⟨x, hx, xc, hof⟩ : ∃ x : XN, mk false S 1 st = (x, 0) ∧ x.can ∧ ofX f x = (eS f false j S, true) := by
    by_cases s0 : S = 0
    · subst s0
      obtain rfl : j = 0 := by have := Nat.two_pow_pos (pV f); omega
      refine ⟨X0, mk_null _ _ _, x0_can, ?_⟩
      rw [e0]
      unfold ofX
      rw [if_pos (show X0.n = 0 from rfl), Nat.zero_mul]
    · obtain ⟨a, b, c, d⟩ := mk_small hf false j S s0 hS j4
      exact ⟨_, by rw [hst]; exact a, b, of_rep hf false j S s0 hS hj ht⟩
  obtain ⟨xb, xn, xd, xe⟩ := x
  obtain ⟨i, k, hik⟩ : ∃ i k, bv7 (eS f false j S) = (i, k) := ⟨_, _, rfl⟩
  obtain ⟨i1, i2, i3⟩ := bv_lt lim hik
  have KM : Box (∀ w, TabAt w → Calls Tryz.prog 168 #[.bool false, .string s, .string ⟨#[1]⟩, .int .i64 st] w fun r w' => r = .returned (.tuple #[.agg #[.bool xb, .string (nbA xn), .string (nbA xd), .int .i64 xe], .int .i64 0]) ∧ Below w.heap.size w w') := box (fun w hT => makex_ok false S 1 st s _ xb xn xd xe 0 _ _ hs nb1 (nl_small hf S hS) nl1 (by decide) (by omega) (by omega) hx rfl rfl w hT)
  have KO : Box (∀ w, FAt w → TabAt w → Calls Tryz.prog 226 #[.int .u8 f, .agg #[.bool xb, .string (nbA xn), .string (nbA xd), .int .i64 xe]] w fun r w' => r = .returned (.tuple #[.agg #[.int .u64 (i : Nat), .int .u64 (k : Nat)], .bool true, .int .i64 0]) ∧ Below w.heap.size w w') := box (fun w hT hT2 => kOf_is f hf xb xn xd _ _ xe rfl rfl xc _ true i k hof hik w hT hT2)
  cases neg
  · rw [hik] at hv
    injection hv with a b
    subst a b
    exact ru_encoded_pos f s st half mo xb _ _ xe 0 i k true 0 w KM KO hT hT2
  · exact ru_encoded_neg f s st half mo xb _ _ xe 0 i k u v true 0 w KM KO (box (fun w hT => kFlip_yes f hf i k _ u v i1 i2 i3 (by unfold okB; rw [decide_eq_true_iff]; exact ⟨by rcases hf with rfl | rfl | rfl | rfl <;> decide, by omega⟩) (by rw [eS_flip hf j S elt]; exact hv) w hT)) hT hT2
theorem kbeyond (f m : Int) (hf : Is4 f) (hm : 0 ≤ m ∧ m ≤ 4) (neg : Bool) (u v : Nat) (hv : bv7 (ovB f m neg) = (u, v)) (w : World) (hT : FAt w) : Calls Tryz.prog 150 #[.int .u8 f, .int .u8 m, .bool neg] w fun r w' => r = .returned (.agg #[.int .u64 (u : Nat), .int .u64 (v : Nat)]) ∧ Below w.heap.size w w' := by
  refine ru_beyond f m neg (gO m neg false true true) u v w (box (fun w => ru_goesOn m hm neg false true true _ rfl w)) (box (fun h w hT => sk_inf f neg hf u v ?_ w hT)) (box (fun h w hT => ?_)) hT
  · unfold ovB at hv; rw [if_pos h] at hv; exact hv
  · unfold ovB at hv
    rw [if_neg (by rw [h]; decide)] at hv
    have := s_greatest f neg hf _ rfl w hT
    rw [hv] at this
    exact this
end Go.Proofs.YtbmhfcppaajgbaaGreatDoor
namespace Go.Proofs.YtbmhfcppaajgbaaGreatDoor
set_option maxRecDepth 100000
open Go.RowKit WMath XMath
set_option linter.unusedSimpArgs false
set_option linter.unusedVariables false

theorem kdelivered (f m : Int) (hf : Is4 f) (hm : 0 ≤ m ∧ m ≤ 4) (neg : Bool) (T : Int) (h1 : -1300000 ≤ T) (h2 : T ≤ 1300000) (W : Nat) (more : Bool) (hW : Wok f W) (ws : ByteArray) (hws : nbA W = ws) (La : Int) (hLa : T - fP f = La) (M : Nat) (fl : Int) (hd : dlv f m neg T W more = (M, fl)) (u v : Nat) (hv : bv7 M = (u, v)) (w : World) (hT : FAt w) (hT2 : TabAt w) :
    Calls Tryz.prog 66 #[.int .u8 f, .int .u8 m, .agg #[.bool neg, .int .i64 T, .int .i64 La, .string ws, .bool more]] w fun r w' => r = .returned (.tuple #[.agg #[.int .u64 (u : Nat), .int .u64 (v : Nat)], .int .u8 fl]) ∧ Below w.heap.size w w' := by
  have p := fp8 hf
  obtain ⟨n1, n2, n3, n4, n5, n6⟩ := nm8 hf
  have lim := rG_lim hW m neg (dK f T) more
  obtain ⟨S, hS⟩ : ∃ S, rG m neg W (dK f T) more = S := ⟨_, rfl⟩
  have stx := st_lx hf T
  have kk : stE f T - T = (dK f T : Int) := by unfold dK stE; omega
  have sl : -1300000 ≤ stE f T ∧ stE f T ≤ 1300000 := by unfold stE; omega
  unfold dlv at hd
  rw [hS] at hd lim
  have hj : dJ f T = 0 ∨ 2 ^ pV f ≤ S := by
    rcases jk (f := f) T with ⟨a, _⟩ | ⟨a, _⟩
    · exact Or.inl a
    · exact Or.inr (lim.2.1 a)
  refine ru_delivered f m neg T La ws more (1 - fE f) (stE f T - fP f + 1) (stE f T - fP f + (blen S : Int)) (fE f) fl (nbA S) (rH W (dK f T)) (rM W (dK f T) more) (decide (fE f < stE f T - fP f + (blen S : Int))) (tnB f m neg T W more) u v w
    (box (fun w hT => k_emin f hf w hT)) (box (fun w hT => k_step f hf (max T (1 - fE f)) (by unfold stE at sl; omega) (by unfold stE at sl; omega) _ rfl w hT))
    (box (fun w hT => kround m hm neg T La _ W (dK f T) more ws _ hws (nl_W hf hW) (by omega) (by omega) (by omega) (by omega) (by omega) _ _ rfl rfl (by rw [hS]) w hT))
    (box (fun w => k_rtop S _ _ rfl (nl_small hf _ lim.1) rfl _ _ (by omega) (by omega) _ _ (by omega) w))
    (box (fun w hT => kb_emax f _ (is4_ok hf).1 (is4_ok hf).2.1 rfl w hT))
    (box (fun h w hT => kbeyond f m hf hm neg u v (by
      rw [if_pos (of_decide_eq_true h)] at hd
      injection hd with a b
      rw [a]; exact hv) w hT))
    (box (fun h w hT hT2 => kencoded f hf neg (dJ f T) S _ rfl _ stx lim.1 hj (by have := of_decide_eq_false h; omega) _ _ u v (by
      rw [if_neg (of_decide_eq_false h)] at hd
      injection hd with a b
      rw [a]; exact hv) w hT hT2))
    (box (fun w hT hT2 => ktiny f m hf hm neg T h1 h2 W more hW ws hws La hLa _ rfl w hT hT2)) rfl ?_ hT hT2
  by_cases c : fE f < stE f T - fP f + (blen S : Int)
  · rw [if_pos c] at hd
    injection hd with a b
    rw [if_pos (decide_eq_true c)]
    exact b
  · rw [if_neg c] at hd
    injection hd with a b
    rw [if_neg (by simpa using c)]
    exact b
theorem kencoded0 (f : Int) (hf : Is4 f) (st : Int) (s1 : -1000000 ≤ st) (s2 : st ≤ 1000000) (half mo : Bool) (w : World) (hT : FAt w) (hT2 : TabAt w) :
    Calls Tryz.prog 151 #[.int .u8 f, .bool false, .agg #[.string ⟨#[]⟩, .int .i64 st, .bool half, .bool mo]] w fun r w' => r = .returned (.agg #[.int .u64 ((0 : Nat) : Nat), .int .u64 ((0 : Nat) : Nat)]) ∧ Below w.heap.size w w' := by
  have hx : XMath.mk false 0 1 st = (⟨false, 0, 1, 0⟩, 0) := mk_null _ _ _
  have hof : ofX f ⟨false, 0, 1, 0⟩ = (0, true) := by unfold ofX; rw [if_pos rfl]
  exact ru_encoded_pos f _ st half mo false _ _ 0 0 0 0 true 0 w (box (fun w hT => makex_ok false 0 1 st _ _ false 0 1 0 0 _ _ nbA_zero nb1 nl0 nl1 (by decide) (by omega) (by omega) hx rfl rfl w hT)) (box (fun w hT hT2 => kOf_is f hf false 0 1 _ _ 0 rfl rfl x0_can 0 true 0 0 hof rfl w hT hT2)) hT hT2
theorem kdelivered0 (f m : Int) (hf : Is4 f) (hm : 0 ≤ m ∧ m ≤ 4) (La : Int) (hLa : 0 - fP f = La) (w : World) (hT : FAt w) (hT2 : TabAt w) :
    Calls Tryz.prog 66 #[.int .u8 f, .int .u8 m, .agg #[.bool false, .int .i64 0, .int .i64 La, .string ⟨#[]⟩, .bool false]] w fun r w' => r = .returned (.tuple #[.agg #[.int .u64 ((0 : Nat) : Nat), .int .u64 ((0 : Nat) : Nat)], .int .u8 0]) ∧ Below w.heap.size w w' := by
  have p := fp8 hf
  obtain ⟨n1, n2, n3, n4, n5, n6⟩ := nm8 hf
  have b0 : blen 0 = 0 := by decide
  have e1 : 1 ≤ fE f := by rcases hf with rfl | rfl | rfl | rfl <;> decide
  have g0 : ∀ m, rG m false 0 0 false = 0 := fun m => by
    unfold rG gO rS rH rM rO
    simp
  have h0 : rH 0 0 = false := rfl
  have m0 : rM 0 0 false = false := rfl
  have mx : max 0 (1 - fE f) = 0 := by omega
  have hR : Box (∀ w, TabAt w → Calls Tryz.prog 147 #[.int .u8 m, .agg #[.bool false, .int .i64 0, .int .i64 La, .string ⟨#[]⟩, .bool false], .int .i64 (0 - fP f + 1)] w fun r w' => r = .returned (.agg #[.string ⟨#[]⟩, .int .i64 (0 - fP f + 1), .bool false, .bool false]) ∧ Below w.heap.size w w') :=
    box (fun w hT => kround m hm false 0 La _ 0 0 false _ _ nbA_zero (by rw [nl_zero]; decide) (by omega) (by omega) (by omega) (by omega) (by omega) false false h0 m0 (by rw [g0]; exact nbA_zero) w hT)
  have KT : Box (∀ w, Calls Tryz.prog 149 #[.agg #[.string ⟨#[]⟩, .int .i64 (0 - fP f + 1), .bool false, .bool false]] w fun r w' => r = .returned (.int .i64 (0 - fP f)) ∧ Below w.heap.size w w') := box (fun w => k_rtop 0 0 _ nbA_zero nl0 b0 _ _ (by omega) (by omega) _ _ (by omega) w)
  exact ru_delivered f m false 0 La _ false (1 - fE f) (0 - fP f + 1) (0 - fP f) (fE f) 0 _ false false false (decide (0 - fP f < 1 - fE f)) 0 0 w
    (box (fun w hT => k_emin f hf w hT)) (box (fun w hT => by rw [mx]; exact k_step f hf 0 (by omega) (by omega) _ rfl w hT)) hR KT
    (box (fun w hT => kb_emax f _ (is4_ok hf).1 (is4_ok hf).2.1 rfl w hT)) (box (fun h => Bool.noConfusion h)) (box (fun h w hT hT2 => kencoded0 f hf _ (by omega) (by omega) _ _ w hT hT2))
    (box (fun w hT hT2 => ru_tiny f m false 0 La _ false (1 - fE f) (0 - fP f + 1) (0 - fP f) _ _ _ _ w (box (fun w hT => k_emin f hf w hT)) (box (fun w hT => k_step f hf 0 (by omega) (by omega) _ rfl w hT)) hR KT rfl hT hT2))
    (by rw [decide_eq_false_iff_not]; omega) rfl hT hT2
theorem xW_is {f : Int} (x : XN) (h : (flX x (topX x - fP f)).2 = 0) : flX x (topX x - fP f) = ((xW f x, !xM f x), 0) := by
  unfold xW xM
  rw [Bool.not_not, ← h]
theorem kofExact (f : Int) (hf : Is4 f) (b : Bool) (n d : Nat) (s t : ByteArray) (e : Int) (hs : nbA n = s) (ht : nbA d = t) (hc : (XN.mk b n d e).can) (n0 : n ≠ 0) (ld : nl d ≤ 8192) (T La : Int) (hTop : topX ⟨b, n, d, e⟩ = T) (hLa : T - fP f = La) (W : Nat) (ws : ByteArray) (more : Bool) (hW : xW f ⟨b, n, d, e⟩ = W) (hM : xM f ⟨b, n, d, e⟩ = more) (hws : nbA W = ws) (w : World) (hT : FAt w) (hT2 : TabAt w) :
    Calls Tryz.prog 67 #[.int .u8 f, .agg #[.bool b, .string s, .string t, .int .i64 e]] w fun r w' => r = .returned (.agg #[.bool b, .int .i64 T, .int .i64 La, .string ws, .bool more]) ∧ Below w.heap.size w w' := by
  have p := fp8 hf
  have n4 := (nm8 hf).2.2.2.1
  obtain ⟨t1, t2⟩ := top_lim hc
  rw [hTop] at t1 t2
  have ok := fl_ok (XN.mk b n d e) (topX ⟨b, n, d, e⟩ - fP f) n0 ld (by omega) (by omega) (by omega)
  have fi := xW_is (f := f) (XN.mk b n d e) ok
  rw [hTop, hLa, hW, hM] at fi
  exact ru_ofExact f b s t e T La ws more w (box (fun w hT => ru_topOf b s t e T 0 w (box (fun w hT => Topx_ok b n d e s t T hs ht n0 hc hTop w hT)) hT))
    (box (fun w hT hT2 => ru_known1 f b T (T - fP f + 1) La b s t e ws (!more) more w (box (fun w hT => k_step f hf T (by omega) (by omega) _ rfl w hT)) (by rw [wrap_i64_is _ (by omega) (by omega)]; omega) (Bool.not_not _)
      (box (fun w hT => ru_ratio b s t e La 0 ws _ w (box (fun w hT => Floorx_ok b n d e s t La W _ 0 ws hs ht hc (by omega) (by omega) fi hws w hT)) hT)) hT hT2)) hT hT2
theorem kofExact0 (f : Int) (hf : Is4 f) (La : Int) (hLa : 0 - fP f = La) (w : World) (hT : FAt w) (hT2 : TabAt w) :
    Calls Tryz.prog 67 #[.int .u8 f, .agg #[.bool false, .string ⟨#[]⟩, .string ⟨#[1]⟩, .int .i64 0]] w fun r w' => r = .returned (.agg #[.bool false, .int .i64 0, .int .i64 La, .string ⟨#[]⟩, .bool false]) ∧ Below w.heap.size w w' := by
  have p := fp8 hf
  have n4 := (nm8 hf).2.2.2.1
  have fi : flX (XN.mk false 0 1 0) La = ((0, true), 0) := by unfold flX; rw [if_neg (by omega), if_pos rfl]
  exact ru_ofExact f false _ _ 0 0 La _ false w (box (fun w hT => ru_topOf false _ _ 0 0 2 w (box (fun w hT => Topx_null w hT)) hT))
    (box (fun w hT hT2 => ru_known1 f false 0 (0 - fP f + 1) La false _ _ 0 _ true false w (box (fun w hT => k_step f hf 0 (by omega) (by omega) _ rfl w hT)) (by rw [wrap_i64_is _ (by omega) (by omega)]; omega) rfl
      (box (fun w hT => ru_ratio false _ _ 0 La 0 _ _ w (box (fun w hT => Floorx_ok false 0 1 0 _ _ La 0 _ 0 _ nbA_zero nb1 x0_can (by omega) (by omega) fi nbA_zero w hT)) hT)) hT hT2)) hT hT2
/-- What the whole parts of a root are. -/
def RtN (f : Int) (x : XN) (W : Nat) (more : Bool) : Prop := ∀ k : Nat, topX x / 2 - fP f + (k : Int) ≤ 1000000 → ∃ N ex, flX x (2 * (topX x / 2 - fP f + (k : Int))) = ((N, ex), 0) ∧ RootIs N (W / 2 ^ k) ∧ (ex && decide (N - W / 2 ^ k * (W / 2 ^ k) = 0)) = (!more && decide (W % 2 ^ k = 0))
end Go.Proofs.YtbmhfcppaajgbaaGreatDoor
namespace Go.Proofs.YtbmhfcppaajgbaaGreatDoor
set_option maxRecDepth 100000
open Go.RowKit WMath XMath
set_option linter.unusedSimpArgs false
set_option linter.unusedVariables false

theorem rz_inf (f : Int) (neg : Bool) (hf : Is4 f) (u v : Nat) (hv : bv7 (eInf f neg) = (u, v)) (w : World) : Calls Tryz.prog 137 #[.int .u8 f, .bool neg] w fun r w' => r = .returned (.agg #[.int .u64 (u : Nat), .int .u64 (v : Nat)]) ∧ Below w.heap.size w w' := by
  have := r_inf f neg hf _ rfl w
  rw [hv] at this
  exact this
theorem rz_zero (f : Int) (neg : Bool) (hf : Is4 f) (u v : Nat) (hv : bv7 (eZero f neg) = (u, v)) (w : World) : Calls Tryz.prog 103 #[.int .u8 f, .bool neg] w fun r w' => r = .returned (.agg #[.int .u64 (u : Nat), .int .u64 (v : Nat)]) ∧ Below w.heap.size w w' := by
  have := r_zero f neg hf _ rfl w
  rw [hv] at this
  exact this
theorem cut_two (W k : Nat) : W / 2 ^ (k + 1) = rS W k := by unfold rS; rw [Nat.pow_succ, ← Nat.div_div_eq_div_mul]
theorem ex_is (W k : Nat) (more : Bool) : (!more && decide (W % 2 ^ (k + 1) = 0)) = !(rH W k || rM W k more) := by
  have e : W % 2 ^ (k + 1) = 0 ↔ W % 2 ^ k = 0 ∧ W / 2 ^ k % 2 = 0 := by
    have h := Nat.mod_pow_succ (x := W) (b := 2) (k := k)
    have p := Nat.two_pow_pos k
    rw [h]
    constructor
    · intro q
      have a : W % 2 ^ k = 0 := by omega
      have b : 2 ^ k * (W / 2 ^ k % 2) = 0 := by omega
      exact ⟨a, by rcases Nat.mul_eq_zero.1 b with c | c; omega; exact c⟩
    · rintro ⟨a, b⟩
      rw [a, b, Nat.mul_zero]
  unfold rH rM
  rw [Bool.eq_iff_iff]
  simp only [Bool.and_eq_true, Bool.not_eq_true', decide_eq_true_iff, Bool.or_eq_false_iff, decide_eq_false_iff_not, e, Decidable.not_not]
  constructor
  · rintro ⟨a, b, c⟩
    exact ⟨by omega, b, a⟩
  · rintro ⟨a, b, c⟩
    exact ⟨c, b, by omega⟩
theorem wh_is (W k : Nat) (more : Bool) : (!more && decide (W % 2 ^ k = 0)) = !rM W k more := by
  unfold rM
  rw [Bool.eq_iff_iff]
  simp only [Bool.and_eq_true, Bool.not_eq_true', decide_eq_true_iff, Bool.or_eq_false_iff, decide_eq_false_iff_not, Decidable.not_not]
  exact ⟨fun h => ⟨h.2, h.1⟩, fun h => ⟨h.2, h.1⟩⟩
theorem last_is (W k : Nat) : decide (W / 2 ^ k % 2 = 1) = rH W k := rfl
/-- What find is asked of: a number, or its root. -/
def Fnd (f : Int) (x : XN) (root : Bool) (T : Int) (W : Nat) (more : Bool) : Prop :=
  if root = true then T = topX x / 2 ∧ RtN f x W more else T = topX x ∧ ∀ k : Nat, T - fP f + (k : Int) ≤ 2000000 → flX x (T - fP f + (k : Int)) = ((W / 2 ^ k, !more && decide (W % 2 ^ k = 0)), 0)
theorem rtaken (m : Int) (hm : 0 ≤ m ∧ m ≤ 4) (neg : Bool) (W k : Nat) (more : Bool) (lw : nl W ≤ 8192) (A : Int) (M rs : ByteArray) (hM : nbA (rS W k) = M) (hr : nbA (rG m neg W k more) = rs) (w : World) :
    Calls Tryz.prog 158 #[.int .u8 m, .bool neg, .agg #[.string M, .int .i64 A, .int .i64 (hfV (rH W k) (rM W k more)), .bool (!(rH W k || rM W k more))]] w fun r w' => r = .returned (.string rs) ∧ Below w.heap.size w w' := by
  have d1 : nl (W / 2 ^ k) ≤ 8192 := Nat.le_trans (nl_mono _ _ (Nat.div_le_self _ _)) lw
  have d2 : nl (rS W k) ≤ 8192 := Nat.le_trans (nl_mono _ _ (Nat.div_le_self _ _)) d1
  have d3 : nl (rS W k + 1) ≤ 16384 := by
    have q : blen (rS W k + 1) ≤ blen (rS W k) + 1 := (blen_iff _ _).2 (by
      have a := (blen_iff (rS W k) _).1 (Nat.le_refl _)
      have b := Nat.two_pow_pos (blen (rS W k))
      rw [Nat.pow_succ]
      omega)
    unfold nl at d2 ⊢
    omega
  refine rf_taken m neg (gO m neg (rO W k) (rH W k) (rM W k more)) M (nbA (rS W k + 1)) rs A _ 0 _ w
    (box (fun w => rf_up m hm neg (rO W k) _ _ _ M A _ _ rfl rfl rfl w (box (fun w => rf_last (rS W k) M _ hM (by omega) rfl w))))
    (box (fun _ w => nat_Add (rS W k) 1 _ _ _ 0 hM nb1 (lg_is _ d3) (by omega) (Nat.le_trans nl1 (by decide)) w)) ?_
  rw [← hr, ← hM]
  unfold rG
  split <;> rfl
theorem r_emin_b (f : Int) (hf : Is4 f) (w : World) : Calls Tryz.prog 123 #[.int .u8 f] w fun r w' => r = .returned (.int .i64 (1 - fE f)) ∧ Below w.heap.size w w' := bel_same (r_emin f _ _ (is4_ok hf).1 rfl (em_lim hf).2.2.2.2.1 w)
theorem r_emax_b (f : Int) (hf : Is4 f) (w : World) : Calls Tryz.prog 127 #[.int .u8 f] w fun r w' => r = .returned (.int .i64 (fE f)) ∧ Below w.heap.size w w' := bel_same (r_emax f _ (is4_ok hf).1 rfl w)
theorem r_prec_b (f : Int) (hf : Is4 f) (w : World) : Calls Tryz.prog 106 #[.int .u8 f] w fun r w' => r = .returned (.int .i64 (fP f)) ∧ Below w.heap.size w w' := bel_same (r_precision f _ (is4_ok hf).1 rfl w)
theorem rover (f m : Int) (hf : Is4 f) (hm : 0 ≤ m ∧ m ≤ 4) (neg : Bool) (u v : Nat) (hv : bv7 (ovB f m neg) = (u, v)) (w : World) : Calls Tryz.prog 156 #[.int .u8 f, .int .u8 m, .bool neg] w fun r w' => r = .returned (.agg #[.int .u64 (u : Nat), .int .u64 (v : Nat)]) ∧ Below w.heap.size w w' := by
  refine rf_over f m hm neg u v w (box (fun h w => rz_inf f neg hf u v ?_ w)) (box (fun h w => ?_))
  · unfold ovB at hv; rw [if_pos h] at hv; exact hv
  · unfold ovB at hv
    rw [if_neg (by rw [h]; decide)] at hv
    have := r_greatest f neg hf _ rfl w
    rw [hv] at this
    exact this
theorem od_nil (S : Nat) (s : ByteArray) (hs : nbA S = s) : (s.toList == []) = decide (S = 0) := by
  rw [eq_empty, ← hs, nbA_size, Bool.eq_iff_iff, decide_eq_true_iff, decide_eq_true_iff]
  exact ⟨nl_eq0 _, fun h => by rw [h]; exact nl_zero⟩
end Go.Proofs.YtbmhfcppaajgbaaGreatDoor
namespace Go.Proofs.YtbmhfcppaajgbaaGreatDoor
set_option maxRecDepth 100000
open Go.RowKit WMath
set_option linter.unusedSimpArgs false
set_option linter.unusedVariables false

set_option maxRecDepth 100000 in
set_option maxHeartbeats 4000000 in
theorem ru_Round_ok (f m : Int) (b : Bool) (s t : ByteArray) (e : Int) (nb : Bool) (T La : Int) (ws : ByteArray) (more : Bool) (u v : Nat) (fl : Int) (w : World)
    (KC : Box (∀ w, TabAt w → Calls Tryz.prog 65 #[.int .u8 f, .int .u8 m, .agg #[.bool b, .string s, .string t, .int .i64 e]] w fun r w' => r = .returned (.int .i64 0) ∧ Below w.heap.size w w'))
    (KX : Box (∀ w, FAt w → TabAt w → Calls Tryz.prog 67 #[.int .u8 f, .agg #[.bool b, .string s, .string t, .int .i64 e]] w fun r w' => r = .returned (.agg #[.bool nb, .int .i64 T, .int .i64 La, .string ws, .bool more]) ∧ Below w.heap.size w w'))
    (KD : Box (∀ w, FAt w → TabAt w → Calls Tryz.prog 66 #[.int .u8 f, .int .u8 m, .agg #[.bool nb, .int .i64 T, .int .i64 La, .string ws, .bool more]] w fun r w' => r = .returned (.tuple #[.agg #[.int .u64 (u : Nat), .int .u64 (v : Nat)], .int .u8 fl]) ∧ Below w.heap.size w w'))
    (hT : FAt w) (hT2 : TabAt w) : Calls Tryz.prog 22 #[.int .u8 f, .int .u8 m, .agg #[.bool b, .string s, .string t, .int .i64 e]] w fun r w' => r = .returned (.tuple #[.agg #[.int .u64 (u : Nat), .int .u64 (v : Nat)], .int .u8 fl, .int .i64 0]) ∧ Below w.heap.size w w' := by
  have FF := box hT
  have TT := box hT2
  clear hT hT2
  obtain ⟨Rx_0, Rz_0, B0⟩ := opn2 w (Obj.cells #[.bool b, .string s, .string t, .int .i64 e] 41) (Obj.cells #[.int .u64 0, .int .u64 0] 25)
  go_enter Tryz.func22, Tryz.ntmps22
  go_wp2_with fail
  refine (KC.out _ (tabB TT.out B0)).mono ?_
  rintro r w1 ⟨rfl, b1⟩
  have B1 : Below w.heap.size w w1 := btr B0 b1
  have Rx_1 := heap_of b1 _ _ _ Rx_0
  have Rz_1 := heap_of b1 _ _ _ Rz_0
  clear b1 B0 Rx_0 Rz_0
  obtain ⟨cx_1_0, cx_1_1, cx_1_2, cx_1_3⟩ := cells4s Rx_1
  obtain ⟨cz_1_0, cz_1_1⟩ := cells2s Rz_1
  go_wp2_with fail
  refine (KX.out _ (fatB FF.out B1) (tabB TT.out B1)).mono ?_
  rintro r w2 ⟨rfl, b2⟩
  have B2 : Below w.heap.size w w2 := btr B1 b2
  have Rx_2 := heap_of b2 _ _ _ Rx_1
  have Rz_2 := heap_of b2 _ _ _ Rz_1
  clear b2 B1 Rx_1 cx_1_0 cx_1_1 cx_1_2 cx_1_3 Rz_1 cz_1_0 cz_1_1
  obtain ⟨cx_2_0, cx_2_1, cx_2_2, cx_2_3⟩ := cells4s Rx_2
  obtain ⟨cz_2_0, cz_2_1⟩ := cells2s Rz_2
  go_wp2_with fail
  refine (KD.out _ (fatB FF.out B2) (tabB TT.out B2)).mono ?_
  rintro r w3 ⟨rfl, b3⟩
  have B3 : Below w.heap.size w w3 := btr B2 b3
  have Rx_3 := heap_of b3 _ _ _ Rx_2
  have Rz_3 := heap_of b3 _ _ _ Rz_2
  clear b3 B2 Rx_2 cx_2_0 cx_2_1 cx_2_2 cx_2_3 Rz_2 cz_2_0 cz_2_1
  obtain ⟨cx_3_0, cx_3_1, cx_3_2, cx_3_3⟩ := cells4s Rx_3
  obtain ⟨cz_3_0, cz_3_1⟩ := cells2s Rz_3
  have S4 := box B3.size
  have Lx_4 : Box (w.heap.size < w3.heap.size) := box (Array.getElem?_eq_some_iff.1 Rx_3).1
  have Lz_4 : Box (w.heap.size + 1 < w3.heap.size) := box (Array.getElem?_eq_some_iff.1 Rz_3).1
  have Rb_4 := heap_alloc_last w3 (Obj.cells #[.int .u64 (u : Nat), .int .u64 (v : Nat)] 25)
  have B4 := btr B3 (bal w3 (Obj.cells #[.int .u64 (u : Nat), .int .u64 (v : Nat)] 25))
  have Rx_4 := heap_of (bal w3 (Obj.cells #[.int .u64 (u : Nat), .int .u64 (v : Nat)] 25)) _ _ _ Rx_3
  have Rz_4 := heap_of (bal w3 (Obj.cells #[.int .u64 (u : Nat), .int .u64 (v : Nat)] 25)) _ _ _ Rz_3
  clear B3 Rx_3 cx_3_0 cx_3_1 cx_3_2 cx_3_3 Rz_3 cz_3_0 cz_3_1
  obtain ⟨cx_4_0, cx_4_1, cx_4_2, cx_4_3⟩ := cells4s Rx_4
  obtain ⟨cz_4_0, cz_4_1⟩ := cells2s Rz_4
  obtain ⟨cb_4_0, cb_4_1⟩ := cells2s Rb_4
  have q0 := fz (k := 0) Rz_4
  have q1 := fz (k := 1) Rz_4
  obtain ⟨E0, E1⟩ := set2_cells Rz_4 (.int .u64 (u : Nat)) (.int .u64 (v : Nat))
  go_wp2
  exact bodyPost_ret (v := .tuple #[.agg #[.int .u64 (u : Nat), .int .u64 (v : Nat)], .int .u8 fl, .int .i64 0]) (by simp [results, Tryz.results22, go_sem, E0, E1]) rfl ⟨rfl, set2_below B4 (by first | exact Nat.le_refl _ | omega | (have := S4.out; have := Lx_4.out; have := Lz_4.out; omega)) _ _⟩
set_option maxRecDepth 100000 in
set_option maxHeartbeats 4000000 in
theorem ru_Tiny_err (f m : Int) (b : Bool) (s t : ByteArray) (e : Int) (c : Int) (w : World)
    (KC : Box (∀ w, TabAt w → Calls Tryz.prog 65 #[.int .u8 f, .int .u8 m, .agg #[.bool b, .string s, .string t, .int .i64 e]] w fun r w' => r = .returned (.int .i64 c) ∧ Below w.heap.size w w'))
    (hc : (c != 0) = true)
    (hT : FAt w) (hT2 : TabAt w) : Calls Tryz.prog 26 #[.int .u8 f, .int .u8 m, .agg #[.bool b, .string s, .string t, .int .i64 e]] w fun r w' => r = .returned (.tuple #[.bool false, .int .i64 c]) ∧ Below w.heap.size w w' := by
  have FF := box hT
  have TT := box hT2
  clear hT hT2
  obtain ⟨Rx_0, B0⟩ := opn1 w (Obj.cells #[.bool b, .string s, .string t, .int .i64 e] 41)
  go_enter Tryz.func26, Tryz.ntmps26
  go_wp2_with fail
  refine (KC.out _ (tabB TT.out B0)).mono ?_
  rintro r w1 ⟨rfl, b1⟩
  have B1 : Below w.heap.size w w1 := btr B0 b1
  have Rx_1 := heap_of b1 _ _ _ Rx_0
  clear b1 B0 Rx_0
  obtain ⟨cx_1_0, cx_1_1, cx_1_2, cx_1_3⟩ := cells4s Rx_1
  go_wp2
  go_ret2
  exact ⟨rfl, B1⟩
set_option maxRecDepth 100000 in
set_option maxHeartbeats 4000000 in
theorem ru_Tiny_null (f m : Int) (w : World)
    (KC : Box (∀ w, TabAt w → Calls Tryz.prog 65 #[.int .u8 f, .int .u8 m, .agg #[.bool false, .string ⟨#[]⟩, .string ⟨#[1]⟩, .int .i64 0]] w fun r w' => r = .returned (.int .i64 0) ∧ Below w.heap.size w w'))
    (KW : Box (∀ w, TabAt w → Calls Tryz.prog 71 #[.int .i64 0] w fun r w' => r = .returned (.agg #[.bool false, .string ⟨#[]⟩, .string ⟨#[1]⟩, .int .i64 0]) ∧ Below w.heap.size w w'))
    (hT : FAt w) (hT2 : TabAt w) : Calls Tryz.prog 26 #[.int .u8 f, .int .u8 m, .agg #[.bool false, .string ⟨#[]⟩, .string ⟨#[1]⟩, .int .i64 0]] w fun r w' => r = .returned (.tuple #[.bool false, .int .i64 0]) ∧ Below w.heap.size w w' := by
  have FF := box hT
  have TT := box hT2
  clear hT hT2
  obtain ⟨Rx_0, B0⟩ := opn1 w (Obj.cells #[.bool false, .string ⟨#[]⟩, .string ⟨#[1]⟩, .int .i64 0] 41)
  go_enter Tryz.func26, Tryz.ntmps26
  go_wp2_with fail
  refine (KC.out _ (tabB TT.out B0)).mono ?_
  rintro r w1 ⟨rfl, b1⟩
  have B1 : Below w.heap.size w w1 := btr B0 b1
  have Rx_1 := heap_of b1 _ _ _ Rx_0
  clear b1 B0 Rx_0
  obtain ⟨cx_1_0, cx_1_1, cx_1_2, cx_1_3⟩ := cells4s Rx_1
  go_wp2_with fail
  obtain ⟨F, hF1, hF2⟩ := below_fun w1
  have fx_0 := fun u => cells4 (heap_of (hF1 u) _ _ _ Rx_1) 0 _ rfl
  have fx_1 := fun u => cells4 (heap_of (hF1 u) _ _ _ Rx_1) 1 _ rfl
  have fx_2 := fun u => cells4 (heap_of (hF1 u) _ _ _ Rx_1) 2 _ rfl
  have fx_3 := fun u => cells4 (heap_of (hF1 u) _ _ _ Rx_1) 3 _ rfl
  have TF : Box (∀ u, TabAt (F u)) := box (fun u => tabB TT.out (btr B1 (hF1 u)))
  refine wp_region_below F hF2 (by kernel_rfl) (by kernel_rfl) ?_
  repeat first | go_big_quiet_step (first | (go_at_call 71; exact quietF hF1 hF2 (KW.out _ (TF.out _))) | fail) | quiet_step (first | (go_at_call 71; exact quietF hF1 hF2 (KW.out _ (TF.out _))) | fail)
  refine wpQuiet_nil ?_
  rintro _ ⟨uW, rfl⟩
  have B2 := btr B1 (hF1 uW)
  have Rx_2 := heap_of (hF1 uW) _ _ _ Rx_1
  obtain ⟨w2, hw⟩ : ∃ V, F uW = V := ⟨_, rfl⟩
  rw [hw] at B2 Rx_2
  try rw [hw]
  clear hw hF1 hF2 B1 fx_0 fx_1 fx_2 fx_3 Rx_1 cx_1_0 cx_1_1 cx_1_2 cx_1_3
  clear TF
  clear F
  obtain ⟨cx_2_0, cx_2_1, cx_2_2, cx_2_3⟩ := cells4s Rx_2
  go_wp2
  go_ret2
  exact ⟨rfl, B2⟩
set_option maxRecDepth 100000 in
set_option maxHeartbeats 4000000 in
theorem ru_Tiny_ok_false (f m : Int) (s t : ByteArray) (e : Int) (nb : Bool) (T La : Int) (ws : ByteArray) (more o : Bool) (w : World)
    (KC : Box (∀ w, TabAt w → Calls Tryz.prog 65 #[.int .u8 f, .int .u8 m, .agg #[.bool false, .string s, .string t, .int .i64 e]] w fun r w' => r = .returned (.int .i64 0) ∧ Below w.heap.size w w'))
    (KW : Box (∀ w, TabAt w → Calls Tryz.prog 71 #[.int .i64 0] w fun r w' => r = .returned (.agg #[.bool false, .string ⟨#[]⟩, .string ⟨#[1]⟩, .int .i64 0]) ∧ Below w.heap.size w w'))
    (KX : Box (∀ w, FAt w → TabAt w → Calls Tryz.prog 67 #[.int .u8 f, .agg #[.bool false, .string s, .string t, .int .i64 e]] w fun r w' => r = .returned (.agg #[.bool nb, .int .i64 T, .int .i64 La, .string ws, .bool more]) ∧ Below w.heap.size w w'))
    (KN : Box (∀ w, FAt w → TabAt w → Calls Tryz.prog 72 #[.int .u8 f, .int .u8 m, .agg #[.bool nb, .int .i64 T, .int .i64 La, .string ws, .bool more]] w fun r w' => r = .returned (.bool o) ∧ Below w.heap.size w w'))
    (hs : (s.toList == []) = false)
    (hT : FAt w) (hT2 : TabAt w) : Calls Tryz.prog 26 #[.int .u8 f, .int .u8 m, .agg #[.bool false, .string s, .string t, .int .i64 e]] w fun r w' => r = .returned (.tuple #[.bool o, .int .i64 0]) ∧ Below w.heap.size w w' := by
  have FF := box hT
  have TT := box hT2
  clear hT hT2
  obtain ⟨Rx_0, B0⟩ := opn1 w (Obj.cells #[.bool false, .string s, .string t, .int .i64 e] 41)
  go_enter Tryz.func26, Tryz.ntmps26
  go_wp2_with fail
  refine (KC.out _ (tabB TT.out B0)).mono ?_
  rintro r w1 ⟨rfl, b1⟩
  have B1 : Below w.heap.size w w1 := btr B0 b1
  have Rx_1 := heap_of b1 _ _ _ Rx_0
  clear b1 B0 Rx_0
  obtain ⟨cx_1_0, cx_1_1, cx_1_2, cx_1_3⟩ := cells4s Rx_1
  go_wp2_with fail
  obtain ⟨F, hF1, hF2⟩ := below_fun w1
  have fx_0 := fun u => cells4 (heap_of (hF1 u) _ _ _ Rx_1) 0 _ rfl
  have fx_1 := fun u => cells4 (heap_of (hF1 u) _ _ _ Rx_1) 1 _ rfl
  have fx_2 := fun u => cells4 (heap_of (hF1 u) _ _ _ Rx_1) 2 _ rfl
  have fx_3 := fun u => cells4 (heap_of (hF1 u) _ _ _ Rx_1) 3 _ rfl
  have FG : Box (∀ u, FAt (F u)) := box (fun u => fatB FF.out (btr B1 (hF1 u)))
  have TF : Box (∀ u, TabAt (F u)) := box (fun u => tabB TT.out (btr B1 (hF1 u)))
  refine wp_region_below F hF2 (by kernel_rfl) (by kernel_rfl) ?_
  repeat first | go_big_quiet_step (first | (go_at_call 71; exact quietF hF1 hF2 (KW.out _ (TF.out _))) | (go_at_call 67; exact quietF hF1 hF2 (KX.out _ (FG.out _) (TF.out _))) | (go_at_call 72; exact quietF hF1 hF2 (KN.out _ (FG.out _) (TF.out _))) | fail) | quiet_step (first | (go_at_call 71; exact quietF hF1 hF2 (KW.out _ (TF.out _))) | (go_at_call 67; exact quietF hF1 hF2 (KX.out _ (FG.out _) (TF.out _))) | (go_at_call 72; exact quietF hF1 hF2 (KN.out _ (FG.out _) (TF.out _))) | fail)
  refine wpQuiet_nil ?_
  rintro _ ⟨uW, rfl⟩
  have B2 := btr B1 (hF1 uW)
  have Rx_2 := heap_of (hF1 uW) _ _ _ Rx_1
  obtain ⟨w2, hw⟩ : ∃ V, F uW = V := ⟨_, rfl⟩
  rw [hw] at B2 Rx_2
  try rw [hw]
  clear hw hF1 hF2 B1 fx_0 fx_1 fx_2 fx_3 Rx_1 cx_1_0 cx_1_1 cx_1_2 cx_1_3
  clear FG
  clear TF
  clear F
  obtain ⟨cx_2_0, cx_2_1, cx_2_2, cx_2_3⟩ := cells4s Rx_2
  go_wp2
  go_ret2
  exact ⟨rfl, B2⟩
set_option maxRecDepth 100000 in
set_option maxHeartbeats 4000000 in
theorem ru_Tiny_ok_true (f m : Int) (s t : ByteArray) (e : Int) (nb : Bool) (T La : Int) (ws : ByteArray) (more o : Bool) (w : World)
    (KC : Box (∀ w, TabAt w → Calls Tryz.prog 65 #[.int .u8 f, .int .u8 m, .agg #[.bool true, .string s, .string t, .int .i64 e]] w fun r w' => r = .returned (.int .i64 0) ∧ Below w.heap.size w w'))
    (KW : Box (∀ w, TabAt w → Calls Tryz.prog 71 #[.int .i64 0] w fun r w' => r = .returned (.agg #[.bool false, .string ⟨#[]⟩, .string ⟨#[1]⟩, .int .i64 0]) ∧ Below w.heap.size w w'))
    (KX : Box (∀ w, FAt w → TabAt w → Calls Tryz.prog 67 #[.int .u8 f, .agg #[.bool true, .string s, .string t, .int .i64 e]] w fun r w' => r = .returned (.agg #[.bool nb, .int .i64 T, .int .i64 La, .string ws, .bool more]) ∧ Below w.heap.size w w'))
    (KN : Box (∀ w, FAt w → TabAt w → Calls Tryz.prog 72 #[.int .u8 f, .int .u8 m, .agg #[.bool nb, .int .i64 T, .int .i64 La, .string ws, .bool more]] w fun r w' => r = .returned (.bool o) ∧ Below w.heap.size w w'))
    (hs : (s.toList == []) = false)
    (hT : FAt w) (hT2 : TabAt w) : Calls Tryz.prog 26 #[.int .u8 f, .int .u8 m, .agg #[.bool true, .string s, .string t, .int .i64 e]] w fun r w' => r = .returned (.tuple #[.bool o, .int .i64 0]) ∧ Below w.heap.size w w' := by
  have FF := box hT
  have TT := box hT2
  clear hT hT2
  obtain ⟨Rx_0, B0⟩ := opn1 w (Obj.cells #[.bool true, .string s, .string t, .int .i64 e] 41)
  go_enter Tryz.func26, Tryz.ntmps26
  go_wp2_with fail
  refine (KC.out _ (tabB TT.out B0)).mono ?_
  rintro r w1 ⟨rfl, b1⟩
  have B1 : Below w.heap.size w w1 := btr B0 b1
  have Rx_1 := heap_of b1 _ _ _ Rx_0
  clear b1 B0 Rx_0
  obtain ⟨cx_1_0, cx_1_1, cx_1_2, cx_1_3⟩ := cells4s Rx_1
  go_wp2_with fail
  obtain ⟨F, hF1, hF2⟩ := below_fun w1
  have fx_0 := fun u => cells4 (heap_of (hF1 u) _ _ _ Rx_1) 0 _ rfl
  have fx_1 := fun u => cells4 (heap_of (hF1 u) _ _ _ Rx_1) 1 _ rfl
  have fx_2 := fun u => cells4 (heap_of (hF1 u) _ _ _ Rx_1) 2 _ rfl
  have fx_3 := fun u => cells4 (heap_of (hF1 u) _ _ _ Rx_1) 3 _ rfl
  have FG : Box (∀ u, FAt (F u)) := box (fun u => fatB FF.out (btr B1 (hF1 u)))
  have TF : Box (∀ u, TabAt (F u)) := box (fun u => tabB TT.out (btr B1 (hF1 u)))
  refine wp_region_below F hF2 (by kernel_rfl) (by kernel_rfl) ?_
  repeat first | go_big_quiet_step (first | (go_at_call 71; exact quietF hF1 hF2 (KW.out _ (TF.out _))) | (go_at_call 67; exact quietF hF1 hF2 (KX.out _ (FG.out _) (TF.out _))) | (go_at_call 72; exact quietF hF1 hF2 (KN.out _ (FG.out _) (TF.out _))) | fail) | quiet_step (first | (go_at_call 71; exact quietF hF1 hF2 (KW.out _ (TF.out _))) | (go_at_call 67; exact quietF hF1 hF2 (KX.out _ (FG.out _) (TF.out _))) | (go_at_call 72; exact quietF hF1 hF2 (KN.out _ (FG.out _) (TF.out _))) | fail)
  refine wpQuiet_nil ?_
  rintro _ ⟨uW, rfl⟩
  have B2 := btr B1 (hF1 uW)
  have Rx_2 := heap_of (hF1 uW) _ _ _ Rx_1
  obtain ⟨w2, hw⟩ : ∃ V, F uW = V := ⟨_, rfl⟩
  rw [hw] at B2 Rx_2
  try rw [hw]
  clear hw hF1 hF2 B1 fx_0 fx_1 fx_2 fx_3 Rx_1 cx_1_0 cx_1_1 cx_1_2 cx_1_3
  clear FG
  clear TF
  clear F
  obtain ⟨cx_2_0, cx_2_1, cx_2_2, cx_2_3⟩ := cells4s Rx_2
  go_wp2
  go_ret2
  exact ⟨rfl, B2⟩
set_option maxRecDepth 100000 in
set_option maxHeartbeats 4000000 in
theorem rf_fault_a (f m : Int) (b : Bool) (s t : ByteArray) (e : Int) (o1 o2 o3 : Bool) (w : World)
    (K1 : Box (∀ w, Calls Tryz.prog 17 #[.int .u8 f] w fun r w' => r = .returned (.bool o1) ∧ Below w.heap.size w w'))
    (K2 : Box (∀ w, Calls Tryz.prog 31 #[.int .u8 m] w fun r w' => r = .returned (.bool o2) ∧ Below w.heap.size w w'))
    (K3 : Box (∀ w, Calls Tryz.prog 29 #[.agg #[.bool b, .string s, .string t, .int .i64 e]] w fun r w' => r = .returned (.bool o3) ∧ Below w.heap.size w w'))
    (h1 : o1 = false)
    : Calls Tryz.prog 68 #[.int .u8 f, .int .u8 m, .agg #[.bool b, .string s, .string t, .int .i64 e]] w fun r w' => r = .returned (.int .i64 2) ∧ Below w.heap.size w w' := by
  subst h1
  obtain ⟨Rx_0, B0⟩ := opn1 w (Obj.cells #[.bool b, .string s, .string t, .int .i64 e] 41)
  go_enter Tryz.func68, Tryz.ntmps68
  go_wp2_with fail
  refine (K1.out _).mono ?_
  rintro r w1 ⟨rfl, b1⟩
  have B1 : Below w.heap.size w w1 := btr B0 b1
  have Rx_1 := heap_of b1 _ _ _ Rx_0
  clear b1 B0 Rx_0
  obtain ⟨cx_1_0, cx_1_1, cx_1_2, cx_1_3⟩ := cells4s Rx_1
  go_wp2
  go_ret
  exact ⟨rfl, B1⟩
set_option maxRecDepth 100000 in
set_option maxHeartbeats 4000000 in
theorem rf_fault_b (f m : Int) (b : Bool) (s t : ByteArray) (e : Int) (o1 o2 o3 : Bool) (w : World)
    (K1 : Box (∀ w, Calls Tryz.prog 17 #[.int .u8 f] w fun r w' => r = .returned (.bool o1) ∧ Below w.heap.size w w'))
    (K2 : Box (∀ w, Calls Tryz.prog 31 #[.int .u8 m] w fun r w' => r = .returned (.bool o2) ∧ Below w.heap.size w w'))
    (K3 : Box (∀ w, Calls Tryz.prog 29 #[.agg #[.bool b, .string s, .string t, .int .i64 e]] w fun r w' => r = .returned (.bool o3) ∧ Below w.heap.size w w'))
    (h1 : o1 = true) (h2 : o2 = false)
    : Calls Tryz.prog 68 #[.int .u8 f, .int .u8 m, .agg #[.bool b, .string s, .string t, .int .i64 e]] w fun r w' => r = .returned (.int .i64 2) ∧ Below w.heap.size w w' := by
  subst h1 h2
  obtain ⟨Rx_0, B0⟩ := opn1 w (Obj.cells #[.bool b, .string s, .string t, .int .i64 e] 41)
  go_enter Tryz.func68, Tryz.ntmps68
  go_wp2_with fail
  refine (K1.out _).mono ?_
  rintro r w1 ⟨rfl, b1⟩
  have B1 : Below w.heap.size w w1 := btr B0 b1
  have Rx_1 := heap_of b1 _ _ _ Rx_0
  clear b1 B0 Rx_0
  obtain ⟨cx_1_0, cx_1_1, cx_1_2, cx_1_3⟩ := cells4s Rx_1
  go_wp2_with fail
  refine (K2.out _).mono ?_
  rintro r w2 ⟨rfl, b2⟩
  have B2 : Below w.heap.size w w2 := btr B1 b2
  have Rx_2 := heap_of b2 _ _ _ Rx_1
  clear b2 B1 Rx_1 cx_1_0 cx_1_1 cx_1_2 cx_1_3
  obtain ⟨cx_2_0, cx_2_1, cx_2_2, cx_2_3⟩ := cells4s Rx_2
  go_wp2
  go_ret
  exact ⟨rfl, B2⟩
set_option maxRecDepth 100000 in
set_option maxHeartbeats 4000000 in
theorem rf_fault_c (f m : Int) (b : Bool) (s t : ByteArray) (e : Int) (o1 o2 o3 : Bool) (w : World)
    (K1 : Box (∀ w, Calls Tryz.prog 17 #[.int .u8 f] w fun r w' => r = .returned (.bool o1) ∧ Below w.heap.size w w'))
    (K2 : Box (∀ w, Calls Tryz.prog 31 #[.int .u8 m] w fun r w' => r = .returned (.bool o2) ∧ Below w.heap.size w w'))
    (K3 : Box (∀ w, Calls Tryz.prog 29 #[.agg #[.bool b, .string s, .string t, .int .i64 e]] w fun r w' => r = .returned (.bool o3) ∧ Below w.heap.size w w'))
    (h1 : o1 = true) (h2 : o2 = true) (h3 : o3 = false)
    : Calls Tryz.prog 68 #[.int .u8 f, .int .u8 m, .agg #[.bool b, .string s, .string t, .int .i64 e]] w fun r w' => r = .returned (.int .i64 2) ∧ Below w.heap.size w w' := by
  subst h1 h2 h3
  obtain ⟨Rx_0, B0⟩ := opn1 w (Obj.cells #[.bool b, .string s, .string t, .int .i64 e] 41)
  go_enter Tryz.func68, Tryz.ntmps68
  go_wp2_with fail
  refine (K1.out _).mono ?_
  rintro r w1 ⟨rfl, b1⟩
  have B1 : Below w.heap.size w w1 := btr B0 b1
  have Rx_1 := heap_of b1 _ _ _ Rx_0
  clear b1 B0 Rx_0
  obtain ⟨cx_1_0, cx_1_1, cx_1_2, cx_1_3⟩ := cells4s Rx_1
  go_wp2_with fail
  refine (K2.out _).mono ?_
  rintro r w2 ⟨rfl, b2⟩
  have B2 : Below w.heap.size w w2 := btr B1 b2
  have Rx_2 := heap_of b2 _ _ _ Rx_1
  clear b2 B1 Rx_1 cx_1_0 cx_1_1 cx_1_2 cx_1_3
  obtain ⟨cx_2_0, cx_2_1, cx_2_2, cx_2_3⟩ := cells4s Rx_2
  go_wp2_with fail
  refine (K3.out _).mono ?_
  rintro r w3 ⟨rfl, b3⟩
  have B3 : Below w.heap.size w w3 := btr B2 b3
  have Rx_3 := heap_of b3 _ _ _ Rx_2
  clear b3 B2 Rx_2 cx_2_0 cx_2_1 cx_2_2 cx_2_3
  obtain ⟨cx_3_0, cx_3_1, cx_3_2, cx_3_3⟩ := cells4s Rx_3
  go_wp2
  go_ret
  exact ⟨rfl, B3⟩
set_option maxRecDepth 100000 in
set_option maxHeartbeats 4000000 in
theorem rf_fault_d (f m : Int) (b : Bool) (s t : ByteArray) (e : Int) (o1 o2 o3 : Bool) (w : World)
    (K1 : Box (∀ w, Calls Tryz.prog 17 #[.int .u8 f] w fun r w' => r = .returned (.bool o1) ∧ Below w.heap.size w w'))
    (K2 : Box (∀ w, Calls Tryz.prog 31 #[.int .u8 m] w fun r w' => r = .returned (.bool o2) ∧ Below w.heap.size w w'))
    (K3 : Box (∀ w, Calls Tryz.prog 29 #[.agg #[.bool b, .string s, .string t, .int .i64 e]] w fun r w' => r = .returned (.bool o3) ∧ Below w.heap.size w w'))
    (h1 : o1 = true) (h2 : o2 = true) (h3 : o3 = true) (h4 : decide ((8192 : Int) < (s.size : Int)) = true)
    : Calls Tryz.prog 68 #[.int .u8 f, .int .u8 m, .agg #[.bool b, .string s, .string t, .int .i64 e]] w fun r w' => r = .returned (.int .i64 4) ∧ Below w.heap.size w w' := by
  subst h1 h2 h3
  obtain ⟨Rx_0, B0⟩ := opn1 w (Obj.cells #[.bool b, .string s, .string t, .int .i64 e] 41)
  go_enter Tryz.func68, Tryz.ntmps68
  go_wp2_with fail
  refine (K1.out _).mono ?_
  rintro r w1 ⟨rfl, b1⟩
  have B1 : Below w.heap.size w w1 := btr B0 b1
  have Rx_1 := heap_of b1 _ _ _ Rx_0
  clear b1 B0 Rx_0
  obtain ⟨cx_1_0, cx_1_1, cx_1_2, cx_1_3⟩ := cells4s Rx_1
  go_wp2_with fail
  refine (K2.out _).mono ?_
  rintro r w2 ⟨rfl, b2⟩
  have B2 : Below w.heap.size w w2 := btr B1 b2
  have Rx_2 := heap_of b2 _ _ _ Rx_1
  clear b2 B1 Rx_1 cx_1_0 cx_1_1 cx_1_2 cx_1_3
  obtain ⟨cx_2_0, cx_2_1, cx_2_2, cx_2_3⟩ := cells4s Rx_2
  go_wp2_with fail
  refine (K3.out _).mono ?_
  rintro r w3 ⟨rfl, b3⟩
  have B3 : Below w.heap.size w w3 := btr B2 b3
  have Rx_3 := heap_of b3 _ _ _ Rx_2
  clear b3 B2 Rx_2 cx_2_0 cx_2_1 cx_2_2 cx_2_3
  obtain ⟨cx_3_0, cx_3_1, cx_3_2, cx_3_3⟩ := cells4s Rx_3
  go_wp2
  go_ret
  exact ⟨rfl, B3⟩
set_option maxRecDepth 100000 in
set_option maxHeartbeats 4000000 in
theorem rf_fault_e (f m : Int) (b : Bool) (s t : ByteArray) (e : Int) (o1 o2 o3 : Bool) (w : World)
    (K1 : Box (∀ w, Calls Tryz.prog 17 #[.int .u8 f] w fun r w' => r = .returned (.bool o1) ∧ Below w.heap.size w w'))
    (K2 : Box (∀ w, Calls Tryz.prog 31 #[.int .u8 m] w fun r w' => r = .returned (.bool o2) ∧ Below w.heap.size w w'))
    (K3 : Box (∀ w, Calls Tryz.prog 29 #[.agg #[.bool b, .string s, .string t, .int .i64 e]] w fun r w' => r = .returned (.bool o3) ∧ Below w.heap.size w w'))
    (h1 : o1 = true) (h2 : o2 = true) (h3 : o3 = true) (h4 : decide ((8192 : Int) < (s.size : Int)) = false) (h5 : decide ((8192 : Int) < (t.size : Int)) = true)
    : Calls Tryz.prog 68 #[.int .u8 f, .int .u8 m, .agg #[.bool b, .string s, .string t, .int .i64 e]] w fun r w' => r = .returned (.int .i64 4) ∧ Below w.heap.size w w' := by
  subst h1 h2 h3
  obtain ⟨Rx_0, B0⟩ := opn1 w (Obj.cells #[.bool b, .string s, .string t, .int .i64 e] 41)
  go_enter Tryz.func68, Tryz.ntmps68
  go_wp2_with fail
  refine (K1.out _).mono ?_
  rintro r w1 ⟨rfl, b1⟩
  have B1 : Below w.heap.size w w1 := btr B0 b1
  have Rx_1 := heap_of b1 _ _ _ Rx_0
  clear b1 B0 Rx_0
  obtain ⟨cx_1_0, cx_1_1, cx_1_2, cx_1_3⟩ := cells4s Rx_1
  go_wp2_with fail
  refine (K2.out _).mono ?_
  rintro r w2 ⟨rfl, b2⟩
  have B2 : Below w.heap.size w w2 := btr B1 b2
  have Rx_2 := heap_of b2 _ _ _ Rx_1
  clear b2 B1 Rx_1 cx_1_0 cx_1_1 cx_1_2 cx_1_3
  obtain ⟨cx_2_0, cx_2_1, cx_2_2, cx_2_3⟩ := cells4s Rx_2
  go_wp2_with fail
  refine (K3.out _).mono ?_
  rintro r w3 ⟨rfl, b3⟩
  have B3 : Below w.heap.size w w3 := btr B2 b3
  have Rx_3 := heap_of b3 _ _ _ Rx_2
  clear b3 B2 Rx_2 cx_2_0 cx_2_1 cx_2_2 cx_2_3
  obtain ⟨cx_3_0, cx_3_1, cx_3_2, cx_3_3⟩ := cells4s Rx_3
  go_wp2
  go_ret
  exact ⟨rfl, B3⟩
set_option maxRecDepth 100000 in
set_option maxHeartbeats 4000000 in
theorem rf_fault_f (f m : Int) (b : Bool) (s t : ByteArray) (e : Int) (o1 o2 o3 : Bool) (w : World)
    (K1 : Box (∀ w, Calls Tryz.prog 17 #[.int .u8 f] w fun r w' => r = .returned (.bool o1) ∧ Below w.heap.size w w'))
    (K2 : Box (∀ w, Calls Tryz.prog 31 #[.int .u8 m] w fun r w' => r = .returned (.bool o2) ∧ Below w.heap.size w w'))
    (K3 : Box (∀ w, Calls Tryz.prog 29 #[.agg #[.bool b, .string s, .string t, .int .i64 e]] w fun r w' => r = .returned (.bool o3) ∧ Below w.heap.size w w'))
    (h1 : o1 = true) (h2 : o2 = true) (h3 : o3 = true) (h4 : decide ((8192 : Int) < (s.size : Int)) = false) (h5 : decide ((8192 : Int) < (t.size : Int)) = false)
    : Calls Tryz.prog 68 #[.int .u8 f, .int .u8 m, .agg #[.bool b, .string s, .string t, .int .i64 e]] w fun r w' => r = .returned (.int .i64 0) ∧ Below w.heap.size w w' := by
  subst h1 h2 h3
  obtain ⟨Rx_0, B0⟩ := opn1 w (Obj.cells #[.bool b, .string s, .string t, .int .i64 e] 41)
  go_enter Tryz.func68, Tryz.ntmps68
  go_wp2_with fail
  refine (K1.out _).mono ?_
  rintro r w1 ⟨rfl, b1⟩
  have B1 : Below w.heap.size w w1 := btr B0 b1
  have Rx_1 := heap_of b1 _ _ _ Rx_0
  clear b1 B0 Rx_0
  obtain ⟨cx_1_0, cx_1_1, cx_1_2, cx_1_3⟩ := cells4s Rx_1
  go_wp2_with fail
  refine (K2.out _).mono ?_
  rintro r w2 ⟨rfl, b2⟩
  have B2 : Below w.heap.size w w2 := btr B1 b2
  have Rx_2 := heap_of b2 _ _ _ Rx_1
  clear b2 B1 Rx_1 cx_1_0 cx_1_1 cx_1_2 cx_1_3
  obtain ⟨cx_2_0, cx_2_1, cx_2_2, cx_2_3⟩ := cells4s Rx_2
  go_wp2_with fail
  refine (K3.out _).mono ?_
  rintro r w3 ⟨rfl, b3⟩
  have B3 : Below w.heap.size w w3 := btr B2 b3
  have Rx_3 := heap_of b3 _ _ _ Rx_2
  clear b3 B2 Rx_2 cx_2_0 cx_2_1 cx_2_2 cx_2_3
  obtain ⟨cx_3_0, cx_3_1, cx_3_2, cx_3_3⟩ := cells4s Rx_3
  go_wp2
  go_ret
  exact ⟨rfl, B3⟩
set_option maxRecDepth 100000 in
set_option maxHeartbeats 4000000 in
theorem rf_Round_null (f m : Int) (w : World)
    (KF : Box (∀ w, Calls Tryz.prog 68 #[.int .u8 f, .int .u8 m, .agg #[.bool false, .string ⟨#[]⟩, .string ⟨#[1]⟩, .int .i64 0]] w fun r w' => r = .returned (.int .i64 0) ∧ Below w.heap.size w w'))
    : Calls Tryz.prog 23 #[.int .u8 f, .int .u8 m, .agg #[.bool false, .string ⟨#[]⟩, .string ⟨#[1]⟩, .int .i64 0]] w fun r w' => r = .returned (.tuple #[.agg #[.int .u64 0, .int .u64 0], .int .u8 0, .int .i64 0]) ∧ Below w.heap.size w w' := by
  obtain ⟨Rx_0, Rz_0, B0⟩ := opn2 w (Obj.cells #[.bool false, .string ⟨#[]⟩, .string ⟨#[1]⟩, .int .i64 0] 41) (Obj.cells #[.int .u64 0, .int .u64 0] 25)
  go_enter Tryz.func23, Tryz.ntmps23
  go_wp2_with fail
  refine (KF.out _).mono ?_
  rintro r w1 ⟨rfl, b1⟩
  have B1 : Below w.heap.size w w1 := btr B0 b1
  have Rx_1 := heap_of b1 _ _ _ Rx_0
  have Rz_1 := heap_of b1 _ _ _ Rz_0
  clear b1 B0 Rx_0 Rz_0
  obtain ⟨cx_1_0, cx_1_1, cx_1_2, cx_1_3⟩ := cells4s Rx_1
  obtain ⟨cz_1_0, cz_1_1⟩ := cells2s Rz_1
  have q0 := fz (k := 0) Rz_1
  have q1 := fz (k := 1) Rz_1
  obtain ⟨E0, E1⟩ := set2_cells Rz_1 (.int .u64 0) (.int .u64 0)
  go_wp2
  exact bodyPost_ret (v := .tuple #[.agg #[.int .u64 0, .int .u64 0], .int .u8 0, .int .i64 0]) (by simp [results, Tryz.results23, go_sem, E0, E1]) rfl ⟨rfl, set2_below B1 (by first | exact Nat.le_refl _ | omega | (skip; omega)) _ _⟩
set_option maxRecDepth 100000 in
set_option maxHeartbeats 4000000 in
theorem rf_Round_ok (f m : Int) (b : Bool) (s t : ByteArray) (e : Int) (u v : Nat) (fl : Int) (w : World)
    (KF : Box (∀ w, Calls Tryz.prog 68 #[.int .u8 f, .int .u8 m, .agg #[.bool b, .string s, .string t, .int .i64 e]] w fun r w' => r = .returned (.int .i64 0) ∧ Below w.heap.size w w'))
    (KD : Box (∀ w, Calls Tryz.prog 69 #[.int .u8 f, .int .u8 m, .agg #[.bool b, .string s, .string t, .int .i64 e], .bool false] w fun r w' => r = .returned (.tuple #[.agg #[.int .u64 (u : Nat), .int .u64 (v : Nat)], .int .u8 fl]) ∧ Below w.heap.size w w'))
    (hs : (s.toList == []) = false) : Calls Tryz.prog 23 #[.int .u8 f, .int .u8 m, .agg #[.bool b, .string s, .string t, .int .i64 e]] w fun r w' => r = .returned (.tuple #[.agg #[.int .u64 (u : Nat), .int .u64 (v : Nat)], .int .u8 fl, .int .i64 0]) ∧ Below w.heap.size w w' := by
  obtain ⟨Rx_0, Rz_0, B0⟩ := opn2 w (Obj.cells #[.bool b, .string s, .string t, .int .i64 e] 41) (Obj.cells #[.int .u64 0, .int .u64 0] 25)
  go_enter Tryz.func23, Tryz.ntmps23
  go_wp2_with fail
  refine (KF.out _).mono ?_
  rintro r w1 ⟨rfl, b1⟩
  have B1 : Below w.heap.size w w1 := btr B0 b1
  have Rx_1 := heap_of b1 _ _ _ Rx_0
  have Rz_1 := heap_of b1 _ _ _ Rz_0
  clear b1 B0 Rx_0 Rz_0
  obtain ⟨cx_1_0, cx_1_1, cx_1_2, cx_1_3⟩ := cells4s Rx_1
  obtain ⟨cz_1_0, cz_1_1⟩ := cells2s Rz_1
  go_wp2_with fail
  refine (KD.out _).mono ?_
  rintro r w2 ⟨rfl, b2⟩
  have B2 : Below w.heap.size w w2 := btr B1 b2
  have Rx_2 := heap_of b2 _ _ _ Rx_1
  have Rz_2 := heap_of b2 _ _ _ Rz_1
  clear b2 B1 Rx_1 cx_1_0 cx_1_1 cx_1_2 cx_1_3 Rz_1 cz_1_0 cz_1_1
  obtain ⟨cx_2_0, cx_2_1, cx_2_2, cx_2_3⟩ := cells4s Rx_2
  obtain ⟨cz_2_0, cz_2_1⟩ := cells2s Rz_2
  have S3 := box B2.size
  have Lx_3 : Box (w.heap.size < w2.heap.size) := box (Array.getElem?_eq_some_iff.1 Rx_2).1
  have Lz_3 : Box (w.heap.size + 1 < w2.heap.size) := box (Array.getElem?_eq_some_iff.1 Rz_2).1
  have Rb_3 := heap_alloc_last w2 (Obj.cells #[.int .u64 (u : Nat), .int .u64 (v : Nat)] 25)
  have B3 := btr B2 (bal w2 (Obj.cells #[.int .u64 (u : Nat), .int .u64 (v : Nat)] 25))
  have Rx_3 := heap_of (bal w2 (Obj.cells #[.int .u64 (u : Nat), .int .u64 (v : Nat)] 25)) _ _ _ Rx_2
  have Rz_3 := heap_of (bal w2 (Obj.cells #[.int .u64 (u : Nat), .int .u64 (v : Nat)] 25)) _ _ _ Rz_2
  clear B2 Rx_2 cx_2_0 cx_2_1 cx_2_2 cx_2_3 Rz_2 cz_2_0 cz_2_1
  obtain ⟨cx_3_0, cx_3_1, cx_3_2, cx_3_3⟩ := cells4s Rx_3
  obtain ⟨cz_3_0, cz_3_1⟩ := cells2s Rz_3
  obtain ⟨cb_3_0, cb_3_1⟩ := cells2s Rb_3
  have q0 := fz (k := 0) Rz_3
  have q1 := fz (k := 1) Rz_3
  obtain ⟨E0, E1⟩ := set2_cells Rz_3 (.int .u64 (u : Nat)) (.int .u64 (v : Nat))
  go_wp2
  exact bodyPost_ret (v := .tuple #[.agg #[.int .u64 (u : Nat), .int .u64 (v : Nat)], .int .u8 fl, .int .i64 0]) (by simp [results, Tryz.results23, go_sem, E0, E1]) rfl ⟨rfl, set2_below B3 (by first | exact Nat.le_refl _ | omega | (have := S3.out; have := Lx_3.out; have := Lz_3.out; omega)) _ _⟩
set_option maxRecDepth 100000 in
set_option maxHeartbeats 4000000 in
theorem rf_Tiny_err (f m : Int) (b : Bool) (s t : ByteArray) (e : Int) (c : Int) (w : World)
    (KF : Box (∀ w, Calls Tryz.prog 68 #[.int .u8 f, .int .u8 m, .agg #[.bool b, .string s, .string t, .int .i64 e]] w fun r w' => r = .returned (.int .i64 c) ∧ Below w.heap.size w w'))
    (hc : (c != 0) = true) : Calls Tryz.prog 27 #[.int .u8 f, .int .u8 m, .agg #[.bool b, .string s, .string t, .int .i64 e]] w fun r w' => r = .returned (.tuple #[.bool false, .int .i64 c]) ∧ Below w.heap.size w w' := by
  obtain ⟨Rx_0, B0⟩ := opn1 w (Obj.cells #[.bool b, .string s, .string t, .int .i64 e] 41)
  go_enter Tryz.func27, Tryz.ntmps27
  go_wp2_with fail
  refine (KF.out _).mono ?_
  rintro r w1 ⟨rfl, b1⟩
  have B1 : Below w.heap.size w w1 := btr B0 b1
  have Rx_1 := heap_of b1 _ _ _ Rx_0
  clear b1 B0 Rx_0
  obtain ⟨cx_1_0, cx_1_1, cx_1_2, cx_1_3⟩ := cells4s Rx_1
  go_wp2
  go_ret2
  exact ⟨rfl, B1⟩
set_option maxRecDepth 100000 in
set_option maxHeartbeats 4000000 in
theorem rf_Tiny_null (f m : Int) (w : World)
    (KF : Box (∀ w, Calls Tryz.prog 68 #[.int .u8 f, .int .u8 m, .agg #[.bool false, .string ⟨#[]⟩, .string ⟨#[1]⟩, .int .i64 0]] w fun r w' => r = .returned (.int .i64 0) ∧ Below w.heap.size w w'))
    : Calls Tryz.prog 27 #[.int .u8 f, .int .u8 m, .agg #[.bool false, .string ⟨#[]⟩, .string ⟨#[1]⟩, .int .i64 0]] w fun r w' => r = .returned (.tuple #[.bool false, .int .i64 0]) ∧ Below w.heap.size w w' := by
  obtain ⟨Rx_0, B0⟩ := opn1 w (Obj.cells #[.bool false, .string ⟨#[]⟩, .string ⟨#[1]⟩, .int .i64 0] 41)
  go_enter Tryz.func27, Tryz.ntmps27
  go_wp2_with fail
  refine (KF.out _).mono ?_
  rintro r w1 ⟨rfl, b1⟩
  have B1 : Below w.heap.size w w1 := btr B0 b1
  have Rx_1 := heap_of b1 _ _ _ Rx_0
  clear b1 B0 Rx_0
  obtain ⟨cx_1_0, cx_1_1, cx_1_2, cx_1_3⟩ := cells4s Rx_1
  go_wp2
  go_ret2
  exact ⟨rfl, B1⟩
set_option maxRecDepth 100000 in
set_option maxHeartbeats 4000000 in
theorem rf_Tiny_ok (f m : Int) (b : Bool) (s t : ByteArray) (e : Int) (o : Bool) (w : World)
    (KF : Box (∀ w, Calls Tryz.prog 68 #[.int .u8 f, .int .u8 m, .agg #[.bool b, .string s, .string t, .int .i64 e]] w fun r w' => r = .returned (.int .i64 0) ∧ Below w.heap.size w w'))
    (KN : Box (∀ w, Calls Tryz.prog 73 #[.int .u8 f, .int .u8 m, .agg #[.bool b, .string s, .string t, .int .i64 e], .bool false] w fun r w' => r = .returned (.bool o) ∧ Below w.heap.size w w'))
    (hs : (s.toList == []) = false) : Calls Tryz.prog 27 #[.int .u8 f, .int .u8 m, .agg #[.bool b, .string s, .string t, .int .i64 e]] w fun r w' => r = .returned (.tuple #[.bool o, .int .i64 0]) ∧ Below w.heap.size w w' := by
  obtain ⟨Rx_0, B0⟩ := opn1 w (Obj.cells #[.bool b, .string s, .string t, .int .i64 e] 41)
  go_enter Tryz.func27, Tryz.ntmps27
  go_wp2_with fail
  refine (KF.out _).mono ?_
  rintro r w1 ⟨rfl, b1⟩
  have B1 : Below w.heap.size w w1 := btr B0 b1
  have Rx_1 := heap_of b1 _ _ _ Rx_0
  clear b1 B0 Rx_0
  obtain ⟨cx_1_0, cx_1_1, cx_1_2, cx_1_3⟩ := cells4s Rx_1
  go_wp2_with fail
  refine (KN.out _).mono ?_
  rintro r w2 ⟨rfl, b2⟩
  have B2 : Below w.heap.size w w2 := btr B1 b2
  have Rx_2 := heap_of b2 _ _ _ Rx_1
  clear b2 B1 Rx_1 cx_1_0 cx_1_1 cx_1_2 cx_1_3
  obtain ⟨cx_2_0, cx_2_1, cx_2_2, cx_2_3⟩ := cells4s Rx_2
  go_wp2
  go_ret2
  exact ⟨rfl, B2⟩
end Go.Proofs.YtbmhfcppaajgbaaGreatDoor
namespace Go.Proofs.YtbmhfcppaajgbaaGreatDoor
set_option maxRecDepth 100000
open Go.RowKit WMath XMath
set_option linter.unusedSimpArgs false
set_option linter.unusedVariables false

/-- The first error of a format, a mode, a number. -/
def flt (f m : Int) (may : Bool) (s t : ByteArray) : Int := if f ≤ 3 ∧ m ≤ 4 ∧ may = true then (if 8192 < s.size ∨ 8192 < t.size then 4 else 0) else 2
theorem k_mode (m c : Int) (hc : (if m ≤ 4 then (0 : Int) else 2) = c) (w : World) : Calls Tryz.prog 145 #[.int .u8 m] w fun r w' => r = .returned (.int .i64 c) ∧ Below w.heap.size w w' := by
  subst hc
  exact bel_same (s_checkMode m w)
theorem k_form (f : Int) (h0 : 0 ≤ f) (h1 : f ≤ 255) (c : Int) (hc : (if f ≤ 3 then (0 : Int) else 2) = c) (w : World) : Calls Tryz.prog 60 #[.int .u8 f] w fun r w' => r = .returned (.int .i64 c) ∧ Below w.heap.size w w' := by
  refine bel_same (s_check_is f c h0 h1 ?_ w)
  rw [← hc]
  by_cases h : f ≤ 3
  · rw [if_pos h]; exact fC_yes (is4_of h0 h)
  · rw [if_neg h]; exact fC_no h0 (by unfold Is4; omega)
theorem kcheck (f m : Int) (h0 : 0 ≤ f) (h1 : f ≤ 255) (b : Bool) (s t : ByteArray) (e : Int) (may : Bool) (hm : IsM may b s t e) (c : Int) (hc : flt f m may s t = c) (w : World) (hT2 : TabAt w) : Calls Tryz.prog 65 #[.int .u8 f, .int .u8 m, .agg #[.bool b, .string s, .string t, .int .i64 e]] w fun r w' => r = .returned (.int .i64 c) ∧ Below w.heap.size w w' := by
  have K1 : Box (∀ w, Calls Tryz.prog 60 #[.int .u8 f] w fun r w' => r = .returned (.int .i64 (if f ≤ 3 then (0 : Int) else 2)) ∧ Below w.heap.size w w') := box (fun w => k_form f h0 h1 _ rfl w)
  have K2 : Box (∀ w, Calls Tryz.prog 145 #[.int .u8 m] w fun r w' => r = .returned (.int .i64 (if m ≤ 4 then (0 : Int) else 2)) ∧ Below w.heap.size w w') := box (fun w => k_mode m _ rfl w)
  have K3 : Box (∀ w, TabAt w → Calls Tryz.prog 146 #[.agg #[.bool b, .string s, .string t, .int .i64 e]] w fun r w' => r = .returned (.int .i64 (if may then (0 : Int) else 2)) ∧ Below w.heap.size w w') := box (fun w hT => xcheckM b s t e may hm _ rfl w hT)
  unfold flt at hc
  by_cases c1 : f ≤ 3
  · rw [if_pos c1] at K1
    by_cases c2 : m ≤ 4
    · rw [if_pos c2] at K2
      cases may
      · rw [if_neg (by simp)] at hc
        subst hc
        exact ru_check_c f m b s t e 0 0 2 w K1 K2 K3 (by decide) (by decide) (by decide) hT2
      · rw [if_pos ⟨c1, c2, rfl⟩] at hc
        by_cases c4 : 8192 < s.size
        · rw [if_pos (Or.inl c4)] at hc
          subst hc
          exact ru_check_d f m b s t e 0 0 0 w K1 K2 K3 (by decide) (by decide) (by decide) (decide_eq_true (by omega)) hT2
        · by_cases c5 : 8192 < t.size
          · rw [if_pos (Or.inr c5)] at hc
            subst hc
            exact ru_check_e f m b s t e 0 0 0 w K1 K2 K3 (by decide) (by decide) (by decide) (decide_eq_false (by omega)) (decide_eq_true (by omega)) hT2
          · rw [if_neg (by omega)] at hc
            subst hc
            exact ru_check_f f m b s t e 0 0 0 w K1 K2 K3 (by decide) (by decide) (by decide) (decide_eq_false (by omega)) (decide_eq_false (by omega)) hT2
    · rw [if_neg c2] at K2
      rw [if_neg (by omega)] at hc
      subst hc
      exact ru_check_b f m b s t e 0 2 _ w K1 K2 K3 (by decide) (by decide) hT2
  · rw [if_neg c1] at K1
    rw [if_neg (by omega)] at hc
    subst hc
    exact ru_check_a f m b s t e 2 _ _ w K1 K2 K3 (by decide) hT2
theorem rfault (f m : Int) (b : Bool) (s t : ByteArray) (e : Int) (may : Bool) (hm : IsM may b s t e) (c : Int) (hc : flt f m may s t = c) (w : World) : Calls Tryz.prog 68 #[.int .u8 f, .int .u8 m, .agg #[.bool b, .string s, .string t, .int .i64 e]] w fun r w' => r = .returned (.int .i64 c) ∧ Below w.heap.size w w' := by
  have K1 : Box (∀ w, Calls Tryz.prog 17 #[.int .u8 f] w fun r w' => r = .returned (.bool (decide (f ≤ 3))) ∧ Below w.heap.size w w') := box (fun w => bel_same (r_right f _ rfl w))
  have K2 : Box (∀ w, Calls Tryz.prog 31 #[.int .u8 m] w fun r w' => r = .returned (.bool (decide (m ≤ 4))) ∧ Below w.heap.size w w') := box (fun w => bel_same (r_mode m _ rfl w))
  have K3 : Box (∀ w, Calls Tryz.prog 29 #[.agg #[.bool b, .string s, .string t, .int .i64 e]] w fun r w' => r = .returned (.bool may) ∧ Below w.heap.size w w') := box (fun w => xmayM b s t e may hm w)
  unfold flt at hc
  by_cases c1 : f ≤ 3
  · by_cases c2 : m ≤ 4
    · cases may
      · rw [if_neg (by simp)] at hc
        subst hc
        exact rf_fault_c f m b s t e _ _ false w K1 K2 K3 (decide_eq_true c1) (decide_eq_true c2) rfl
      · rw [if_pos ⟨c1, c2, rfl⟩] at hc
        by_cases c4 : 8192 < s.size
        · rw [if_pos (Or.inl c4)] at hc
          subst hc
          exact rf_fault_d f m b s t e _ _ _ w K1 K2 K3 (decide_eq_true c1) (decide_eq_true c2) rfl (decide_eq_true (by omega))
        · by_cases c5 : 8192 < t.size
          · rw [if_pos (Or.inr c5)] at hc
            subst hc
            exact rf_fault_e f m b s t e _ _ _ w K1 K2 K3 (decide_eq_true c1) (decide_eq_true c2) rfl (decide_eq_false (by omega)) (decide_eq_true (by omega))
          · rw [if_neg (by omega)] at hc
            subst hc
            exact rf_fault_f f m b s t e _ _ _ w K1 K2 K3 (decide_eq_true c1) (decide_eq_true c2) rfl (decide_eq_false (by omega)) (decide_eq_false (by omega))
    · rw [if_neg (by omega)] at hc
      subst hc
      exact rf_fault_b f m b s t e _ _ _ w K1 K2 K3 (decide_eq_true c1) (decide_eq_false c2)
  · rw [if_neg (by omega)] at hc
    subst hc
    exact rf_fault_a f m b s t e _ _ _ w K1 K2 K3 (decide_eq_false c1)
theorem flt_ok {f m : Int} (hf : Is4 f) (hm : 0 ≤ m ∧ m ≤ 4) {n d : Nat} {s t : ByteArray} (hs : nbA n = s) (ht : nbA d = t) (ln : nl n ≤ 8192) (ld : nl d ≤ 8192) : flt f m true s t = 0 := by
  have a : s.size = nl n := by rw [← hs, nbA_size]
  have c : t.size = nl d := by rw [← ht, nbA_size]
  have f3 : f ≤ 3 := by rcases hf with rfl | rfl | rfl | rfl <;> decide
  unfold flt
  rw [if_pos ⟨f3, hm.2, rfl⟩, if_neg (by omega)]
/-- What is delivered of an exact number, and the flags. -/
def rnd (f m : Int) (x : XN) : Nat × Int := if x.n = 0 then (0, 0) else dlv f m x.b (topX x) (xW f x) (xM f x)
theorem fnd_x {f : Int} (hf : Is4 f) {x : XN} (hx : x.can) (n0 : x.n ≠ 0) (hd : nl x.d ≤ 8192) : Wok f (xW f x) ∧ Fnd f x false (topX x) (xW f x) (xM f x) := by
  obtain ⟨t1, t2⟩ := top_lim hx
  obtain ⟨a, b⟩ := x_num hf x hx n0 hd t1 t2
  refine ⟨a, ?_⟩
  unfold Fnd
  rw [if_neg (by decide)]
  exact ⟨rfl, b⟩
theorem kRound_is (f m : Int) (hf : Is4 f) (hm : 0 ≤ m ∧ m ≤ 4) (b : Bool) (n d : Nat) (s t : ByteArray) (e : Int) (hs : nbA n = s) (ht : nbA d = t) (hc : (XN.mk b n d e).can) (ln : nl n ≤ 8192) (ld : nl d ≤ 8192) (M : Nat) (fl : Int) (hd : rnd f m ⟨b, n, d, e⟩ = (M, fl)) (u v : Nat) (hv : bv7 M = (u, v)) (w : World) (hT : FAt w) (hT2 : TabAt w) :
    Calls Tryz.prog 22 #[.int .u8 f, .int .u8 m, .agg #[.bool b, .string s, .string t, .int .i64 e]] w fun r w' => r = .returned (.tuple #[.agg #[.int .u64 (u : Nat), .int .u64 (v : Nat)], .int .u8 fl, .int .i64 0]) ∧ Below w.heap.size w w' := by
  have f4 := is4_ok hf
  have KC : Box (∀ w, TabAt w → Calls Tryz.prog 65 #[.int .u8 f, .int .u8 m, .agg #[.bool b, .string s, .string t, .int .i64 e]] w fun r w' => r = .returned (.int .i64 0) ∧ Below w.heap.size w w') := box (fun w hT => kcheck f m f4.1 f4.2.1 b s t e true (may_yes hs ht hc) 0 (flt_ok hf hm hs ht ln ld) w hT)
  unfold rnd at hd
  rcases x_cases hs ht hc with ⟨n0, rfl, rfl, rfl, rfl, rfl⟩ | ⟨n0, e0⟩
  · rw [if_pos n0] at hd
    injection hd with h1 h2
    subst h1 h2
    injection hv with h3 h4
    subst h3 h4
    exact ru_Round_ok f m _ _ _ _ _ _ _ _ _ 0 0 0 w KC (box (fun w hT hT2 => kofExact0 f hf _ rfl w hT hT2)) (box (fun w hT hT2 => kdelivered0 f m hf hm _ rfl w hT hT2)) hT hT2
  · rw [if_neg n0] at hd
    obtain ⟨t1, t2⟩ := top_lim hc
    exact ru_Round_ok f m b s t e _ _ _ _ _ u v fl w KC (box (fun w hT hT2 => kofExact f hf b n d s t e hs ht hc n0 ld _ _ rfl rfl _ _ _ rfl rfl rfl w hT hT2))
      (box (fun w hT hT2 => kdelivered f m hf hm b _ (by omega) (by omega) _ _ (fnd_x hf hc n0 ld).1 _ rfl _ rfl M fl hd u v hv w hT hT2)) hT hT2
theorem may_part {may : Bool} {b : Bool} {s t : ByteArray} {e : Int} (hm : IsM may b s t e) (h : may = true) : ∃ n d, nbA n = s ∧ nbA d = t ∧ (XN.mk b n d e).can := hm.1 h
theorem may_any (b : Bool) (s t : ByteArray) (e : Int) : ∃ may, IsM may b s t e := by
  by_cases h : MayX b s t e
  · exact ⟨true, fun _ => h, fun _ => rfl⟩
  · exact ⟨false, fun q => Bool.noConfusion q, fun q => absurd q h⟩
end Go.Proofs.YtbmhfcppaajgbaaGreatDoor
