/-
  What the functions that the statement reaches return: part 20 (RA, RB, RC).
-/
import Derived.Test.YtbmhfcppaajgbaaGreatDoorRd19
namespace Go.Proofs.YtbmhfcppaajgbaaGreatDoor
set_option maxRecDepth 100000
open Go.RowKit WMath XMath
set_option linter.unusedSimpArgs false
set_option linter.unusedVariables false

theorem odd_ne (x : Nat) : decide (x % 2 ^ (1 : Int).toNat ≠ 0) = decide (x % 2 = 1) := by
  rw [show (1 : Int).toNat = 1 from rfl, Nat.pow_one, decide_eq_decide]
  omega
theorem lg_is (x : Nat) (h : nl x ≤ 16384) : lg x = (nbA x, 0) := by unfold lg; rw [if_pos h]
theorem kround (m : Int) (hm : 0 ≤ m ∧ m ≤ 4) (neg : Bool) (T La st : Int) (W k : Nat) (more : Bool) (ws rs : ByteArray) (hws : nbA W = ws) (lw : nl W ≤ 8192) (s1 : -2000000 ≤ st) (s2 : st ≤ 2000000) (l1 : -2000000 ≤ La) (l2 : La ≤ 2000000) (hk : st - 1 - La = (k : Int)) (half mo : Bool) (hh : rH W k = half) (hmo : rM W k more = mo) (hr : nbA (rG m neg W k more) = rs) (w : World) (hT2 : TabAt w) :
    Calls Tryz.prog 147 #[.int .u8 m, .agg #[.bool neg, .int .i64 T, .int .i64 La, .string ws, .bool more], .int .i64 st] w fun r w' => r = .returned (.agg #[.string rs, .int .i64 st, .bool half, .bool mo]) ∧ Below w.heap.size w w' := by
  have d1 : nl (W / 2 ^ k) ≤ 8192 := Nat.le_trans (nl_mono _ _ (Nat.div_le_self _ _)) lw
  have d2 : nl (rS W k) ≤ 8192 := Nat.le_trans (nl_mono _ _ (Nat.div_le_self _ _)) d1
  have d3 : nl (rS W k + 1) ≤ 16384 := by
    have q : blen (rS W k + 1) ≤ blen (rS W k) + 1 := (blen_iff _ _).2 (by
      have a := (blen_iff (rS W k) _).1 (Nat.le_refl _)
      have b := Nat.two_pow_pos (blen (rS W k))
      rw [Nat.pow_succ]
      omega)
    unfold nl at d2 ⊢
    omega
  refine ru_round m st neg T La ws more (st - 1) (k : Int) 0 0 0 0 (nbA (W / 2 ^ k)) (nbA (rS W k)) (nbA (rS W k / 2)) (nbA (rS W k + 1)) rs (decide (W % 2 ^ k ≠ 0)) half (rO W k) (gO m neg (rO W k) half mo) mo w
    (box (fun w hT => pn_right_ok W (k : Int) ws _ _ hws (by omega) (by omega) (by omega) (by rw [Int.toNat_natCast]) (by rw [Int.toNat_natCast]) w hT))
    (box (fun w hT => pn_right_ok (W / 2 ^ k) 1 _ _ _ rfl (by omega) (by omega) (by omega) (by rw [show (1 : Int).toNat = 1 from rfl, Nat.pow_one]; rfl) (by rw [odd_ne]; exact hh) w hT))
    (box (fun w hT => pn_right_ok (rS W k) 1 _ _ _ rfl (by omega) (by omega) (by omega) (by rw [show (1 : Int).toNat = 1 from rfl, Nat.pow_one]) (by rw [odd_ne]; rfl) w hT))
    (box (fun w => ru_goesOn m hm neg _ _ _ _ rfl w))
    (box (fun _ w => pn_add_ok (rS W k) 1 _ _ _ 0 rfl nb1 (by omega) nl1 (lg_is _ d3) w))
    (wrap_i64_is _ (by omega) (by omega)) (by rw [wrap_i64_is _ (by omega) (by omega)]; exact hk) ?_ ?_ hT2
  · exact hmo
  · rw [← hr]
    unfold rG
    rw [hh, hmo]
    split <;> rfl
theorem nl_W {f : Int} (hf : Is4 f) {W : Nat} (h : Wok f W) : nl W ≤ 8192 := by
  obtain ⟨n1, n2, n3, n4, n5, n6⟩ := nm8 hf
  have := nl_le_of W 17 (by
    have a := h.2
    have b : 2 ^ pV f ≤ 2 ^ 127 := Nat.pow_le_pow_right (by decide) (by omega)
    rw [show (2 : Nat) ^ (8 * 17) = 4 * 2 ^ 127 * 128 by decide]
    omega)
  omega
theorem k_emin (f : Int) (hf : Is4 f) (w : World) (hT : FAt w) : Calls Tryz.prog 98 #[.int .u8 f] w fun r w' => r = .returned (.int .i64 (1 - fE f)) ∧ Below w.heap.size w w' :=
  s_emin f _ _ (is4_ok hf).1 (is4_ok hf).2.1 rfl (em_lim hf).2.2.2.2.1 w hT
theorem k_step (f : Int) (hf : Is4 f) (T : Int) (h1 : -1900000 ≤ T) (h2 : T ≤ 1900000) (v : Int) (hv : T - fP f + 1 = v) (w : World) (hT : FAt w) : Calls Tryz.prog 148 #[.int .u8 f, .int .i64 T] w fun r w' => r = .returned (.int .i64 v) ∧ Below w.heap.size w w' := by
  have p := fp8 hf
  have n4 := (nm8 hf).2.2.2.1
  exact ru_stepAt f T (fP f) (T - fP f) v w (box (fun w hT => kb_precision f _ (is4_ok hf).1 (is4_ok hf).2.1 rfl w hT)) (wrap_i64_is _ (by omega) (by omega)) (by rw [wrap_i64_is _ (by omega) (by omega)]; exact hv) hT
theorem k_rtop (S l : Nat) (s : ByteArray) (hs : nbA S = s) (ls : nl S ≤ 16384) (hl : blen S = l) (st v : Int) (s1 : -2000000 ≤ st) (s2 : st ≤ 2000000) (half mo : Bool) (hv : st + (l : Int) - 1 = v) (w : World) : Calls Tryz.prog 149 #[.agg #[.string s, .int .i64 st, .bool half, .bool mo]] w fun r w' => r = .returned (.int .i64 v) ∧ Below w.heap.size w w' := by
  have : l ≤ 131072 + 7 := by rw [← hl]; unfold nl at ls; omega
  exact ru_rtop s st half mo l (st + l) v w (box (fun w => pn_len_ok S l s hs ls hl w)) (wrap_i64_is _ (by omega) (by omega)) (by rw [wrap_i64_is _ (by omega) (by omega)]; exact hv)
theorem ktiny (f m : Int) (hf : Is4 f) (hm : 0 ≤ m ∧ m ≤ 4) (neg : Bool) (T : Int) (h1 : -1300000 ≤ T) (h2 : T ≤ 1300000) (W : Nat) (more : Bool) (hW : Wok f W) (ws : ByteArray) (hws : nbA W = ws) (La : Int) (hLa : T - fP f = La) (o : Bool) (ho : tnB f m neg T W more = o) (w : World) (hT : FAt w) (hT2 : TabAt w) :
    Calls Tryz.prog 72 #[.int .u8 f, .int .u8 m, .agg #[.bool neg, .int .i64 T, .int .i64 La, .string ws, .bool more]] w fun r w' => r = .returned (.bool o) ∧ Below w.heap.size w w' := by
  have p := fp8 hf
  obtain ⟨n1, n2, n3, n4, n5, n6⟩ := nm8 hf
  have lim := (rG_lim hW m neg 0 more).1
  exact ru_tiny f m neg T La ws more (1 - fE f) (T - fP f + 1) (T - fP f + 1 + (blen (rG m neg W 0 more) : Int) - 1) _ _ _ o w
    (box (fun w hT => k_emin f hf w hT)) (box (fun w hT => k_step f hf T (by omega) (by omega) _ rfl w hT))
    (box (fun w hT => kround m hm neg T La (T - fP f + 1) W 0 more ws _ hws (nl_W hf hW) (by omega) (by omega) (by omega) (by omega) (by omega) _ _ rfl rfl rfl w hT))
    (box (fun w => k_rtop _ _ _ rfl (nl_small hf _ lim) rfl _ _ (by omega) (by omega) _ _ rfl w)) (by
      rw [← ho]
      unfold tnB
      rw [decide_eq_decide]
      omega) hT hT2
theorem eS_flip {f : Int} (hf : Is4 f) (j S : Nat) (hS : j * 2 ^ pV f + S < 2 ^ wV f) : sgB f (eS f false j S) true = eS f true j S := by
  unfold eS
  rw [if_neg (by decide), Nat.add_zero, sgB_low hS]
theorem eS_lt {f : Int} (hf : Is4 f) (j S : Nat) (hS : S ≤ 2 * 2 ^ pV f) (hj : j = 0 ∨ 2 ^ pV f ≤ S) (ht : lx f + (j : Int) - 1 + (blen S : Int) ≤ fE f) : j * 2 ^ pV f + S < 2 ^ wV f := by
  obtain ⟨g1, g2, g3, g4, g5, g6, g7⟩ := fm hf
  have p := Nat.two_pow_pos (pV f)
  by_cases s0 : S = 0
  · obtain rfl : j = 0 := by omega
    subst s0
    rw [Nat.zero_mul]
    exact Nat.two_pow_pos _
  obtain ⟨e, t, he, htt, nz, h1, h2⟩ := rep hf j S s0 hS hj ht
  have := h1 false
  unfold enc7 eS at this
  rw [if_neg (by decide), Nat.add_zero, Nat.add_zero] at this
  rw [← this, g1]
  have := Nat.mul_le_mul_right (2 ^ pV f) (show e + 1 ≤ oV f + 1 by omega)
  rw [Nat.add_mul, Nat.one_mul] at this
  omega
theorem kencoded (f : Int) (hf : Is4 f) (neg : Bool) (j S : Nat) (s : ByteArray) (hs : nbA S = s) (st : Int) (hst : st = lx f + (j : Int)) (hS : S ≤ 2 * 2 ^ pV f) (hj : j = 0 ∨ 2 ^ pV f ≤ S) (ht : lx f + (j : Int) - 1 + (blen S : Int) ≤ fE f) (half mo : Bool) (u v : Nat) (hv : bv7 (eS f neg j S) = (u, v)) (w : World) (hT : FAt w) (hT2 : TabAt w) :
    Calls Tryz.prog 151 #[.int .u8 f, .bool neg, .agg #[.string s, .int .i64 st, .bool half, .bool mo]] w fun r w' => r = .returned (.agg #[.int .u64 (u : Nat), .int .u64 (v : Nat)]) ∧ Below w.heap.size w w' := by
  obtain ⟨n1, n2, n3, n4, n5, n6⟩ := nm8 hf
  obtain ⟨g1, g2, g3, g4, g5, g6, g7⟩ := fm hf
  have elt := eS_lt hf j S hS hj ht
  have e0 : eS f false j S = j * 2 ^ pV f + S := by unfold eS; rw [if_neg (by decide), Nat.add_zero]
  have lim : eS f false j S < 340282366920938463463374607431768211456 := by omega
  have j4 : j ≤ 40000 := by
    rcases hj with h | h
    · omega
    · have := (blen_low S (by have := Nat.two_pow_pos (pV f); omega)).1
      omega
  obtain ⟨x, hx, xc, hof⟩ : ∃ x : XN, mk false S 1 st = (x, 0) ∧ x.can ∧ ofX f x = (eS f false j S, true) := by
    by_cases s0 : S = 0
    · subst s0
      obtain rfl : j = 0 := by have := Nat.two_pow_pos (pV f); omega
      refine ⟨X0, mk_null _ _ _, x0_can, ?_⟩
      rw [e0]
      unfold ofX
      rw [if_pos (show X0.n = 0 from rfl), Nat.zero_mul]
    · obtain ⟨a, b, c, d⟩ := mk_small hf false j S s0 hS j4
      exact ⟨_, by rw [hst]; exact a, b, of_rep hf false j S s0 hS hj ht⟩
  obtain ⟨xb, xn, xd, xe⟩ := x
  obtain ⟨i, k, hik⟩ : ∃ i k, bv7 (eS f false j S) = (i, k) := ⟨_, _, rfl⟩
  obtain ⟨i1, i2, i3⟩ := bv_lt lim hik
  have KM : Box (∀ w, TabAt w → Calls Tryz.prog 168 #[.bool false, .string s, .string ⟨#[1]⟩, .int .i64 st] w fun r w' => r = .returned (.tuple #[.agg #[.bool xb, .string (nbA xn), .string (nbA xd), .int .i64 xe], .int .i64 0]) ∧ Below w.heap.size w w') := box (fun w hT => makex_ok false S 1 st s _ xb xn xd xe 0 _ _ hs nb1 (nl_small hf S hS) nl1 (by decide) (by omega) (by omega) hx rfl rfl w hT)
  have KO : Box (∀ w, FAt w → TabAt w → Calls Tryz.prog 226 #[.int .u8 f, .agg #[.bool xb, .string (nbA xn), .string (nbA xd), .int .i64 xe]] w fun r w' => r = .returned (.tuple #[.agg #[.int .u64 (i : Nat), .int .u64 (k : Nat)], .bool true, .int .i64 0]) ∧ Below w.heap.size w w') := box (fun w hT hT2 => kOf_is f hf xb xn xd _ _ xe rfl rfl xc _ true i k hof hik w hT hT2)
  cases neg
  · rw [hik] at hv
    injection hv with a b
    subst a b
    exact ru_encoded_pos f s st half mo xb _ _ xe 0 i k true 0 w KM KO hT hT2
  · exact ru_encoded_neg f s st half mo xb _ _ xe 0 i k u v true 0 w KM KO (box (fun w hT => kFlip_yes f hf i k _ u v i1 i2 i3 (by unfold okB; rw [decide_eq_true_iff]; exact ⟨by rcases hf with rfl | rfl | rfl | rfl <;> decide, by omega⟩) (by rw [eS_flip hf j S elt]; exact hv) w hT)) hT hT2
theorem kbeyond (f m : Int) (hf : Is4 f) (hm : 0 ≤ m ∧ m ≤ 4) (neg : Bool) (u v : Nat) (hv : bv7 (ovB f m neg) = (u, v)) (w : World) (hT : FAt w) : Calls Tryz.prog 150 #[.int .u8 f, .int .u8 m, .bool neg] w fun r w' => r = .returned (.agg #[.int .u64 (u : Nat), .int .u64 (v : Nat)]) ∧ Below w.heap.size w w' := by
  refine ru_beyond f m neg (gO m neg false true true) u v w (box (fun w => ru_goesOn m hm neg false true true _ rfl w)) (box (fun h w hT => sk_inf f neg hf u v ?_ w hT)) (box (fun h w hT => ?_)) hT
  · unfold ovB at hv; rw [if_pos h] at hv; exact hv
  · unfold ovB at hv
    rw [if_neg (by rw [h]; decide)] at hv
    have := s_greatest f neg hf _ rfl w hT
    rw [hv] at this
    exact this
end Go.Proofs.YtbmhfcppaajgbaaGreatDoor
namespace Go.Proofs.YtbmhfcppaajgbaaGreatDoor
set_option maxRecDepth 100000
open Go.RowKit WMath XMath
set_option linter.unusedSimpArgs false
set_option linter.unusedVariables false

theorem kdelivered (f m : Int) (hf : Is4 f) (hm : 0 ≤ m ∧ m ≤ 4) (neg : Bool) (T : Int) (h1 : -1300000 ≤ T) (h2 : T ≤ 1300000) (W : Nat) (more : Bool) (hW : Wok f W) (ws : ByteArray) (hws : nbA W = ws) (La : Int) (hLa : T - fP f = La) (M : Nat) (fl : Int) (hd : dlv f m neg T W more = (M, fl)) (u v : Nat) (hv : bv7 M = (u, v)) (w : World) (hT : FAt w) (hT2 : TabAt w) :
    Calls Tryz.prog 66 #[.int .u8 f, .int .u8 m, .agg #[.bool neg, .int .i64 T, .int .i64 La, .string ws, .bool more]] w fun r w' => r = .returned (.tuple #[.agg #[.int .u64 (u : Nat), .int .u64 (v : Nat)], .int .u8 fl]) ∧ Below w.heap.size w w' := by
  have p := fp8 hf
  obtain ⟨n1, n2, n3, n4, n5, n6⟩ := nm8 hf
  have lim := rG_lim hW m neg (dK f T) more
  obtain ⟨S, hS⟩ : ∃ S, rG m neg W (dK f T) more = S := ⟨_, rfl⟩
  have stx := st_lx hf T
  have kk : stE f T - T = (dK f T : Int) := by unfold dK stE; omega
  have sl : -1300000 ≤ stE f T ∧ stE f T ≤ 1300000 := by unfold stE; omega
  unfold dlv at hd
  rw [hS] at hd lim
  have hj : dJ f T = 0 ∨ 2 ^ pV f ≤ S := by
    rcases jk (f := f) T with ⟨a, _⟩ | ⟨a, _⟩
    · exact Or.inl a
    · exact Or.inr (lim.2.1 a)
  refine ru_delivered f m neg T La ws more (1 - fE f) (stE f T - fP f + 1) (stE f T - fP f + (blen S : Int)) (fE f) fl (nbA S) (rH W (dK f T)) (rM W (dK f T) more) (decide (fE f < stE f T - fP f + (blen S : Int))) (tnB f m neg T W more) u v w
    (box (fun w hT => k_emin f hf w hT)) (box (fun w hT => k_step f hf (max T (1 - fE f)) (by unfold stE at sl; omega) (by unfold stE at sl; omega) _ rfl w hT))
    (box (fun w hT => kround m hm neg T La _ W (dK f T) more ws _ hws (nl_W hf hW) (by omega) (by omega) (by omega) (by omega) (by omega) _ _ rfl rfl (by rw [hS]) w hT))
    (box (fun w => k_rtop S _ _ rfl (nl_small hf _ lim.1) rfl _ _ (by omega) (by omega) _ _ (by omega) w))
    (box (fun w hT => kb_emax f _ (is4_ok hf).1 (is4_ok hf).2.1 rfl w hT))
    (box (fun h w hT => kbeyond f m hf hm neg u v (by
      rw [if_pos (of_decide_eq_true h)] at hd
      injection hd with a b
      rw [a]; exact hv) w hT))
    (box (fun h w hT hT2 => kencoded f hf neg (dJ f T) S _ rfl _ stx lim.1 hj (by have := of_decide_eq_false h; omega) _ _ u v (by
      rw [if_neg (of_decide_eq_false h)] at hd
      injection hd with a b
      rw [a]; exact hv) w hT hT2))
    (box (fun w hT hT2 => ktiny f m hf hm neg T h1 h2 W more hW ws hws La hLa _ rfl w hT hT2)) rfl ?_ hT hT2
  by_cases c : fE f < stE f T - fP f + (blen S : Int)
  · rw [if_pos c] at hd
    injection hd with a b
    rw [if_pos (decide_eq_true c)]
    exact b
  · rw [if_neg c] at hd
    injection hd with a b
    rw [if_neg (by simpa using c)]
    exact b
theorem kencoded0 (f : Int) (hf : Is4 f) (st : Int) (s1 : -1000000 ≤ st) (s2 : st ≤ 1000000) (half mo : Bool) (w : World) (hT : FAt w) (hT2 : TabAt w) :
    Calls Tryz.prog 151 #[.int .u8 f, .bool false, .agg #[.string ⟨#[]⟩, .int .i64 st, .bool half, .bool mo]] w fun r w' => r = .returned (.agg #[.int .u64 ((0 : Nat) : Nat), .int .u64 ((0 : Nat) : Nat)]) ∧ Below w.heap.size w w' := by
  have hx : XMath.mk false 0 1 st = (⟨false, 0, 1, 0⟩, 0) := mk_null _ _ _
  have hof : ofX f ⟨false, 0, 1, 0⟩ = (0, true) := by unfold ofX; rw [if_pos rfl]
  exact ru_encoded_pos f _ st half mo false _ _ 0 0 0 0 true 0 w (box (fun w hT => makex_ok false 0 1 st _ _ false 0 1 0 0 _ _ nbA_zero nb1 nl0 nl1 (by decide) (by omega) (by omega) hx rfl rfl w hT)) (box (fun w hT hT2 => kOf_is f hf false 0 1 _ _ 0 rfl rfl x0_can 0 true 0 0 hof rfl w hT hT2)) hT hT2
theorem kdelivered0 (f m : Int) (hf : Is4 f) (hm : 0 ≤ m ∧ m ≤ 4) (La : Int) (hLa : 0 - fP f = La) (w : World) (hT : FAt w) (hT2 : TabAt w) :
    Calls Tryz.prog 66 #[.int .u8 f, .int .u8 m, .agg #[.bool false, .int .i64 0, .int .i64 La, .string ⟨#[]⟩, .bool false]] w fun r w' => r = .returned (.tuple #[.agg #[.int .u64 ((0 : Nat) : Nat), .int .u64 ((0 : Nat) : Nat)], .int .u8 0]) ∧ Below w.heap.size w w' := by
  have p := fp8 hf
  obtain ⟨n1, n2, n3, n4, n5, n6⟩ := nm8 hf
  have b0 : blen 0 = 0 := by decide
  have e1 : 1 ≤ fE f := by rcases hf with rfl | rfl | rfl | rfl <;> decide
  have g0 : ∀ m, rG m false 0 0 false = 0 := fun m => by
    unfold rG gO rS rH rM rO
    simp
  have h0 : rH 0 0 = false := rfl
  have m0 : rM 0 0 false = false := rfl
  have mx : max 0 (1 - fE f) = 0 := by omega
  have hR : Box (∀ w, TabAt w → Calls Tryz.prog 147 #[.int .u8 m, .agg #[.bool false, .int .i64 0, .int .i64 La, .string ⟨#[]⟩, .bool false], .int .i64 (0 - fP f + 1)] w fun r w' => r = .returned (.agg #[.string ⟨#[]⟩, .int .i64 (0 - fP f + 1), .bool false, .bool false]) ∧ Below w.heap.size w w') :=
    box (fun w hT => kround m hm false 0 La _ 0 0 false _ _ nbA_zero (by rw [nl_zero]; decide) (by omega) (by omega) (by omega) (by omega) (by omega) false false h0 m0 (by rw [g0]; exact nbA_zero) w hT)
  have KT : Box (∀ w, Calls Tryz.prog 149 #[.agg #[.string ⟨#[]⟩, .int .i64 (0 - fP f + 1), .bool false, .bool false]] w fun r w' => r = .returned (.int .i64 (0 - fP f)) ∧ Below w.heap.size w w') := box (fun w => k_rtop 0 0 _ nbA_zero nl0 b0 _ _ (by omega) (by omega) _ _ (by omega) w)
  exact ru_delivered f m false 0 La _ false (1 - fE f) (0 - fP f + 1) (0 - fP f) (fE f) 0 _ false false false (decide (0 - fP f < 1 - fE f)) 0 0 w
    (box (fun w hT => k_emin f hf w hT)) (box (fun w hT => by rw [mx]; exact k_step f hf 0 (by omega) (by omega) _ rfl w hT)) hR KT
    (box (fun w hT => kb_emax f _ (is4_ok hf).1 (is4_ok hf).2.1 rfl w hT)) (box (fun h => Bool.noConfusion h)) (box (fun h w hT hT2 => kencoded0 f hf _ (by omega) (by omega) _ _ w hT hT2))
    (box (fun w hT hT2 => ru_tiny f m false 0 La _ false (1 - fE f) (0 - fP f + 1) (0 - fP f) _ _ _ _ w (box (fun w hT => k_emin f hf w hT)) (box (fun w hT => k_step f hf 0 (by omega) (by omega) _ rfl w hT)) hR KT rfl hT hT2))
    (by rw [decide_eq_false_iff_not]; omega) rfl hT hT2
theorem xW_is {f : Int} (x : XN) (h : (flX x (topX x - fP f)).2 = 0) : flX x (topX x - fP f) = ((xW f x, !xM f x), 0) := by
  unfold xW xM
  rw [Bool.not_not, ← h]
theorem kofExact (f : Int) (hf : Is4 f) (b : Bool) (n d : Nat) (s t : ByteArray) (e : Int) (hs : nbA n = s) (ht : nbA d = t) (hc : (XN.mk b n d e).can) (n0 : n ≠ 0) (ld : nl d ≤ 8192) (T La : Int) (hTop : topX ⟨b, n, d, e⟩ = T) (hLa : T - fP f = La) (W : Nat) (ws : ByteArray) (more : Bool) (hW : xW f ⟨b, n, d, e⟩ = W) (hM : xM f ⟨b, n, d, e⟩ = more) (hws : nbA W = ws) (w : World) (hT : FAt w) (hT2 : TabAt w) :
    Calls Tryz.prog 67 #[.int .u8 f, .agg #[.bool b, .string s, .string t, .int .i64 e]] w fun r w' => r = .returned (.agg #[.bool b, .int .i64 T, .int .i64 La, .string ws, .bool more]) ∧ Below w.heap.size w w' := by
  have p := fp8 hf
  have n4 := (nm8 hf).2.2.2.1
  obtain ⟨t1, t2⟩ := top_lim hc
  rw [hTop] at t1 t2
  have ok := fl_ok (XN.mk b n d e) (topX ⟨b, n, d, e⟩ - fP f) n0 ld (by omega) (by omega) (by omega)
  have fi := xW_is (f := f) (XN.mk b n d e) ok
  rw [hTop, hLa, hW, hM] at fi
  exact ru_ofExact f b s t e T La ws more w (box (fun w hT => ru_topOf b s t e T 0 w (box (fun w hT => Topx_ok b n d e s t T hs ht n0 hc hTop w hT)) hT))
    (box (fun w hT hT2 => ru_known1 f b T (T - fP f + 1) La b s t e ws (!more) more w (box (fun w hT => k_step f hf T (by omega) (by omega) _ rfl w hT)) (by rw [wrap_i64_is _ (by omega) (by omega)]; omega) (Bool.not_not _)
      (box (fun w hT => ru_ratio b s t e La 0 ws _ w (box (fun w hT => Floorx_ok b n d e s t La W _ 0 ws hs ht hc (by omega) (by omega) fi hws w hT)) hT)) hT hT2)) hT hT2
theorem kofExact0 (f : Int) (hf : Is4 f) (La : Int) (hLa : 0 - fP f = La) (w : World) (hT : FAt w) (hT2 : TabAt w) :
    Calls Tryz.prog 67 #[.int .u8 f, .agg #[.bool false, .string ⟨#[]⟩, .string ⟨#[1]⟩, .int .i64 0]] w fun r w' => r = .returned (.agg #[.bool false, .int .i64 0, .int .i64 La, .string ⟨#[]⟩, .bool false]) ∧ Below w.heap.size w w' := by
  have p := fp8 hf
  have n4 := (nm8 hf).2.2.2.1
  have fi : flX (XN.mk false 0 1 0) La = ((0, true), 0) := by unfold flX; rw [if_neg (by omega), if_pos rfl]
  exact ru_ofExact f false _ _ 0 0 La _ false w (box (fun w hT => ru_topOf false _ _ 0 0 2 w (box (fun w hT => Topx_null w hT)) hT))
    (box (fun w hT hT2 => ru_known1 f false 0 (0 - fP f + 1) La false _ _ 0 _ true false w (box (fun w hT => k_step f hf 0 (by omega) (by omega) _ rfl w hT)) (by rw [wrap_i64_is _ (by omega) (by omega)]; omega) rfl
      (box (fun w hT => ru_ratio false _ _ 0 La 0 _ _ w (box (fun w hT => Floorx_ok false 0 1 0 _ _ La 0 _ 0 _ nbA_zero nb1 x0_can (by omega) (by omega) fi nbA_zero w hT)) hT)) hT hT2)) hT hT2
/-- What the whole parts of a root are. -/
def RtN (f : Int) (x : XN) (W : Nat) (more : Bool) : Prop := ∀ k : Nat, topX x / 2 - fP f + (k : Int) ≤ 1000000 → ∃ N ex, flX x (2 * (topX x / 2 - fP f + (k : Int))) = ((N, ex), 0) ∧ RootIs N (W / 2 ^ k) ∧ (ex && decide (N - W / 2 ^ k * (W / 2 ^ k) = 0)) = (!more && decide (W % 2 ^ k = 0))
theorem nl_fl {x : XN} {a : Int} {N : Nat} {ex : Bool} (h : flX x a = ((N, ex), 0)) (hx : x.can) : nl N ≤ 16384 := by
  unfold flX at h
  split at h
  · have := congrArg (·.2) h
    exact absurd (show (2 : Int) = 0 from this) (by decide)
  split at h
  · have := congrArg (·.1.1) h
    rw [← show (0 : Nat) = N from this]
    exact nl0
  split at h
  · split at h
    · rename_i q
      have := congrArg (·.1.1) h
      rw [← show _ = N from this]
      exact Nat.le_trans (nl_mono _ _ (Nat.div_le_self _ _)) q
    · have := congrArg (·.2) h
      exact absurd (show (4 : Int) = 0 from this) (by decide)
  split at h
  · have := congrArg (·.1.1) h
    rw [← show (0 : Nat) = N from this]
    exact nl0
  · have := congrArg (·.1.1) h
    rw [← show _ = N from this]
    exact Nat.le_trans (nl_mono _ _ (Nat.div_le_self _ _)) hx.1
theorem rest_nil (N r : Nat) (q : ByteArray) (hq : nbA (N - r * r) = q) : (q.toList == []) = decide (N - r * r = 0) := by
  rw [eq_empty, ← hq, nbA_size, Bool.eq_iff_iff, decide_eq_true_iff, decide_eq_true_iff]
  exact ⟨nl_eq0 _, fun h => by rw [h]; exact nl_zero⟩
theorem kofRoot (f : Int) (hf : Is4 f) (b : Bool) (n d : Nat) (s t : ByteArray) (e : Int) (hs : nbA n = s) (ht : nbA d = t) (hc : (XN.mk b n d e).can) (n0 : n ≠ 0) (T2 La : Int) (hTop : topX ⟨b, n, d, e⟩ / 2 = T2) (hLa : T2 - fP f = La) (W : Nat) (ws : ByteArray) (more : Bool) (hR : RtN f ⟨b, n, d, e⟩ W more) (hws : nbA W = ws) (w : World) (hT : FAt w) (hT2 : TabAt w) :
    Calls Tryz.prog 70 #[.int .u8 f, .agg #[.bool b, .string s, .string t, .int .i64 e]] w fun r w' => r = .returned (.agg #[.bool false, .int .i64 T2, .int .i64 La, .string ws, .bool more]) ∧ Below w.heap.size w w' := by
  have p := fp8 hf
  have n4 := (nm8 hf).2.2.2.1
  obtain ⟨t1, t2⟩ := top_lim hc
  obtain ⟨N, ex, f1, f2, f3⟩ := hR 0 (by omega)
  rw [hTop, show T2 - fP f + ((0 : Nat) : Int) = La by omega] at f1
  rw [Nat.pow_zero, Nat.div_one] at f2 f3
  rw [Nat.mod_one, decide_eq_true rfl, Bool.and_true] at f3
  have ln := nl_fl f1 hc
  exact ru_ofRoot f b s t e _ T2 La ws more w (box (fun w hT => ru_topOf b s t e _ 0 w (box (fun w hT => Topx_ok b n d e s t _ hs ht n0 hc rfl w hT)) hT)) hTop
    (box (fun w hT hT2 => ru_known2 f false T2 (T2 - fP f + 1) La b s t e ws (!more) more w (box (fun w hT => k_step f hf T2 (by omega) (by omega) _ rfl w hT)) (by rw [wrap_i64_is _ (by omega) (by omega)]; omega) (Bool.not_not _)
      (box (fun w hT => ru_root b s t e La (2 * La) 0 (nbA N) ws _ ex (!more) w (box (fun w hT => ru_ratio b s t e _ 0 _ _ w (box (fun w hT => Floorx_ok b n d e s t _ N _ 0 _ hs ht hc (by omega) (by omega) f1 rfl w hT)) hT))
        (box (fun w => pn_sqrt_ok N W _ _ ws _ rfl ln f2 rfl hws rfl w)) (wrap_i64_is _ (by omega) (by omega)) (by rw [rest_nil N W _ rfl]; exact f3) hT)) hT hT2)) hT hT2
theorem kofRoot0 (f : Int) (hf : Is4 f) (La : Int) (hLa : 0 - fP f = La) (w : World) (hT : FAt w) (hT2 : TabAt w) :
    Calls Tryz.prog 70 #[.int .u8 f, .agg #[.bool false, .string ⟨#[]⟩, .string ⟨#[1]⟩, .int .i64 0]] w fun r w' => r = .returned (.agg #[.bool false, .int .i64 0, .int .i64 La, .string ⟨#[]⟩, .bool false]) ∧ Below w.heap.size w w' := by
  have p := fp8 hf
  have n4 := (nm8 hf).2.2.2.1
  have fi : flX (XN.mk false 0 1 0) (2 * La) = ((0, true), 0) := by unfold flX; rw [if_neg (by omega), if_pos rfl]
  exact ru_ofRoot f false _ _ 0 0 0 La _ false w (box (fun w hT => ru_topOf false _ _ 0 0 2 w (box (fun w hT => Topx_null w hT)) hT)) rfl
    (box (fun w hT hT2 => ru_known2 f false 0 (0 - fP f + 1) La false _ _ 0 _ true false w (box (fun w hT => k_step f hf 0 (by omega) (by omega) _ rfl w hT)) (by rw [wrap_i64_is _ (by omega) (by omega)]; omega) rfl
      (box (fun w hT => ru_root false _ _ 0 La (2 * La) 0 ⟨#[]⟩ _ ⟨#[]⟩ true true w (box (fun w hT => ru_ratio false _ _ 0 _ 0 _ _ w (box (fun w hT => Floorx_ok false 0 1 0 _ _ _ 0 _ 0 _ nbA_zero nb1 x0_can (by omega) (by omega) fi nbA_zero w hT)) hT))
        (box (fun w => pn_sqrt_ok 0 0 0 _ _ _ nbA_zero nl0 ⟨by decide, by decide⟩ rfl nbA_zero nbA_zero w)) (wrap_i64_is _ (by omega) (by omega)) (by rw [eq_empty]; decide) hT)) hT hT2)) hT hT2
end Go.Proofs.YtbmhfcppaajgbaaGreatDoor
namespace Go.Proofs.YtbmhfcppaajgbaaGreatDoor
set_option maxRecDepth 100000
open Go.RowKit WMath XMath
set_option linter.unusedSimpArgs false
set_option linter.unusedVariables false

theorem rz_inf (f : Int) (neg : Bool) (hf : Is4 f) (u v : Nat) (hv : bv7 (eInf f neg) = (u, v)) (w : World) : Calls Tryz.prog 137 #[.int .u8 f, .bool neg] w fun r w' => r = .returned (.agg #[.int .u64 (u : Nat), .int .u64 (v : Nat)]) ∧ Below w.heap.size w w' := by
  have := r_inf f neg hf _ rfl w
  rw [hv] at this
  exact this
theorem rz_zero (f : Int) (neg : Bool) (hf : Is4 f) (u v : Nat) (hv : bv7 (eZero f neg) = (u, v)) (w : World) : Calls Tryz.prog 103 #[.int .u8 f, .bool neg] w fun r w' => r = .returned (.agg #[.int .u64 (u : Nat), .int .u64 (v : Nat)]) ∧ Below w.heap.size w w' := by
  have := r_zero f neg hf _ rfl w
  rw [hv] at this
  exact this
theorem cut_two (W k : Nat) : W / 2 ^ (k + 1) = rS W k := by unfold rS; rw [Nat.pow_succ, ← Nat.div_div_eq_div_mul]
theorem ex_is (W k : Nat) (more : Bool) : (!more && decide (W % 2 ^ (k + 1) = 0)) = !(rH W k || rM W k more) := by
  have e : W % 2 ^ (k + 1) = 0 ↔ W % 2 ^ k = 0 ∧ W / 2 ^ k % 2 = 0 := by
    have h := Nat.mod_pow_succ (x := W) (b := 2) (k := k)
    have p := Nat.two_pow_pos k
    rw [h]
    constructor
    · intro q
      have a : W % 2 ^ k = 0 := by omega
      have b : 2 ^ k * (W / 2 ^ k % 2) = 0 := by omega
      exact ⟨a, by rcases Nat.mul_eq_zero.1 b with c | c; omega; exact c⟩
    · rintro ⟨a, b⟩
      rw [a, b, Nat.mul_zero]
  unfold rH rM
  rw [Bool.eq_iff_iff]
  simp only [Bool.and_eq_true, Bool.not_eq_true', decide_eq_true_iff, Bool.or_eq_false_iff, decide_eq_false_iff_not, e, Decidable.not_not]
  constructor
  · rintro ⟨a, b, c⟩
    exact ⟨by omega, b, a⟩
  · rintro ⟨a, b, c⟩
    exact ⟨c, b, by omega⟩
theorem wh_is (W k : Nat) (more : Bool) : (!more && decide (W % 2 ^ k = 0)) = !rM W k more := by
  unfold rM
  rw [Bool.eq_iff_iff]
  simp only [Bool.and_eq_true, Bool.not_eq_true', decide_eq_true_iff, Bool.or_eq_false_iff, decide_eq_false_iff_not, Decidable.not_not]
  exact ⟨fun h => ⟨h.2, h.1⟩, fun h => ⟨h.2, h.1⟩⟩
theorem last_is (W k : Nat) : decide (W / 2 ^ k % 2 = 1) = rH W k := rfl
/-- What find is asked of: a number, or its root. -/
def Fnd (f : Int) (x : XN) (root : Bool) (T : Int) (W : Nat) (more : Bool) : Prop :=
  if root = true then T = topX x / 2 ∧ RtN f x W more else T = topX x ∧ ∀ k : Nat, T - fP f + (k : Int) ≤ 2000000 → flX x (T - fP f + (k : Int)) = ((W / 2 ^ k, !more && decide (W % 2 ^ k = 0)), 0)
theorem rfind (f : Int) (hf : Is4 f) (b : Bool) (n d : Nat) (s t : ByteArray) (e : Int) (hs : nbA n = s) (ht : nbA d = t) (hc : (XN.mk b n d e).can) (root : Bool) (T : Int) (t1 : -1300000 ≤ T) (t2 : T ≤ 1300000) (W : Nat) (more : Bool) (lw : nl W ≤ 8192) (hF : Fnd f ⟨b, n, d, e⟩ root T W more) (k : Nat) (A : Int) (hA : T - fP f + 1 + (k : Int) = A) (hA2 : A ≤ 900000) (M : ByteArray) (hM : nbA (rS W k) = M) (w : World) :
    Calls Tryz.prog 157 #[.agg #[.bool b, .string s, .string t, .int .i64 e], .bool root, .int .i64 A] w fun r w' => r = .returned (.agg #[.string M, .int .i64 A, .int .i64 (hfV (rH W k) (rM W k more)), .bool (!(rH W k || rM W k more))]) ∧ Below w.heap.size w w' := by
  have p := fp8 hf
  have n4 := (nm8 hf).2.2.2.1
  have d1 : nl (W / 2 ^ k) ≤ 8192 := Nat.le_trans (nl_mono _ _ (Nat.div_le_self _ _)) lw
  have KL : Box (∀ w, Calls Tryz.prog 232 #[.string (nbA (W / 2 ^ k))] w fun r w' => r = .returned (.bool (rH W k)) ∧ Below w.heap.size w w') := box (fun w => rf_last _ _ _ rfl (by omega) (last_is W k) w)
  unfold Fnd at hF
  cases root
  · rw [if_neg (by decide)] at hF
    obtain ⟨hTx, hF⟩ := hF
    have F1 := hF (k + 1) (by omega)
    have F2 := hF k (by omega)
    rw [cut_two, ex_is, show T - fP f + ((k + 1 : Nat) : Int) = A by omega] at F1
    rw [wh_is] at F2
    have K1 : Box (∀ w, Calls Tryz.prog 231 #[.agg #[.bool b, .string s, .string t, .int .i64 e], .int .i64 A] w fun r w' => r = .returned (.tuple #[.string M, .bool (!(rH W k || rM W k more)), .int .i64 0]) ∧ Below w.heap.size w w') := box (fun w => rFloor_ok b n d e s t A _ _ 0 M hs ht hc (by omega) (by omega) F1 hM w)
    have K2 : Box (∀ w, Calls Tryz.prog 231 #[.agg #[.bool b, .string s, .string t, .int .i64 e], .int .i64 (T - fP f + (k : Int))] w fun r w' => r = .returned (.tuple #[.string (nbA (W / 2 ^ k)), .bool (!rM W k more), .int .i64 0]) ∧ Below w.heap.size w w') := box (fun w => rFloor_ok b n d e s t _ _ _ 0 _ hs ht hc (by omega) (by omega) F2 rfl w)
    have a1 : IntKind.i64.wrap (A - 1) = T - fP f + (k : Int) := by rw [wrap_i64_is _ (by omega) (by omega)]; omega
    generalize rH W k = H at *
    generalize rM W k more = R at *
    cases H <;> cases R
    · exact rf_find_ex b s t e A A A 0 0 M M M M M M w K1
    · exact rf_find_lo1 b s t e A _ A 0 0 M M _ M M M w K1 K2 KL a1
    · exact rf_find_half b s t e A _ A 0 0 M M _ M M M w K1 K2 KL a1
    · exact rf_find_hi b s t e A _ A 0 0 M M _ M M M w K1 K2 KL a1
  · rw [if_pos rfl] at hF
    obtain ⟨hTx, hF⟩ := hF
    obtain ⟨N1, x1, f1, r1, g1⟩ := hF (k + 1) (by omega)
    obtain ⟨N2, x2, f2, r2, g2⟩ := hF k (by omega)
    rw [← hTx, show T - fP f + ((k + 1 : Nat) : Int) = A by omega] at f1
    rw [← hTx] at f2
    rw [cut_two] at r1
    rw [ex_is, cut_two] at g1
    rw [wh_is] at g2
    have l1 := nl_fl f1 hc
    have l2 := nl_fl f2 hc
    have K1 : Box (∀ w, Calls Tryz.prog 231 #[.agg #[.bool b, .string s, .string t, .int .i64 e], .int .i64 (2 * A)] w fun r w' => r = .returned (.tuple #[.string (nbA N1), .bool x1, .int .i64 0]) ∧ Below w.heap.size w w') := box (fun w => rFloor_ok b n d e s t _ _ _ 0 _ hs ht hc (by omega) (by omega) f1 rfl w)
    have KQ : Box (∀ w, Calls Tryz.prog 233 #[.string (nbA N1)] w fun r w' => r = .returned (.tuple #[.string M, .string (nbA (N1 - rS W k * rS W k))]) ∧ Below w.heap.size w w') := box (fun w => nat_Sqrt N1 _ _ _ M _ rfl l1 r1 rfl hM rfl w)
    have K2 : Box (∀ w, Calls Tryz.prog 231 #[.agg #[.bool b, .string s, .string t, .int .i64 e], .int .i64 (2 * (T - fP f + (k : Int)))] w fun r w' => r = .returned (.tuple #[.string (nbA N2), .bool x2, .int .i64 0]) ∧ Below w.heap.size w w') := box (fun w => rFloor_ok b n d e s t _ _ _ 0 _ hs ht hc (by omega) (by omega) f2 rfl w)
    have KQ2 : Box (∀ w, Calls Tryz.prog 233 #[.string (nbA N2)] w fun r w' => r = .returned (.tuple #[.string (nbA (W / 2 ^ k)), .string (nbA (N2 - W / 2 ^ k * (W / 2 ^ k)))]) ∧ Below w.heap.size w w') := box (fun w => nat_Sqrt N2 _ _ _ _ _ rfl l2 r2 rfl rfl rfl w)
    have a3 : IntKind.i64.wrap (2 * A) = 2 * A := wrap_i64_is _ (by omega) (by omega)
    have a1 : IntKind.i64.wrap (2 * A - 2) = 2 * (T - fP f + (k : Int)) := by rw [wrap_i64_is _ (by omega) (by omega)]; omega
    rw [← rest_nil N1 _ _ rfl] at g1
    rw [← rest_nil N2 _ _ rfl] at g2
    generalize rH W k = H at *
    generalize rM W k more = R at *
    cases H <;> cases R
    · exact rf_root_ex b s t e A A _ 0 0 _ M M M _ M x1 x2 w K1 KQ a3 g1
    · exact rf_root_lo b s t e A _ _ 0 0 _ M _ _ _ _ x1 x2 w K1 KQ a3 g1 K2 KQ2 KL a1
    · exact rf_root_half b s t e A _ _ 0 0 _ M _ _ _ _ x1 x2 w K1 KQ a3 g1 K2 KQ2 KL a1 g2
    · cases hx2 : x2
      · rw [hx2] at g2 K2
        exact rf_root_hi0 b s t e A _ _ 0 0 _ M _ _ _ _ x1 false w K1 KQ a3 g1 K2 KQ2 KL a1 g2 rfl
      · rw [hx2] at g2 K2
        exact rf_root_hi1 b s t e A _ _ 0 0 _ M _ _ _ _ x1 true w K1 KQ a3 g1 K2 KQ2 KL a1 g2 rfl
theorem rtaken (m : Int) (hm : 0 ≤ m ∧ m ≤ 4) (neg : Bool) (W k : Nat) (more : Bool) (lw : nl W ≤ 8192) (A : Int) (M rs : ByteArray) (hM : nbA (rS W k) = M) (hr : nbA (rG m neg W k more) = rs) (w : World) :
    Calls Tryz.prog 158 #[.int .u8 m, .bool neg, .agg #[.string M, .int .i64 A, .int .i64 (hfV (rH W k) (rM W k more)), .bool (!(rH W k || rM W k more))]] w fun r w' => r = .returned (.string rs) ∧ Below w.heap.size w w' := by
  have d1 : nl (W / 2 ^ k) ≤ 8192 := Nat.le_trans (nl_mono _ _ (Nat.div_le_self _ _)) lw
  have d2 : nl (rS W k) ≤ 8192 := Nat.le_trans (nl_mono _ _ (Nat.div_le_self _ _)) d1
  have d3 : nl (rS W k + 1) ≤ 16384 := by
    have q : blen (rS W k + 1) ≤ blen (rS W k) + 1 := (blen_iff _ _).2 (by
      have a := (blen_iff (rS W k) _).1 (Nat.le_refl _)
      have b := Nat.two_pow_pos (blen (rS W k))
      rw [Nat.pow_succ]
      omega)
    unfold nl at d2 ⊢
    omega
  refine rf_taken m neg (gO m neg (rO W k) (rH W k) (rM W k more)) M (nbA (rS W k + 1)) rs A _ 0 _ w
    (box (fun w => rf_up m hm neg (rO W k) _ _ _ M A _ _ rfl rfl rfl w (box (fun w => rf_last (rS W k) M _ hM (by omega) rfl w))))
    (box (fun _ w => nat_Add (rS W k) 1 _ _ _ 0 hM nb1 (lg_is _ d3) (by omega) (Nat.le_trans nl1 (by decide)) w)) ?_
  rw [← hr, ← hM]
  unfold rG
  split <;> rfl
theorem r_emin_b (f : Int) (hf : Is4 f) (w : World) : Calls Tryz.prog 123 #[.int .u8 f] w fun r w' => r = .returned (.int .i64 (1 - fE f)) ∧ Below w.heap.size w w' := bel_same (r_emin f _ _ (is4_ok hf).1 rfl (em_lim hf).2.2.2.2.1 w)
theorem r_emax_b (f : Int) (hf : Is4 f) (w : World) : Calls Tryz.prog 127 #[.int .u8 f] w fun r w' => r = .returned (.int .i64 (fE f)) ∧ Below w.heap.size w w' := bel_same (r_emax f _ (is4_ok hf).1 rfl w)
theorem r_prec_b (f : Int) (hf : Is4 f) (w : World) : Calls Tryz.prog 106 #[.int .u8 f] w fun r w' => r = .returned (.int .i64 (fP f)) ∧ Below w.heap.size w w' := bel_same (r_precision f _ (is4_ok hf).1 rfl w)
theorem rtop (f : Int) (b : Bool) (n d : Nat) (s t : ByteArray) (e : Int) (hs : nbA n = s) (ht : nbA d = t) (hc : (XN.mk b n d e).can) (n0 : n ≠ 0) (root : Bool) (T : Int) (W : Nat) (more : Bool) (hF : Fnd f ⟨b, n, d, e⟩ root T W more) (w : World) : Calls Tryz.prog 155 #[.agg #[.bool b, .string s, .string t, .int .i64 e], .bool root] w fun r w' => r = .returned (.int .i64 T) ∧ Below w.heap.size w w' := by
  obtain ⟨t1, t2⟩ := top_lim hc
  unfold Fnd at hF
  cases root
  · rw [if_neg (by decide)] at hF
    exact rf_top b s t e T 0 w (box (fun w => rTop_ok b n d e s t T hs ht n0 hc hF.1.symm w))
  · rw [if_pos rfl] at hF
    exact rf_top2 b s t e _ T 0 w t1 t2 hF.1.symm (box (fun w => rTop_ok b n d e s t _ hs ht n0 hc rfl w))
theorem rtiny (f m : Int) (hf : Is4 f) (hm : 0 ≤ m ∧ m ≤ 4) (b : Bool) (n d : Nat) (s t : ByteArray) (e : Int) (hs : nbA n = s) (ht : nbA d = t) (hc : (XN.mk b n d e).can) (n0 : n ≠ 0) (root : Bool) (T : Int) (t1 : -1300000 ≤ T) (t2 : T ≤ 1300000) (W : Nat) (more : Bool) (hW : Wok f W) (hF : Fnd f ⟨b, n, d, e⟩ root T W more) (o : Bool) (ho : tnB f m b T W more = o) (w : World) :
    Calls Tryz.prog 73 #[.int .u8 f, .int .u8 m, .agg #[.bool b, .string s, .string t, .int .i64 e], .bool root] w fun r w' => r = .returned (.bool o) ∧ Below w.heap.size w w' := by
  have p := fp8 hf
  obtain ⟨n1, n2, n3, n4, n5, n6⟩ := nm8 hf
  have KT : Box (∀ w, Calls Tryz.prog 155 #[.agg #[.bool b, .string s, .string t, .int .i64 e], .bool root] w fun r w' => r = .returned (.int .i64 T) ∧ Below w.heap.size w w') := box (fun w => rtop f b n d s t e hs ht hc n0 root T W more hF w)
  have KI : Box (∀ w, Calls Tryz.prog 123 #[.int .u8 f] w fun r w' => r = .returned (.int .i64 (1 - fE f)) ∧ Below w.heap.size w w') := box (fun w => r_emin_b f hf w)
  have i1 : IntKind.i64.wrap (1 - fE f - 1) = 1 - fE f - 1 := wrap_i64_is _ (by omega) (by omega)
  by_cases c1 : 1 - fE f ≤ T
  · rw [tn_hi hf hW m b T more c1] at ho
    subst ho
    exact rf_tiny_hi f m b s t e root T _ 0 0 0 0 0 s s false false 0 w KT KI (decide_eq_true c1)
  by_cases c2 : T < 1 - fE f - 1
  · rw [tn_lo hf hW m b T more c2] at ho
    subst ho
    exact rf_tiny_lo f m b s t e root T _ _ 0 0 0 0 s s false false 0 w KT KI (decide_eq_false c1) i1 (decide_eq_true c2)
  · rw [tn_mid hf m b T more (by omega)] at ho
    have lim := (rG_lim hW m b 0 more).1
    exact rf_tiny_mid f m b s t e root T _ _ (fP f) (T - fP f) (T - fP f + 1) _ (nbA (rS W 0)) (nbA (rG m b W 0 more)) _ o _ w KT KI (box (fun w => r_prec_b f hf w))
      (box (fun w => rfind f hf b n d s t e hs ht hc root T t1 t2 W more (nl_W hf hW) hF 0 _ (by omega) (by omega) _ rfl w))
      (box (fun w => rtaken m hm b W 0 more (nl_W hf hW) _ _ _ rfl rfl w))
      (box (fun w => bel_same (nat_Len _ _ _ rfl (nl_small hf _ lim) rfl w))) (decide_eq_false c1) i1 (decide_eq_false c2) (wrap_i64_is _ (by omega) (by omega)) (wrap_i64_is _ (by omega) (by omega)) ho
theorem rover (f m : Int) (hf : Is4 f) (hm : 0 ≤ m ∧ m ≤ 4) (neg : Bool) (u v : Nat) (hv : bv7 (ovB f m neg) = (u, v)) (w : World) : Calls Tryz.prog 156 #[.int .u8 f, .int .u8 m, .bool neg] w fun r w' => r = .returned (.agg #[.int .u64 (u : Nat), .int .u64 (v : Nat)]) ∧ Below w.heap.size w w' := by
  refine rf_over f m hm neg u v w (box (fun h w => rz_inf f neg hf u v ?_ w)) (box (fun h w => ?_))
  · unfold ovB at hv; rw [if_pos h] at hv; exact hv
  · unfold ovB at hv
    rw [if_neg (by rw [h]; decide)] at hv
    have := r_greatest f neg hf _ rfl w
    rw [hv] at this
    exact this
theorem od_nil (S : Nat) (s : ByteArray) (hs : nbA S = s) : (s.toList == []) = decide (S = 0) := by
  rw [eq_empty, ← hs, nbA_size, Bool.eq_iff_iff, decide_eq_true_iff, decide_eq_true_iff]
  exact ⟨nl_eq0 _, fun h => by rw [h]; exact nl_zero⟩
theorem rdeliver (f m : Int) (hf : Is4 f) (hm : 0 ≤ m ∧ m ≤ 4) (b : Bool) (n d : Nat) (s t : ByteArray) (e : Int) (hs : nbA n = s) (ht : nbA d = t) (hc : (XN.mk b n d e).can) (n0 : n ≠ 0) (root : Bool) (T : Int) (t1 : -1300000 ≤ T) (t2 : T ≤ 1300000) (W : Nat) (more : Bool) (hW : Wok f W) (hF : Fnd f ⟨b, n, d, e⟩ root T W more) (M : Nat) (fl : Int) (hd : dlv f m b T W more = (M, fl)) (u v : Nat) (hv : bv7 M = (u, v)) (w : World) :
    Calls Tryz.prog 69 #[.int .u8 f, .int .u8 m, .agg #[.bool b, .string s, .string t, .int .i64 e], .bool root] w fun r w' => r = .returned (.tuple #[.agg #[.int .u64 (u : Nat), .int .u64 (v : Nat)], .int .u8 fl]) ∧ Below w.heap.size w w' := by
  have p := fp8 hf
  obtain ⟨n1, n2, n3, n4, n5, n6⟩ := nm8 hf
  have KT : Box (∀ w, Calls Tryz.prog 155 #[.agg #[.bool b, .string s, .string t, .int .i64 e], .bool root] w fun r w' => r = .returned (.int .i64 T) ∧ Below w.heap.size w w') := box (fun w => rtop f b n d s t e hs ht hc n0 root T W more hF w)
  have KP : Box (∀ w, Calls Tryz.prog 106 #[.int .u8 f] w fun r w' => r = .returned (.int .i64 (fP f)) ∧ Below w.heap.size w w') := box (fun w => r_prec_b f hf w)
  have KE : Box (∀ w, Calls Tryz.prog 127 #[.int .u8 f] w fun r w' => r = .returned (.int .i64 (fE f)) ∧ Below w.heap.size w w') := box (fun w => r_emax_b f hf w)
  have KI : Box (∀ w, Calls Tryz.prog 123 #[.int .u8 f] w fun r w' => r = .returned (.int .i64 (1 - fE f)) ∧ Below w.heap.size w w') := box (fun w => r_emin_b f hf w)
  by_cases c0 : fE f < T
  · rw [dlv_over hf hW m b T more c0] at hd
    injection hd with a1 a2
    subst a1 a2
    exact rf_del_over f m b s t e root T _ _ 0 0 0 0 0 s s false false s s 0 0 u v false w KT KP KE (box (fun w => rover f m hf hm b u v hv w)) (decide_eq_true c0)
  have lim := rG_lim hW m b (dK f T) more
  have sl := nl_W hf hW
  have kk : stE f T - T = (dK f T : Int) := by unfold dK stE; omega
  have stx := st_lx hf T
  obtain ⟨S, hS⟩ : ∃ S, rG m b W (dK f T) more = S := ⟨_, rfl⟩
  have nlim := null_lim hf hW m b (dK f T) more
  have kb : dK f T ≤ 1400000 := by unfold dK stE; omega
  have jb : dJ f T ≤ 40000 := by unfold dJ stE; omega
  unfold dlv at hd
  rw [hS] at hd lim nlim
  have hj : dJ f T = 0 ∨ 2 ^ pV f ≤ S := by
    rcases jk (f := f) T with ⟨a, _⟩ | ⟨a, _⟩
    · exact Or.inl a
    · exact Or.inr (lim.2.1 a)
  obtain ⟨x, hx, xc, xz⟩ : ∃ x : XN, XMath.mk b S 1 (lx f + (dJ f T : Int)) = (x, 0) ∧ x.can ∧ (x.n = 0 ↔ S = 0) := by
    by_cases s0 : S = 0
    · subst s0
      exact ⟨X0, mk_null _ _ _, x0_can, by decide⟩
    · obtain ⟨a, c, d, _⟩ := mk_small hf b (dJ f T) S s0 lim.1 jb
      exact ⟨_, a, c, ⟨fun h => absurd h d, fun h => absurd h s0⟩⟩
  obtain ⟨xb, xn, xd, xe⟩ := x
  obtain ⟨i, j, ok, hij, hok1, hok2, hok3⟩ : ∃ i j ok, (S ≠ 0 → ∃ Mx, ofX f ⟨xb, xn, xd, xe⟩ = (Mx, ok) ∧ bv7 Mx = (i, j)) ∧ (ok = true → i = u ∧ j = v) ∧ (ok = true → ¬ fE f < stE f T - fP f + (blen S : Int)) ∧ (ok = false → fE f < stE f T - fP f + (blen S : Int)) := by
    by_cases s0 : S = 0
    · have b0 : blen S = 0 := by rw [s0]; decide
      exact ⟨u, v, true, fun h => absurd s0 h, fun _ => ⟨rfl, rfl⟩, fun _ => by rw [b0]; unfold stE; omega, fun h => Bool.noConfusion h⟩
    · obtain ⟨a, c, dd, tp⟩ := mk_small hf b (dJ f T) S s0 lim.1 jb
      rw [hx] at a
      injection a with a1 a2
      by_cases ov : fE f < stE f T - fP f + (blen S : Int)
      · exact ⟨0, 0, false, fun _ => ⟨0, by rw [a1]; exact of_over hf b (dJ f T) S s0 lim.1 jb (by omega), rfl⟩, fun h => Bool.noConfusion h, fun h => Bool.noConfusion h, fun _ => ov⟩
      · have hd2 := hd
        rw [if_neg ov] at hd2
        injection hd2 with h1 h2
        exact ⟨u, v, true, fun _ => ⟨M, by rw [a1, ← h1]; exact of_rep hf b (dJ f T) S s0 lim.1 hj (by omega), hv⟩, fun _ => ⟨rfl, rfl⟩, fun _ => ov, fun h => Bool.noConfusion h⟩
  have b0 : S = 0 → blen S = 0 := fun h => by rw [h]; decide
  have nul0 : S = 0 → M = eZero f b ∧ fl = 3 := fun s0 => by
    obtain ⟨k3, kl⟩ := nlim s0
    have hj0 : dJ f T = 0 := by have := Nat.two_pow_pos (pV f); omega
    rw [if_neg (by rw [b0 s0]; unfold stE; omega)] at hd
    injection hd with h1 h2
    rw [if_pos kl, if_pos (tn_lo hf hW m b T more (by rcases jk (f := f) T with ⟨_, q⟩ | ⟨q, _⟩ <;> omega))] at h2
    refine ⟨?_, h2.symm⟩
    rw [← h1, hj0, s0]
    unfold eS eZero enc7
    rfl
  have KF : ∀ A0, A0 = stE f T → Box (∀ w, Calls Tryz.prog 157 #[.agg #[.bool b, .string s, .string t, .int .i64 e], .bool root, .int .i64 (A0 - fP f + 1)] w fun r w' => r = .returned (.agg #[.string (nbA (rS W (dK f T))), .int .i64 (A0 - fP f + 1), .int .i64 (hfV (rH W (dK f T)) (rM W (dK f T) more)), .bool (!(rH W (dK f T) || rM W (dK f T) more))]) ∧ Below w.heap.size w w') := fun A0 h0 => box (fun w => rfind f hf b n d s t e hs ht hc root T t1 t2 W more sl hF (dK f T) _ (by omega) (by rw [h0]; unfold stE; omega) _ rfl w)
  have KK : ∀ A, Box (∀ w, Calls Tryz.prog 158 #[.int .u8 m, .bool b, .agg #[.string (nbA (rS W (dK f T))), .int .i64 A, .int .i64 (hfV (rH W (dK f T)) (rM W (dK f T) more)), .bool (!(rH W (dK f T) || rM W (dK f T) more))]] w fun r w' => r = .returned (.string (nbA S)) ∧ Below w.heap.size w w') := fun A => box (fun w => rtaken m hm b W (dK f T) more sl A _ _ rfl (by rw [hS]) w)
  have KM : ∀ A0, A0 = stE f T → Box (∀ w, Calls Tryz.prog 51 #[.bool b, .string (nbA S), .string ⟨#[1]⟩, .int .i64 (A0 - fP f + 1)] w fun r w' => r = .returned (.tuple #[.agg #[.bool xb, .string (nbA xn), .string (nbA xd), .int .i64 xe], .int .i64 0]) ∧ Below w.heap.size w w') := fun A0 h0 => box (fun w => rmake_ok b S 1 _ _ _ xb xn xd xe 0 _ _ rfl nb1 (nl_small hf S lim.1) nl1 (by decide) (by omega) (by omega) (by rw [h0, stx]; exact hx) rfl rfl w)
  have hn : ((nbA xn).toList == []) = decide (S = 0) := by rw [od_nil xn _ rfl, decide_eq_decide]; exact xz
  have hfl : (if decide (S = 0) = true then (3 : Int) else if ok = true then (if (!(rH W (dK f T) || rM W (dK f T) more)) = true then 0 else if tnB f m b T W more = true then 3 else 1) else 5) = fl := by
    by_cases s0 : S = 0
    · rw [if_pos (decide_eq_true s0)]
      exact (nul0 s0).2.symm
    · rw [if_neg (by simpa using s0)]
      cases ok
      · rw [if_neg (by decide)]
        rw [if_pos (hok3 rfl)] at hd
        injection hd
      · rw [if_pos rfl]
        rw [if_neg (hok2 rfl)] at hd
        injection hd with h1 h2
        rw [← h2]
        generalize (rH W (dK f T) || rM W (dK f T) more) = q
        cases q <;> rfl
  have KZ : Box (decide (S = 0) = true → ∀ w, Calls Tryz.prog 103 #[.int .u8 f, .bool b] w fun r w' => r = .returned (.agg #[.int .u64 (u : Nat), .int .u64 (v : Nat)]) ∧ Below w.heap.size w w') := box (fun h w => rz_zero f b hf u v (by rw [← (nul0 (of_decide_eq_true h)).1]; exact hv) w)
  have KB : Box (decide (S = 0) = false → ∀ w, Calls Tryz.prog 159 #[.int .u8 f, .agg #[.bool xb, .string (nbA xn), .string (nbA xd), .int .i64 xe]] w fun r w' => r = .returned (.tuple #[.agg #[.int .u64 (i : Nat), .int .u64 (j : Nat)], .bool ok]) ∧ Below w.heap.size w w') := box (fun h w => by
    obtain ⟨Mx, q1, q2⟩ := hij (of_decide_eq_false h)
    exact rOf_is f hf xb xn xd _ _ xe rfl rfl xc Mx ok i j q1 q2 w)
  have KO : Box (ok = false → ∀ w, Calls Tryz.prog 156 #[.int .u8 f, .int .u8 m, .bool b] w fun r w' => r = .returned (.agg #[.int .u64 (u : Nat), .int .u64 (v : Nat)]) ∧ Below w.heap.size w w') := box (fun h w => rover f m hf hm b u v (by
    rw [if_pos (hok3 h)] at hd
    injection hd with h1 h2
    rw [h1]
    exact hv) w)
  have KN : Box (∀ w, Calls Tryz.prog 73 #[.int .u8 f, .int .u8 m, .agg #[.bool b, .string s, .string t, .int .i64 e], .bool root] w fun r w' => r = .returned (.bool (tnB f m b T W more)) ∧ Below w.heap.size w w') := box (fun w => rtiny f m hf hm b n d s t e hs ht hc n0 root T t1 t2 W more hW hF _ rfl w)
  by_cases lo : T < 1 - fE f
  · have hst : 1 - fE f = stE f T := by unfold stE; omega
    exact rf_deliver_a f m b s t e root T (fE f) (fP f) (1 - fE f) (1 - fE f) _ (1 - fE f - fP f + 1) _ fl _ _ _ xb _ _ xe 0 u v i j ok _ _ w KT KP KE KI (KF _ hst) (KK _) (KM _ hst) KZ KB KO hok1 KN (decide_eq_false c0) (decide_eq_true lo) (wrap_i64_is _ (by omega) (by omega)) (wrap_i64_is _ (by omega) (by omega)) rfl hn hfl
  · have hst : T = stE f T := by unfold stE; omega
    exact rf_deliver_b f m b s t e root T (fE f) (fP f) (1 - fE f) T _ (T - fP f + 1) _ fl _ _ _ xb _ _ xe 0 u v i j ok _ _ w KT KP KE KI (KF _ hst) (KK _) (KM _ hst) KZ KB KO hok1 KN (decide_eq_false c0) (decide_eq_false lo) (wrap_i64_is _ (by omega) (by omega)) (wrap_i64_is _ (by omega) (by omega)) rfl hn hfl
end Go.Proofs.YtbmhfcppaajgbaaGreatDoor
