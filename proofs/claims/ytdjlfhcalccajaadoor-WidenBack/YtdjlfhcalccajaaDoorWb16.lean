/-
  What the functions that the statement reaches return: part 16 (W4, GV, SL).
-/
import Derived.Test.YtdjlfhcalccajaaDoorRows
import Derived.OpenShut
import Derived.LaidMore
import Derived.Lib.LaidTab
import Derived.Stop.Joined
import Derived.Test.YtdjlfhcalccajaaDoorWb15
namespace Go.Proofs.YtdjlfhcalccajaaDoor
set_option maxRecDepth 100000
set_option maxHeartbeats 40000000
set_option maxRecDepth 100000
open Go.RowKit WMath XMath
set_option linter.unusedSimpArgs false
set_option linter.unusedVariables false
theorem rnd_fit {t : Int} (ht : Is4 t) (m : Int) (x : XN) (hx : x.can) (n0 : x.n ≠ 0) (hd : nl x.d ≤ 8192) : Fit t (rnd t m x).1 := by
  obtain ⟨t1, t2⟩ := top_lim hx
  obtain ⟨wk, _⟩ := x_num ht x hx n0 hd t1 t2
  unfold rnd
  rw [if_neg n0]
  obtain ⟨ee, t, fl, h1, h2, h2b, h3, h4⟩ := dlv_enc ht wk m x.b (topX x) (xM _ x)
  rw [h3]
  exact (enc_k ht x.b h1 h2).1
theorem cvR_fit {t g : Int} (ht : Is4 t) (hg : Is4 g) (m : Int) {n : Nat} (fit : Fit g n) : Fit t (cvR t g m n).1 := by
  obtain ⟨_, a2, _, _, a5, _, _, a8⟩ := kC_made ht (kN g n)
  have lt := kC_lt g n
  unfold cvR
  by_cases h8 : kC g n = 8
  · rw [if_pos h8]; exact a2
  rw [if_neg h8]
  by_cases h9 : kC g n = 9
  · rw [if_pos h9]; exact a2
  rw [if_neg h9]
  by_cases c : kC g n = 0 ∨ kC g n = 7
  · rw [if_pos c]; exact a5
  rw [if_neg c]
  by_cases z : kC g n = 3 ∨ kC g n = 4
  · rw [if_pos z]; exact a8
  rw [if_neg z]
  obtain ⟨x1, x2, x3, x4, x5⟩ := fin_x hg fit (by omega) z
  exact rnd_fit ht m _ x1 x2 x3
theorem kmay0 (f m : Int) (h0 : 0 ≤ f) (h1 : f ≤ 255) (m0 : 0 ≤ m) (o : Bool) (ho : decide (f ≤ 3 ∧ m ≤ 4) = o) (w : World) (hT : FAt w) : Calls Tryd.prog 12 #[.int .u8 f, .int .u8 m, .slice none 0 0] w fun r w' => r = .returned (.bool o) ∧ Below w.heap.size w w' := by
  by_cases cc : f ≤ 3 ∧ m ≤ 4
  · have hf := is4_of h0 cc.1
    rw [decide_eq_true cc] at ho
    subst ho
    obtain ⟨u, v, hv⟩ : ∃ u v, bv7 (eZero f false) = (u, v) := ⟨_, _, rfl⟩
    exact may_none f m u v 0 w (box (fun w hT => kPack_zero f m hf ⟨m0, cc.2⟩ false 0 (by decide) (by decide) u v hv w hT)) hT
  · rw [decide_eq_false cc] at ho
    subst ho
    exact op_may_no f m 0 0 0 2 _ rfl _ (box (fun w hT => kPack_no f m h0 h1 false 0 Q_pos 0 false (fun q => cc ⟨q.1, q.2.1⟩) w hT)) hT
theorem kConvert_is (t g m : Int) (ht : Is4 t) (hg : Is4 g) (hm : 0 ≤ m ∧ m ≤ 4) (x1 y1 a : Nat) (hx1 : x1 < 18446744073709551616) (hy1 : y1 < 18446744073709551616) (ha : y1 + 18446744073709551616 * x1 = a) (ok : okB g a = true) (M : Nat) (fl : Int) (hr : cvR t g m a = (M, fl)) (u v : Nat) (hv : bv7 M = (u, v)) (w : World) (hT : FAt w) : Calls Tryd.prog 4 #[.int .u8 t, .int .u8 g, .int .u8 m, .agg #[.int .u64 (x1 : Nat), .int .u64 (y1 : Nat)]] w fun r w' => r = .returned (.tuple #[.agg #[.int .u64 (u : Nat), .int .u64 (v : Nat)], .int .u8 fl, .int .i64 0]) ∧ Below w.heap.size w w' := by
  obtain ⟨sa1, sa2, sa3⟩ := kS_lim hg a
  have lt := kC_lt g a
  obtain ⟨c, hc⟩ : ∃ c, kC g a = c := ⟨_, rfl⟩
  obtain ⟨S, hS⟩ : ∃ c, kS g a = c := ⟨_, rfl⟩
  obtain ⟨X, hX⟩ : ∃ c, kX g a = c := ⟨_, rfl⟩
  obtain ⟨neg, hng⟩ : ∃ c, kN g a = c := ⟨_, rfl⟩
  have KU : Box (∀ w, FAt w → Calls Tryd.prog 11 #[.int .u8 g, .agg #[.int .u64 (x1 : Nat), .int .u64 (y1 : Nat)]] w fun r w' => r = .returned (.tuple #[.agg (pt c S X (kF g a)), .int .i64 0]) ∧ Below w.heap.size w w') := box (fun w hT => kUnpack_yes g hg x1 y1 a c S (kF g a) X hx1 hy1 ha ok (by unfold kp; rw [hc, hS, hX]) w hT)
  have KM : Box (∀ w, FAt w → Calls Tryd.prog 12 #[.int .u8 t, .int .u8 m, .slice none 0 0] w fun r w' => r = .returned (.bool true) ∧ Below w.heap.size w w') := box (fun w hT => kmay0 t m (is4_ok ht).1 (is4_ok ht).2.1 hm.1 true (decide_eq_true ⟨is4_le ht, hm.2⟩) w hT)
  have KS : Box (∀ w, FAt w → Calls Tryd.prog 13 #[.int .u8 g, .agg #[.int .u64 (x1 : Nat), .int .u64 (y1 : Nat)]] w fun r w' => r = .returned (.bool neg) ∧ Below w.heap.size w w') := box (fun w hT => kSign_yes g hg x1 y1 a neg hx1 hy1 ha ok hng w hT)
  have KI : ∀ o, (decide (c = 8) || decide (c = 9)) = o → Box (∀ w, Calls Tryd.prog 14 #[.int .u8 (c : Nat)] w fun r w' => r = .returned (.bool o) ∧ Below w.heap.size w w') := fun o h => box (fun w => pw_nan c o h w)
  have KE : ∀ o, (decide (c = 0) || decide (c = 7)) = o → Box (∀ w, Calls Tryd.prog 17 #[.int .u8 (c : Nat)] w fun r w' => r = .returned (.bool o) ∧ Below w.heap.size w w') := fun o h => box (fun w => op_endless c o h w)
  have nl := k_null (f := g) a
  have np := k_parts (f := g) a
  have vw := vX_whole hg a
  unfold cvR at hr
  rw [hc, hng] at hr
  rw [hc, hS, hX] at nl
  rw [hc, hS] at np
  rw [hc, hS, hX, hng] at vw
  rw [hS] at sa1
  rw [hX] at sa2 sa3
  rw [hc] at lt
  by_cases h8 : c = 8
  · rw [if_pos h8] at hr
    cases hr
    exact pw_cv_nan t g m x1 y1 c S _ u v X 16 neg true (ieq (by omega)) w KU KM KS (KI true (by rw [decide_eq_true h8]; rfl)) (box (fun w hT => kNaN_is t ht u v hv w hT)) (box (fun w => pw_ef true 16 0 16 rfl w)) hT
  rw [if_neg h8] at hr
  by_cases h9 : c = 9
  · rw [if_pos h9] at hr
    cases hr
    exact pw_cv_nan t g m x1 y1 c S _ u v X 0 neg false (ine (by omega)) w KU KM KS (KI true (by rw [decide_eq_true h9, Bool.or_true])) (box (fun w hT => kNaN_is t ht u v hv w hT)) (box (fun w => pw_ef false 16 0 0 rfl w)) hT
  rw [if_neg h9] at hr
  have KI := KI false (by rw [decide_eq_false h8, decide_eq_false h9]; rfl)
  by_cases hi : c = 0 ∨ c = 7
  · rw [if_pos hi] at hr
    cases hr
    exact pw_cv_inf t g m x1 y1 c S _ u v X 0 neg false w KU KM KS KI (KE true (by rw [← Bool.decide_or]; exact decide_eq_true hi)) (box (fun w hT => kInf_is t ht neg u v hv w hT)) hT
  rw [if_neg hi] at hr
  have KE := KE false (by rw [← Bool.decide_or]; exact decide_eq_false hi)
  refine pw_cv_num t g m x1 y1 c S _ u v X fl neg false w KU KM KS KI KE ?_ hT
  by_cases z : c = 3 ∨ c = 4
  · rw [if_pos z] at hr
    cases hr
    rw [(nl z).1]
    exact box (fun w hT => kPack_zero t m ht hm neg X (by omega) (by omega) u v hv w hT)
  · rw [if_neg z] at hr
    obtain ⟨s0, s1, s2, s3⟩ := vw (by omega) z
    have bl := (blen_iff S 128).2 s1
    obtain ⟨w1, w2, w3, w4, w5, w6, w7⟩ := x_whole ht neg S X s0 (by omega) (by omega) (by omega)
    rw [s2] at hr
    unfold rnd at hr
    rw [if_neg w3, w5, w6, w7] at hr
    exact box (fun w hT => kPack_is t m ht hm neg S (lt_Q7 sa1) s0 X false (by omega) (by omega) (fun h => absurd h (by decide)) M fl hr u v hv w hT)
theorem kConvert_no (t g m : Int) (h0t : 0 ≤ t) (h1t : t ≤ 255) (h0g : 0 ≤ g) (h1g : g ≤ 255) (h0m : 0 ≤ m) (x1 y1 a : Nat) (hx1 : x1 < 18446744073709551616) (hy1 : y1 < 18446744073709551616) (ha : y1 + 18446744073709551616 * x1 = a) (no : ¬ (Is4 t ∧ okB g a = true ∧ m ≤ 4)) (w : World) (hT : FAt w) : Calls Tryd.prog 4 #[.int .u8 t, .int .u8 g, .int .u8 m, .agg #[.int .u64 (x1 : Nat), .int .u64 (y1 : Nat)]] w fun r w' => r = .returned (.tuple #[.agg #[.int .u64 ((0 : Nat) : Int), .int .u64 ((0 : Nat) : Int)], .int .u8 0, .int .i64 2]) ∧ Below w.heap.size w w' := by
  cases ok : okB g a
  · exact pw_cv_n1 t g m x1 y1 w (box (fun w hT => kUnpack_no g h0g h1g x1 y1 a hx1 hy1 ha ok w hT)) hT
  · obtain ⟨hg, _⟩ := okB_yes h0g ok
    exact pw_cv_n2 t g m x1 y1 _ _ _ _ w (box (fun w hT => kUnpack_yes g hg x1 y1 a _ _ (kF g a) _ hx1 hy1 ha ok rfl w hT)) (box (fun w hT => kmay0 t m h0t h1t h0m false (decide_eq_false (fun q => no ⟨is4_of h0t q.1, ok, q.2⟩)) w hT)) hT
theorem kmoved_is (S : Nat) (n : Int) (hS : S < 340282366920938463463374607431768211456) (h1 : -900000 ≤ n) (h2 : n ≤ 900000) (T : Nat) (hT : mvN S n = T) (w : World) : Calls Tryd.prog 22 #[.agg (cw 6 S), .int .i64 n] w fun r w' => r = .returned (.agg (cw 6 T)) ∧ Below w.heap.size w w' := by
  obtain ⟨w0, w1⟩ := wd01 hS
  have l0 := wd_lt S 0
  have l1 := wd_lt S 1
  have sh : ∀ x k, x < 18446744073709551616 → shN x k < 18446744073709551616 := fun x k h => by
    unfold shN
    split
    · exact Nat.lt_of_le_of_lt (Nat.div_le_self _ _) h
    · exact Nat.mod_lt _ (by decide)
  have orr : ∀ a b : Nat, a < 18446744073709551616 → b < 18446744073709551616 → bits .or .u64 (a : Int) (b : Int) = ((a ||| b : Nat) : Int) ∧ (a ||| b) < 18446744073709551616 := fun a b ha hb => ⟨bits_or a b ha hb, Nat.or_lt_two_pow (n := 64) ha hb⟩
  have K : ∀ x k, x < 18446744073709551616 → -1000000 ≤ k → k ≤ 1000000 → Box (∀ w, Calls Tryd.prog 50 #[.int .u64 (x : Nat), .int .i64 k] w fun r w' => r = .returned (.int .u64 (shN x k : Nat)) ∧ Below w.heap.size w w') := fun x k hx a b => box (fun w => bel_same (pw_shifted x k hx a b w))
  obtain ⟨p1, p2⟩ := orr _ _ (sh _ n l0) (sh _ (n + 64) l1)
  obtain ⟨q1, q2⟩ := orr _ _ (sh _ n l1) (sh _ (n - 64) l0)
  have e := mv_words (wd S 0) (wd S 1) n l0 l1
  have eS : wd S 0 + 18446744073709551616 * wd S 1 = S := by rw [w0, w1]; exact Nat.mod_add_div _ _
  rw [eS, hT] at e
  refine pw_moved S T _ _ _ _ _ _ _ _ n (n + 64) (n - 64) (wrap_i64_is _ (by omega) (by omega)) (wrap_i64_is _ (by omega) (by omega)) rfl rfl p1 q1 ?_ w (K _ n l0 (by omega) (by omega)) (K _ (n + 64) l1 (by omega) (by omega)) (K _ n l1 (by omega) (by omega)) (K _ (n - 64) l0 (by omega) (by omega))
  rw [set0 _ p2, set1 _ _ p2 q2, e]
theorem kFits_is (t g : Int) (ht : Is4 t) (hg : Is4 g) (x1 y1 a : Nat) (hx1 : x1 < 18446744073709551616) (hy1 : y1 < 18446744073709551616) (ha : y1 + 18446744073709551616 * x1 = a) (ok : okB g a = true) (o : Bool) (hr : ftR t g a = o) (w : World) (hT : FAt w) : Calls Tryd.prog 8 #[.int .u8 t, .int .u8 g, .agg #[.int .u64 (x1 : Nat), .int .u64 (y1 : Nat)]] w fun r w' => r = .returned (.tuple #[.bool o, .int .i64 0]) ∧ Below w.heap.size w w' := by
  obtain ⟨_, fit⟩ := okB_yes (is4_ok hg).1 ok
  have ff := cvR_fit ht hg 1 fit
  obtain ⟨M, fl, e1⟩ : ∃ M fl, cvR t g 1 a = (M, fl) := ⟨_, _, rfl⟩
  rw [e1] at ff
  obtain ⟨u, v, e2⟩ : ∃ u v, bv7 M = (u, v) := ⟨_, _, rfl⟩
  obtain ⟨bu, bv, bs⟩ := bv7_parts e2 (fit_128 ht ff)
  have okM : okB t M = true := by unfold okB; exact decide_eq_true ⟨is4_le ht, ff⟩
  have KV : Box (∀ w, FAt w → Calls Tryd.prog 4 #[.int .u8 t, .int .u8 g, .int .u8 1, .agg #[.int .u64 (x1 : Nat), .int .u64 (y1 : Nat)]] w fun r w' => r = .returned (.tuple #[.agg #[.int .u64 (u : Nat), .int .u64 (v : Nat)], .int .u8 fl, .int .i64 0]) ∧ Below w.heap.size w w') := box (fun w hT => kConvert_is t g 1 ht hg (by decide) x1 y1 a hx1 hy1 ha ok M fl e1 u v e2 w hT)
  have K1 : Box (∀ w, FAt w → Calls Tryd.prog 11 #[.int .u8 g, .agg #[.int .u64 (x1 : Nat), .int .u64 (y1 : Nat)]] w fun r w' => r = .returned (.tuple #[.agg (pt (kC g a) (kS g a) (kX g a) (kF g a)), .int .i64 0]) ∧ Below w.heap.size w w') := box (fun w hT => kUnpack_yes g hg x1 y1 a _ _ _ _ hx1 hy1 ha ok rfl w hT)
  have K2 : Box (∀ w, FAt w → Calls Tryd.prog 11 #[.int .u8 t, .agg #[.int .u64 (u : Nat), .int .u64 (v : Nat)]] w fun r w' => r = .returned (.tuple #[.agg (pt (kC t M) (kS t M) (kX t M) (kF t M)), .int .i64 0]) ∧ Below w.heap.size w w') := box (fun w hT => kUnpack_yes t ht u v M _ _ _ _ bu bv bs okM rfl w hT)
  have lt := kC_lt g a
  by_cases h8 : 8 ≤ kC g a
  · rw [ftR_nan h8] at hr
    subst hr
    exact pw_ft_nan t g x1 y1 _ _ _ _ _ _ u v 0 _ _ 0 fl false w KV K1 K2 (box (fun w => pw_nan _ true (by
      by_cases q : kC g a = 8
      · rw [decide_eq_true q]; rfl
      · rw [decide_eq_true (show kC g a = 9 by omega), Bool.or_true]) w)) hT
  · obtain ⟨a1, a2, a3⟩ := kS_lim hg a
    obtain ⟨b1, b2, b3⟩ := kS_lim ht M
    have key : decide (mvN (kS t M) (kX t M - kX g a) = kS g a) = o := by
      rw [← hr]
      have fc := ft_cv ht hg fit 1 (by omega)
      rw [e1] at fc
      rw [fc]
      have fl0 : fl = 0 ↔ mvN (kS t M) (kX t M - kX g a) = kS g a := by
        unfold cvR at e1
        rw [if_neg (by omega), if_neg (by omega)] at e1
        by_cases c : kC g a = 0 ∨ kC g a = 7
        · rw [if_pos c] at e1
          cases e1
          have z1 : kS g a = 0 := by unfold kS; rw [if_neg (by omega), if_neg (by omega)]
          have cm := (kC_made ht (kN g a)).2.2.1
          have z2 : kS t (eInf t (kN g a)) = 0 := by
            have : ¬ (kC t (eInf t (kN g a)) = 2 ∨ kC t (eInf t (kN g a)) = 5) ∧ ¬ (kC t (eInf t (kN g a)) = 1 ∨ kC t (eInf t (kN g a)) = 6) := by rw [cm]; cases kN g a <;> decide
            unfold kS
            rw [if_neg this.1, if_neg this.2]
          rw [z1, z2]
          unfold mvN
          simp
        rw [if_neg c] at e1
        by_cases z : kC g a = 3 ∨ kC g a = 4
        · rw [if_pos z] at e1
          cases e1
          have z1 : kS g a = 0 := by unfold kS; rw [if_neg (by omega), if_neg (by omega)]
          have cm := (kC_made ht (kN g a)).2.2.2.2.2.1
          have z2 : kS t (eZero t (kN g a)) = 0 := by
            have : ¬ (kC t (eZero t (kN g a)) = 2 ∨ kC t (eZero t (kN g a)) = 5) ∧ ¬ (kC t (eZero t (kN g a)) = 1 ∨ kC t (eZero t (kN g a)) = 6) := by rw [cm]; cases kN g a <;> decide
            unfold kS
            rw [if_neg this.1, if_neg this.2]
          rw [z1, z2]
          unfold mvN
          simp
        rw [if_neg z] at e1
        obtain ⟨f1, f2, f3, f4, f5⟩ := fin_x hg fit (by omega) z
        obtain ⟨d1, d2, q, d3, d4, d5⟩ := down_le ht _ f1 f2 f3 M fl e1
        have va := vX_val hg a (by omega)
        have vb := vX_val ht M d1
        have hb : (kS t M : Rat) * (2 : Rat) ^ kX t M = q := sgn_abs (nn_mul _ _) d4 (by rw [← vb, d3])
        have ha2 : (kS g a : Rat) * (2 : Rat) ^ kX g a = (vX g a).mag := sgn_abs (nn_mul _ _) (mag_nn _ (by rcases f1.2.2.2.2 with q | q <;> omega)) (by rw [← va, val_mag])
        rw [mv_num _ _ _ _ a1 (by rw [hb, ha2]; exact d5), hb, ha2]
        constructor
        · intro k
          subst k
          have re := (rnd_exact ht 1 _ f1 f2 f3 M e1).2.2
          exact sgn_abs d4 (mag_nn _ (by rcases f1.2.2.2.2 with q | q <;> omega)) (by rw [← d3, re, val_mag])
        · intro k
          have ev : (vX t M).val = (vX g a).val := by rw [d3, k, ← val_mag]
          have ex := can_inj _ _ d2 f1 ev
          have own := (own_round ht 1 M ff d1).2.2.2
          rw [ex] at own
          rcases own with ow | ow
          · rw [e1] at ow
            exact congrArg Prod.snd ow.2
          · rw [ow] at f2
            exact absurd rfl f2
      by_cases k : fl = 0
      · rw [decide_eq_true (fl0.1 k)]
        exact (decide_eq_true k).symm
      · rw [decide_eq_false (fun h => k (fl0.2 h))]
        exact (decide_eq_false k).symm
    have mt : mvN (kS t M) (kX t M - kX g a) < 340282366920938463463374607431768211456 := by
      unfold mvN
      split
      · exact Nat.lt_of_le_of_lt (Nat.div_le_self _ _) b1
      · exact Nat.mod_lt _ (by decide)
    exact pw_ft_num t g x1 y1 _ _ _ _ _ _ u v _ _ _ (kX t M - kX g a) fl o (wrap_i64_is _ (by omega) (by omega)) key (lt_Q7 mt) (lt_Q7 a1) w KV K1 K2 (box (fun w => pw_nan _ false (by rw [decide_eq_false (show ¬ kC g a = 8 by omega), decide_eq_false (show ¬ kC g a = 9 by omega)]; rfl) w)) (box (fun w => kmoved_is _ _ b1 (by omega) (by omega) _ rfl w)) hT
theorem r18alive (w : World) (hT : FAt w) : Calls Tryd.prog 6 #[] w fun r w' => r = .returned (.bool true) ∧ Below w.heap.size w w' :=
  r18alive0 (box (fun w hT => kConvert_is 0 2 0 (Or.inl rfl) (Or.inr (Or.inr (Or.inl rfl))) (by decide) 0 15360 15360 (by decide) (by decide) (by decide) al18.2 _ _ al18.1 0 1065353216 rfl w hT)) w hT
theorem widenBack_fin (t : Int) (h0t : 0 ≤ t) (h1t : t ≤ 255) (g : Int) (h0g : 0 ≤ g) (h1g : g ≤ 255) (m : Int) (h0m : 0 ≤ m) (h1m : m ≤ 255) (n : Int) (h0n : 0 ≤ n) (h1n : n ≤ 255) (x1 y1 a : Nat) (hx1 : x1 < 18446744073709551616) (hy1 : y1 < 18446744073709551616) (ha : y1 + 18446744073709551616 * x1 = a) (w : World) (hT : FAt w) : Calls Tryd.prog 3 #[.int .u8 t, .int .u8 g, .int .u8 m, .int .u8 n, .agg #[.int .u64 (x1 : Nat), .int .u64 (y1 : Nat)]] w fun r w' => r = .returned (.bool true) ∧ Below w.heap.size w w' :=
  back_all t g m n h0t h0g h0m h0n x1 y1 a hx1 hy1 ha (fun t g m ht hg hm x1 y1 a hx1 hy1 ha ok M fl e u v ev => box (fun w hT => kConvert_is t g m ht hg hm x1 y1 a hx1 hy1 ha ok M fl e u v ev w hT))
    (fun no => box (fun w hT => kConvert_no t g m h0t h1t h0g h1g h0m x1 y1 a hx1 hy1 ha no w hT)) (fun ht ok o ho => box (fun w hT => kFits_is t g ht (okB_yes h0g ok).1 x1 y1 a hx1 hy1 ha ok o ho w hT))
    (fun h => box (fun w => by have q := s_checkMode n w; rw [if_pos h] at q; exact q)) (fun h => box (fun w => by have q := s_checkMode n w; rw [if_neg h] at q; exact q))
    (fun ok => box (fun w hT => kClass_yes g (okB_yes h0g ok).1 x1 y1 a _ hx1 hy1 ha ok rfl w hT))
    (fun f hf => box (fun w hT => sb_width f _ (is4_ok hf).1 (is4_ok hf).2.1 rfl w hT)) (fun f hf u v e => box (fun w hT => by have q := s_nan f hf _ rfl w hT; rw [e] at q; exact q)) (box (fun w hT => r18alive w hT)) w hT
end Go.Proofs.YtdjlfhcalccajaaDoor
namespace Go.Proofs.YtdjlfhcalccajaaDoor
set_option maxRecDepth 100000
set_option maxHeartbeats 40000000
set_option maxRecDepth 100000
open WMath
open Go.ChangeShapes Go.WideShapes Go.ChangeAt Go.RowKit
theorem trod_row4 {H : Type} {enc : TypeId × Value → H} {P : Program} {w : World} {base : Nat} {spare : Nat → Bool} {held : Bool} {t : TypeId} {f0 f1 f2 f3 : Field} {fuel : Nat} {cs : List Value} {x : DataW H × List MemPlace} (ht : P.underlying t = some (.struct #[f0, f1, f2, f3])) (h : DataW.trod enc P w base spare held fuel t cs = some x) :
    ∃ y0 y1 y2 y3 n, x = (.agg [y0.1, y1.1, y2.1, y3.1], y0.2 ++ (y1.2 ++ (y2.2 ++ y3.2))) ∧ DataW.trod enc P w base spare held n f0.type ((cs.drop f0.offset).take (P.cellsOf f0.type)) = some y0 ∧
      DataW.trod enc P w base spare held n f1.type ((cs.drop f1.offset).take (P.cellsOf f1.type)) = some y1 ∧ DataW.trod enc P w base spare held n f2.type ((cs.drop f2.offset).take (P.cellsOf f2.type)) = some y2 ∧
      DataW.trod enc P w base spare held n f3.type ((cs.drop f3.offset).take (P.cellsOf f3.type)) = some y3 := by
  obtain ⟨xs, n, _, rfl, hl, hlen, hf⟩ := DataW.trod_struct ht h
  match xs, hlen with
  | [y0, y1, y2, y3], _ => exact ⟨y0, y1, y2, y3, n, by simp, by simpa using hf 0 f0 rfl, by simpa using hf 1 f1 rfl, by simpa using hf 2 f2 rfl, by simpa using hf 3 f3 rfl⟩


theorem list4' {α : Type} (l : List α) (h : l.length = 4) : ∃ a b c d, l = [a, b, c, d] := by
  match l, h with
  | [a, b, c, d], _ => exact ⟨a, b, c, d, rfl⟩

theorem row_read {w : World} {fuel : Nat} {enc : TypeId × Value → Unit} {base : Nat} {spare : Nat → Bool} {held : Bool} {l : List Value} {a b c : Int} {s : List UInt8} {p : List MemPlace}
    (h : DataW.trod enc Tryd.prog w base spare held fuel 58 l = some (.agg [.lit (.int .i64 a), .lit (.int .i64 b), .lit (.int .i64 c), .lit (.string s)], p)) (hl : l.length = 4) :
    l = [.int .i64 a, .int .i64 b, .int .i64 c, .string ⟨⟨s⟩⟩] := by
  have h3 : Tryd.prog.cellsOf 3 = 1 := by kernel_rfl
  have h9 : Tryd.prog.cellsOf 9 = 1 := by kernel_rfl
  obtain ⟨c0, c1, c2, c3, rfl⟩ := list4' l hl
  obtain ⟨y0, y1, y2, y3, n, hx, g0, g1, g2, g3⟩ := trod_row4 Tryd.underlying58 h
  simp only [h3, h9] at g0 g1 g2 g3
  obtain ⟨x0, e0, k0, w0⟩ := DataW.trod_int Tryd.underlying3 g0
  obtain ⟨x1, e1, k1, w1⟩ := DataW.trod_int Tryd.underlying3 g1
  obtain ⟨x2, e2, k2, w2⟩ := DataW.trod_int Tryd.underlying3 g2
  obtain ⟨x3, e3, k3, w3⟩ := DataW.trod_string Tryd.underlying9 g3
  simp at e0 e1 e2 e3
  subst e0 e1 e2 e3
  rw [k0, k1, k2, k3] at hx
  simp at hx
  obtain ⟨⟨rfl, rfl, rfl, rfl⟩, _⟩ := hx
  rfl

def laid7 : List (String × DataW Unit) := [("abacus/shape.formats", Rows.laid_abacus_shape_formats)]
theorem gTab7 : Tryd.prog.globalNamed "abacus/shape.formats" = some 0 := by kernel_rfl
theorem gType7 : (Tryd.prog.globals[0]?).map (·.type) = some 83 := by kernel_rfl

theorem of_laid7 {W : World} (h : laidMetH Tryd.prog laid7 W) : FAt W := by
  have hce : Tryd.prog.cellsOf 58 = 4 := by kernel_rfl
  have hct : Tryd.prog.cellsOf 83 = 16 := by kernel_rfl
  rw [MakeChecks.laidMetH_plain _ _ _ (by kernel_rfl)] at h
  obtain ⟨ps, ⟨g', t', cs, fuel, p, q, hg', ht', hvar, hd, _, _⟩, _⟩ := h
  obtain rfl := Option.some.inj (gTab7.symm.trans hg')
  obtain rfl := Option.some.inj (gType7.symm.trans ht')
  obtain ⟨xs, m, rfl, hx, hl, hxl, hel⟩ := DataW.trod_array Tryd.underlying83 hd
  rw [hce] at hel
  rw [hct] at hl
  have hl2 : cs.size = 16 := by simpa using hl
  match xs, hxl with
  | [y0, y1, y2, y3], _ =>
    have hx1 := congrArg Prod.fst hx
    simp [Rows.laid_abacus_shape_formats] at hx1
    obtain ⟨h0, h1, h2, h3⟩ := hx1
    have q0 := hel 0 (by decide)
    have q1 := hel 1 (by decide)
    have q2 := hel 2 (by decide)
    have q3 := hel 3 (by decide)
    simp only [List.getElem?_cons_zero, List.getElem?_cons_succ] at q0 q1 q2 q3
    have z0 := row_read (p := y0.2) (by rw [q0, h0]) (by simp; omega)
    have z1 := row_read (p := y1.2) (by rw [q1, h1]) (by simp; omega)
    have z2 := row_read (p := y2.2) (by rw [q2, h2]) (by simp; omega)
    have z3 := row_read (p := y3.2) (by rw [q3, h3]) (by simp; omega)
    have hcs : ∀ i, i < 16 → cs.toList[i]? = fcells[i]? := by
      intro i hi
      have e0 : cs.toList[i]? = (cs.toList.drop (i / 4 * 4))[i % 4]? := by rw [List.getElem?_drop]; congr 1; omega
      have e1 : (cs.toList.drop (i / 4 * 4))[i % 4]? = ((cs.toList.drop (i / 4 * 4)).take 4)[i % 4]? := by rw [List.getElem?_take, if_pos (by omega)]
      rw [e0, e1]
      have : i / 4 = 0 ∨ i / 4 = 1 ∨ i / 4 = 2 ∨ i / 4 = 3 := by omega
      have hj : i % 4 = 0 ∨ i % 4 = 1 ∨ i % 4 = 2 ∨ i % 4 = 3 := by omega
      have hi2 : i = i / 4 * 4 + i % 4 := by omega
      rcases this with e | e | e | e <;> rw [e] at hi2 ⊢ <;> rcases hj with k | k | k | k <;> rw [k] at hi2 ⊢ <;> subst hi2 <;> first | (rw [z0]; rfl) | (rw [z1]; rfl) | (rw [z2]; rfl) | (rw [z3]; rfl)
    intro i hi
    rw [World.var?_cell gTab7 hvar i, ← hcs i hi]
    simp

theorem door_met7 (os : Os) (args : Array Value) : laidMetH Tryd.prog laid7 ((World.doorLaid Tryd.prog 400 os).forCall (fun _ _ => 0) ⟨#[], args, []⟩).memory :=
  laidMetH_of_parts3 (fuel := 8) (laidMet_of_run' 8 (by kernel_rfl) (by kernel_rfl)) (by kernel_rfl) (by kernel_rfl)
end Go.Proofs.YtdjlfhcalccajaaDoor
