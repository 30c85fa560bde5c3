/-
  What the functions that the statement reaches return: part 18 (TQ, TR, VM).
-/
import Derived.Handed
import Derived.Shelf.Vars
import Derived.Shelf.Strconv.Itoa3
import Derived.Shelf.Strconv.ErrVarAll
import Derived.Shelf.Strings.Cut
import Derived.Shelf.Small.Wraps
import Derived.Ground.NamesProg
import Derived.Test.YtkblmpmkchkpjaaGreatDoorProg
import Derived.Test.YtkblmpmkchkpjaaGreatDoorKt17
namespace Go.Proofs.YtkblmpmkchkpjaaGreatDoor
set_option maxRecDepth 100000
set_option maxHeartbeats 40000000
open Go.RowKit WMath
set_option linter.unusedSimpArgs false
set_option linter.unusedVariables false
theorem dg58 (d : Nat) : dg d ≠ 58 := by
 by_cases h : d < 16
 ·
  have key : ∀ d : Fin 16, dg d.val ≠ 58 := by decide +kernel
  exact key ⟨d, h⟩
 ·
  have : dg d = 0 := by
   unfold dg
   rw [List.getD_eq_getElem?_getD, List.getElem?_eq_none (by show 16 ≤ d; omega)]
   rfl
  rw [this]
  decide
theorem tx58 (n : Nat) : (58 : UInt8) ∉ tx n := by
 intro h
 unfold tx hxs at h
 rw [List.mem_map] at h
 obtain ⟨i, _, e⟩ := h
 exact dg58 _ e
theorem dec58 (n : Nat) (b : UInt8) (h : b ∈ Lib.decDigits n) : b ≠ 58 := by
 rw [Lib.decDigits] at h
 have key : ∀ d : Fin 10, UInt8.ofNat (48 + d.val) ≠ 58 := by decide +kernel
 split at h
 ·
  rename_i hn
  rw [List.mem_singleton] at h
  subst h
  exact key ⟨n, hn⟩
 ·
  rename_i hn
  rw [List.mem_append, List.mem_singleton] at h
  rcases h with h | h
  ·
   have : n / 10 < n := by omega
   exact dec58 (n / 10) b h
  ·
   subst h
   exact key ⟨n % 10, by omega⟩
termination_by n
decreasing_by omega
theorem itoa58 (X : Int) : (58 : UInt8) ∉ Lib.itoa X := by
 intro h
 unfold Lib.itoa at h
 split at h
 ·
  rw [List.mem_cons] at h
  rcases h with h | h
  ·
   exact absurd h (by decide)
  ·
   exact dec58 _ _ h rfl
 ·
  exact dec58 _ _ h rfl
theorem split_u (c : UInt8) : ∀ (a b a' b' : List UInt8), a ++ c :: b = a' ++ c :: b' → c ∉ a → c ∉ a' → a = a' ∧ b = b'
 | [], b, [], b', h, _, _ => by
  injection h with _ h
  exact ⟨rfl, h⟩
 | [], b, x :: a', b', h, _, h2 => by
  injection h with h _
  subst h
  exact absurd (List.mem_cons_self ..) h2
 | x :: a, b, [], b', h, h1, _ => by
  injection h with h _
  subst h
  exact absurd (List.mem_cons_self ..) h1
 | x :: a, b, y :: a', b', h, h1, h2 => by
  injection h with e h
  subst e
  obtain ⟨e1, e2⟩ := split_u c a b a' b' h (fun q => h1 (List.mem_cons_of_mem _ q)) (fun q => h2 (List.mem_cons_of_mem _ q))
  exact ⟨by rw [e1], e2⟩
theorem mTx_all (c s : Nat) (X : Int) (r : Nat) (h : c ≤ 9) : (c = 9 ∧ mTx c s X r = [110, 97, 110] ++ 58 :: tx r) ∨ (c = 8 ∧ mTx c s X r = [115, 110, 97, 110] ++ 58 :: tx r) ∨ ((c = 0 ∨ c = 7) ∧ mTx c s X r = [105, 110, 102]) ∨ ((c = 3 ∨ c = 4) ∧ mTx c s X r = [48]) ∨ ((c = 1 ∨ c = 2 ∨ c = 5 ∨ c = 6) ∧ mTx c s X r = tx s ++ 112 :: Lib.itoa X) := by
 unfold mTx
 by_cases c9 : c = 9
 ·
  rw [if_pos c9]
  exact Or.inl ⟨c9, rfl⟩
 rw [if_neg c9]
 by_cases c8 : c = 8
 ·
  rw [if_pos c8]
  exact Or.inr (Or.inl ⟨c8, rfl⟩)
 rw [if_neg c8]
 by_cases c0 : c = 0 ∨ c = 7
 ·
  rw [if_pos c0]
  exact Or.inr (Or.inr (Or.inl ⟨c0, rfl⟩))
 rw [if_neg c0]
 by_cases c3 : c = 3 ∨ c = 4
 ·
  rw [if_pos c3]
  exact Or.inr (Or.inr (Or.inr (Or.inl ⟨c3, rfl⟩)))
 rw [if_neg c3]
 exact Or.inr (Or.inr (Or.inr (Or.inr ⟨by omega, by rw [List.append_assoc]; rfl⟩)))
theorem num58 (s : Nat) (X : Int) : (58 : UInt8) ∉ tx s ++ 112 :: Lib.itoa X := by
 intro h
 rw [List.mem_append, List.mem_cons] at h
 rcases h with h | h | h
 ·
  exact tx58 s h
 ·
  exact absurd h (by decide)
 ·
  exact itoa58 X h
theorem drop_at (a b : List UInt8) (c : UInt8) : (a ++ c :: b).drop (a.length + 1) = b := by
 rw [show a ++ c :: b = (a ++ [c]) ++ b by simp, show a.length + 1 = (a ++ [c]).length by simp, List.drop_left]
theorem pk_num {f : Int} (hf : yT f) {n : Nat} (fit : Fit f n) (hc : kC f n = 1 ∨ kC f n = 2 ∨ kC f n = 5 ∨ kC f n = 6) (c : Nat) (hcc : c = if (zW (kS f n) : Int) < fP f then 5 else 6) : pk f (c, kS f n, kX f n, 0) = (yK f false (kE f n) (kT f n), 0) := by
 obtain ⟨k1, k2, k3, k4⟩ := k_parts (f := f) n hc
 have tl := xR (f := f) n
 have hp := fp8 hf
 have p := Nat.two_pow_pos (pV f)
 obtain ⟨e1, e2, e3, e4⟩ := x7 hf false (Nat.le_of_lt k1) tl
 have cc := kC_cases hf false (kE f n) (kT f n) (Nat.le_of_lt k1) tl
 rw [if_neg (by omega)] at cc
 obtain ⟨N, hN⟩ : ∃ N, yK f false (kE f n) (kT f n) = N := ⟨_, rfl⟩
 rw [hN] at e1 e2 e3 e4 cc ⊢
 have hcN : kC f N = c ∧ (kC f N = 5 ∨ kC f N = 6) := by
  by_cases z : kE f n = 0
  ·
   have sk : kS f n = kT f n := by rw [k2]; unfold sV; rw [if_pos z]
   have bl : zW (kS f n) ≤ pV f := (yY _ _).2 (by rw [sk]; exact tl)
   have t0 : kT f n ≠ 0 := fun q => k4 (by rw [sk, q])
   have c5 : kC f N = 5 := by rw [cc, if_neg (show ¬ (kE f n ≠ 0) from fun q => q z), if_pos t0]; rfl
   have cx : c = 5 := by rw [hcc, if_pos (by omega)]
   exact ⟨by rw [c5, cx], Or.inl c5⟩
  ·
   have sk : kS f n = 2 ^ pV f + kT f n := by rw [k2]; unfold sV; rw [if_neg z]
   have bl : zW (kS f n) = pV f + 1 := blen_is _ _ (by omega) (by rw [Nat.pow_succ]; omega)
   have c6 : kC f N = 6 := by rw [cc, if_pos z]; rfl
   have cx : c = 6 := by rw [hcc, if_neg (by omega)]
   exact ⟨by rw [c6, cx], Or.inr c6⟩
 obtain ⟨j1, j2, j3, j4⟩ := k_parts (f := f) N (by omega)
 refine pk_of hf e1 ?_ (fun q => by exfalso; omega)
 unfold kp
 have f0 : kF f N = 0 := by unfold kF; rw [if_neg (by omega)]
 rw [hcN.1, j2, j3, e3, e4, ← k2, ← k3, f0]
theorem pk_fit {f : Int} (hf : yT f) (p : Nat × Nat × Int × Nat) (M : Nat) (e : Int) (h : pk f p = (M, e)) : Fit f M := by
 unfold pk at h
 split at h
 ·
  rename_i q
  injection h with h1 h2
  rw [← h1]
  exact (pk_yes hf q).1
 ·
  injection h with h1 h2
  rw [← h1]
  unfold Fit
  have := Nat.two_pow_pos (wV f)
  omega
theorem fit0 (f : Int) : Fit f 0 := by
 unfold Fit
 have := Nat.two_pow_pos (wV f)
 omega
theorem rguess_any (f : Int) (hf : yT f) (l : List UInt8) (hl : l.length ≤ 100000000) : ∃ g u v : Nat, Fit f g ∧ xL g = (u, v) ∧ zP (∀ w, Calls Tryz.prog 41 #[.int .u8 f, .string ⟨l.toArray⟩] w fun r w' => r = .returned (.agg #[.int .u64 u, .int .u64 v]) ∧ Below w.heap.size w w') ∧ ∀ n, okB f n = true → kTx f n = l → g = n := by
 obtain ⟨neg, m, ml, HS, e0, uq⟩ := sgn_road l
 have f4 := yL hf
 have hp := fp8 hf
 obtain ⟨q1', oe, q3', q4', q5', q6', q7'⟩ := nb_p hf
 have back : ∀ n, okB f n = true → kTx f n = l → neg = kN f n ∧ m = mTx (kC f n) (kS f n) (kX f n) (kF f n) := fun n ho h => uq _ _ (m_head _ _ _ _) (by rw [← h]; rfl)
 have cls := fun n => mTx_all (kC f n) (kS f n) (kX f n) (kF f n) (by have := kC_lt f n; omega)
 have enc := fun n (ho : okB f n = true) => k_enc hf (okB_yes f4.1 ho).2
 have lim : ∀ g, Fit f g → g < 340282366920938463463374607431768211456 := fun g hg => by
  have := (fm hf).2.2.2.2.2.2
  have hg : g < 2 * 2 ^ wV f := hg
  omega
 by_cases ci : m = [105, 110, 102]
 ·
  obtain ⟨u, v, huv⟩ : ∃ u v, xL (eInf f neg) = (u, v) := ⟨_, _, rfl⟩
  refine ⟨eInf f neg, u, v, (x7 hf neg (e := oV f) (t := 0) (Nat.le_refl _) (Nat.two_pow_pos _)).1, huv, zK (fun w => rg_inf f _ ⟨m.toArray⟩ neg u v w HS (by rw [ByteArray.toList_eq, ci]; rfl) (zK (fun w => rk_inf f neg hf u v huv w))), fun n ho h => ?_⟩
  obtain ⟨b1, b2⟩ := back n ho h
  obtain ⟨a1, a2, a3, a4, x1, x2, x3, x4, ca⟩ := cls_sg f n
  have e := enc n ho
  rcases cls n with ⟨c, q⟩ | ⟨c, q⟩ | ⟨c, q⟩ | ⟨c, q⟩ | ⟨c, q⟩
  ·
   rw [← b2, ci] at q; simp at q
  ·
   rw [← b2, ci] at q; simp at q
  ·
   have ee : kE f n = oV f ∧ kT f n = 0 := by omega
   rw [ee.1, ee.2] at e
   rw [b1]
   exact e
  ·
   rw [← b2, ci] at q; simp at q
  ·
   exfalso
   have : (112 : UInt8) ∈ [105, 110, 102] := by rw [← ci, b2, q]; simp
   exact absurd this (by decide)
 by_cases cz : m = [48]
 ·
  obtain ⟨u, v, huv⟩ : ∃ u v, xL (eZero f neg) = (u, v) := ⟨_, _, rfl⟩
  refine ⟨eZero f neg, u, v, (x7 hf neg (e := 0) (t := 0) (Nat.zero_le _) (Nat.two_pow_pos _)).1, huv, zK (fun w => rg_zero f _ ⟨m.toArray⟩ neg u v w HS (xT _ _ ci) (by rw [ByteArray.toList_eq, cz]; rfl) (zK (fun w => rk_zero f neg hf u v huv w))), fun n ho h => ?_⟩
  obtain ⟨b1, b2⟩ := back n ho h
  obtain ⟨a1, a2, a3, a4, x1, x2, x3, x4, ca⟩ := cls_sg f n
  have e := enc n ho
  rcases cls n with ⟨c, q⟩ | ⟨c, q⟩ | ⟨c, q⟩ | ⟨c, q⟩ | ⟨c, q⟩
  ·
   rw [← b2, cz] at q; simp at q
  ·
   rw [← b2, cz] at q; simp at q
  ·
   rw [← b2, cz] at q; simp at q
  ·
   have ee : kE f n = 0 ∧ kT f n = 0 := by omega
   rw [ee.1, ee.2] at e
   rw [b1]
   exact e
  ·
   exfalso
   have : (112 : UInt8) ∈ [48] := by rw [← cz, b2, q]; simp
   exact absurd this (by decide)
 have hi := xT m [105, 110, 102] ci
 have hz := xT m [48] cz
 have KP := zK (fun w => r_prec_b f hf w)
 have wk : ∀ k : Nat, k ≤ 100000000 → IntKind.i64.wrap ((k : Int) + 1) = (k : Int) + 1 := fun k hk => by rw [IntKind.wrap_i64]; omega
 have hP1 : IntKind.i64.wrap (fP f - 1) = (pV f : Int) := by rw [IntKind.wrap_i64]; omega
 rcases rfind_any m 58 58 rfl (by omega) with ⟨a, b, em, na, KF⟩ | ⟨n58, KF⟩
 ·
  obtain ⟨V, E, hr⟩ : ∃ V E, rd b = (V, E) := ⟨_, _, rfl⟩
  have VQ := rd_q _ _ _ hr
  have lm : m.length = a.length + (b.length + 1) := by rw [em, List.length_append, List.length_cons]
  have hs1 : ∀ w, (Instr.slice 9 (.string ⟨m.toArray⟩) (some (.int .i64 ((a.length : Int) + 1))) none none).run Tryz.prog w = .ok (.string ⟨b.toArray⟩) w := fun w => sl_from m b _ (a.length + 1) (by omega) (by omega) (by rw [em]; exact drop_at a b 58) w
  have KR := zK (fun w => rwread_is ⟨b.toArray⟩ b V E (by rw [yJ]; omega) rfl hr w)
  have KL := zK (fun w => rwlen_any V VQ w)
  have d1 : decide ((0 : Int) ≤ (a.length : Int)) = true := decide_eq_true (by omega)
  have d2 : decide ((a.length : Int) < 0) = false := decide_eq_false (by omega)
  have nan : ∀ n, okB f n = true → kTx f n = l → (kC f n = 8 ∨ kC f n = 9) ∧ neg = kN f n ∧ V = kT f n := fun n ho h => by
   obtain ⟨b1, b2⟩ := back n ho h
   have i58 : (58 : UInt8) ∈ m := by rw [em]; simp
   have kf : kC f n = 8 ∨ kC f n = 9 → kF f n = kT f n := fun q => by unfold kF; rw [if_pos q]
   have fin : ∀ p : List UInt8, (58 : UInt8) ∉ p → mTx (kC f n) (kS f n) (kX f n) (kF f n) = p ++ 58 :: tx (kF f n) → V = kF f n := fun p hp' q => by
    rw [← b2, em] at q
    have := (split_u 58 a b p _ q na hp').2
    rw [this, rd_tx _ (yR (kF_lim hf n))] at hr
    injection hr with hr _
    exact hr.symm
   rcases cls n with ⟨c, q⟩ | ⟨c, q⟩ | ⟨c, q⟩ | ⟨c, q⟩ | ⟨c, q⟩
   ·
    exact ⟨Or.inr c, b1, by rw [fin _ (by decide) q, kf (Or.inr c)]⟩
   ·
    exact ⟨Or.inl c, b1, by rw [fin _ (by decide) q, kf (Or.inl c)]⟩
   ·
    exact absurd (b2.trans q) ci
   ·
    exact absurd (b2.trans q) cz
   ·
    exfalso
    rw [b2, q] at i58
    exact num58 _ _ i58
  by_cases lb : (pV f : Int) < (zW V : Int)
  ·
   refine ⟨0, 0, 0, fit0 f, rfl, zK (fun w => rg_cl f _ ⟨m.toArray⟩ neg 0 0 a.length ⟨b.toArray⟩ V (zW V) E (fP f) (pV f : Int) w HS hi hz KF (wk _ (by omega)) d1 d2 hs1 KR KL KP hP1 (decide_eq_true lb)), fun n ho h => ?_⟩
   exfalso
   obtain ⟨_, _, e⟩ := nan n ho h
   have := (yY V (pV f)).2 (by rw [e]; exact xR n)
   omega
  ·
   have VP : V < 2 ^ pV f := (yY V (pV f)).1 (by omega)
   obtain ⟨u, v, huv⟩ : ∃ u v, xL (yK f neg (oV f) V) = (u, v) := ⟨_, _, rfl⟩
   have KB : zP (∀ w, Calls Tryz.prog 104 #[.int .u8 f, .bool neg, .int .i64 ((oV f : Nat) : Int), .agg (cw 6 V)] w fun r w' => r = .returned (.agg #[.int .u64 u, .int .u64 v]) ∧ Below w.heap.size w w') := zK (fun w => by
    have := r_enc f neg (oV f) V _ hf (by omega) VP rfl (Nat.le_refl _) w
    rw [huv] at this
    exact this)
   have KO := zK (fun w => bel_same (r_ones f (fE f) ((oV f : Nat) : Int) f4.1 rfl (by omega) w))
   refine ⟨_, u, v, (x7 hf neg (Nat.le_refl _) VP).1, huv, zK (fun w => rg_cb f _ ⟨m.toArray⟩ neg u v a.length ⟨b.toArray⟩ V (zW V) E (fP f) (pV f : Int) _ w HS hi hz KF (wk _ (by omega)) d1 d2 hs1 KR KL KP hP1 (decide_eq_false lb) KO KB), fun n ho h => ?_⟩
   obtain ⟨c, b1, e⟩ := nan n ho h
   obtain ⟨a1, a2, a3, a4, x1, x2, x3, x4, ca⟩ := cls_sg f n
   have en := enc n ho
   have ee : kE f n = oV f := by omega
   rw [b1, e, ← ee]
   exact en
 ·
  have num : ∀ n, okB f n = true → kTx f n = l → (kC f n = 1 ∨ kC f n = 2 ∨ kC f n = 5 ∨ kC f n = 6) ∧ neg = kN f n ∧ m = tx (kS f n) ++ 112 :: Lib.itoa (kX f n) := fun n ho h => by
   obtain ⟨b1, b2⟩ := back n ho h
   rcases cls n with ⟨c, q⟩ | ⟨c, q⟩ | ⟨c, q⟩ | ⟨c, q⟩ | ⟨c, q⟩
   ·
    exact absurd (show (58 : UInt8) ∈ m by rw [b2, q]; simp) n58
   ·
    exact absurd (show (58 : UInt8) ∈ m by rw [b2, q]; simp) n58
   ·
    exact absurd (b2.trans q) ci
   ·
    exact absurd (b2.trans q) cz
   ·
    exact ⟨c, b1, b2.trans q⟩
  rcases rfind_any m 112 112 rfl (by omega) with ⟨a, b, em, na, KG⟩ | ⟨n112, KG⟩
  ·
   obtain ⟨V, E, hr⟩ : ∃ V E, rd a = (V, E) := ⟨_, _, rfl⟩
   have VQ := rd_q _ _ _ hr
   have lm : m.length = a.length + (b.length + 1) := by rw [em, List.length_append, List.length_cons]
   have hs1 : ∀ w, (Instr.slice 9 (.string ⟨m.toArray⟩) (some (.int .i64 ((a.length : Int) + 1))) none none).run Tryz.prog w = .ok (.string ⟨b.toArray⟩) w := fun w => sl_from m b _ (a.length + 1) (by omega) (by omega) (by rw [em]; exact drop_at a b 112) w
   have hs0 : ∀ w, (Instr.slice 9 (.string ⟨m.toArray⟩) none (some (.int .i64 ((a.length : Nat) : Int))) none).run Tryz.prog w = .ok (.string ⟨a.toArray⟩) w := fun w => sl_to m a _ a.length rfl (by omega) (by rw [em]; exact List.take_left) w
   have KR := zK (fun w => rwread_is ⟨a.toArray⟩ a V E (by rw [yJ]; omega) rfl hr w)
   have KL := zK (fun w => rwlen_any V VQ w)
   have d1 : decide ((0 : Int) ≤ (a.length : Int)) = true := decide_eq_true (by omega)
   have d2 : decide ((a.length : Int) < 0) = false := decide_eq_false (by omega)
   obtain ⟨X, o, xb, KW, hX⟩ := rwhole_any b (by omega)
   have num2 : ∀ n, okB f n = true → kTx f n = l → (kC f n = 1 ∨ kC f n = 2 ∨ kC f n = 5 ∨ kC f n = 6) ∧ neg = kN f n ∧ V = kS f n ∧ X = kX f n ∧ o = true := fun n ho h => by
    obtain ⟨c, b1, b2⟩ := num n ho h
    obtain ⟨s1, s2, s3⟩ := kS_lim hf n
    rw [em] at b2
    obtain ⟨y1, y2⟩ := split_u 112 a b _ _ b2 na (fun q => (tx_byte _ _ q).2.1 rfl)
    rw [y1, rd_tx _ (yR s1)] at hr
    injection hr with hr _
    obtain ⟨z1, z2⟩ := hX _ s2 s3 y2
    exact ⟨c, b1, hr.symm, z1, z2⟩
   cases o
   ·
    refine ⟨0, 0, 0, fit0 f, rfl, zK (fun w => rg_nw f _ ⟨m.toArray⟩ neg 0 0 a.length ⟨a.toArray⟩ ⟨b.toArray⟩ V (zW V) E (fP f) X w HS hi hz KF KG (wk _ (by omega)) d1 d2 hs0 hs1 KR KL KP KW), fun n ho h => ?_⟩
    exact absurd (num2 n ho h).2.2.2.2 (by decide)
   ·
    obtain ⟨c, hc⟩ : ∃ c : Nat, c = if (zW V : Int) < fP f then 5 else 6 := ⟨_, rfl⟩
    obtain ⟨M, pe, hM⟩ : ∃ M pe, pk f (c, V, X, 0) = (M, pe) := ⟨_, _, rfl⟩
    have fM := pk_fit hf _ _ _ hM
    have oM : okB f M = true := by unfold okB; rw [decide_eq_true_iff]; exact ⟨is4_le hf, fM⟩
    obtain ⟨i, j, hij⟩ : ∃ i j, xL M = (i, j) := ⟨_, _, rfl⟩
    obtain ⟨i1, j1, ij⟩ := bv_lt (lim _ fM) hij
    obtain ⟨e1, e2, e3, e4⟩ := x7 hf (!kN f M) (kE_le (f := f) M) (xR (f := f) M)
    have fk := flip_k hf fM
    obtain ⟨g, hg⟩ : ∃ g, (if neg = true then sgB f M true else M) = g := ⟨_, rfl⟩
    have fg : Fit f g := by
     rw [← hg]
     split
     ·
      rw [fk]; exact e1
     ·
      exact fM
    obtain ⟨u, v, huv⟩ : ∃ u v, xL g = (u, v) := ⟨_, _, rfl⟩
    have HF : zP ((neg = false ∧ u = i ∧ v = j) ∨ (neg = true ∧ zP (∀ w, Calls Tryz.prog 108 #[.int .u8 f, .agg #[.int .u64 i, .int .u64 j]] w fun r w' => r = .returned (.agg #[.int .u64 u, .int .u64 v]) ∧ Below w.heap.size w w'))) := by
     cases neg
     ·
      rw [if_neg (by decide)] at hg
      rw [← hg, hij] at huv
      injection huv with h1 h2
      exact zK (Or.inl ⟨rfl, h1.symm, h2.symm⟩)
     ·
      rw [if_pos rfl] at hg
      exact zK (Or.inr ⟨rfl, zK (fun w => rFlip_yes f hf i j M u v i1 j1 ij oM (by rw [hg]; exact huv) w)⟩)
    have bk : ∀ n, okB f n = true → kTx f n = l → g = n := fun n ho h => by
     obtain ⟨c', b1, y1, y2, _⟩ := num2 n ho h
     have pn := pk_num hf (okB_yes f4.1 ho).2 c' c (by rw [← y1]; exact hc)
     rw [← y1, ← y2, hM] at pn
     injection pn with p1 _
     obtain ⟨k1, k2, k3, k4⟩ := k_parts (f := f) n c'
     obtain ⟨t1, t2, t3, t4⟩ := x7 hf false (Nat.le_of_lt k1) (xR (f := f) n)
     have en := enc n ho
     rw [← hg]
     cases hn : neg
     ·
      rw [if_neg (by decide), p1]
      rw [← b1, hn] at en
      exact en
     ·
      rw [if_pos rfl, fk, p1, t2, t3, t4]
      rw [← b1, hn] at en
      exact en
    by_cases cl : (zW V : Int) < fP f
    ·
     rw [if_pos cl] at hc
     subst hc
     exact ⟨g, u, v, fg, huv, zK (fun w => rg_ns f _ ⟨m.toArray⟩ neg u v a.length ⟨a.toArray⟩ ⟨b.toArray⟩ V (zW V) E (fP f) X pe i j w HS hi hz KF KG (wk _ (by omega)) d1 d2 hs0 hs1 KR KL KP KW (decide_eq_true cl) (zK (fun w => rPack_is f hf 5 V 0 i j M X pe VQ Q_pos (by omega) (by omega) hM hij w)) HF), bk⟩
    ·
     rw [if_neg cl] at hc
     subst hc
     exact ⟨g, u, v, fg, huv, zK (fun w => rg_nn f _ ⟨m.toArray⟩ neg u v a.length ⟨a.toArray⟩ ⟨b.toArray⟩ V (zW V) E (fP f) X pe i j w HS hi hz KF KG (wk _ (by omega)) d1 d2 hs0 hs1 KR KL KP KW (decide_eq_false cl) (zK (fun w => rPack_is f hf 6 V 0 i j M X pe VQ Q_pos (by omega) (by omega) hM hij w)) HF), bk⟩
  ·
   refine ⟨0, 0, 0, fit0 f, rfl, zK (fun w => rg_np f _ ⟨m.toArray⟩ neg 0 0 w HS hi hz KF KG), fun n ho h => ?_⟩
   obtain ⟨_, _, b2⟩ := num n ho h
   exact absurd (show (112 : UInt8) ∈ m by rw [b2]; simp) n112
theorem rr_yes (f : Int) (s : ByteArray) (u v : Nat) (w : World)
  (KG : zP (∀ w, Calls Tryz.prog 41 #[.int .u8 f, .string s] w fun r w' => r = .returned (.agg #[.int .u64 u, .int .u64 v]) ∧ Below w.heap.size w w'))
  (KT : zP (∀ w, Calls Tryz.prog 8 #[.int .u8 f, .agg #[.int .u64 u, .int .u64 v]] w fun r w' => r = .returned (.string s) ∧ Below w.heap.size w w')) : Calls Tryz.prog 12 #[.int .u8 f, .string s] w fun r w' => r = .returned (.tuple #[.agg #[.int .u64 u, .int .u64 v], .int .i64 0]) ∧ Below w.heap.size w w' := by
 have hat := zU 6
 have hz := yB
 have hff := z8
 have hs0 := xO
 have hcs : ∀ x, ((cw 6 x).size = 6) = True := fun x => eq_true (zR 6 x)
 obtain ⟨Ae, B0⟩ := xJ w (Obj.cells #[.int .u64 0, .int .u64 0] 25)
 go_enter Tryz.func12, Tryz.ntmps12
 go_wp2_with fail
 refine (KG.out _).mono ?_
 rintro r w1 ⟨rfl, b1⟩
 have B1 := yD B0 b1
 have Aa := zA b1 _ _ _ Ae
 clear b1 B0 Ae
 obtain ⟨Af, Ag⟩ := zG Aa
 have S2 := zK B1.size
 have Ah := yA Aa
 have Ac := heap_alloc_last w1 (Obj.cells #[.int .u64 u, .int .u64 v] 25)
 have B2 := yD B1 (xY w1 (Obj.cells #[.int .u64 u, .int .u64 v] 25))
 have Ad := zA (xY w1 (Obj.cells #[.int .u64 u, .int .u64 v] 25)) _ _ _ Aa
 clear B1 Aa Af Ag
 obtain ⟨Ai, Aj⟩ := zG Ad
 obtain ⟨Ak, Al⟩ := zG Ac
 go_wp2_with fail
 refine (KT.out _).mono ?_
 rintro r w3 ⟨rfl, b3⟩
 have B3 := yD B2 b3
 obtain ⟨Ab, Am⟩ := zV b3 Ad Ac
 clear b3 B2 Ad Ai Aj Ac Ak Al
 obtain ⟨An, Ao⟩ := zG Ab
 obtain ⟨Ap, Aq⟩ := zG Am
 have q0 := fz (k := 0) Ab
 have q1 := fz (k := 1) Ab
 obtain ⟨E0, E1⟩ := zM Ab (.int .u64 u) (.int .u64 v)
 go_wp2
 exact bodyPost_ret (v := .tuple #[.agg #[.int .u64 u, .int .u64 v], .int .i64 0]) (by simp [results, Tryz.results12, go_sem, E0, E1]) rfl ⟨rfl, zI B3 (by first | exact Nat.le_refl _ | omega | (have := S2.out; have := Ah.out; omega)) _ _⟩
theorem rr_no (f : Int) (s t : ByteArray) (u v : Nat) (w : World)
  (KG : zP (∀ w, Calls Tryz.prog 41 #[.int .u8 f, .string s] w fun r w' => r = .returned (.agg #[.int .u64 u, .int .u64 v]) ∧ Below w.heap.size w w'))
  (KT : zP (∀ w, Calls Tryz.prog 8 #[.int .u8 f, .agg #[.int .u64 u, .int .u64 v]] w fun r w' => r = .returned (.string t) ∧ Below w.heap.size w w')) (hne : (t.toList == s.toList) = false) : Calls Tryz.prog 12 #[.int .u8 f, .string s] w fun r w' => r = .returned (.tuple #[.agg #[.int .u64 0, .int .u64 0], .int .i64 80]) ∧ Below w.heap.size w w' := by
 have hat := zU 6
 have hz := yB
 have hff := z8
 have hs0 := xO
 have hcs : ∀ x, ((cw 6 x).size = 6) = True := fun x => eq_true (zR 6 x)
 obtain ⟨Ae, B0⟩ := xJ w (Obj.cells #[.int .u64 0, .int .u64 0] 25)
 go_enter Tryz.func12, Tryz.ntmps12
 go_wp2_with fail
 refine (KG.out _).mono ?_
 rintro r w1 ⟨rfl, b1⟩
 have B1 := yD B0 b1
 have Aa := zA b1 _ _ _ Ae
 clear b1 B0 Ae
 obtain ⟨Af, Ag⟩ := zG Aa
 have S2 := zK B1.size
 have Ah := yA Aa
 have Ac := heap_alloc_last w1 (Obj.cells #[.int .u64 u, .int .u64 v] 25)
 have B2 := yD B1 (xY w1 (Obj.cells #[.int .u64 u, .int .u64 v] 25))
 have Ad := zA (xY w1 (Obj.cells #[.int .u64 u, .int .u64 v] 25)) _ _ _ Aa
 clear B1 Aa Af Ag
 obtain ⟨Ai, Aj⟩ := zG Ad
 obtain ⟨Ak, Al⟩ := zG Ac
 go_wp2_with fail
 refine (KT.out _).mono ?_
 rintro r w3 ⟨rfl, b3⟩
 have B3 := yD B2 b3
 obtain ⟨Ab, Am⟩ := zV b3 Ad Ac
 clear b3 B2 Ad Ai Aj Ac Ak Al
 obtain ⟨An, Ao⟩ := zG Ab
 obtain ⟨Ap, Aq⟩ := zG Am
 have q0 := fz (k := 0) Ab
 have q1 := fz (k := 1) Ab
 obtain ⟨E0, E1⟩ := zM Ab (.int .u64 0) (.int .u64 0)
 go_wp2
 exact bodyPost_ret (v := .tuple #[.agg #[.int .u64 0, .int .u64 0], .int .i64 80]) (by simp [results, Tryz.results12, go_sem, E0, E1]) rfl ⟨rfl, zI B3 (by first | exact Nat.le_refl _ | omega | (have := S2.out; have := Ah.out; omega)) _ _⟩
theorem both_read (f : Int) (hf : yT f) (l : List UInt8) (hl : l.length ≤ 100000000) : ∃ (u v : Nat) (c : Int), zP (∀ w, yF w → P10 w → z7 w → Calls Tryz.prog 9 #[.int .u8 f, .string ⟨l.toArray⟩] w fun r w' => r = .returned (.tuple #[.agg #[.int .u64 u, .int .u64 v], .int .i64 c]) ∧ Below w.heap.size w w') ∧ zP (∀ w, Calls Tryz.prog 12 #[.int .u8 f, .string ⟨l.toArray⟩] w fun r w' => r = .returned (.tuple #[.agg #[.int .u64 u, .int .u64 v], .int .i64 c]) ∧ Below w.heap.size w w') ∧ IntKind.i64.wrap c = c := by
 obtain ⟨u, v, c, KR, h⟩ := kRead_any f hf l (by omega)
 obtain ⟨g, a, b, fg, hg, KG, bk⟩ := rguess_any f hf l hl
 have og : okB f g = true := by unfold okB; rw [decide_eq_true_iff]; exact ⟨is4_le hf, fg⟩
 have lg : g < 340282366920938463463374607431768211456 := by
  have := (fm hf).2.2.2.2.2.2
  have fg : g < 2 * 2 ^ wV f := fg
  omega
 obtain ⟨a1, b1, ab⟩ := bv_lt lg hg
 rcases h with ⟨n, ho, ht, hn, rfl⟩ | ⟨hn, rfl, rfl, rfl⟩
 ·
  have e := bk n ho ht
  subst e
  rw [hg] at hn
  injection hn with h1 h2
  subst h1 h2
  exact ⟨a, b, 0, KR, zK (fun w => rr_yes f _ a b w KG (zK (fun w => rText_is f hf a b g a1 b1 ab og _ (by rw [ht]) w))), by decide⟩
 ·
  refine ⟨0, 0, 80, KR, zK (fun w => rr_no f _ ⟨(kTx f g).toArray⟩ a b w KG (zK (fun w => rText_is f hf a b g a1 b1 ab og _ rfl w)) ?_), by decide⟩
  rw [beq_eq_false_iff_ne, ByteArray.toList_eq, ByteArray.toList_eq]
  exact hn g og
theorem kt_none (f : Int) (x y : Nat) (s : ByteArray) (w : World)
  (KT : zP (∀ w, yF w → Calls Tryz.prog 6 #[.int .u8 f, .agg #[.int .u64 x, .int .u64 y]] w fun r w' => r = .returned (.tuple #[.string ⟨#[]⟩, .int .i64 2]) ∧ Below w.heap.size w w'))
  (KF : zP (∀ w, Calls Tryz.prog 7 #[.int .u8 f, .agg #[.int .u64 x, .int .u64 y]] w fun r w' => r = .returned (.bool false) ∧ Below w.heap.size w w'))
  (KR : zP (∀ w, yF w → P10 w → z7 w → Calls Tryz.prog 9 #[.int .u8 f, .string s] w fun r w' => r = .returned (.tuple #[.agg #[.int .u64 0, .int .u64 0], .int .i64 2]) ∧ Below w.heap.size w w'))
  (KG : zP (∀ w, Calls Tryz.prog 10 #[.int .u8 f] w fun r w' => r = .returned (.bool false) ∧ Below w.heap.size w w'))
  (KA : zP (∀ w, yF w → Calls Tryz.prog 11 #[] w fun r w' => r = .returned (.bool true) ∧ Below w.heap.size w w'))
  (hT : yF w) (hP : P10 w) (hA : z7 w) : Calls Tryz.prog 3 #[.int .u8 f, .agg #[.int .u64 x, .int .u64 y], .string s] w fun r w' => r = .returned (.bool true) ∧ Below w.heap.size w w' := by
 have FF := zK hT
 have PP := zK hP
 have AA := zK hA
 clear hT hP hA
 obtain ⟨Ab, B0⟩ := xJ w (Obj.cells #[.int .u64 x, .int .u64 y] 25)
 go_enter Tryz.func3, Tryz.ntmps3
 obtain ⟨Ai, Aj⟩ := zG Ab
 go_wp2_with fail
 refine (KT.out _ (zY FF.out B0)).mono ?_
 rintro r w1 ⟨rfl, b1⟩
 have B1 := yD B0 b1
 have Ac := zA b1 _ _ _ Ab
 clear b1 B0 Ab Ai Aj
 obtain ⟨Ak, Al⟩ := zG Ac
 go_wp2_with fail
 refine (KF.out _).mono ?_
 rintro r w2 ⟨rfl, b2⟩
 have B2 := yD B1 b2
 have Ad := zA b2 _ _ _ Ac
 clear b2 B1 Ac Ak Al
 obtain ⟨Am, An⟩ := zG Ad
 go_wp2_with fail
 refine (KR.out _ (zY FF.out B2) (p10B PP.out B2) (atB AA.out B2)).mono ?_
 rintro r w3 ⟨rfl, b3⟩
 have B3 := yD B2 b3
 have Aa := zA b3 _ _ _ Ad
 clear b3 B2 Ad Am An
 obtain ⟨Ao, Ap⟩ := zG Aa
 have S4 := zK B3.size
 have AB := yA Aa
 have Ae := heap_alloc_last w3 (Obj.cells #[.int .u64 0, .int .u64 0] 25)
 have B4 := yD B3 (xY w3 (Obj.cells #[.int .u64 0, .int .u64 0] 25))
 have Af := zA (xY w3 (Obj.cells #[.int .u64 0, .int .u64 0] 25)) _ _ _ Aa
 clear B3 Aa Ao Ap
 obtain ⟨Aq, Ar⟩ := zG Af
 obtain ⟨As, At⟩ := zG Ae
 go_wp2_with fail
 refine (KG.out _).mono ?_
 rintro r w5 ⟨rfl, b5⟩
 have B5 := yD B4 b5
 obtain ⟨Ag, Ah⟩ := zV b5 Af Ae
 clear b5 B4 Af Aq Ar Ae As At
 obtain ⟨Au, Av⟩ := zG Ag
 obtain ⟨Aw, Ax⟩ := zG Ah
 go_wp2_with fail
 refine (KA.out _ (zY FF.out B5)).mono ?_
 rintro r w6 ⟨rfl, b6⟩
 have B6 := yD B5 b6
 obtain ⟨Ay, Az⟩ := zV b6 Ag Ah
 clear b6 B5 Ag Au Av Ah Aw Ax
 obtain ⟨AC, AD⟩ := zG Ay
 obtain ⟨AE, AF⟩ := zG Az
 go_wp2
 go_ret
 exact ⟨rfl, B6⟩
theorem kt_no (f : Int) (x y u v : Nat) (c : Int) (hc : IntKind.i64.wrap c = c) (s : ByteArray) (w : World)
  (KT : zP (∀ w, yF w → Calls Tryz.prog 6 #[.int .u8 f, .agg #[.int .u64 x, .int .u64 y]] w fun r w' => r = .returned (.tuple #[.string ⟨#[]⟩, .int .i64 2]) ∧ Below w.heap.size w w'))
  (KF : zP (∀ w, Calls Tryz.prog 7 #[.int .u8 f, .agg #[.int .u64 x, .int .u64 y]] w fun r w' => r = .returned (.bool false) ∧ Below w.heap.size w w'))
  (KR : zP (∀ w, yF w → P10 w → z7 w → Calls Tryz.prog 9 #[.int .u8 f, .string s] w fun r w' => r = .returned (.tuple #[.agg #[.int .u64 u, .int .u64 v], .int .i64 c]) ∧ Below w.heap.size w w'))
  (KG : zP (∀ w, Calls Tryz.prog 10 #[.int .u8 f] w fun r w' => r = .returned (.bool true) ∧ Below w.heap.size w w'))
  (KQ : zP (∀ w, Calls Tryz.prog 12 #[.int .u8 f, .string s] w fun r w' => r = .returned (.tuple #[.agg #[.int .u64 u, .int .u64 v], .int .i64 c]) ∧ Below w.heap.size w w'))
  (KA : zP (∀ w, yF w → Calls Tryz.prog 11 #[] w fun r w' => r = .returned (.bool true) ∧ Below w.heap.size w w'))
  (hT : yF w) (hP : P10 w) (hA : z7 w) : Calls Tryz.prog 3 #[.int .u8 f, .agg #[.int .u64 x, .int .u64 y], .string s] w fun r w' => r = .returned (.bool true) ∧ Below w.heap.size w w' := by
 have FF := zK hT
 have PP := zK hP
 have AA := zK hA
 clear hT hP hA
 obtain ⟨Ad, B0⟩ := xJ w (Obj.cells #[.int .u64 x, .int .u64 y] 25)
 go_enter Tryz.func3, Tryz.ntmps3
 obtain ⟨An, Ao⟩ := zG Ad
 go_wp2_with fail
 refine (KT.out _ (zY FF.out B0)).mono ?_
 rintro r w1 ⟨rfl, b1⟩
 have B1 := yD B0 b1
 have Ae := zA b1 _ _ _ Ad
 clear b1 B0 Ad An Ao
 obtain ⟨Ap, Aq⟩ := zG Ae
 go_wp2_with fail
 refine (KF.out _).mono ?_
 rintro r w2 ⟨rfl, b2⟩
 have B2 := yD B1 b2
 have Af := zA b2 _ _ _ Ae
 clear b2 B1 Ae Ap Aq
 obtain ⟨Ar, As⟩ := zG Af
 go_wp2_with fail
 refine (KR.out _ (zY FF.out B2) (p10B PP.out B2) (atB AA.out B2)).mono ?_
 rintro r w3 ⟨rfl, b3⟩
 have B3 := yD B2 b3
 have Aa := zA b3 _ _ _ Af
 clear b3 B2 Af Ar As
 obtain ⟨At, Au⟩ := zG Aa
 have S4 := zK B3.size
 have AR := yA Aa
 have Ag := heap_alloc_last w3 (Obj.cells #[.int .u64 u, .int .u64 v] 25)
 have B4 := yD B3 (xY w3 (Obj.cells #[.int .u64 u, .int .u64 v] 25))
 have Ah := zA (xY w3 (Obj.cells #[.int .u64 u, .int .u64 v] 25)) _ _ _ Aa
 clear B3 Aa At Au
 obtain ⟨Av, Aw⟩ := zG Ah
 obtain ⟨Ax, Ay⟩ := zG Ag
 go_wp2_with fail
 refine (KG.out _).mono ?_
 rintro r w5 ⟨rfl, b5⟩
 have B5 := yD B4 b5
 obtain ⟨Ai, Aj⟩ := zV b5 Ah Ag
 clear b5 B4 Ah Av Aw Ag Ax Ay
 obtain ⟨Az, AB⟩ := zG Ai
 obtain ⟨AC, AD⟩ := zG Aj
 go_wp2_with fail
 refine (KQ.out _).mono ?_
 rintro r w6 ⟨rfl, b6⟩
 have B6 := yD B5 b6
 obtain ⟨Ab, Ac⟩ := zV b6 Ai Aj
 clear b6 B5 Ai Az AB Aj AC AD
 obtain ⟨AE, AF⟩ := zG Ab
 obtain ⟨AG, AH⟩ := zG Ac
 have S7 := zK B6.size
 have AS := yA Ab
 have AT := yA Ac
 have Ak := heap_alloc_last w6 (Obj.cells #[.int .u64 u, .int .u64 v] 25)
 have B7 := yD B6 (xY w6 (Obj.cells #[.int .u64 u, .int .u64 v] 25))
 obtain ⟨Al, Am⟩ := zV (xY w6 (Obj.cells #[.int .u64 u, .int .u64 v] 25)) Ab Ac
 clear B6 Ab AE AF Ac AG AH
 obtain ⟨AI, AJ⟩ := zG Al
 obtain ⟨AK, AL⟩ := zG Am
 obtain ⟨AM, AN⟩ := zG Ak
 go_wp2_with fail
 refine (KA.out _ (zY FF.out B7)).mono ?_
 rintro r w8 ⟨rfl, b8⟩
 have B8 := yD B7 b8
 obtain ⟨AO, AP, AQ⟩ := zZ b8 Al Am Ak
 clear b8 B7 Al AI AJ Am AK AL Ak AM AN
 obtain ⟨AU, AV⟩ := zG AO
 obtain ⟨AW, AX⟩ := zG AP
 obtain ⟨AY, AZ⟩ := zG AQ
 go_wp2
 go_ret
 exact ⟨rfl, B8⟩
theorem kt_yes (f : Int) (x y u v : Nat) (c : Int) (hc : IntKind.i64.wrap c = c) (s t : ByteArray) (w : World)
  (KT : zP (∀ w, yF w → P10 w → Calls Tryz.prog 6 #[.int .u8 f, .agg #[.int .u64 x, .int .u64 y]] w fun r w' => r = .returned (.tuple #[.string t, .int .i64 0]) ∧ Below w.heap.size w w'))
  (KF : zP (∀ w, Calls Tryz.prog 7 #[.int .u8 f, .agg #[.int .u64 x, .int .u64 y]] w fun r w' => r = .returned (.bool true) ∧ Below w.heap.size w w'))
  (KX : zP (∀ w, Calls Tryz.prog 8 #[.int .u8 f, .agg #[.int .u64 x, .int .u64 y]] w fun r w' => r = .returned (.string t) ∧ Below w.heap.size w w'))
  (KR : zP (∀ w, yF w → P10 w → z7 w → Calls Tryz.prog 9 #[.int .u8 f, .string s] w fun r w' => r = .returned (.tuple #[.agg #[.int .u64 u, .int .u64 v], .int .i64 c]) ∧ Below w.heap.size w w'))
  (KG : zP (∀ w, Calls Tryz.prog 10 #[.int .u8 f] w fun r w' => r = .returned (.bool true) ∧ Below w.heap.size w w'))
  (KQ : zP (∀ w, Calls Tryz.prog 12 #[.int .u8 f, .string s] w fun r w' => r = .returned (.tuple #[.agg #[.int .u64 u, .int .u64 v], .int .i64 c]) ∧ Below w.heap.size w w'))
  (KA : zP (∀ w, yF w → Calls Tryz.prog 11 #[] w fun r w' => r = .returned (.bool true) ∧ Below w.heap.size w w'))
  (hT : yF w) (hP : P10 w) (hA : z7 w) : Calls Tryz.prog 3 #[.int .u8 f, .agg #[.int .u64 x, .int .u64 y], .string s] w fun r w' => r = .returned (.bool true) ∧ Below w.heap.size w w' := by
 have FF := zK hT
 have PP := zK hP
 have AA := zK hA
 clear hT hP hA
 obtain ⟨Ad, B0⟩ := xJ w (Obj.cells #[.int .u64 x, .int .u64 y] 25)
 go_enter Tryz.func3, Tryz.ntmps3
 obtain ⟨Ao, Ap⟩ := zG Ad
 go_wp2_with fail
 refine (KT.out _ (zY FF.out B0) (p10B PP.out B0)).mono ?_
 rintro r w1 ⟨rfl, b1⟩
 have B1 := yD B0 b1
 have Ae := zA b1 _ _ _ Ad
 clear b1 B0 Ad Ao Ap
 obtain ⟨Aq, Ar⟩ := zG Ae
 go_wp2_with fail
 refine (KF.out _).mono ?_
 rintro r w2 ⟨rfl, b2⟩
 have B2 := yD B1 b2
 have Af := zA b2 _ _ _ Ae
 clear b2 B1 Ae Aq Ar
 obtain ⟨As, At⟩ := zG Af
 go_wp2_with fail
 refine (KX.out _).mono ?_
 rintro r w3 ⟨rfl, b3⟩
 have B3 := yD B2 b3
 have Ag := zA b3 _ _ _ Af
 clear b3 B2 Af As At
 obtain ⟨Au, Av⟩ := zG Ag
 go_wp2_with fail
 refine (KR.out _ (zY FF.out B3) (p10B PP.out B3) (atB AA.out B3)).mono ?_
 rintro r w4 ⟨rfl, b4⟩
 have B4 := yD B3 b4
 have Aa := zA b4 _ _ _ Ag
 clear b4 B3 Ag Au Av
 obtain ⟨Aw, Ax⟩ := zG Aa
 have S5 := zK B4.size
 have AU := yA Aa
 have Ah := heap_alloc_last w4 (Obj.cells #[.int .u64 u, .int .u64 v] 25)
 have B5 := yD B4 (xY w4 (Obj.cells #[.int .u64 u, .int .u64 v] 25))
 have Ai := zA (xY w4 (Obj.cells #[.int .u64 u, .int .u64 v] 25)) _ _ _ Aa
 clear B4 Aa Aw Ax
 obtain ⟨Ay, Az⟩ := zG Ai
 obtain ⟨AB, AC⟩ := zG Ah
 go_wp2_with fail
 refine (KG.out _).mono ?_
 rintro r w6 ⟨rfl, b6⟩
 have B6 := yD B5 b6
 obtain ⟨Aj, Ak⟩ := zV b6 Ai Ah
 clear b6 B5 Ai Ay Az Ah AB AC
 obtain ⟨AD, AE⟩ := zG Aj
 obtain ⟨AF, AG⟩ := zG Ak
 go_wp2_with fail
 refine (KQ.out _).mono ?_
 rintro r w7 ⟨rfl, b7⟩
 have B7 := yD B6 b7
 obtain ⟨Ab, Ac⟩ := zV b7 Aj Ak
 clear b7 B6 Aj AD AE Ak AF AG
 obtain ⟨AH, AI⟩ := zG Ab
 obtain ⟨AJ, AK⟩ := zG Ac
 have S8 := zK B7.size
 have AV := yA Ab
 have AW := yA Ac
 have Al := heap_alloc_last w7 (Obj.cells #[.int .u64 u, .int .u64 v] 25)
 have B8 := yD B7 (xY w7 (Obj.cells #[.int .u64 u, .int .u64 v] 25))
 obtain ⟨Am, An⟩ := zV (xY w7 (Obj.cells #[.int .u64 u, .int .u64 v] 25)) Ab Ac
 clear B7 Ab AH AI Ac AJ AK
 obtain ⟨AL, AM⟩ := zG Am
 obtain ⟨AN, AO⟩ := zG An
 obtain ⟨AP, AQ⟩ := zG Al
 go_wp2_with fail
 refine (KA.out _ (zY FF.out B8)).mono ?_
 rintro r w9 ⟨rfl, b9⟩
 have B9 := yD B8 b9
 obtain ⟨AR, AS, AT⟩ := zZ b9 Am An Al
 clear b9 B8 Am AL AM An AN AO Al AP AQ
 obtain ⟨AX, AY⟩ := zG AR
 obtain ⟨AZ, A0⟩ := zG AS
 obtain ⟨A1, A2⟩ := zG AT
 go_wp2
 go_ret
 exact ⟨rfl, B9⟩
theorem texts_all (f : Int) (h0 : 0 ≤ f) (h1 : f ≤ 255) (x y : Nat) (hx : x < 18446744073709551616) (hy : y < 18446744073709551616) (s : ByteArray) (hs : s.size ≤ 100000000) (w : World) (hT : yF w) (hP : P10 w) (hA : z7 w) : Calls Tryz.prog 3 #[.int .u8 f, .agg #[.int .u64 x, .int .u64 y], .string s] w fun r w' => r = .returned (.bool true) ∧ Below w.heap.size w w' := by
 obtain ⟨l, hl⟩ : ∃ l : List UInt8, s = ⟨l.toArray⟩ := ⟨s.data.toList, by cases s; simp⟩
 subst hl
 rw [yJ] at hs
 obtain ⟨n, hn⟩ : ∃ n, y + 18446744073709551616 * x = n := ⟨_, rfl⟩
 have KA := zK kalive
 have KG := fun o h => zK (fun w => bel_same (r_right f o h w))
 by_cases c1 : f ≤ 3
 ·
  have hf := is4_of h0 c1
  obtain ⟨u, v, c, KR, KQ, wc⟩ := both_read f hf l hs
  cases ho : okB f n
  ·
   exact kt_no f x y u v c wc _ w (zK (fun w hT => kText_no f h0 h1 x y n hx hy hn ho w hT)) (zK (fun w => kfits_law f x y n false h0 hx hy hn ho w)) KR (KG true (decide_eq_true c1)) KQ KA hT hP hA
  ·
   exact kt_yes f x y u v c wc _ ⟨(kTx f n).toArray⟩ w (zK (fun w hT hP => kText_is f hf x y n _ hx hy hn ho rfl w hT hP)) (zK (fun w => kfits_law f x y n true h0 hx hy hn ho w)) (zK (fun w => rText_is f hf x y n hx hy hn ho _ rfl w)) KR (KG true (decide_eq_true c1)) KQ KA hT hP hA
 ·
  have hf : ¬ yT f := fun h => c1 (is4_le h)
  have ho : okB f n = false := by unfold okB; rw [decide_eq_false_iff_not]; exact fun h => c1 h.1
  exact kt_none f x y _ w (zK (fun w hT => kText_no f h0 h1 x y n hx hy hn ho w hT)) (zK (fun w => kfits_law f x y n false h0 hx hy hn ho w)) (zK (fun w hT hP hA => kread_none f _ w (zK (fun w => bel_same (yM f 2 h0 h1 (fC_no h0 hf) w))) hT hP hA)) (KG false (decide_eq_false c1)) KA hT hP hA
end Go.Proofs.YtkblmpmkchkpjaaGreatDoor
namespace Go.Proofs.YtkblmpmkchkpjaaGreatDoor
set_option maxRecDepth 100000
set_option maxHeartbeats 40000000
open WMath
open Go.ChangeShapes Go.WideShapes Go.ChangeAt Go.RowKit
def laid9 : List (String × DataW Unit) := [("math/bits.deBruijn32tab", Rows.laid_math_bits_deBruijn32tab), ("math/bits.deBruijn64tab", Rows.laid_math_bits_deBruijn64tab), ("internal/strconv.uint64pow10", Rows.laid_internal_strconv_uint64pow10), ("strconv.ErrRange", Rows.laid_strconv_ErrRange), ("strconv.ErrSyntax", Rows.laid_strconv_ErrSyntax), ("abacus/shape.formats", Rows.laid_abacus_shape_formats)]
theorem gType10 : (Tryz.prog.globals[4]?).map (·.type) = some 310 := by kernel_rfl
theorem cells69 : Tryz.prog.cellsOf 23 = 1 := by kernel_rfl
theorem cellsP9 : Tryz.prog.cellsOf 310 = 20 := by kernel_rfl
theorem gSynT : (Tryz.prog.globals[2]?).map (·.type) = some 132 := by kernel_rfl
theorem gRngT : (Tryz.prog.globals[3]?).map (·.type) = some 132 := by kernel_rfl
theorem cellsE : Tryz.prog.cellsOf 320 = 1 := by kernel_rfl
theorem cellsS : Tryz.prog.cellsOf 9 = 1 := by kernel_rfl
theorem starE : "*" ++ "errors.errorString" = "*errors.errorString" := by decide
theorem rowE (u : TypeId) (h : Tryz.prog.typeName? 3 u = some "*errors.errorString") : u = 318 :=
 typeName_ptr_named (nm := "errors.errorString") (by rw [starE]; kernel_rfl) (by kernel_rfl) (by decide) u (by rw [starE]; exact h)
theorem of_laid9 {W : World} (h : laidMetH Tryz.prog laid9 W) : TabAt W ∧ yF W ∧ P10 W ∧ (∃ t p, W.var? Tryz.prog "strconv.ErrSyntax" = some #[.iface t p]) ∧ (∃ t p, W.var? Tryz.prog "strconv.ErrRange" = some #[.iface t p]) := by
 rw [MakeChecks.laidMetH_plain _ _ _ (by kernel_rfl)] at h
 have h1 := laidMet.tail h
 have h2 := laidMet.tail h1
 have h3 := laidMet.tail h2
 have h4 := laidMet.tail h3
 have h5 := laidMet.tail h4
 refine ⟨?_, ?_, ?_, ?_, ?_⟩
 ·
  have h' : laidMet Tryz.prog (("math/bits.deBruijn64tab", Lib.tabData .u8 tabZ8) :: _) W := h1
  have hT := Lib.tabIs_of_head gTab8 gType8 Tryz.underlying325 Tryz.underlying5 cells58 cellsT8 h'
  intro i hi
  have hc := hT.cell gTab8 i (show i < tabZ8.length from hi)
  rw [tab_at8 ⟨i, hi⟩] at hc
  exact hc
 ·
  refine of_laid7 ?_
  rw [MakeChecks.laidMetH_plain _ _ _ (by kernel_rfl)]
  exact h5
 ·
  have h' : laidMet Tryz.prog (("internal/strconv.uint64pow10", Lib.tabData .u64 Lib.pow10Tab) :: _) W := h2
  exact Lib.tabIs_of_head gP10 gType10 Tryz.underlying310 Tryz.underlying23 cells69 cellsP9 h'
 ·
  obtain ⟨a, s, hv, _⟩ := laid_sentinel h4 gSyn gSynT Tryz.underlying132 rowE Tryz.underlying318 Tryz.underlying320 rfl rfl Tryz.underlying9 cellsE cellsS
  exact ⟨_, _, hv⟩
 ·
  obtain ⟨a, s, hv, _⟩ := laid_sentinel h3 gRng gRngT Tryz.underlying132 rowE Tryz.underlying318 Tryz.underlying320 rfl rfl Tryz.underlying9 cellsE cellsS
  exact ⟨_, _, hv⟩
theorem door_met9 (os : Os) (args : Array Value) : laidMetH Tryz.prog laid9 ((World.doorLaid Tryz.prog 400 os).forCall (fun _ _ => 0) ⟨#[], args, []⟩).memory :=
 laidMetH_of_parts3 (fuel := 8) (laidMet_of_run' 8 (by kernel_rfl) (by kernel_rfl)) (by kernel_rfl) (by kernel_rfl)
theorem maxlen_of {W : World} (h : W.ShapedOpen Tryz.prog) : ∃ m, W.cell? ⟨1, 0, none⟩ = some (.int .i64 m) :=
 cell_of_shapedOpen_int (zero := #[.int .i64 0]) h (by decide +kernel) (by kernel_rfl) rfl (by kernel_rfl) (by kernel_rfl) Tryz.underlying3
end Go.Proofs.YtkblmpmkchkpjaaGreatDoor
