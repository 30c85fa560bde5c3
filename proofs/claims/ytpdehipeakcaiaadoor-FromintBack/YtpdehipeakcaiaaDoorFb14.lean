/-
  What the functions that the statement reaches return: part 14 (NC, GR, GS, GT, GU).
-/
import Derived.Test.YtpdehipeakcaiaaDoorFb13
namespace Go.Proofs.YtpdehipeakcaiaaDoor
set_option maxRecDepth 100000
set_option maxHeartbeats 40000000
set_option maxRecDepth 100000
open Go.RowKit WMath XMath
set_option linter.unusedSimpArgs false
set_option linter.unusedVariables false
theorem sx32 (y : Nat) : IntKind.u64.wrap (wrap64 (wrap32 ((y : Int) % 4294967296))) = ((sx y 32 : Nat) : Int) := by
  unfold sx wrap64 wrap32
  rw [IntKind.wrap_u64, Nat.testBit_eq_decide_div_mod_eq, show (32 - 1 : Nat) = 31 from rfl, show (2 : Nat) ^ 31 = 2147483648 from rfl, show (2 : Nat) ^ 32 = 4294967296 from rfl]
  by_cases c : y / 2147483648 % 2 = 1
  · rw [if_pos (decide_eq_true c)]
    omega
  · rw [if_neg (by rw [decide_eq_false c]; decide)]
    omega
theorem kreg (k : Int) (k0 : 0 ≤ k) (neg : Bool) (n : Nat) (hn : n < 18446744073709551616) (v : Nat) (hv : rgW k neg n = v) (w : World) : Calls Tryd.prog 17 #[.int .u8 k, .bool neg, .int .u64 (n : Nat)] w fun r w' => r = .returned (.int .u64 (v : Nat)) ∧ Below w.heap.size w w' := by
  unfold rgW at hv
  rw [Nat.mod_eq_of_lt hn] at hv
  by_cases c : k = 0 ∨ k = 1
  · rw [if_pos c] at hv
    have hk : (k == 0) = true ∨ ((k == 0) = false ∧ (k == 1) = true) := by
      rcases c with rfl | rfl
      · exact Or.inl rfl
      · exact Or.inr ⟨rfl, rfl⟩
    cases neg
    · refine pq_reg_s_false k n v hk ?_ w
      rw [if_neg (by decide)] at hv
      rw [← hv, ← sx32 n]
      congr 3
      unfold wrap64
      omega
    · refine pq_reg_s_true k n v hk ?_ w
      rw [if_pos rfl] at hv
      rw [← hv, ← sx32]
      congr 3
      unfold wrap64
      omega
  · rw [if_neg c] at hv
    have hk : (k == 0) = false ∧ (k == 1) = false := ⟨beq_eq_false_iff_ne.2 (fun h => c (Or.inl h)), beq_eq_false_iff_ne.2 (fun h => c (Or.inr h))⟩
    cases neg
    · refine pq_reg_l_false k n v hk ?_ w
      rw [if_neg (by decide)] at hv
      rw [IntKind.wrap_u64]
      unfold wrap64
      omega
    · refine pq_reg_l_true k n v hk ?_ w
      rw [if_pos rfl] at hv
      rw [IntKind.wrap_u64]
      unfold wrap64
      omega
theorem k4 {k : Int} (k0 : 0 ≤ k) (k3 : k ≤ 3) : k = 0 ∨ k = 1 ∨ k = 2 ∨ k = 3 := by omega
theorem kreach (k : Int) (k0 : 0 ≤ k) (k3 : k ≤ 3) (neg : Bool) (T : Nat) (hv : (if neg then loM k else hiM k) = T) (w : World) (hT : FAt w) : Calls Tryd.prog 14 #[.int .u8 k, .bool neg] w fun r w' => r = .returned (.agg (cw 6 T)) ∧ Below w.heap.size w w' := by
  subst hv
  cases neg <;> rcases k4 k0 k3 with rfl | rfl | rfl | rfl
  · exact pq_reach10 w hT
  · exact pq_reach11 w hT
  · exact pq_reach12 w hT
  · exact pq_reach13 w hT
  · exact pq_reach00 w hT
  · exact pq_reach01 w hT
  · exact pq_reach02 w hT
  · exact pq_reach03 w hT
theorem kend (k : Int) (k0 : 0 ≤ k) (k3 : k ≤ 3) (neg : Bool) (v : Nat) (hv : (if neg then leW k else grW k) = v) (w : World) (hT : FAt w) : Calls Tryd.prog 15 #[.int .u8 k, .bool neg] w fun r w' => r = .returned (.int .u64 (v : Nat)) ∧ Below w.heap.size w w' := by
  obtain ⟨T, hR⟩ : ∃ T, (if neg then loM k else hiM k) = T := ⟨_, rfl⟩
  have lt : wd T 0 < 18446744073709551616 ∧ rgW k neg (wd T 0) = v := by
    subst hR hv
    cases neg <;> rcases k4 k0 k3 with rfl | rfl | rfl | rfl <;> decide +kernel
  exact pq_end k neg T v w (box (fun w hT => kreach k k0 k3 neg T hR w hT)) (box (fun w => kreg k k0 neg _ lt.1 v lt.2 w)) hT
theorem kkind (k : Int) (k0 : 0 ≤ k) (k1 : k ≤ 255) (o : Bool) (ho : decide (k ≤ 3) = o) (w : World) : Calls Tryd.prog 12 #[.int .u8 k] w fun r w' => r = .returned (.bool o) ∧ Below w.heap.size w w' :=
  pq_kind k (wrap_i64_is _ (by omega) (by omega)) o (by rw [← ho]; exact decide_eq_decide.2 (by omega)) w
theorem wh_go (f m : Int) (x1 y1 c1 m1 r1 : Nat) (X1 : Int) (R K N : Nat) (X2 h : Int) (ex od l2 o neg up : Bool) (hX : IntKind.i64.wrap (-X1) = X2) (hN : N < Q) (e : K + (if up then 1 else 0) = N) (ho : (neg && decide (N ≠ 0)) = o) (w : World)
    (KF : Box (∀ (T : TypeId) (g : Nat) (w : World), w.heap.size = g → FAt w → Calls Tryd.prog 32 #[.int .u8 f, .int .u8 m, .slice (some ⟨g, 0, none⟩) 1 1] (w.alloc (.cells #[.int .u64 (x1 : Nat), .int .u64 (y1 : Nat)] T)) fun r w' => r = .returned (.bool true) ∧ Below w.heap.size w w'))
    (KU : Box (∀ w, FAt w → Calls Tryd.prog 33 #[.int .u8 f, .agg #[.int .u64 (x1 : Nat), .int .u64 (y1 : Nat)]] w fun r w' => r = .returned (.tuple #[.agg (pt c1 m1 X1 r1), .int .i64 0]) ∧ Below w.heap.size w w'))
    (KI : Box (∀ w, Calls Tryd.prog 34 #[.int .u8 (c1 : Nat)] w fun r w' => r = .returned (.bool true) ∧ Below w.heap.size w w'))
    (KL : Box (∀ w, Calls Tryd.prog 35 #[.agg (cw 6 m1), .int .i64 X1] w fun r w' => r = .returned (.tuple #[.agg (cw 6 R), .bool false]) ∧ Below w.heap.size w w'))
    (KS : Box (∀ w, FAt w → Calls Tryd.prog 36 #[.int .u8 f, .agg #[.int .u64 (x1 : Nat), .int .u64 (y1 : Nat)]] w fun r w' => r = .returned (.bool neg) ∧ Below w.heap.size w w'))
    (KC : Box (∀ w, Calls Tryd.prog 37 #[.agg (cw 6 R), .int .i64 X2] w fun r w' => r = .returned (.tuple #[.agg (cw 6 K), .int .i64 h, .bool ex]) ∧ Below w.heap.size w w'))
    (KB : Box (∀ w, Calls Tryd.prog 39 #[.agg (cw 6 K), .int .i64 0] w fun r w' => r = .returned (.bool od) ∧ Below w.heap.size w w'))
    (KP : Box (∀ w, Calls Tryd.prog 38 #[.int .u8 m, .bool neg, .bool od, .int .i64 h, .bool ex] w fun r w' => r = .returned (.bool up) ∧ Below w.heap.size w w'))
    (hT : FAt w) : Calls Tryd.prog 11 #[.int .u8 f, .int .u8 m, .agg #[.int .u64 (x1 : Nat), .int .u64 (y1 : Nat)]] w fun r w' => r = .returned (.tuple #[.bool o, .agg (cw 6 N), .bool ex, .int .i64 0]) ∧ Below w.heap.size w w' := by
  have ho2 : neg = true → (!decide (N = 0)) = o := fun q => by
    rw [← ho, q, Bool.true_and]
    by_cases z : N = 0
    · rw [decide_eq_true z, decide_eq_false (fun h => h z)]; rfl
    · rw [decide_eq_false z, decide_eq_true z]; rfl
  have ho1 : neg = false → o = false := fun q => by rw [← ho, q]; rfl
  have K5 : Box (∀ w, Calls Tryd.prog 10 #[.int .u64 1] w fun r w' => r = .returned (.agg (cw 6 1)) ∧ Below w.heap.size w w') := box (fun w => wof_al 1 (by decide) w)
  cases up
  · have e : K = N := by simpa using e
    cases neg
    · obtain rfl := ho1 rfl
      subst e
      exact pq_wh_nf0 f m x1 y1 c1 m1 r1 X1 R K X2 h ex od l2 false hX hN w KF KU KI KL KS KC KB KP hT
    · subst e
      exact pq_wh_nt0 f m x1 y1 c1 m1 r1 X1 R K X2 h ex od l2 o hX hN (ho2 rfl) w KF KU KI KL KS KC KB KP hT
  · have e : K + 1 = N := by simpa using e
    have K6 : Box (∀ w, Calls Tryd.prog 40 #[.agg (cw 6 K), .agg (cw 6 1)] w fun r w' => r = .returned (.tuple #[.agg (cw 6 N), .bool false]) ∧ Below w.heap.size w w') := box (fun w => wadd_is K 1 N false (by omega) (by have := Q_pos; obtain ⟨Z, hZ, eQ⟩ := Qq384; rw [eQ, hZ]; decide +kernel) (by rw [e]; exact Nat.mod_eq_of_lt hN) (decide_eq_false (by omega)) w)
    cases neg
    · obtain rfl := ho1 rfl
      exact pq_wh_uf f m x1 y1 c1 m1 r1 X1 R K N X2 h ex od false false hX hN w KF KU KI KL KS KC KB KP K5 K6 hT
    · exact pq_wh_ut f m x1 y1 c1 m1 r1 X1 R K N X2 h ex od false o hX hN (ho2 rfl) w KF KU KI KL KS KC KB KP K5 K6 hT
theorem kWhole_is (f m : Int) (hf : Is4 f) (hm : 0 ≤ m ∧ m ≤ 4) (x1 y1 a : Nat) (hx1 : x1 < 18446744073709551616) (hy1 : y1 < 18446744073709551616) (ha : y1 + 18446744073709551616 * x1 = a) (ok : okB f a = true) (o : Bool) (N : Nat) (ex : Bool) (e : Int) (hr : whX f m a = ((o, N), (ex, e))) (w : World) (hT : FAt w) : Calls Tryd.prog 11 #[.int .u8 f, .int .u8 m, .agg #[.int .u64 (x1 : Nat), .int .u64 (y1 : Nat)]] w fun r w' => r = .returned (.tuple #[.bool o, .agg (cw 6 N), .bool ex, .int .i64 e]) ∧ Below w.heap.size w w' := by
  obtain ⟨s1, s2, s3⟩ := kS_lim hf a
  obtain ⟨Z, hZ, eQ⟩ := Qq384
  have KF := kmay1 f m (is4_ok hf).1 (is4_ok hf).2.1 hm.1 x1 y1 a hx1 hy1 ha true (by rw [ok, Bool.and_true]; exact decide_eq_true ⟨is4_le hf, hm.2⟩)
  unfold whX at hr
  by_cases fin : 0 < kC f a ∧ kC f a < 7
  case neg =>
    rw [if_pos fin] at hr
    cases hr
    exact pq_wh_nf f m x1 y1 _ _ _ _ w KF (box (fun w hT => kUnpack_yes f hf x1 y1 a _ _ (kF f a) _ hx1 hy1 ha ok rfl w hT)) (box (fun w => pq_fin _ false (decide_eq_false fin) w)) hT
  rw [if_neg (fun q => q fin), tiR_parts hf m a fin] at hr
  have KI : Box (∀ w, Calls Tryd.prog 34 #[.int .u8 ((kC f a : Nat) : Int)] w fun r w' => r = .returned (.bool true) ∧ Below w.heap.size w w') := box (fun w => pq_fin _ true (decide_eq_true fin) w)
  have KU : Box (∀ w, FAt w → Calls Tryd.prog 33 #[.int .u8 f, .agg #[.int .u64 (x1 : Nat), .int .u64 (y1 : Nat)]] w fun r w' => r = .returned (.tuple #[.agg (pt (kC f a) (kS f a) (kX f a) (kF f a)), .int .i64 0]) ∧ Below w.heap.size w w') := box (fun w hT => kUnpack_yes f hf x1 y1 a _ _ (kF f a) _ hx1 hy1 ha ok rfl w hT)
  obtain ⟨neg, hng⟩ : ∃ c, kN f a = c := ⟨_, rfl⟩
  have KS : Box (∀ w, FAt w → Calls Tryd.prog 36 #[.int .u8 f, .agg #[.int .u64 (x1 : Nat), .int .u64 (y1 : Nat)]] w fun r w' => r = .returned (.bool neg) ∧ Below w.heap.size w w') := box (fun w hT => kSign_yes f hf x1 y1 a neg hx1 hy1 ha ok hng w hT)
  rw [hng] at hr
  obtain ⟨S, hS⟩ : ∃ c, kS f a = c := ⟨_, rfl⟩
  obtain ⟨X, hX⟩ : ∃ c, kX f a = c := ⟨_, rfl⟩
  rw [hS, hX] at hr KU
  rw [hS] at s1
  rw [hX] at s2 s3
  have sQ : S < Q := lt_Q7 s1
  have wX : IntKind.i64.wrap (-X) = -X := wrap_i64_is _ (by omega) (by omega)
  unfold tiS at hr
  by_cases x0 : 0 ≤ X
  · rw [if_pos x0] at hr
    simp only at hr
    have key : (Q ≤ S * 2 ^ cnt6 X ↔ 384 < blen (S * 2 ^ X.toNat)) ∧ (S * 2 ^ cnt6 X < Q → S * 2 ^ cnt6 X = S * 2 ^ X.toNat) := by
      have bi := blen_iff (S * 2 ^ X.toNat) Z
      unfold cnt6
      rw [← hZ]
      by_cases c : X.toNat ≤ Z
      · rw [Nat.min_eq_left c, eQ]
        exact ⟨by omega, fun _ => rfl⟩
      · rw [Nat.min_eq_right (by omega)]
        by_cases z : S = 0
        · subst z
          rw [Nat.zero_mul, Nat.zero_mul, blen_zero]
          have := Q_pos
          exact ⟨by omega, fun _ => rfl⟩
        · have g1 : 2 ^ Z ≤ S * 2 ^ Z := Nat.le_mul_of_pos_left _ (by omega)
          have g2 : S * 2 ^ Z ≤ S * 2 ^ X.toNat := Nat.mul_le_mul_left _ (Nat.pow_le_pow_right (by decide) (by omega))
          rw [eQ]
          exact ⟨by omega, fun q => absurd q (by omega)⟩
    by_cases q : Q ≤ S * 2 ^ cnt6 X
    · rw [if_pos (key.1.1 q)] at hr
      cases hr
      exact pq_wh_lo f m x1 y1 _ _ _ _ _ w KF KU KI (box (fun w => wleft_is S _ X true sQ rfl (decide_eq_true q) w)) hT
    · rw [if_neg (fun h => q (key.1.2 h))] at hr
      obtain ⟨R, hR⟩ : ∃ R, S * 2 ^ X.toNat = R := ⟨_, rfl⟩
      have k2 := key.2 (by omega)
      rw [hR] at hr k2
      have RQ : R < Q := by omega
      cases hr
      have c0 : cnt6 (-X) = 0 := by unfold cnt6; omega
      have c1 : cnt5 (-X) = 0 := by unfold cnt5; omega
      exact wh_go f m x1 y1 _ _ _ X N N N (-X) _ true _ false _ neg false wX RQ rfl rfl w KF KU KI (box (fun w => wleft_is S N X false sQ (by rw [k2]; exact Nat.mod_eq_of_lt RQ) (decide_eq_false q) w)) KS
        (box (fun w => jcut_is N N (-X) _ true RQ (by rw [c0, Nat.pow_zero, Nat.div_one]) rfl (by rw [c0, Nat.pow_zero, Nat.mod_one]; rfl) w)) (box (fun w => wbit0 N _ rfl w)) (box (fun w => ro_up m neg _ _ true false (by unfold uP; rw [if_pos rfl]) w)) hT
  · rw [if_neg x0] at hr
    simp only at hr
    obtain ⟨L, hL⟩ : ∃ L : Nat, (-X).toNat = L + 1 := ⟨(-X).toNat - 1, by omega⟩
    rw [hL, Nat.add_sub_cancel] at hr
    obtain ⟨c1, c2, c3⟩ := cutN S L sQ
    have p2 : S / 2 ^ (L + 1) = S / 2 ^ L / 2 := by rw [Nat.pow_succ, Nat.div_div_eq_div_mul]
    have m2 : decide (S % 2 ^ (L + 1) = 0) = !(decide (S / 2 ^ L % 2 = 1) || decide (S % 2 ^ L ≠ 0)) := by
      have mm : S % 2 ^ (L + 1) = S % 2 ^ L + 2 ^ L * (S / 2 ^ L % 2) := by rw [Nat.pow_succ, Nat.mod_mul]
      have pp := Nat.two_pow_pos L
      by_cases u : S / 2 ^ L % 2 = 1
      · rw [decide_eq_true u, decide_eq_false (by rw [mm, u, Nat.mul_one]; omega)]; rfl
      · rw [decide_eq_false u, Bool.false_or]
        have mm2 : S % 2 ^ (L + 1) = S % 2 ^ L := by
          rw [mm, show S / 2 ^ L % 2 = 0 by omega, Nat.mul_zero]
          exact Nat.add_zero _
        rw [mm2]
        by_cases z : S % 2 ^ L = 0
        · rw [decide_eq_true z, decide_eq_false (fun h => h z)]; rfl
        · rw [decide_eq_false z, decide_eq_true z]; rfl
    obtain ⟨up, hup⟩ : ∃ up, uP m neg (decide (S / 2 ^ (L + 1) % 2 = 1)) (hfV (decide (S / 2 ^ L % 2 = 1)) (decide (S % 2 ^ L ≠ 0))) (decide (S % 2 ^ (L + 1) = 0)) = up := ⟨_, rfl⟩
    rw [hup] at hr
    have le : S / 2 ^ (L + 1) ≤ S := Nat.div_le_self _ _
    have lN : S / 2 ^ (L + 1) + (if up then 1 else 0) ≤ S + 1 := by cases up <;> simp <;> omega
    have lt : ¬ 384 < blen (S / 2 ^ (L + 1) + (if up then 1 else 0)) := by
      have := (blen_iff (S / 2 ^ (L + 1) + (if up then 1 else 0)) 129).2 (by rw [show (2 : Nat) ^ 129 = 680564733841876926926749214863536422912 from by decide +kernel]; omega)
      omega
    rw [if_neg lt] at hr
    injection hr with h1 h2
    injection h1 with h3 h4
    injection h2 with h5 h6
    subst h6
    have NQ : N < Q := by
      rw [← h4]
      exact Nat.lt_of_le_of_lt lN (by rw [eQ, hZ]; exact Nat.lt_of_le_of_lt s1 (Nat.pow_lt_pow_right (a := 2) (m := 128) (n := 384) (by decide) (by decide)))
    have e6 : cnt6 (-X) = min (L + 1) 384 := by unfold cnt6; rw [hL]
    have e5 : cnt5 (-X) = min (L + 1) 385 := by unfold cnt5; rw [hL]
    have e0 : cnt6 X = 0 := by unfold cnt6; omega
    refine wh_go f m x1 y1 _ _ _ X S (S / 2 ^ (L + 1)) N (-X) _ ex _ false o neg up wX NQ h4 (by rw [← h3, h4]) w KF KU KI (box (fun w => wleft_is S S X false sQ (by rw [e0, Nat.pow_zero, Nat.mul_one]; exact Nat.mod_eq_of_lt sQ) (decide_eq_false (by rw [e0, Nat.pow_zero, Nat.mul_one]; omega)) w)) KS
        (box (fun w => jcut_is S _ (-X) _ ex sQ (by rw [e6, c1, p2]) rfl (by rw [e6, c2, ← m2]; exact h5) w)) (box (fun w => wbit0 _ _ rfl w)) (box (fun w => ro_up m neg _ _ ex up (by rw [e5, c3, ← h5]; exact hup) w)) hT
theorem wd0_mod (N : Nat) : wd N 0 = N % 18446744073709551616 := by unfold wd; simp
theorem cmp_gt9 (n t : Nat) : decide ((0 : Int) < cmpv n t) = decide (t < n) := by
  unfold cmpv
  by_cases b : n = t
  · rw [if_pos b, decide_eq_false (show ¬ t < n by omega)]; rfl
  · rw [if_neg b]
    by_cases a : n < t
    · rw [if_pos a, decide_eq_false (show ¬ t < n by omega)]; rfl
    · rw [if_neg a, decide_eq_true (show t < n by omega)]; rfl
theorem kConvert_is (k f m : Int) (k0 : 0 ≤ k) (k3 : k ≤ 3) (hf : Is4 f) (hm : 0 ≤ m ∧ m ≤ 4) (x1 y1 a : Nat) (hx1 : x1 < 18446744073709551616) (hy1 : y1 < 18446744073709551616) (ha : y1 + 18446744073709551616 * x1 = a) (ok : okB f a = true) (t : Nat) (fl : Int) (hr : tiX k f m a = (t, fl)) (w : World) (hT : FAt w) : Calls Tryd.prog 7 #[.int .u8 k, .int .u8 f, .int .u8 m, .agg #[.int .u64 (x1 : Nat), .int .u64 (y1 : Nat)]] w fun r w' => r = .returned (.tuple #[.int .u64 (t : Nat), .int .u8 fl, .int .i64 0]) ∧ Below w.heap.size w w' := by
  obtain ⟨o, N, ex, e, hw⟩ : ∃ o N ex e, whX f m a = ((o, N), (ex, e)) := ⟨_, _, _, _, rfl⟩
  obtain ⟨q1, _, q3⟩ := whX_lim f m a o N ex e hw
  have KW : Box (∀ w, FAt w → Calls Tryd.prog 11 #[.int .u8 f, .int .u8 m, .agg #[.int .u64 (x1 : Nat), .int .u64 (y1 : Nat)]] w fun r w' => r = .returned (.tuple #[.bool o, .agg (cw 6 N), .bool ex, .int .i64 e]) ∧ Below w.heap.size w w') := box (fun w hT => kWhole_is f m hf hm x1 y1 a hx1 hy1 ha ok o N ex e hw w hT)
  have KK : Box (∀ w, Calls Tryd.prog 12 #[.int .u8 k] w fun r w' => r = .returned (.bool true) ∧ Below w.heap.size w w') := box (fun w => kkind k k0 (by omega) true (decide_eq_true k3) w)
  have KB : ∀ b, decide (((kC f a : Nat) : Int) ≤ 3) = b → Box (∀ w, FAt w → Calls Tryd.prog 16 #[.int .u8 f, .agg #[.int .u64 (x1 : Nat), .int .u64 (y1 : Nat)]] w fun r w' => r = .returned (.bool b) ∧ Below w.heap.size w w') := fun b hb => box (fun w hT => pq_below f x1 y1 (kC f a) b hb w (box (fun w hT => kClass_yes f hf x1 y1 a _ hx1 hy1 ha ok rfl w hT)) hT)
  have KE : ∀ b v, (if b then leW k else grW k) = v → Box (∀ w, FAt w → Calls Tryd.prog 15 #[.int .u8 k, .bool b] w fun r w' => r = .returned (.int .u64 (v : Nat)) ∧ Below w.heap.size w w') := fun b v hv => box (fun w hT => kend k k0 k3 b v hv w hT)
  have lt := kC_lt f a
  unfold tiX at hr
  unfold whX at hw
  by_cases fin : 0 < kC f a ∧ kC f a < 7
  case neg =>
    rw [if_pos fin] at hw
    cases hw
    have : fl = 16 ∧ ∃ b, decide (((kC f a : Nat) : Int) ≤ 3) = b ∧ (if b then leW k else grW k) = t := by
      by_cases c8 : 8 ≤ kC f a
      · rw [if_pos c8] at hr
        cases hr
        exact ⟨rfl, false, decide_eq_false (by omega), rfl⟩
      · rw [if_neg c8] at hr
        by_cases c0 : kC f a = 0
        · rw [if_pos c0] at hr
          cases hr
          exact ⟨rfl, true, decide_eq_true (by omega), rfl⟩
        · rw [if_neg c0, if_pos (by omega)] at hr
          cases hr
          exact ⟨rfl, false, decide_eq_false (by omega), rfl⟩
    obtain ⟨rfl, b, b1, b2⟩ := this
    exact pq_cv_e80 k f m x1 y1 _ _ b _ 0 80 0 _ w KW KK (KB b b1) (KE b t b2) hT
  rw [if_neg (fun q => q fin)] at hw
  rw [if_neg (by omega), if_neg (by omega), if_neg (by omega)] at hr
  have sg := kC_sign a fin
  have sg2 : decide (((kC f a : Nat) : Int) ≤ 3) = kN f a := by rw [← sg]; exact decide_eq_decide.2 (by omega)
  obtain ⟨M, ex0, hM⟩ : ∃ M x, tiR f m a = (M, x) := ⟨_, _, rfl⟩
  rw [hM] at hw hr
  simp only at hw hr
  have lo : loM k ≤ 9223372036854775808 := by rcases k4 k0 k3 with rfl | rfl | rfl | rfl <;> decide
  have hi : hiM k ≤ 18446744073709551615 := by rcases k4 k0 k3 with rfl | rfl | rfl | rfl <;> decide
  unfold tiC at hr
  by_cases lg : 384 < blen M
  · rw [if_pos lg] at hw
    cases hw
    have big : 18446744073709551616 ≤ M := by
      have := blen_iff M 64
      rw [show (2 : Nat) ^ 64 = 18446744073709551616 from rfl] at this
      omega
    have : fl = 16 ∧ (if kN f a then leW k else grW k) = t := by
      cases hn : kN f a
      · rw [hn, if_neg (fun q => absurd q.1 (by decide)), if_pos ⟨rfl, by omega⟩] at hr
        cases hr
        exact ⟨rfl, rfl⟩
      · rw [hn, if_pos ⟨rfl, by omega⟩] at hr
        cases hr
        exact ⟨rfl, rfl⟩
    obtain ⟨rfl, b2⟩ := this
    exact pq_cv_e4 k f m x1 y1 _ _ _ _ 0 4 0 _ w KW KK (KB _ sg2) (KE _ t b2) hT
  rw [if_neg lg] at hw
  injection hw with h1 h2
  injection h1 with h3 h4
  injection h2 with h5 h6
  subst h4 h5 h6
  obtain ⟨T, hR⟩ : ∃ T, (if o then loM k else hiM k) = T := ⟨_, rfl⟩
  have TQ : T < Q := by
    rw [← hR]
    exact lt_Q7 (by cases o <;> simp <;> omega)
  have KR : Box (∀ w, FAt w → Calls Tryd.prog 14 #[.int .u8 k, .bool o] w fun r w' => r = .returned (.agg (cw 6 T)) ∧ Below w.heap.size w w') := box (fun w hT => kreach k k0 k3 o T hR w hT)
  have KC : Box (∀ w, Calls Tryd.prog 13 #[.agg (cw 6 M), .agg (cw 6 T)] w fun r w' => r = .returned (.int .i64 (cmpv M T)) ∧ Below w.heap.size w w') := box (fun w => wcmp_is M T _ q1 TQ rfl w)
  have gt := cmp_gt9 M T
  -- whether it is beyond, by the sign of the number or of its whole part
  have bey : (decide (T < M) = true → (fl = 16 ∧ (if kN f a then leW k else grW k) = t)) ∧ (decide (T < M) = false → t = rgW k o (wd M 0) ∧ fl = if ex0 then 0 else 1) := by
    have mm : decide (T < M) = false → M % 18446744073709551616 = M := fun q => by
      have q := of_decide_eq_false q
      refine Nat.mod_eq_of_lt ?_
      have : T ≤ 18446744073709551615 := by rw [← hR]; cases o <;> simp <;> omega
      omega
    have rg0 : ∀ b, rgW k b 0 = 0 := fun b => by cases b <;> rcases k4 k0 k3 with rfl | rfl | rfl | rfl <;> decide +kernel
    rw [wd0_mod]
    by_cases z : M = 0
    · subst z
      have oo : o = false := by rw [← h3]; simp
      subst oo
      refine ⟨fun q => absurd (of_decide_eq_true q) (by omega), fun q => ?_⟩
      rw [if_neg (fun q => absurd q.2 (by omega)), if_neg (fun q => absurd q.2 (by omega)), rg0] at hr
      cases hr
      exact ⟨(rg0 false).symm, rfl⟩
    · have oo : o = kN f a := by rw [← h3, decide_eq_true z, Bool.and_true]
      rw [← oo] at hr ⊢
      cases o
      · have hR : hiM k = T := hR
        refine ⟨fun q => ?_, fun q => ?_⟩
        · rw [if_neg (fun q => absurd q.1 (by decide)), if_pos ⟨rfl, by rw [hR]; exact of_decide_eq_true q⟩] at hr
          cases hr
          exact ⟨rfl, rfl⟩
        · rw [if_neg (fun q => absurd q.1 (by decide)), if_neg (fun h => of_decide_eq_false q (by rw [← hR]; exact h.2))] at hr
          rw [mm q]
          cases hr
          exact ⟨rfl, rfl⟩
      · have hR : loM k = T := hR
        refine ⟨fun q => ?_, fun q => ?_⟩
        · rw [if_pos ⟨rfl, by rw [hR]; exact of_decide_eq_true q⟩] at hr
          cases hr
          exact ⟨rfl, rfl⟩
        · rw [if_neg (fun h => of_decide_eq_false q (by rw [← hR]; exact h.2)), if_neg (fun q => absurd q.1 (by decide))] at hr
          rw [mm q]
          cases hr
          exact ⟨rfl, rfl⟩
  cases hd : decide (T < M)
  · obtain ⟨e1, e2⟩ := bey.2 hd
    have KG : Box (∀ w, Calls Tryd.prog 17 #[.int .u8 k, .bool o, .int .u64 ((wd M 0 : Nat) : Int)] w fun r w' => r = .returned (.int .u64 (t : Nat)) ∧ Below w.heap.size w w') := box (fun w => kreg k k0 o _ (wd_lt M 0) t e1.symm w)
    cases ex0
    · rw [if_neg (by decide)] at e2
      subst e2
      exact pq_cv_nf k f m x1 y1 o false false M T 0 _ _ (gt.trans hd) w KW KK KR KC KG hT
    · rw [if_pos rfl] at e2
      subst e2
      exact pq_cv_nt k f m x1 y1 o true false M T 0 _ _ (gt.trans hd) w KW KK KR KC KG hT
  · obtain ⟨rfl, e2⟩ := bey.1 hd
    exact pq_cv_b k f m x1 y1 o ex0 _ M T 0 _ _ (gt.trans hd) w KW KK KR KC (KB _ sg2) (KE _ t e2) hT
def nyW (k : Int) (x : Nat) : Nat := if k = 0 then sx x 32 else x
def nuX (k : Int) (x : Nat) : Bool × Nat :=
  if k = 1 then (false, x % 4294967296) else if k = 3 then (false, x)
  else if 9223372036854775808 ≤ nyW k x then (true, 18446744073709551616 - nyW k x) else (false, nyW k x)
def waW (k : Int) (x : Nat) : Nat := if k ≤ 1 then sx x 32 else x
def fiR (f k m : Int) (x : Nat) : Nat × Int := rnd f m (XMath.mk (nuX k x).1 (nuX k x).2 1 0).1
theorem sx_is (x : Nat) : sx x 32 = if x / 2147483648 % 2 = 1 then x % 4294967296 + 18446744069414584320 else x % 4294967296 := by
  unfold sx
  rw [Nat.testBit_eq_decide_div_mod_eq]
  rw [show (2 : Nat) ^ (32 - 1) = 2147483648 from rfl, show (2 : Nat) ^ 32 = 4294967296 from rfl]
  by_cases c : x / 2147483648 % 2 = 1
  · rw [if_pos c, if_pos (decide_eq_true c)]
  · rw [if_neg c, if_neg (by rw [decide_eq_false c]; decide)]
theorem nu_lim (k : Int) (x : Nat) (k0 : 0 ≤ k) (k3 : k ≤ 3) (hx : x < 18446744073709551616) :
    (nuX k x).2 < 18446744073709551616 ∧ ((nuX k x).1 = true → (nuX k x).2 ≠ 0 ∧ (nuX k x).2 ≤ loM k) ∧ ((nuX k x).1 = false → (nuX k x).2 ≤ hiM k) ∧ rgW k (nuX k x).1 (nuX k x).2 = waW k x ∧ (k ≤ 1 → (nuX k x).2 < 4294967296) := by
  rcases (by omega : k = 0 ∨ k = 1 ∨ k = 2 ∨ k = 3) with rfl | rfl | rfl | rfl
  · have e : nuX 0 x = if 9223372036854775808 ≤ sx x 32 then (true, 18446744073709551616 - sx x 32) else (false, sx x 32) := rfl
    have w : waW 0 x = sx x 32 := rfl
    have l : loM 0 = 2147483648 := rfl
    have g : hiM 0 = 2147483647 := rfl
    have s := sx_is x
    rw [e, w, l, g]
    by_cases c : x / 2147483648 % 2 = 1
    · rw [if_pos c] at s
      rw [if_pos (by omega)]
      refine ⟨by simp only; omega, fun _ => ⟨by simp only; omega, by simp only; omega⟩, fun q => absurd (show true = false from q) (by decide), ?_, fun _ => by simp only; omega⟩
      unfold rgW
      rw [if_pos (Or.inl rfl), if_pos rfl]
      simp only
      rw [show (18446744073709551616 - (18446744073709551616 - sx x 32) % 18446744073709551616) % 18446744073709551616 = sx x 32 by omega]
      exact sx_high (by omega) (by omega)
    · rw [if_neg c] at s
      rw [if_neg (by omega)]
      refine ⟨by simp only; omega, fun q => absurd (show false = true from q) (by decide), fun _ => by simp only; omega, ?_, fun _ => by simp only; omega⟩
      unfold rgW
      rw [if_pos (Or.inl rfl), if_neg (show ¬ (false = true) by decide)]
      simp only
      rw [show sx x 32 % 18446744073709551616 = sx x 32 by omega]
      exact sx_low (by omega)
  · have e : nuX 1 x = (false, x % 4294967296) := rfl
    have w : waW 1 x = sx x 32 := rfl
    have g : hiM 1 = 4294967295 := rfl
    rw [e, w, g]
    refine ⟨by simp only; omega, fun q => absurd (show false = true from q) (by decide), fun _ => by simp only; omega, ?_, fun _ => by simp only; omega⟩
    unfold rgW
    rw [if_pos (Or.inr rfl), if_neg (show ¬ (false = true) by decide)]
    simp only
    rw [sx_is, sx_is x, show x % 4294967296 % 18446744073709551616 = x % 4294967296 by omega, show x % 4294967296 / 2147483648 % 2 = x / 2147483648 % 2 by omega, Nat.mod_mod]
  · have e : nuX 2 x = if 9223372036854775808 ≤ x then (true, 18446744073709551616 - x) else (false, x) := rfl
    have w : waW 2 x = x := rfl
    have l : loM 2 = 9223372036854775808 := rfl
    have g : hiM 2 = 9223372036854775807 := rfl
    rw [e, w, l, g]
    by_cases c : 9223372036854775808 ≤ x
    · rw [if_pos c]
      refine ⟨by simp only; omega, fun _ => ⟨by simp only; omega, by simp only; omega⟩, fun q => absurd (show true = false from q) (by decide), ?_, fun q => absurd q (by decide)⟩
      unfold rgW
      rw [if_neg (by decide), if_pos rfl]
      simp only
      omega
    · rw [if_neg c]
      refine ⟨hx, fun q => absurd (show false = true from q) (by decide), fun _ => by simp only; omega, ?_, fun q => absurd q (by decide)⟩
      unfold rgW
      rw [if_neg (by decide), if_neg (show ¬ (false = true) by decide)]
      exact Nat.mod_eq_of_lt hx
  · have e : nuX 3 x = (false, x) := rfl
    have w : waW 3 x = x := rfl
    have g : hiM 3 = 18446744073709551615 := rfl
    rw [e, w, g]
    refine ⟨hx, fun q => absurd (show false = true from q) (by decide), fun _ => by simp only; omega, ?_, fun q => absurd q (by decide)⟩
    unfold rgW
    rw [if_neg (by decide), if_neg (show ¬ (false = true) by decide)]
    exact Nat.mod_eq_of_lt hx
theorem wh_num (b : Bool) (N : Nat) (n0 : N ≠ 0) (hN : N < 18446744073709551616) :
    (XMath.mk b N 1 0).1 = ⟨b, od N, 1, (tz N : Int)⟩ ∧ (XMath.mk b N 1 0).2 = 0 ∧ (XN.mk b (od N) 1 (tz N : Int)).can ∧ od N ≠ 0 ∧ nl (od N) ≤ 8192 ∧ topX ⟨b, od N, 1, (tz N : Int)⟩ = (blen N : Int) - 1 ∧ tz N ≤ 64 ∧ blen N ≤ 64 := by
  have bl : blen N ≤ 64 := (blen_iff N 64).2 hN
  obtain ⟨m, c, o, l, t, _⟩ := x_whole (f := 0) (Or.inl rfl) b N 0 n0 (by omega) (by decide) (by decide)
  rw [Int.zero_add] at m c t
  have tl := tz_blen N
  exact ⟨by rw [m], by rw [m], c, o, l, by omega, by omega, bl⟩
theorem wh_of {f : Int} (hf : Is4 f) (b : Bool) (N : Nat) (n0 : N ≠ 0) (hN : N < 18446744073709551616) (hl : blen N ≤ pV f + 1) (he : (63 : Int) ≤ fE f) : (ofX f ⟨b, od N, 1, (tz N : Int)⟩).2 = true := by
  obtain ⟨_, _, _, o, _, t, _, bl⟩ := wh_num b N n0 hN
  obtain ⟨m, k, t', _, _, _, h, _⟩ := of_yes hf b (od N) (tz N : Int) o (by omega) (by unfold ofA; omega)
  rw [h]
theorem wh_back {f : Int} (hf : Is4 f) (m : Int) (b : Bool) (N : Nat) (n0 : N ≠ 0) (hN : N < 18446744073709551616) (M : Nat) (h : rnd f m ⟨b, od N, 1, (tz N : Int)⟩ = (M, 0)) : (0 < kC f M ∧ kC f M < 7) ∧ Fit f M ∧ kN f M = b ∧ ∀ m', tiR f m' M = (N, true) := by
  obtain ⟨_, _, c, o, l, t, tl, bl⟩ := wh_num b N n0 hN
  have of := rnd_of hf m _ c o (show nl 1 ≤ 8192 by decide) M h
  obtain ⟨M', v, fin, z, fit, r⟩ := of_num hf _ c o of
  obtain rfl : M = M' := by
    have := r m
    rw [h] at this
    exact (Prod.mk.inj this).1
  refine ⟨fin, fit, ?_, fun m' => ?_⟩
  · rw [← vX_b hf M fin z, v]
  · obtain ⟨o1, o2⟩ := od_is N n0
    have od1 : blen (od N) ≤ 64 := by
      have bs := blen_shift (od N) (tz N) o
      rw [← o1] at bs
      omega
    have e := fl_odd b (od N) (tz N : Int) 0 o2 (by decide) (by decide) (by
      have sh := blen_shift (od N) ((tz N : Int) - 0).toNat o
      unfold nl
      omega)
    have s := flS_shift (od N) (tz N) 0 0
    rw [← o1, Int.zero_add] at s
    unfold tiR
    rw [v, e, ← s]
    unfold flS
    rw [if_pos (Int.le_refl _)]
    simp
theorem kC_none {f : Int} (hf : Is4 f) (m : Int) : (0 < kC f 0 ∧ kC f 0 < 7) ∧ Fit f 0 ∧ kN f 0 = false ∧ tiR f m 0 = (0, true) := by
  have c' : kC f 0 = 4 ∧ kN f 0 = false := by
    rcases hf with rfl | rfl | rfl | rfl <;> decide +kernel
  have c : kC f 0 = 4 ∧ Fit f 0 ∧ kN f 0 = false := ⟨c'.1, Nat.mul_pos (by decide) (Nat.two_pow_pos _), c'.2⟩
  refine ⟨by rw [c.1]; decide, c.2.1, c.2.2, ?_⟩
  unfold tiR
  rw [vX_null f 0 (Or.inr c.1)]
  rfl
theorem fi_exact {f : Int} (hf : Is4 f) (k m : Int) (k0 : 0 ≤ k) (k3 : k ≤ 3) (x : Nat) (hx : x < 18446744073709551616) (h : f = 3 ∨ (f = 1 ∧ k ≤ 1)) : (fiR f k m x).2 = 0 := by
  obtain ⟨n1, n2, n3, n4, n5⟩ := nu_lim k x k0 k3 hx
  unfold fiR
  by_cases n0 : (nuX k x).2 = 0
  · rw [n0, mk_null]
    rfl
  · obtain ⟨e, _, c, o, l, t, tl, bl⟩ := wh_num (nuX k x).1 (nuX k x).2 n0 n1
    rw [e]
    have of := wh_of hf (nuX k x).1 (nuX k x).2 n0 n1 (by
      rcases h with rfl | ⟨rfl, hk⟩
      · have : pV 3 = 112 := by decide +kernel
        omega
      · have : pV 1 = 52 := by decide +kernel
        have := (blen_iff _ 32).2 (n5 hk)
        omega) (by
      rcases h with rfl | ⟨rfl, hk⟩ <;> decide)
    obtain ⟨M, _, _, _, _, r⟩ := of_num hf _ c o of
    rw [r m]
theorem fi_back {f : Int} (hf : Is4 f) (k m : Int) (k0 : 0 ≤ k) (k3 : k ≤ 3) (x : Nat) (hx : x < 18446744073709551616) (M : Nat) (h : fiR f k m x = (M, 0)) (m' : Int) : Fit f M ∧ tiX k f m' M = (waW k x, 0) := by
  obtain ⟨n1, n2, n3, n4, n5⟩ := nu_lim k x k0 k3 hx
  have main : (0 < kC f M ∧ kC f M < 7) ∧ Fit f M ∧ (kN f M = (nuX k x).1) ∧ tiR f m' M = ((nuX k x).2, true) := by
    unfold fiR at h
    by_cases n0 : (nuX k x).2 = 0
    · rw [n0, mk_null] at h
      obtain rfl : M = 0 := (Prod.mk.inj h).1.symm
      obtain ⟨c1, c2, c3, c4⟩ := kC_none hf m'
      refine ⟨c1, c2, ?_, by rw [n0]; exact c4⟩
      rw [c3]
      cases q : (nuX k x).1
      · rfl
      · exact absurd n0 (n2 q).1
    · obtain ⟨e, _⟩ := wh_num (nuX k x).1 (nuX k x).2 n0 n1
      rw [e] at h
      obtain ⟨c1, c2, c3, c4⟩ := wh_back hf m _ _ n0 n1 M h
      exact ⟨c1, c2, c3, c4 m'⟩
  obtain ⟨c1, c2, c3, c4⟩ := main
  refine ⟨c2, ?_⟩
  unfold tiX
  rw [if_neg (by omega), if_neg (by omega), if_neg (by omega), c3, c4]
  unfold tiC
  rw [if_neg (fun q => absurd q.2 (Nat.not_lt.2 (n2 q.1).2)), if_neg (fun q => absurd q.2 (Nat.not_lt.2 (n3 q.1))), n4]
  rfl
end Go.Proofs.YtpdehipeakcaiaaDoor
namespace Go.Proofs.YtpdehipeakcaiaaDoor
set_option maxRecDepth 100000
set_option maxHeartbeats 40000000
set_option maxRecDepth 100000
open Go.RowKit WMath
set_option linter.unusedSimpArgs false
set_option linter.unusedVariables false
set_option maxRecDepth 100000 in
set_option maxHeartbeats 8000000 in
theorem r20alive0 (K : Box (∀ w, FAt w → Calls Tryd.prog 4 #[.int .u8 2, .int .u8 0, .int .u8 0, .int .u64 18446744073709551615] w fun r w' => r = .returned (.tuple #[.agg #[.int .u64 0, .int .u64 48128], .int .u8 0, .int .i64 0]) ∧ Below w.heap.size w w')) (w : World) (hT : FAt w) : Calls Tryd.prog 6 #[] w fun r w' => r = .returned (.bool true) ∧ Below w.heap.size w w' := by
  have FF := box hT
  clear hT
  have B0 : Below w.heap.size w w := (Below.refl _ _)
  go_enter Tryd.func6, Tryd.ntmps6
  go_wp2_with fail
  refine (K.out _ (fatB FF.out B0)).mono ?_
  rintro r w1 ⟨rfl, b1⟩
  have B1 : Below w.heap.size w w1 := btr B0 b1
  clear b1 B0 
  have S2 := box B1.size
  have Rb_2 := heap_alloc_last w1 (Obj.cells #[.int .u64 0, .int .u64 48128] 27)
  have B2 := btr B1 (bal w1 (Obj.cells #[.int .u64 0, .int .u64 48128] 27))
  clear B1 
  obtain ⟨cb_2_0, cb_2_1⟩ := cells2s Rb_2
  go_wp2
  go_ret
  exact ⟨rfl, B2⟩
set_option maxRecDepth 100000 in
set_option maxHeartbeats 8000000 in
theorem fb_e (f k m n : Int) (x u v : Nat) (fl : Int)  (w : World) (K1 : Box (∀ w, FAt w → Calls Tryd.prog 4 #[.int .u8 f, .int .u8 k, .int .u8 m, .int .u64 (x : Nat)] w fun r w' => r = .returned (.tuple #[.agg #[.int .u64 (u : Nat), .int .u64 (v : Nat)], .int .u8 fl, .int .i64 2]) ∧ Below w.heap.size w w')) (KA : Box (∀ w, FAt w → Calls Tryd.prog 6 #[] w fun r w' => r = .returned (.bool true) ∧ Below w.heap.size w w')) (hT : FAt w) : Calls Tryd.prog 3 #[.int .u8 f, .int .u8 k, .int .u8 m, .int .u8 n, .int .u64 (x : Nat)] w fun r w' => r = .returned (.bool true) ∧ Below w.heap.size w w' := by
  have FF := box hT
  clear hT
  have B0 : Below w.heap.size w w := (Below.refl _ _)
  go_enter Tryd.func3, Tryd.ntmps3
  go_wp2_with fail
  refine (K1.out _ (fatB FF.out B0)).mono ?_
  rintro r w1 ⟨rfl, b1⟩
  have B1 : Below w.heap.size w w1 := btr B0 b1
  clear b1 B0 
  have S2 := box B1.size
  have Rb_2 := heap_alloc_last w1 (Obj.cells #[.int .u64 (u : Nat), .int .u64 (v : Nat)] 27)
  have B2 := btr B1 (bal w1 (Obj.cells #[.int .u64 (u : Nat), .int .u64 (v : Nat)] 27))
  clear B1 
  obtain ⟨cb_2_0, cb_2_1⟩ := cells2s Rb_2
  go_wp2_with fail
  refine (KA.out _ (fatB FF.out B2)).mono ?_
  rintro r w3 ⟨rfl, b3⟩
  have B3 : Below w.heap.size w w3 := btr B2 b3
  have Rb_3 := heap_of b3 _ _ _ Rb_2
  clear b3 B2 Rb_2 cb_2_0 cb_2_1
  obtain ⟨cb_3_0, cb_3_1⟩ := cells2s Rb_3
  go_wp2
  go_ret
  exact ⟨rfl, B3⟩
set_option maxRecDepth 100000 in
set_option maxHeartbeats 8000000 in
theorem fb_m (f k m n : Int) (x u v : Nat) (fl : Int)  (w : World) (K1 : Box (∀ w, FAt w → Calls Tryd.prog 4 #[.int .u8 f, .int .u8 k, .int .u8 m, .int .u64 (x : Nat)] w fun r w' => r = .returned (.tuple #[.agg #[.int .u64 (u : Nat), .int .u64 (v : Nat)], .int .u8 fl, .int .i64 0]) ∧ Below w.heap.size w w')) (KM : Box (∀ w, Calls Tryd.prog 5 #[.int .u8 n] w fun r w' => r = .returned (.int .i64 2) ∧ Below w.heap.size w w')) (KA : Box (∀ w, FAt w → Calls Tryd.prog 6 #[] w fun r w' => r = .returned (.bool true) ∧ Below w.heap.size w w')) (hT : FAt w) : Calls Tryd.prog 3 #[.int .u8 f, .int .u8 k, .int .u8 m, .int .u8 n, .int .u64 (x : Nat)] w fun r w' => r = .returned (.bool true) ∧ Below w.heap.size w w' := by
  have FF := box hT
  clear hT
  have B0 : Below w.heap.size w w := (Below.refl _ _)
  go_enter Tryd.func3, Tryd.ntmps3
  go_wp2_with fail
  refine (K1.out _ (fatB FF.out B0)).mono ?_
  rintro r w1 ⟨rfl, b1⟩
  have B1 : Below w.heap.size w w1 := btr B0 b1
  clear b1 B0 
  have S2 := box B1.size
  have Rb_2 := heap_alloc_last w1 (Obj.cells #[.int .u64 (u : Nat), .int .u64 (v : Nat)] 27)
  have B2 := btr B1 (bal w1 (Obj.cells #[.int .u64 (u : Nat), .int .u64 (v : Nat)] 27))
  clear B1 
  obtain ⟨cb_2_0, cb_2_1⟩ := cells2s Rb_2
  go_wp2_with fail
  refine (KM.out _).mono ?_
  rintro r w3 ⟨rfl, b3⟩
  have B3 : Below w.heap.size w w3 := btr B2 b3
  have Rb_3 := heap_of b3 _ _ _ Rb_2
  clear b3 B2 Rb_2 cb_2_0 cb_2_1
  obtain ⟨cb_3_0, cb_3_1⟩ := cells2s Rb_3
  go_wp2_with fail
  refine (KA.out _ (fatB FF.out B3)).mono ?_
  rintro r w4 ⟨rfl, b4⟩
  have B4 : Below w.heap.size w w4 := btr B3 b4
  have Rb_4 := heap_of b4 _ _ _ Rb_3
  clear b4 B3 Rb_3 cb_3_0 cb_3_1
  obtain ⟨cb_4_0, cb_4_1⟩ := cells2s Rb_4
  go_wp2
  go_ret
  exact ⟨rfl, B4⟩
set_option maxRecDepth 100000 in
set_option maxHeartbeats 8000000 in
theorem fb_r1 (f k m n : Int) (x u v : Nat) (fl : Int) (f3 : (f == 3) = false) (f1 : (f == 1) = false) (hf : (fl == 0) = false) (w : World) (K1 : Box (∀ w, FAt w → Calls Tryd.prog 4 #[.int .u8 f, .int .u8 k, .int .u8 m, .int .u64 (x : Nat)] w fun r w' => r = .returned (.tuple #[.agg #[.int .u64 (u : Nat), .int .u64 (v : Nat)], .int .u8 fl, .int .i64 0]) ∧ Below w.heap.size w w')) (KM : Box (∀ w, Calls Tryd.prog 5 #[.int .u8 n] w fun r w' => r = .returned (.int .i64 0) ∧ Below w.heap.size w w')) (KA : Box (∀ w, FAt w → Calls Tryd.prog 6 #[] w fun r w' => r = .returned (.bool true) ∧ Below w.heap.size w w')) (hT : FAt w) : Calls Tryd.prog 3 #[.int .u8 f, .int .u8 k, .int .u8 m, .int .u8 n, .int .u64 (x : Nat)] w fun r w' => r = .returned (.bool true) ∧ Below w.heap.size w w' := by
  have FF := box hT
  clear hT
  have B0 : Below w.heap.size w w := (Below.refl _ _)
  go_enter Tryd.func3, Tryd.ntmps3
  go_wp2_with fail
  refine (K1.out _ (fatB FF.out B0)).mono ?_
  rintro r w1 ⟨rfl, b1⟩
  have B1 : Below w.heap.size w w1 := btr B0 b1
  clear b1 B0 
  have S2 := box B1.size
  have Rb_2 := heap_alloc_last w1 (Obj.cells #[.int .u64 (u : Nat), .int .u64 (v : Nat)] 27)
  have B2 := btr B1 (bal w1 (Obj.cells #[.int .u64 (u : Nat), .int .u64 (v : Nat)] 27))
  clear B1 
  obtain ⟨cb_2_0, cb_2_1⟩ := cells2s Rb_2
  go_wp2_with fail
  refine (KM.out _).mono ?_
  rintro r w3 ⟨rfl, b3⟩
  have B3 : Below w.heap.size w w3 := btr B2 b3
  have Rb_3 := heap_of b3 _ _ _ Rb_2
  clear b3 B2 Rb_2 cb_2_0 cb_2_1
  obtain ⟨cb_3_0, cb_3_1⟩ := cells2s Rb_3
  go_wp2_with fail
  refine (KA.out _ (fatB FF.out B3)).mono ?_
  rintro r w4 ⟨rfl, b4⟩
  have B4 : Below w.heap.size w w4 := btr B3 b4
  have Rb_4 := heap_of b4 _ _ _ Rb_3
  clear b4 B3 Rb_3 cb_3_0 cb_3_1
  obtain ⟨cb_4_0, cb_4_1⟩ := cells2s Rb_4
  go_wp2
  go_ret
  exact ⟨rfl, B4⟩
set_option maxRecDepth 100000 in
set_option maxHeartbeats 8000000 in
theorem fb_r2 (f k m n : Int) (x u v : Nat) (fl : Int) (f3 : (f == 3) = false) (f1 : (f == 1) = true) (hk : decide (k ≤ 1) = false) (hf : (fl == 0) = false) (w : World) (K1 : Box (∀ w, FAt w → Calls Tryd.prog 4 #[.int .u8 f, .int .u8 k, .int .u8 m, .int .u64 (x : Nat)] w fun r w' => r = .returned (.tuple #[.agg #[.int .u64 (u : Nat), .int .u64 (v : Nat)], .int .u8 fl, .int .i64 0]) ∧ Below w.heap.size w w')) (KM : Box (∀ w, Calls Tryd.prog 5 #[.int .u8 n] w fun r w' => r = .returned (.int .i64 0) ∧ Below w.heap.size w w')) (KA : Box (∀ w, FAt w → Calls Tryd.prog 6 #[] w fun r w' => r = .returned (.bool true) ∧ Below w.heap.size w w')) (hT : FAt w) : Calls Tryd.prog 3 #[.int .u8 f, .int .u8 k, .int .u8 m, .int .u8 n, .int .u64 (x : Nat)] w fun r w' => r = .returned (.bool true) ∧ Below w.heap.size w w' := by
  have FF := box hT
  clear hT
  have B0 : Below w.heap.size w w := (Below.refl _ _)
  go_enter Tryd.func3, Tryd.ntmps3
  go_wp2_with fail
  refine (K1.out _ (fatB FF.out B0)).mono ?_
  rintro r w1 ⟨rfl, b1⟩
  have B1 : Below w.heap.size w w1 := btr B0 b1
  clear b1 B0 
  have S2 := box B1.size
  have Rb_2 := heap_alloc_last w1 (Obj.cells #[.int .u64 (u : Nat), .int .u64 (v : Nat)] 27)
  have B2 := btr B1 (bal w1 (Obj.cells #[.int .u64 (u : Nat), .int .u64 (v : Nat)] 27))
  clear B1 
  obtain ⟨cb_2_0, cb_2_1⟩ := cells2s Rb_2
  go_wp2_with fail
  refine (KM.out _).mono ?_
  rintro r w3 ⟨rfl, b3⟩
  have B3 : Below w.heap.size w w3 := btr B2 b3
  have Rb_3 := heap_of b3 _ _ _ Rb_2
  clear b3 B2 Rb_2 cb_2_0 cb_2_1
  obtain ⟨cb_3_0, cb_3_1⟩ := cells2s Rb_3
  go_wp2_with fail
  refine (KA.out _ (fatB FF.out B3)).mono ?_
  rintro r w4 ⟨rfl, b4⟩
  have B4 : Below w.heap.size w w4 := btr B3 b4
  have Rb_4 := heap_of b4 _ _ _ Rb_3
  clear b4 B3 Rb_3 cb_3_0 cb_3_1
  obtain ⟨cb_4_0, cb_4_1⟩ := cells2s Rb_4
  go_wp2
  go_ret
  exact ⟨rfl, B4⟩
set_option maxRecDepth 100000 in
set_option maxHeartbeats 8000000 in
theorem fb_oqw (f k m n : Int) (x u v : Nat)  (f3 : (f == 3) = true) (hk : decide (k ≤ 1) = true) (w : World) (K1 : Box (∀ w, FAt w → Calls Tryd.prog 4 #[.int .u8 f, .int .u8 k, .int .u8 m, .int .u64 (x : Nat)] w fun r w' => r = .returned (.tuple #[.agg #[.int .u64 (u : Nat), .int .u64 (v : Nat)], .int .u8 0, .int .i64 0]) ∧ Below w.heap.size w w')) (KM : Box (∀ w, Calls Tryd.prog 5 #[.int .u8 n] w fun r w' => r = .returned (.int .i64 0) ∧ Below w.heap.size w w')) (K2 : Box (∀ w, FAt w → Calls Tryd.prog 7 #[.int .u8 k, .int .u8 f, .int .u8 n, .agg #[.int .u64 (u : Nat), .int .u64 (v : Nat)]] w fun r w' => r = .returned (.tuple #[.int .u64 (IntKind.u64.wrap (IntKind.i64.wrap (IntKind.i32.wrap (IntKind.u32.wrap (x : Nat))))), .int .u8 0, .int .i64 0]) ∧ Below w.heap.size w w')) (KA : Box (∀ w, FAt w → Calls Tryd.prog 6 #[] w fun r w' => r = .returned (.bool true) ∧ Below w.heap.size w w')) (hT : FAt w) : Calls Tryd.prog 3 #[.int .u8 f, .int .u8 k, .int .u8 m, .int .u8 n, .int .u64 (x : Nat)] w fun r w' => r = .returned (.bool true) ∧ Below w.heap.size w w' := by
  have FF := box hT
  clear hT
  have B0 : Below w.heap.size w w := (Below.refl _ _)
  go_enter Tryd.func3, Tryd.ntmps3
  go_wp2_with fail
  refine (K1.out _ (fatB FF.out B0)).mono ?_
  rintro r w1 ⟨rfl, b1⟩
  have B1 : Below w.heap.size w w1 := btr B0 b1
  clear b1 B0 
  have S2 := box B1.size
  have Rb_2 := heap_alloc_last w1 (Obj.cells #[.int .u64 (u : Nat), .int .u64 (v : Nat)] 27)
  have B2 := btr B1 (bal w1 (Obj.cells #[.int .u64 (u : Nat), .int .u64 (v : Nat)] 27))
  clear B1 
  obtain ⟨cb_2_0, cb_2_1⟩ := cells2s Rb_2
  go_wp2_with fail
  refine (KM.out _).mono ?_
  rintro r w3 ⟨rfl, b3⟩
  have B3 : Below w.heap.size w w3 := btr B2 b3
  have Rb_3 := heap_of b3 _ _ _ Rb_2
  clear b3 B2 Rb_2 cb_2_0 cb_2_1
  obtain ⟨cb_3_0, cb_3_1⟩ := cells2s Rb_3
  go_wp2_with fail
  refine (K2.out _ (fatB FF.out B3)).mono ?_
  rintro r w4 ⟨rfl, b4⟩
  have B4 : Below w.heap.size w w4 := btr B3 b4
  have Rb_4 := heap_of b4 _ _ _ Rb_3
  clear b4 B3 Rb_3 cb_3_0 cb_3_1
  obtain ⟨cb_4_0, cb_4_1⟩ := cells2s Rb_4
  go_wp2_with fail
  refine (KA.out _ (fatB FF.out B4)).mono ?_
  rintro r w5 ⟨rfl, b5⟩
  have B5 : Below w.heap.size w w5 := btr B4 b5
  have Rb_5 := heap_of b5 _ _ _ Rb_4
  clear b5 B4 Rb_4 cb_4_0 cb_4_1
  obtain ⟨cb_5_0, cb_5_1⟩ := cells2s Rb_5
  go_wp2
  go_ret
  exact ⟨rfl, B5⟩
set_option maxRecDepth 100000 in
set_option maxHeartbeats 8000000 in
theorem fb_oql (f k m n : Int) (x u v : Nat)  (f3 : (f == 3) = true) (hk : decide (k ≤ 1) = false) (w : World) (K1 : Box (∀ w, FAt w → Calls Tryd.prog 4 #[.int .u8 f, .int .u8 k, .int .u8 m, .int .u64 (x : Nat)] w fun r w' => r = .returned (.tuple #[.agg #[.int .u64 (u : Nat), .int .u64 (v : Nat)], .int .u8 0, .int .i64 0]) ∧ Below w.heap.size w w')) (KM : Box (∀ w, Calls Tryd.prog 5 #[.int .u8 n] w fun r w' => r = .returned (.int .i64 0) ∧ Below w.heap.size w w')) (K2 : Box (∀ w, FAt w → Calls Tryd.prog 7 #[.int .u8 k, .int .u8 f, .int .u8 n, .agg #[.int .u64 (u : Nat), .int .u64 (v : Nat)]] w fun r w' => r = .returned (.tuple #[.int .u64 (x : Nat), .int .u8 0, .int .i64 0]) ∧ Below w.heap.size w w')) (KA : Box (∀ w, FAt w → Calls Tryd.prog 6 #[] w fun r w' => r = .returned (.bool true) ∧ Below w.heap.size w w')) (hT : FAt w) : Calls Tryd.prog 3 #[.int .u8 f, .int .u8 k, .int .u8 m, .int .u8 n, .int .u64 (x : Nat)] w fun r w' => r = .returned (.bool true) ∧ Below w.heap.size w w' := by
  have FF := box hT
  clear hT
  have B0 : Below w.heap.size w w := (Below.refl _ _)
  go_enter Tryd.func3, Tryd.ntmps3
  go_wp2_with fail
  refine (K1.out _ (fatB FF.out B0)).mono ?_
  rintro r w1 ⟨rfl, b1⟩
  have B1 : Below w.heap.size w w1 := btr B0 b1
  clear b1 B0 
  have S2 := box B1.size
  have Rb_2 := heap_alloc_last w1 (Obj.cells #[.int .u64 (u : Nat), .int .u64 (v : Nat)] 27)
  have B2 := btr B1 (bal w1 (Obj.cells #[.int .u64 (u : Nat), .int .u64 (v : Nat)] 27))
  clear B1 
  obtain ⟨cb_2_0, cb_2_1⟩ := cells2s Rb_2
  go_wp2_with fail
  refine (KM.out _).mono ?_
  rintro r w3 ⟨rfl, b3⟩
  have B3 : Below w.heap.size w w3 := btr B2 b3
  have Rb_3 := heap_of b3 _ _ _ Rb_2
  clear b3 B2 Rb_2 cb_2_0 cb_2_1
  obtain ⟨cb_3_0, cb_3_1⟩ := cells2s Rb_3
  go_wp2_with fail
  refine (K2.out _ (fatB FF.out B3)).mono ?_
  rintro r w4 ⟨rfl, b4⟩
  have B4 : Below w.heap.size w w4 := btr B3 b4
  have Rb_4 := heap_of b4 _ _ _ Rb_3
  clear b4 B3 Rb_3 cb_3_0 cb_3_1
  obtain ⟨cb_4_0, cb_4_1⟩ := cells2s Rb_4
  go_wp2_with fail
  refine (KA.out _ (fatB FF.out B4)).mono ?_
  rintro r w5 ⟨rfl, b5⟩
  have B5 : Below w.heap.size w w5 := btr B4 b5
  have Rb_5 := heap_of b5 _ _ _ Rb_4
  clear b5 B4 Rb_4 cb_4_0 cb_4_1
  obtain ⟨cb_5_0, cb_5_1⟩ := cells2s Rb_5
  go_wp2
  go_ret
  exact ⟨rfl, B5⟩
set_option maxRecDepth 100000 in
set_option maxHeartbeats 8000000 in
theorem fb_odw (f k m n : Int) (x u v : Nat)  (f3 : (f == 3) = false) (f1 : (f == 1) = true) (hk : decide (k ≤ 1) = true) (w : World) (K1 : Box (∀ w, FAt w → Calls Tryd.prog 4 #[.int .u8 f, .int .u8 k, .int .u8 m, .int .u64 (x : Nat)] w fun r w' => r = .returned (.tuple #[.agg #[.int .u64 (u : Nat), .int .u64 (v : Nat)], .int .u8 0, .int .i64 0]) ∧ Below w.heap.size w w')) (KM : Box (∀ w, Calls Tryd.prog 5 #[.int .u8 n] w fun r w' => r = .returned (.int .i64 0) ∧ Below w.heap.size w w')) (K2 : Box (∀ w, FAt w → Calls Tryd.prog 7 #[.int .u8 k, .int .u8 f, .int .u8 n, .agg #[.int .u64 (u : Nat), .int .u64 (v : Nat)]] w fun r w' => r = .returned (.tuple #[.int .u64 (IntKind.u64.wrap (IntKind.i64.wrap (IntKind.i32.wrap (IntKind.u32.wrap (x : Nat))))), .int .u8 0, .int .i64 0]) ∧ Below w.heap.size w w')) (KA : Box (∀ w, FAt w → Calls Tryd.prog 6 #[] w fun r w' => r = .returned (.bool true) ∧ Below w.heap.size w w')) (hT : FAt w) : Calls Tryd.prog 3 #[.int .u8 f, .int .u8 k, .int .u8 m, .int .u8 n, .int .u64 (x : Nat)] w fun r w' => r = .returned (.bool true) ∧ Below w.heap.size w w' := by
  have FF := box hT
  clear hT
  have B0 : Below w.heap.size w w := (Below.refl _ _)
  go_enter Tryd.func3, Tryd.ntmps3
  go_wp2_with fail
  refine (K1.out _ (fatB FF.out B0)).mono ?_
  rintro r w1 ⟨rfl, b1⟩
  have B1 : Below w.heap.size w w1 := btr B0 b1
  clear b1 B0 
  have S2 := box B1.size
  have Rb_2 := heap_alloc_last w1 (Obj.cells #[.int .u64 (u : Nat), .int .u64 (v : Nat)] 27)
  have B2 := btr B1 (bal w1 (Obj.cells #[.int .u64 (u : Nat), .int .u64 (v : Nat)] 27))
  clear B1 
  obtain ⟨cb_2_0, cb_2_1⟩ := cells2s Rb_2
  go_wp2_with fail
  refine (KM.out _).mono ?_
  rintro r w3 ⟨rfl, b3⟩
  have B3 : Below w.heap.size w w3 := btr B2 b3
  have Rb_3 := heap_of b3 _ _ _ Rb_2
  clear b3 B2 Rb_2 cb_2_0 cb_2_1
  obtain ⟨cb_3_0, cb_3_1⟩ := cells2s Rb_3
  go_wp2_with fail
  refine (K2.out _ (fatB FF.out B3)).mono ?_
  rintro r w4 ⟨rfl, b4⟩
  have B4 : Below w.heap.size w w4 := btr B3 b4
  have Rb_4 := heap_of b4 _ _ _ Rb_3
  clear b4 B3 Rb_3 cb_3_0 cb_3_1
  obtain ⟨cb_4_0, cb_4_1⟩ := cells2s Rb_4
  go_wp2_with fail
  refine (KA.out _ (fatB FF.out B4)).mono ?_
  rintro r w5 ⟨rfl, b5⟩
  have B5 : Below w.heap.size w w5 := btr B4 b5
  have Rb_5 := heap_of b5 _ _ _ Rb_4
  clear b5 B4 Rb_4 cb_4_0 cb_4_1
  obtain ⟨cb_5_0, cb_5_1⟩ := cells2s Rb_5
  go_wp2
  go_ret
  exact ⟨rfl, B5⟩
set_option maxRecDepth 100000 in
set_option maxHeartbeats 8000000 in
theorem fb_odl (f k m n : Int) (x u v : Nat)  (f3 : (f == 3) = false) (f1 : (f == 1) = true) (hk : decide (k ≤ 1) = false) (w : World) (K1 : Box (∀ w, FAt w → Calls Tryd.prog 4 #[.int .u8 f, .int .u8 k, .int .u8 m, .int .u64 (x : Nat)] w fun r w' => r = .returned (.tuple #[.agg #[.int .u64 (u : Nat), .int .u64 (v : Nat)], .int .u8 0, .int .i64 0]) ∧ Below w.heap.size w w')) (KM : Box (∀ w, Calls Tryd.prog 5 #[.int .u8 n] w fun r w' => r = .returned (.int .i64 0) ∧ Below w.heap.size w w')) (K2 : Box (∀ w, FAt w → Calls Tryd.prog 7 #[.int .u8 k, .int .u8 f, .int .u8 n, .agg #[.int .u64 (u : Nat), .int .u64 (v : Nat)]] w fun r w' => r = .returned (.tuple #[.int .u64 (x : Nat), .int .u8 0, .int .i64 0]) ∧ Below w.heap.size w w')) (KA : Box (∀ w, FAt w → Calls Tryd.prog 6 #[] w fun r w' => r = .returned (.bool true) ∧ Below w.heap.size w w')) (hT : FAt w) : Calls Tryd.prog 3 #[.int .u8 f, .int .u8 k, .int .u8 m, .int .u8 n, .int .u64 (x : Nat)] w fun r w' => r = .returned (.bool true) ∧ Below w.heap.size w w' := by
  have FF := box hT
  clear hT
  have B0 : Below w.heap.size w w := (Below.refl _ _)
  go_enter Tryd.func3, Tryd.ntmps3
  go_wp2_with fail
  refine (K1.out _ (fatB FF.out B0)).mono ?_
  rintro r w1 ⟨rfl, b1⟩
  have B1 : Below w.heap.size w w1 := btr B0 b1
  clear b1 B0 
  have S2 := box B1.size
  have Rb_2 := heap_alloc_last w1 (Obj.cells #[.int .u64 (u : Nat), .int .u64 (v : Nat)] 27)
  have B2 := btr B1 (bal w1 (Obj.cells #[.int .u64 (u : Nat), .int .u64 (v : Nat)] 27))
  clear B1 
  obtain ⟨cb_2_0, cb_2_1⟩ := cells2s Rb_2
  go_wp2_with fail
  refine (KM.out _).mono ?_
  rintro r w3 ⟨rfl, b3⟩
  have B3 : Below w.heap.size w w3 := btr B2 b3
  have Rb_3 := heap_of b3 _ _ _ Rb_2
  clear b3 B2 Rb_2 cb_2_0 cb_2_1
  obtain ⟨cb_3_0, cb_3_1⟩ := cells2s Rb_3
  go_wp2_with fail
  refine (K2.out _ (fatB FF.out B3)).mono ?_
  rintro r w4 ⟨rfl, b4⟩
  have B4 : Below w.heap.size w w4 := btr B3 b4
  have Rb_4 := heap_of b4 _ _ _ Rb_3
  clear b4 B3 Rb_3 cb_3_0 cb_3_1
  obtain ⟨cb_4_0, cb_4_1⟩ := cells2s Rb_4
  go_wp2_with fail
  refine (KA.out _ (fatB FF.out B4)).mono ?_
  rintro r w5 ⟨rfl, b5⟩
  have B5 : Below w.heap.size w w5 := btr B4 b5
  have Rb_5 := heap_of b5 _ _ _ Rb_4
  clear b5 B4 Rb_4 cb_4_0 cb_4_1
  obtain ⟨cb_5_0, cb_5_1⟩ := cells2s Rb_5
  go_wp2
  go_ret
  exact ⟨rfl, B5⟩
set_option maxRecDepth 100000 in
set_option maxHeartbeats 8000000 in
theorem fb_osw (f k m n : Int) (x u v : Nat)  (f3 : (f == 3) = false) (f1 : (f == 1) = false) (hk : decide (k ≤ 1) = true) (w : World) (K1 : Box (∀ w, FAt w → Calls Tryd.prog 4 #[.int .u8 f, .int .u8 k, .int .u8 m, .int .u64 (x : Nat)] w fun r w' => r = .returned (.tuple #[.agg #[.int .u64 (u : Nat), .int .u64 (v : Nat)], .int .u8 0, .int .i64 0]) ∧ Below w.heap.size w w')) (KM : Box (∀ w, Calls Tryd.prog 5 #[.int .u8 n] w fun r w' => r = .returned (.int .i64 0) ∧ Below w.heap.size w w')) (K2 : Box (∀ w, FAt w → Calls Tryd.prog 7 #[.int .u8 k, .int .u8 f, .int .u8 n, .agg #[.int .u64 (u : Nat), .int .u64 (v : Nat)]] w fun r w' => r = .returned (.tuple #[.int .u64 (IntKind.u64.wrap (IntKind.i64.wrap (IntKind.i32.wrap (IntKind.u32.wrap (x : Nat))))), .int .u8 0, .int .i64 0]) ∧ Below w.heap.size w w')) (KA : Box (∀ w, FAt w → Calls Tryd.prog 6 #[] w fun r w' => r = .returned (.bool true) ∧ Below w.heap.size w w')) (hT : FAt w) : Calls Tryd.prog 3 #[.int .u8 f, .int .u8 k, .int .u8 m, .int .u8 n, .int .u64 (x : Nat)] w fun r w' => r = .returned (.bool true) ∧ Below w.heap.size w w' := by
  have FF := box hT
  clear hT
  have B0 : Below w.heap.size w w := (Below.refl _ _)
  go_enter Tryd.func3, Tryd.ntmps3
  go_wp2_with fail
  refine (K1.out _ (fatB FF.out B0)).mono ?_
  rintro r w1 ⟨rfl, b1⟩
  have B1 : Below w.heap.size w w1 := btr B0 b1
  clear b1 B0 
  have S2 := box B1.size
  have Rb_2 := heap_alloc_last w1 (Obj.cells #[.int .u64 (u : Nat), .int .u64 (v : Nat)] 27)
  have B2 := btr B1 (bal w1 (Obj.cells #[.int .u64 (u : Nat), .int .u64 (v : Nat)] 27))
  clear B1 
  obtain ⟨cb_2_0, cb_2_1⟩ := cells2s Rb_2
  go_wp2_with fail
  refine (KM.out _).mono ?_
  rintro r w3 ⟨rfl, b3⟩
  have B3 : Below w.heap.size w w3 := btr B2 b3
  have Rb_3 := heap_of b3 _ _ _ Rb_2
  clear b3 B2 Rb_2 cb_2_0 cb_2_1
  obtain ⟨cb_3_0, cb_3_1⟩ := cells2s Rb_3
  go_wp2_with fail
  refine (K2.out _ (fatB FF.out B3)).mono ?_
  rintro r w4 ⟨rfl, b4⟩
  have B4 : Below w.heap.size w w4 := btr B3 b4
  have Rb_4 := heap_of b4 _ _ _ Rb_3
  clear b4 B3 Rb_3 cb_3_0 cb_3_1
  obtain ⟨cb_4_0, cb_4_1⟩ := cells2s Rb_4
  go_wp2_with fail
  refine (KA.out _ (fatB FF.out B4)).mono ?_
  rintro r w5 ⟨rfl, b5⟩
  have B5 : Below w.heap.size w w5 := btr B4 b5
  have Rb_5 := heap_of b5 _ _ _ Rb_4
  clear b5 B4 Rb_4 cb_4_0 cb_4_1
  obtain ⟨cb_5_0, cb_5_1⟩ := cells2s Rb_5
  go_wp2
  go_ret
  exact ⟨rfl, B5⟩
set_option maxRecDepth 100000 in
set_option maxHeartbeats 8000000 in
theorem fb_osl (f k m n : Int) (x u v : Nat)  (f3 : (f == 3) = false) (f1 : (f == 1) = false) (hk : decide (k ≤ 1) = false) (w : World) (K1 : Box (∀ w, FAt w → Calls Tryd.prog 4 #[.int .u8 f, .int .u8 k, .int .u8 m, .int .u64 (x : Nat)] w fun r w' => r = .returned (.tuple #[.agg #[.int .u64 (u : Nat), .int .u64 (v : Nat)], .int .u8 0, .int .i64 0]) ∧ Below w.heap.size w w')) (KM : Box (∀ w, Calls Tryd.prog 5 #[.int .u8 n] w fun r w' => r = .returned (.int .i64 0) ∧ Below w.heap.size w w')) (K2 : Box (∀ w, FAt w → Calls Tryd.prog 7 #[.int .u8 k, .int .u8 f, .int .u8 n, .agg #[.int .u64 (u : Nat), .int .u64 (v : Nat)]] w fun r w' => r = .returned (.tuple #[.int .u64 (x : Nat), .int .u8 0, .int .i64 0]) ∧ Below w.heap.size w w')) (KA : Box (∀ w, FAt w → Calls Tryd.prog 6 #[] w fun r w' => r = .returned (.bool true) ∧ Below w.heap.size w w')) (hT : FAt w) : Calls Tryd.prog 3 #[.int .u8 f, .int .u8 k, .int .u8 m, .int .u8 n, .int .u64 (x : Nat)] w fun r w' => r = .returned (.bool true) ∧ Below w.heap.size w w' := by
  have FF := box hT
  clear hT
  have B0 : Below w.heap.size w w := (Below.refl _ _)
  go_enter Tryd.func3, Tryd.ntmps3
  go_wp2_with fail
  refine (K1.out _ (fatB FF.out B0)).mono ?_
  rintro r w1 ⟨rfl, b1⟩
  have B1 : Below w.heap.size w w1 := btr B0 b1
  clear b1 B0 
  have S2 := box B1.size
  have Rb_2 := heap_alloc_last w1 (Obj.cells #[.int .u64 (u : Nat), .int .u64 (v : Nat)] 27)
  have B2 := btr B1 (bal w1 (Obj.cells #[.int .u64 (u : Nat), .int .u64 (v : Nat)] 27))
  clear B1 
  obtain ⟨cb_2_0, cb_2_1⟩ := cells2s Rb_2
  go_wp2_with fail
  refine (KM.out _).mono ?_
  rintro r w3 ⟨rfl, b3⟩
  have B3 : Below w.heap.size w w3 := btr B2 b3
  have Rb_3 := heap_of b3 _ _ _ Rb_2
  clear b3 B2 Rb_2 cb_2_0 cb_2_1
  obtain ⟨cb_3_0, cb_3_1⟩ := cells2s Rb_3
  go_wp2_with fail
  refine (K2.out _ (fatB FF.out B3)).mono ?_
  rintro r w4 ⟨rfl, b4⟩
  have B4 : Below w.heap.size w w4 := btr B3 b4
  have Rb_4 := heap_of b4 _ _ _ Rb_3
  clear b4 B3 Rb_3 cb_3_0 cb_3_1
  obtain ⟨cb_4_0, cb_4_1⟩ := cells2s Rb_4
  go_wp2_with fail
  refine (KA.out _ (fatB FF.out B4)).mono ?_
  rintro r w5 ⟨rfl, b5⟩
  have B5 : Below w.heap.size w w5 := btr B4 b5
  have Rb_5 := heap_of b5 _ _ _ Rb_4
  clear b5 B4 Rb_4 cb_4_0 cb_4_1
  obtain ⟨cb_5_0, cb_5_1⟩ := cells2s Rb_5
  go_wp2
  go_ret
  exact ⟨rfl, B5⟩
end Go.Proofs.YtpdehipeakcaiaaDoor
namespace Go.Proofs.YtpdehipeakcaiaaDoor
set_option maxRecDepth 100000
set_option maxHeartbeats 40000000
set_option maxRecDepth 100000
open Go.RowKit WMath XMath
set_option linter.unusedSimpArgs false
set_option linter.unusedVariables false
theorem i32_x (x : Nat) : IntKind.u64.wrap (IntKind.i64.wrap (IntKind.i32.wrap (IntKind.u32.wrap ((x : Nat) : Int)))) = ((sx x 32 : Nat) : Int) := by
  rw [sx_is, show ∀ y : Int, IntKind.u64.wrap y = y % 18446744073709551616 from fun _ => rfl, show ∀ y : Int, IntKind.u32.wrap y = y % 4294967296 from fun _ => rfl]
  have e : ∀ y : Int, IntKind.i32.wrap y = if 2147483648 ≤ y % 4294967296 then y % 4294967296 - 4294967296 else y % 4294967296 := fun y => by unfold IntKind.wrap; simp [IntKind.signed, IntKind.bits]
  have e2 : ∀ y : Int, IntKind.i64.wrap y = if 9223372036854775808 ≤ y % 18446744073709551616 then y % 18446744073709551616 - 18446744073709551616 else y % 18446744073709551616 := fun y => by unfold IntKind.wrap; simp [IntKind.signed, IntKind.bits]
  rw [e2, e]
  repeat' split
  all_goals omega
theorem fback_all (f k m n : Int) (h0 : 0 ≤ f) (k0 : 0 ≤ k) (m0 : 0 ≤ m) (n0 : 0 ≤ n) (x : Nat) (hx : x < 18446744073709551616)
    (C1 : f ≤ 3 → k ≤ 3 → m ≤ 4 → ∀ (M : Nat) (fl : Int), fiR f k m x = (M, fl) → ∀ u v : Nat, bv7 M = (u, v) → Box (∀ w, FAt w → Calls Tryd.prog 4 #[.int .u8 f, .int .u8 k, .int .u8 m, .int .u64 (x : Nat)] w fun r w' => r = .returned (.tuple #[.agg #[.int .u64 (u : Nat), .int .u64 (v : Nat)], .int .u8 fl, .int .i64 0]) ∧ Below w.heap.size w w')) (C0 : ¬ (f ≤ 3 ∧ k ≤ 3 ∧ m ≤ 4) → Box (∀ w, FAt w → Calls Tryd.prog 4 #[.int .u8 f, .int .u8 k, .int .u8 m, .int .u64 (x : Nat)] w fun r w' => r = .returned (.tuple #[.agg #[.int .u64 ((0 : Nat) : Int), .int .u64 ((0 : Nat) : Int)], .int .u8 0, .int .i64 2]) ∧ Below w.heap.size w w')) (T1 : f ≤ 3 → k ≤ 3 → n ≤ 4 → ∀ u v M : Nat, u < 18446744073709551616 → v < 18446744073709551616 → v + 18446744073709551616 * u = M → okB f M = true → ∀ (t : Nat) (fl : Int), tiX k f n M = (t, fl) → Box (∀ w, FAt w → Calls Tryd.prog 7 #[.int .u8 k, .int .u8 f, .int .u8 n, .agg #[.int .u64 (u : Nat), .int .u64 (v : Nat)]] w fun r w' => r = .returned (.tuple #[.int .u64 (t : Nat), .int .u8 fl, .int .i64 0]) ∧ Below w.heap.size w w')) (KA : Box (∀ w, FAt w → Calls Tryd.prog 6 #[] w fun r w' => r = .returned (.bool true) ∧ Below w.heap.size w w'))
    (w : World) (hT : FAt w) : Calls Tryd.prog 3 #[.int .u8 f, .int .u8 k, .int .u8 m, .int .u8 n, .int .u64 (x : Nat)] w fun r w' => r = .returned (.bool true) ∧ Below w.heap.size w w' := by
  by_cases c : f ≤ 3 ∧ k ≤ 3 ∧ m ≤ 4
  case neg => exact fb_e f k m n x 0 0 0 w (C0 c) KA hT
  obtain ⟨f3, k3, m4⟩ := c
  have hf := is4_of h0 f3
  obtain ⟨M, fl, h⟩ : ∃ M fl, fiR f k m x = (M, fl) := ⟨_, _, rfl⟩
  obtain ⟨u, v, hv⟩ : ∃ u v, bv7 M = (u, v) := ⟨_, _, rfl⟩
  have K1 := C1 f3 k3 m4 M fl h u v hv
  have KM := box (fun w => bel_so (s_checkMode n w))
  by_cases n4 : n ≤ 4
  case neg =>
    rw [if_neg n4] at KM
    exact fb_m f k m n x u v fl w K1 KM KA hT
  rw [if_pos n4] at KM
  have ex := fun q => fi_exact hf k m k0 k3 x hx q
  rw [h] at ex
  by_cases z : fl = 0
  · subst z
    obtain ⟨fit, tx⟩ := fi_back hf k m k0 k3 x hx M h n
    have lim : M < 340282366920938463463374607431768211456 := by
      unfold Fit at fit
      have : wV f ≤ 127 := by rcases hf with rfl | rfl | rfl | rfl <;> decide
      have := Nat.pow_le_pow_right (show 0 < 2 by decide) this
      have e : (2 : Nat) ^ 127 = 170141183460469231731687303715884105728 := by decide
      omega
    obtain ⟨b1, b2, b3⟩ := bv_lt lim hv
    have K2 := T1 f3 k3 n4 u v M b1 b2 b3 (by unfold okB; exact decide_eq_true ⟨f3, fit⟩) _ _ tx
    unfold waW at K2
    by_cases kw : k ≤ 1
    · rw [if_pos kw, ← i32_x] at K2
      have hk := decide_eq_true kw
      by_cases e3 : f = 3
      · exact fb_oqw f k m n x u v (beq_iff_eq.2 e3) hk w K1 KM K2 KA hT
      · by_cases e1 : f = 1
        · exact fb_odw f k m n x u v (beq_eq_false_iff_ne.2 e3) (beq_iff_eq.2 e1) hk w K1 KM K2 KA hT
        · exact fb_osw f k m n x u v (beq_eq_false_iff_ne.2 e3) (beq_eq_false_iff_ne.2 e1) hk w K1 KM K2 KA hT
    · rw [if_neg kw] at K2
      have hk := decide_eq_false kw
      by_cases e3 : f = 3
      · exact fb_oql f k m n x u v (beq_iff_eq.2 e3) hk w K1 KM K2 KA hT
      · by_cases e1 : f = 1
        · exact fb_odl f k m n x u v (beq_eq_false_iff_ne.2 e3) (beq_iff_eq.2 e1) hk w K1 KM K2 KA hT
        · exact fb_osl f k m n x u v (beq_eq_false_iff_ne.2 e3) (beq_eq_false_iff_ne.2 e1) hk w K1 KM K2 KA hT
  · have hz := beq_eq_false_iff_ne.2 z
    have e3 : f ≠ 3 := fun q => z (ex (Or.inl q))
    by_cases e1 : f = 1
    · have kw : ¬ k ≤ 1 := fun q => z (ex (Or.inr ⟨e1, q⟩))
      exact fb_r2 f k m n x u v fl (beq_eq_false_iff_ne.2 e3) (beq_iff_eq.2 e1) (decide_eq_false kw) hz w K1 KM KA hT
    · exact fb_r1 f k m n x u v fl (beq_eq_false_iff_ne.2 e3) (beq_eq_false_iff_ne.2 e1) hz w K1 KM KA hT
theorem al20 : fiR 2 0 0 18446744073709551615 = (48128, 0) := by
  have hf : Is4 2 := Or.inr (Or.inr (Or.inl rfl))
  have e : nuX 0 18446744073709551615 = (true, 1) := by decide +kernel
  obtain ⟨m, _⟩ := wh_num true 1 (by decide) (by decide)
  have r := rnd_own hf 0 true 15 0 (by decide +kernel) (by decide +kernel) (by decide +kernel)
  have s1 : sV 2 15 0 = 1 * 2 ^ 10 := by decide +kernel
  have x1 : xV 2 15 = -10 := by decide +kernel
  obtain ⟨o1, o2⟩ := od_shl 1 (by decide) 10
  rw [s1, x1, o1, o2] at r
  unfold fiR
  rw [e, m]
  have t1 : od 1 = 1 ∧ tz 1 = 0 := ⟨od_odd 1 rfl, tz_odd 1 rfl⟩
  rw [t1.1, t1.2] at r ⊢
  refine Eq.trans ?_ (r.trans (by decide +kernel))
  rfl
end Go.Proofs.YtpdehipeakcaiaaDoor
