/-
  What the functions that the statement reaches return: part 11 (NC, GW, SL19).
-/
import Derived.Test.YtlpelcfaakfmiaaDoorRows
import Derived.OpenShut
import Derived.LaidMore
import Derived.Lib.LaidTab
import Derived.Stop.Joined
import Derived.Stop.LaidErr
import Derived.Test.YtlpelcfaakfmiaaDoorTw10
namespace Go.Proofs.YtlpelcfaakfmiaaDoor
set_option maxRecDepth 100000
set_option maxHeartbeats 40000000
set_option maxRecDepth 100000
open Go.RowKit WMath XMath
set_option linter.unusedSimpArgs false
set_option linter.unusedVariables false
theorem sx32 (y : Nat) : IntKind.u64.wrap (wrap64 (wrap32 ((y : Int) % 4294967296))) = ((sx y 32 : Nat) : Int) := by
  unfold sx wrap64 wrap32
  rw [IntKind.wrap_u64, Nat.testBit_eq_decide_div_mod_eq, show (32 - 1 : Nat) = 31 from rfl, show (2 : Nat) ^ 31 = 2147483648 from rfl, show (2 : Nat) ^ 32 = 4294967296 from rfl]
  by_cases c : y / 2147483648 % 2 = 1
  · rw [if_pos (decide_eq_true c)]
    omega
  · rw [if_neg (by rw [decide_eq_false c]; decide)]
    omega
theorem kreg (k : Int) (k0 : 0 ≤ k) (neg : Bool) (n : Nat) (hn : n < 18446744073709551616) (v : Nat) (hv : rgW k neg n = v) (w : World) : Calls Tryd.prog 13 #[.int .u8 k, .bool neg, .int .u64 (n : Nat)] w fun r w' => r = .returned (.int .u64 (v : Nat)) ∧ Below w.heap.size w w' := by
  unfold rgW at hv
  rw [Nat.mod_eq_of_lt hn] at hv
  by_cases c : k = 0 ∨ k = 1
  · rw [if_pos c] at hv
    have hk : (k == 0) = true ∨ ((k == 0) = false ∧ (k == 1) = true) := by
      rcases c with rfl | rfl
      · exact Or.inl rfl
      · exact Or.inr ⟨rfl, rfl⟩
    cases neg
    · refine pq_reg_s_false k n v hk ?_ w
      rw [if_neg (by decide)] at hv
      rw [← hv, ← sx32 n]
      congr 3
      unfold wrap64
      omega
    · refine pq_reg_s_true k n v hk ?_ w
      rw [if_pos rfl] at hv
      rw [← hv, ← sx32]
      congr 3
      unfold wrap64
      omega
  · rw [if_neg c] at hv
    have hk : (k == 0) = false ∧ (k == 1) = false := ⟨beq_eq_false_iff_ne.2 (fun h => c (Or.inl h)), beq_eq_false_iff_ne.2 (fun h => c (Or.inr h))⟩
    cases neg
    · refine pq_reg_l_false k n v hk ?_ w
      rw [if_neg (by decide)] at hv
      rw [IntKind.wrap_u64]
      unfold wrap64
      omega
    · refine pq_reg_l_true k n v hk ?_ w
      rw [if_pos rfl] at hv
      rw [IntKind.wrap_u64]
      unfold wrap64
      omega
theorem k4 {k : Int} (k0 : 0 ≤ k) (k3 : k ≤ 3) : k = 0 ∨ k = 1 ∨ k = 2 ∨ k = 3 := by omega
theorem kreach (k : Int) (k0 : 0 ≤ k) (k3 : k ≤ 3) (neg : Bool) (T : Nat) (hv : (if neg then loM k else hiM k) = T) (w : World) (hT : FAt w) : Calls Tryd.prog 10 #[.int .u8 k, .bool neg] w fun r w' => r = .returned (.agg (cw 6 T)) ∧ Below w.heap.size w w' := by
  subst hv
  cases neg <;> rcases k4 k0 k3 with rfl | rfl | rfl | rfl
  · exact pq_reach10 w hT
  · exact pq_reach11 w hT
  · exact pq_reach12 w hT
  · exact pq_reach13 w hT
  · exact pq_reach00 w hT
  · exact pq_reach01 w hT
  · exact pq_reach02 w hT
  · exact pq_reach03 w hT
theorem kend (k : Int) (k0 : 0 ≤ k) (k3 : k ≤ 3) (neg : Bool) (v : Nat) (hv : (if neg then leW k else grW k) = v) (w : World) (hT : FAt w) : Calls Tryd.prog 11 #[.int .u8 k, .bool neg] w fun r w' => r = .returned (.int .u64 (v : Nat)) ∧ Below w.heap.size w w' := by
  obtain ⟨T, hR⟩ : ∃ T, (if neg then loM k else hiM k) = T := ⟨_, rfl⟩
  have lt : wd T 0 < 18446744073709551616 ∧ rgW k neg (wd T 0) = v := by
    subst hR hv
    cases neg <;> rcases k4 k0 k3 with rfl | rfl | rfl | rfl <;> decide +kernel
  exact pq_end k neg T v w (box (fun w hT => kreach k k0 k3 neg T hR w hT)) (box (fun w => kreg k k0 neg _ lt.1 v lt.2 w)) hT
theorem kkind (k : Int) (k0 : 0 ≤ k) (k1 : k ≤ 255) (o : Bool) (ho : decide (k ≤ 3) = o) (w : World) : Calls Tryd.prog 8 #[.int .u8 k] w fun r w' => r = .returned (.bool o) ∧ Below w.heap.size w w' :=
  pq_kind k (wrap_i64_is _ (by omega) (by omega)) o (by rw [← ho]; exact decide_eq_decide.2 (by omega)) w
theorem wh_go (f m : Int) (x1 y1 c1 m1 r1 : Nat) (X1 : Int) (R K N : Nat) (X2 h : Int) (ex od l2 o neg up : Bool) (hX : IntKind.i64.wrap (-X1) = X2) (hN : N < Q) (e : K + (if up then 1 else 0) = N) (ho : (neg && decide (N ≠ 0)) = o) (w : World)
    (KF : Box (∀ (T : TypeId) (g : Nat) (w : World), w.heap.size = g → FAt w → Calls Tryd.prog 14 #[.int .u8 f, .int .u8 m, .slice (some ⟨g, 0, none⟩) 1 1] (w.alloc (.cells #[.int .u64 (x1 : Nat), .int .u64 (y1 : Nat)] T)) fun r w' => r = .returned (.bool true) ∧ Below w.heap.size w w'))
    (KU : Box (∀ w, FAt w → Calls Tryd.prog 15 #[.int .u8 f, .agg #[.int .u64 (x1 : Nat), .int .u64 (y1 : Nat)]] w fun r w' => r = .returned (.tuple #[.agg (pt c1 m1 X1 r1), .int .i64 0]) ∧ Below w.heap.size w w'))
    (KI : Box (∀ w, Calls Tryd.prog 16 #[.int .u8 (c1 : Nat)] w fun r w' => r = .returned (.bool true) ∧ Below w.heap.size w w'))
    (KL : Box (∀ w, Calls Tryd.prog 17 #[.agg (cw 6 m1), .int .i64 X1] w fun r w' => r = .returned (.tuple #[.agg (cw 6 R), .bool false]) ∧ Below w.heap.size w w'))
    (KS : Box (∀ w, FAt w → Calls Tryd.prog 18 #[.int .u8 f, .agg #[.int .u64 (x1 : Nat), .int .u64 (y1 : Nat)]] w fun r w' => r = .returned (.bool neg) ∧ Below w.heap.size w w'))
    (KC : Box (∀ w, Calls Tryd.prog 19 #[.agg (cw 6 R), .int .i64 X2] w fun r w' => r = .returned (.tuple #[.agg (cw 6 K), .int .i64 h, .bool ex]) ∧ Below w.heap.size w w'))
    (KB : Box (∀ w, Calls Tryd.prog 21 #[.agg (cw 6 K), .int .i64 0] w fun r w' => r = .returned (.bool od) ∧ Below w.heap.size w w'))
    (KP : Box (∀ w, Calls Tryd.prog 20 #[.int .u8 m, .bool neg, .bool od, .int .i64 h, .bool ex] w fun r w' => r = .returned (.bool up) ∧ Below w.heap.size w w'))
    (hT : FAt w) : Calls Tryd.prog 7 #[.int .u8 f, .int .u8 m, .agg #[.int .u64 (x1 : Nat), .int .u64 (y1 : Nat)]] w fun r w' => r = .returned (.tuple #[.bool o, .agg (cw 6 N), .bool ex, .int .i64 0]) ∧ Below w.heap.size w w' := by
  have ho2 : neg = true → (!decide (N = 0)) = o := fun q => by
    rw [← ho, q, Bool.true_and]
    by_cases z : N = 0
    · rw [decide_eq_true z, decide_eq_false (fun h => h z)]; rfl
    · rw [decide_eq_false z, decide_eq_true z]; rfl
  have ho1 : neg = false → o = false := fun q => by rw [← ho, q]; rfl
  have K5 : Box (∀ w, Calls Tryd.prog 23 #[.int .u64 1] w fun r w' => r = .returned (.agg (cw 6 1)) ∧ Below w.heap.size w w') := box (fun w => wof_al 1 (by decide) w)
  cases up
  · have e : K = N := by simpa using e
    cases neg
    · obtain rfl := ho1 rfl
      subst e
      exact pq_wh_nf0 f m x1 y1 c1 m1 r1 X1 R K X2 h ex od l2 false hX hN w KF KU KI KL KS KC KB KP hT
    · subst e
      exact pq_wh_nt0 f m x1 y1 c1 m1 r1 X1 R K X2 h ex od l2 o hX hN (ho2 rfl) w KF KU KI KL KS KC KB KP hT
  · have e : K + 1 = N := by simpa using e
    have K6 : Box (∀ w, Calls Tryd.prog 22 #[.agg (cw 6 K), .agg (cw 6 1)] w fun r w' => r = .returned (.tuple #[.agg (cw 6 N), .bool false]) ∧ Below w.heap.size w w') := box (fun w => wadd_is K 1 N false (by omega) (by have := Q_pos; obtain ⟨Z, hZ, eQ⟩ := Qq384; rw [eQ, hZ]; decide +kernel) (by rw [e]; exact Nat.mod_eq_of_lt hN) (decide_eq_false (by omega)) w)
    cases neg
    · obtain rfl := ho1 rfl
      exact pq_wh_uf f m x1 y1 c1 m1 r1 X1 R K N X2 h ex od false false hX hN w KF KU KI KL KS KC KB KP K5 K6 hT
    · exact pq_wh_ut f m x1 y1 c1 m1 r1 X1 R K N X2 h ex od false o hX hN (ho2 rfl) w KF KU KI KL KS KC KB KP K5 K6 hT
theorem kWhole_no (f m : Int) (h0 : 0 ≤ f) (h1 : f ≤ 255) (m0 : 0 ≤ m) (x1 y1 a : Nat) (hx1 : x1 < 18446744073709551616) (hy1 : y1 < 18446744073709551616) (ha : y1 + 18446744073709551616 * x1 = a) (no : ¬ (okB f a = true ∧ m ≤ 4)) (w : World) (hT : FAt w) : Calls Tryd.prog 7 #[.int .u8 f, .int .u8 m, .agg #[.int .u64 (x1 : Nat), .int .u64 (y1 : Nat)]] w fun r w' => r = .returned (.tuple #[.bool false, .agg (cw 6 0), .bool false, .int .i64 2]) ∧ Below w.heap.size w w' := by
  refine pq_wh_no f m x1 y1 w (kmay1 f m h0 h1 m0 x1 y1 a hx1 hy1 ha false ?_) hT
  cases ok : okB f a
  · rw [Bool.and_false]
  · rw [Bool.and_true]
    exact decide_eq_false (fun q => no ⟨ok, q.2⟩)
theorem kWhole_is (f m : Int) (hf : Is4 f) (hm : 0 ≤ m ∧ m ≤ 4) (x1 y1 a : Nat) (hx1 : x1 < 18446744073709551616) (hy1 : y1 < 18446744073709551616) (ha : y1 + 18446744073709551616 * x1 = a) (ok : okB f a = true) (o : Bool) (N : Nat) (ex : Bool) (e : Int) (hr : whX f m a = ((o, N), (ex, e))) (w : World) (hT : FAt w) : Calls Tryd.prog 7 #[.int .u8 f, .int .u8 m, .agg #[.int .u64 (x1 : Nat), .int .u64 (y1 : Nat)]] w fun r w' => r = .returned (.tuple #[.bool o, .agg (cw 6 N), .bool ex, .int .i64 e]) ∧ Below w.heap.size w w' := by
  obtain ⟨s1, s2, s3⟩ := kS_lim hf a
  obtain ⟨Z, hZ, eQ⟩ := Qq384
  have KF := kmay1 f m (is4_ok hf).1 (is4_ok hf).2.1 hm.1 x1 y1 a hx1 hy1 ha true (by rw [ok, Bool.and_true]; exact decide_eq_true ⟨is4_le hf, hm.2⟩)
  unfold whX at hr
  by_cases fin : 0 < kC f a ∧ kC f a < 7
  case neg =>
    rw [if_pos fin] at hr
    cases hr
    exact pq_wh_nf f m x1 y1 _ _ _ _ w KF (box (fun w hT => kUnpack_yes f hf x1 y1 a _ _ (kF f a) _ hx1 hy1 ha ok rfl w hT)) (box (fun w => pq_fin _ false (decide_eq_false fin) w)) hT
  rw [if_neg (fun q => q fin), tiR_parts hf m a fin] at hr
  have KI : Box (∀ w, Calls Tryd.prog 16 #[.int .u8 ((kC f a : Nat) : Int)] w fun r w' => r = .returned (.bool true) ∧ Below w.heap.size w w') := box (fun w => pq_fin _ true (decide_eq_true fin) w)
  have KU : Box (∀ w, FAt w → Calls Tryd.prog 15 #[.int .u8 f, .agg #[.int .u64 (x1 : Nat), .int .u64 (y1 : Nat)]] w fun r w' => r = .returned (.tuple #[.agg (pt (kC f a) (kS f a) (kX f a) (kF f a)), .int .i64 0]) ∧ Below w.heap.size w w') := box (fun w hT => kUnpack_yes f hf x1 y1 a _ _ (kF f a) _ hx1 hy1 ha ok rfl w hT)
  obtain ⟨neg, hng⟩ : ∃ c, kN f a = c := ⟨_, rfl⟩
  have KS : Box (∀ w, FAt w → Calls Tryd.prog 18 #[.int .u8 f, .agg #[.int .u64 (x1 : Nat), .int .u64 (y1 : Nat)]] w fun r w' => r = .returned (.bool neg) ∧ Below w.heap.size w w') := box (fun w hT => kSign_yes f hf x1 y1 a neg hx1 hy1 ha ok hng w hT)
  rw [hng] at hr
  obtain ⟨S, hS⟩ : ∃ c, kS f a = c := ⟨_, rfl⟩
  obtain ⟨X, hX⟩ : ∃ c, kX f a = c := ⟨_, rfl⟩
  rw [hS, hX] at hr KU
  rw [hS] at s1
  rw [hX] at s2 s3
  have sQ : S < Q := lt_Q7 s1
  have wX : IntKind.i64.wrap (-X) = -X := wrap_i64_is _ (by omega) (by omega)
  unfold tiS at hr
  by_cases x0 : 0 ≤ X
  · rw [if_pos x0] at hr
    simp only at hr
    have key : (Q ≤ S * 2 ^ cnt6 X ↔ 384 < blen (S * 2 ^ X.toNat)) ∧ (S * 2 ^ cnt6 X < Q → S * 2 ^ cnt6 X = S * 2 ^ X.toNat) := by
      have bi := blen_iff (S * 2 ^ X.toNat) Z
      unfold cnt6
      rw [← hZ]
      by_cases c : X.toNat ≤ Z
      · rw [Nat.min_eq_left c, eQ]
        exact ⟨by omega, fun _ => rfl⟩
      · rw [Nat.min_eq_right (by omega)]
        by_cases z : S = 0
        · subst z
          rw [Nat.zero_mul, Nat.zero_mul, blen_zero]
          have := Q_pos
          exact ⟨by omega, fun _ => rfl⟩
        · have g1 : 2 ^ Z ≤ S * 2 ^ Z := Nat.le_mul_of_pos_left _ (by omega)
          have g2 : S * 2 ^ Z ≤ S * 2 ^ X.toNat := Nat.mul_le_mul_left _ (Nat.pow_le_pow_right (by decide) (by omega))
          rw [eQ]
          exact ⟨by omega, fun q => absurd q (by omega)⟩
    by_cases q : Q ≤ S * 2 ^ cnt6 X
    · rw [if_pos (key.1.1 q)] at hr
      cases hr
      exact pq_wh_lo f m x1 y1 _ _ _ _ _ w KF KU KI (box (fun w => wleft_is S _ X true sQ rfl (decide_eq_true q) w)) hT
    · rw [if_neg (fun h => q (key.1.2 h))] at hr
      obtain ⟨R, hR⟩ : ∃ R, S * 2 ^ X.toNat = R := ⟨_, rfl⟩
      have k2 := key.2 (by omega)
      rw [hR] at hr k2
      have RQ : R < Q := by omega
      cases hr
      have c0 : cnt6 (-X) = 0 := by unfold cnt6; omega
      have c1 : cnt5 (-X) = 0 := by unfold cnt5; omega
      exact wh_go f m x1 y1 _ _ _ X N N N (-X) _ true _ false _ neg false wX RQ rfl rfl w KF KU KI (box (fun w => wleft_is S N X false sQ (by rw [k2]; exact Nat.mod_eq_of_lt RQ) (decide_eq_false q) w)) KS
        (box (fun w => jcut_is N N (-X) _ true RQ (by rw [c0, Nat.pow_zero, Nat.div_one]) rfl (by rw [c0, Nat.pow_zero, Nat.mod_one]; rfl) w)) (box (fun w => wbit0 N _ rfl w)) (box (fun w => ro_up m neg _ _ true false (by unfold uP; rw [if_pos rfl]) w)) hT
  · rw [if_neg x0] at hr
    simp only at hr
    obtain ⟨L, hL⟩ : ∃ L : Nat, (-X).toNat = L + 1 := ⟨(-X).toNat - 1, by omega⟩
    rw [hL, Nat.add_sub_cancel] at hr
    obtain ⟨c1, c2, c3⟩ := cutN S L sQ
    have p2 : S / 2 ^ (L + 1) = S / 2 ^ L / 2 := by rw [Nat.pow_succ, Nat.div_div_eq_div_mul]
    have m2 : decide (S % 2 ^ (L + 1) = 0) = !(decide (S / 2 ^ L % 2 = 1) || decide (S % 2 ^ L ≠ 0)) := by
      have mm : S % 2 ^ (L + 1) = S % 2 ^ L + 2 ^ L * (S / 2 ^ L % 2) := by rw [Nat.pow_succ, Nat.mod_mul]
      have pp := Nat.two_pow_pos L
      by_cases u : S / 2 ^ L % 2 = 1
      · rw [decide_eq_true u, decide_eq_false (by rw [mm, u, Nat.mul_one]; omega)]; rfl
      · rw [decide_eq_false u, Bool.false_or]
        have mm2 : S % 2 ^ (L + 1) = S % 2 ^ L := by
          rw [mm, show S / 2 ^ L % 2 = 0 by omega, Nat.mul_zero]
          exact Nat.add_zero _
        rw [mm2]
        by_cases z : S % 2 ^ L = 0
        · rw [decide_eq_true z, decide_eq_false (fun h => h z)]; rfl
        · rw [decide_eq_false z, decide_eq_true z]; rfl
    obtain ⟨up, hup⟩ : ∃ up, uP m neg (decide (S / 2 ^ (L + 1) % 2 = 1)) (hfV (decide (S / 2 ^ L % 2 = 1)) (decide (S % 2 ^ L ≠ 0))) (decide (S % 2 ^ (L + 1) = 0)) = up := ⟨_, rfl⟩
    rw [hup] at hr
    have le : S / 2 ^ (L + 1) ≤ S := Nat.div_le_self _ _
    have lN : S / 2 ^ (L + 1) + (if up then 1 else 0) ≤ S + 1 := by cases up <;> simp <;> omega
    have lt : ¬ 384 < blen (S / 2 ^ (L + 1) + (if up then 1 else 0)) := by
      have := (blen_iff (S / 2 ^ (L + 1) + (if up then 1 else 0)) 129).2 (by rw [show (2 : Nat) ^ 129 = 680564733841876926926749214863536422912 from by decide +kernel]; omega)
      omega
    rw [if_neg lt] at hr
    injection hr with h1 h2
    injection h1 with h3 h4
    injection h2 with h5 h6
    subst h6
    have NQ : N < Q := by
      rw [← h4]
      exact Nat.lt_of_le_of_lt lN (by rw [eQ, hZ]; exact Nat.lt_of_le_of_lt s1 (Nat.pow_lt_pow_right (a := 2) (m := 128) (n := 384) (by decide) (by decide)))
    have e6 : cnt6 (-X) = min (L + 1) 384 := by unfold cnt6; rw [hL]
    have e5 : cnt5 (-X) = min (L + 1) 385 := by unfold cnt5; rw [hL]
    have e0 : cnt6 X = 0 := by unfold cnt6; omega
    refine wh_go f m x1 y1 _ _ _ X S (S / 2 ^ (L + 1)) N (-X) _ ex _ false o neg up wX NQ h4 (by rw [← h3, h4]) w KF KU KI (box (fun w => wleft_is S S X false sQ (by rw [e0, Nat.pow_zero, Nat.mul_one]; exact Nat.mod_eq_of_lt sQ) (decide_eq_false (by rw [e0, Nat.pow_zero, Nat.mul_one]; omega)) w)) KS
        (box (fun w => jcut_is S _ (-X) _ ex sQ (by rw [e6, c1, p2]) rfl (by rw [e6, c2, ← m2]; exact h5) w)) (box (fun w => wbit0 _ _ rfl w)) (box (fun w => ro_up m neg _ _ ex up (by rw [e5, c3, ← h5]; exact hup) w)) hT
theorem wd0_mod (N : Nat) : wd N 0 = N % 18446744073709551616 := by unfold wd; simp
theorem kConvert_no (k f m : Int) (k0 : 0 ≤ k) (k1 : k ≤ 255) (h0 : 0 ≤ f) (h1 : f ≤ 255) (m0 : 0 ≤ m) (x1 y1 a : Nat) (hx1 : x1 < 18446744073709551616) (hy1 : y1 < 18446744073709551616) (ha : y1 + 18446744073709551616 * x1 = a) (no : ¬ (k ≤ 3 ∧ okB f a = true ∧ m ≤ 4)) (w : World) (hT : FAt w) : Calls Tryd.prog 4 #[.int .u8 k, .int .u8 f, .int .u8 m, .agg #[.int .u64 (x1 : Nat), .int .u64 (y1 : Nat)]] w fun r w' => r = .returned (.tuple #[.int .u64 0, .int .u8 0, .int .i64 2]) ∧ Below w.heap.size w w' := by
  by_cases c : okB f a = true ∧ m ≤ 4
  · obtain ⟨o, N, ex, e, hw⟩ : ∃ o N ex e, whX f m a = ((o, N), (ex, e)) := ⟨_, _, _, _, rfl⟩
    obtain ⟨_, _, q3⟩ := whX_lim f m a o N ex e hw
    exact pq_cv_a2 k f m x1 y1 o ex false N 0 e 0 0 (beq_eq_false_iff_ne.2 (by omega)) w (box (fun w hT => kWhole_is f m (okB_yes h0 c.1).1 ⟨m0, c.2⟩ x1 y1 a hx1 hy1 ha c.1 o N ex e hw w hT)) (box (fun w => kkind k k0 k1 false (decide_eq_false (fun q => no ⟨q, c⟩)) w)) hT
  · exact pq_cv_a1 k f m x1 y1 false false false 0 0 0 0 0 w (box (fun w hT => kWhole_no f m h0 h1 m0 x1 y1 a hx1 hy1 ha c w hT)) hT
theorem cmp_gt9 (n t : Nat) : decide ((0 : Int) < cmpv n t) = decide (t < n) := by
  unfold cmpv
  by_cases b : n = t
  · rw [if_pos b, decide_eq_false (show ¬ t < n by omega)]; rfl
  · rw [if_neg b]
    by_cases a : n < t
    · rw [if_pos a, decide_eq_false (show ¬ t < n by omega)]; rfl
    · rw [if_neg a, decide_eq_true (show t < n by omega)]; rfl
theorem kConvert_is (k f m : Int) (k0 : 0 ≤ k) (k3 : k ≤ 3) (hf : Is4 f) (hm : 0 ≤ m ∧ m ≤ 4) (x1 y1 a : Nat) (hx1 : x1 < 18446744073709551616) (hy1 : y1 < 18446744073709551616) (ha : y1 + 18446744073709551616 * x1 = a) (ok : okB f a = true) (t : Nat) (fl : Int) (hr : tiX k f m a = (t, fl)) (w : World) (hT : FAt w) : Calls Tryd.prog 4 #[.int .u8 k, .int .u8 f, .int .u8 m, .agg #[.int .u64 (x1 : Nat), .int .u64 (y1 : Nat)]] w fun r w' => r = .returned (.tuple #[.int .u64 (t : Nat), .int .u8 fl, .int .i64 0]) ∧ Below w.heap.size w w' := by
  obtain ⟨o, N, ex, e, hw⟩ : ∃ o N ex e, whX f m a = ((o, N), (ex, e)) := ⟨_, _, _, _, rfl⟩
  obtain ⟨q1, _, q3⟩ := whX_lim f m a o N ex e hw
  have KW : Box (∀ w, FAt w → Calls Tryd.prog 7 #[.int .u8 f, .int .u8 m, .agg #[.int .u64 (x1 : Nat), .int .u64 (y1 : Nat)]] w fun r w' => r = .returned (.tuple #[.bool o, .agg (cw 6 N), .bool ex, .int .i64 e]) ∧ Below w.heap.size w w') := box (fun w hT => kWhole_is f m hf hm x1 y1 a hx1 hy1 ha ok o N ex e hw w hT)
  have KK : Box (∀ w, Calls Tryd.prog 8 #[.int .u8 k] w fun r w' => r = .returned (.bool true) ∧ Below w.heap.size w w') := box (fun w => kkind k k0 (by omega) true (decide_eq_true k3) w)
  have KB : ∀ b, decide (((kC f a : Nat) : Int) ≤ 3) = b → Box (∀ w, FAt w → Calls Tryd.prog 12 #[.int .u8 f, .agg #[.int .u64 (x1 : Nat), .int .u64 (y1 : Nat)]] w fun r w' => r = .returned (.bool b) ∧ Below w.heap.size w w') := fun b hb => box (fun w hT => pq_below f x1 y1 (kC f a) b hb w (box (fun w hT => kClass_yes f hf x1 y1 a _ hx1 hy1 ha ok rfl w hT)) hT)
  have KE : ∀ b v, (if b then leW k else grW k) = v → Box (∀ w, FAt w → Calls Tryd.prog 11 #[.int .u8 k, .bool b] w fun r w' => r = .returned (.int .u64 (v : Nat)) ∧ Below w.heap.size w w') := fun b v hv => box (fun w hT => kend k k0 k3 b v hv w hT)
  have lt := kC_lt f a
  unfold tiX at hr
  unfold whX at hw
  by_cases fin : 0 < kC f a ∧ kC f a < 7
  case neg =>
    rw [if_pos fin] at hw
    cases hw
    have : fl = 16 ∧ ∃ b, decide (((kC f a : Nat) : Int) ≤ 3) = b ∧ (if b then leW k else grW k) = t := by
      by_cases c8 : 8 ≤ kC f a
      · rw [if_pos c8] at hr
        cases hr
        exact ⟨rfl, false, decide_eq_false (by omega), rfl⟩
      · rw [if_neg c8] at hr
        by_cases c0 : kC f a = 0
        · rw [if_pos c0] at hr
          cases hr
          exact ⟨rfl, true, decide_eq_true (by omega), rfl⟩
        · rw [if_neg c0, if_pos (by omega)] at hr
          cases hr
          exact ⟨rfl, false, decide_eq_false (by omega), rfl⟩
    obtain ⟨rfl, b, b1, b2⟩ := this
    exact pq_cv_e80 k f m x1 y1 _ _ b _ 0 80 0 _ w KW KK (KB b b1) (KE b t b2) hT
  rw [if_neg (fun q => q fin)] at hw
  rw [if_neg (by omega), if_neg (by omega), if_neg (by omega)] at hr
  have sg := kC_sign a fin
  have sg2 : decide (((kC f a : Nat) : Int) ≤ 3) = kN f a := by rw [← sg]; exact decide_eq_decide.2 (by omega)
  obtain ⟨M, ex0, hM⟩ : ∃ M x, tiR f m a = (M, x) := ⟨_, _, rfl⟩
  rw [hM] at hw hr
  simp only at hw hr
  have lo : loM k ≤ 9223372036854775808 := by rcases k4 k0 k3 with rfl | rfl | rfl | rfl <;> decide
  have hi : hiM k ≤ 18446744073709551615 := by rcases k4 k0 k3 with rfl | rfl | rfl | rfl <;> decide
  unfold tiC at hr
  by_cases lg : 384 < blen M
  · rw [if_pos lg] at hw
    cases hw
    have big : 18446744073709551616 ≤ M := by
      have := blen_iff M 64
      rw [show (2 : Nat) ^ 64 = 18446744073709551616 from rfl] at this
      omega
    have : fl = 16 ∧ (if kN f a then leW k else grW k) = t := by
      cases hn : kN f a
      · rw [hn, if_neg (fun q => absurd q.1 (by decide)), if_pos ⟨rfl, by omega⟩] at hr
        cases hr
        exact ⟨rfl, rfl⟩
      · rw [hn, if_pos ⟨rfl, by omega⟩] at hr
        cases hr
        exact ⟨rfl, rfl⟩
    obtain ⟨rfl, b2⟩ := this
    exact pq_cv_e4 k f m x1 y1 _ _ _ _ 0 4 0 _ w KW KK (KB _ sg2) (KE _ t b2) hT
  rw [if_neg lg] at hw
  injection hw with h1 h2
  injection h1 with h3 h4
  injection h2 with h5 h6
  subst h4 h5 h6
  obtain ⟨T, hR⟩ : ∃ T, (if o then loM k else hiM k) = T := ⟨_, rfl⟩
  have TQ : T < Q := by
    rw [← hR]
    exact lt_Q7 (by cases o <;> simp <;> omega)
  have KR : Box (∀ w, FAt w → Calls Tryd.prog 10 #[.int .u8 k, .bool o] w fun r w' => r = .returned (.agg (cw 6 T)) ∧ Below w.heap.size w w') := box (fun w hT => kreach k k0 k3 o T hR w hT)
  have KC : Box (∀ w, Calls Tryd.prog 9 #[.agg (cw 6 M), .agg (cw 6 T)] w fun r w' => r = .returned (.int .i64 (cmpv M T)) ∧ Below w.heap.size w w') := box (fun w => wcmp_is M T _ q1 TQ rfl w)
  have gt := cmp_gt9 M T
  -- whether it is beyond, by the sign of the number or of its whole part
  have bey : (decide (T < M) = true → (fl = 16 ∧ (if kN f a then leW k else grW k) = t)) ∧ (decide (T < M) = false → t = rgW k o (wd M 0) ∧ fl = if ex0 then 0 else 1) := by
    have mm : decide (T < M) = false → M % 18446744073709551616 = M := fun q => by
      have q := of_decide_eq_false q
      refine Nat.mod_eq_of_lt ?_
      have : T ≤ 18446744073709551615 := by rw [← hR]; cases o <;> simp <;> omega
      omega
    have rg0 : ∀ b, rgW k b 0 = 0 := fun b => by cases b <;> rcases k4 k0 k3 with rfl | rfl | rfl | rfl <;> decide +kernel
    rw [wd0_mod]
    by_cases z : M = 0
    · subst z
      have oo : o = false := by rw [← h3]; simp
      subst oo
      refine ⟨fun q => absurd (of_decide_eq_true q) (by omega), fun q => ?_⟩
      rw [if_neg (fun q => absurd q.2 (by omega)), if_neg (fun q => absurd q.2 (by omega)), rg0] at hr
      cases hr
      exact ⟨(rg0 false).symm, rfl⟩
    · have oo : o = kN f a := by rw [← h3, decide_eq_true z, Bool.and_true]
      rw [← oo] at hr ⊢
      cases o
      · have hR : hiM k = T := hR
        refine ⟨fun q => ?_, fun q => ?_⟩
        · rw [if_neg (fun q => absurd q.1 (by decide)), if_pos ⟨rfl, by rw [hR]; exact of_decide_eq_true q⟩] at hr
          cases hr
          exact ⟨rfl, rfl⟩
        · rw [if_neg (fun q => absurd q.1 (by decide)), if_neg (fun h => of_decide_eq_false q (by rw [← hR]; exact h.2))] at hr
          rw [mm q]
          cases hr
          exact ⟨rfl, rfl⟩
      · have hR : loM k = T := hR
        refine ⟨fun q => ?_, fun q => ?_⟩
        · rw [if_pos ⟨rfl, by rw [hR]; exact of_decide_eq_true q⟩] at hr
          cases hr
          exact ⟨rfl, rfl⟩
        · rw [if_neg (fun h => of_decide_eq_false q (by rw [← hR]; exact h.2)), if_neg (fun q => absurd q.1 (by decide))] at hr
          rw [mm q]
          cases hr
          exact ⟨rfl, rfl⟩
  cases hd : decide (T < M)
  · obtain ⟨e1, e2⟩ := bey.2 hd
    have KG : Box (∀ w, Calls Tryd.prog 13 #[.int .u8 k, .bool o, .int .u64 ((wd M 0 : Nat) : Int)] w fun r w' => r = .returned (.int .u64 (t : Nat)) ∧ Below w.heap.size w w') := box (fun w => kreg k k0 o _ (wd_lt M 0) t e1.symm w)
    cases ex0
    · rw [if_neg (by decide)] at e2
      subst e2
      exact pq_cv_nf k f m x1 y1 o false false M T 0 _ _ (gt.trans hd) w KW KK KR KC KG hT
    · rw [if_pos rfl] at e2
      subst e2
      exact pq_cv_nt k f m x1 y1 o true false M T 0 _ _ (gt.trans hd) w KW KK KR KC KG hT
  · obtain ⟨rfl, e2⟩ := bey.1 hd
    exact pq_cv_b k f m x1 y1 o ex0 _ M T 0 _ _ (gt.trans hd) w KW KK KR KC (KB _ sg2) (KE _ t e2) hT
theorem al19 : tiX 0 2 1 48128 = (18446744073709551615, 0) ∧ okB 2 48128 = true := by
  have fin : 0 < kC 2 48128 ∧ kC 2 48128 < 7 := by decide +kernel
  have hr : tiR 2 1 48128 = (1, true) := by
    rw [tiR_parts (Or.inr (Or.inr (Or.inl rfl))) 1 48128 fin]
    decide +kernel
  refine ⟨?_, by decide +kernel⟩
  unfold tiX
  rw [if_neg (by omega), if_neg (by omega), if_neg (by omega), hr]
  decide +kernel
theorem r19alive (w : World) (hT : FAt w) : Calls Tryd.prog 6 #[] w fun r w' => r = .returned (.bool true) ∧ Below w.heap.size w w' :=
  r19alive0 (box (fun w hT => kConvert_is 0 2 1 (by decide) (by decide) (Or.inr (Or.inr (Or.inl rfl))) (by decide) 0 48128 48128 (by decide) (by decide) (by decide) al19.2 _ _ al19.1 w hT)) w hT
theorem tointWhole_fin (f : Int) (h0f : 0 ≤ f) (h1f : f ≤ 255) (m : Int) (h0m : 0 ≤ m) (h1m : m ≤ 255) (n : Int) (h0n : 0 ≤ n) (h1n : n ≤ 255) (x1 y1 a : Nat) (hx1 : x1 < 18446744073709551616) (hy1 : y1 < 18446744073709551616) (ha : y1 + 18446744073709551616 * x1 = a) (w : World) (hT : FAt w) : Calls Tryd.prog 3 #[.int .u8 f, .int .u8 m, .int .u8 n, .agg #[.int .u64 (x1 : Nat), .int .u64 (y1 : Nat)]] w fun r w' => r = .returned (.bool true) ∧ Below w.heap.size w w' :=
  whole_all f m n h0f h0n x1 y1 a hx1 hy1 ha (fun ok m4 t fl e => box (fun w hT => kConvert_is 0 f m (by decide) (by decide) (okB_yes h0f ok).1 ⟨h0m, m4⟩ x1 y1 a hx1 hy1 ha ok t fl e w hT)) (fun ok m4 t fl e => box (fun w hT => kConvert_is 2 f m (by decide) (by decide) (okB_yes h0f ok).1 ⟨h0m, m4⟩ x1 y1 a hx1 hy1 ha ok t fl e w hT)) (fun ok m4 t fl e => box (fun w hT => kConvert_is 3 f m (by decide) (by decide) (okB_yes h0f ok).1 ⟨h0m, m4⟩ x1 y1 a hx1 hy1 ha ok t fl e w hT)) (fun ok m4 t fl e => box (fun w hT => kConvert_is 0 f n (by decide) (by decide) (okB_yes h0f ok).1 ⟨h0n, m4⟩ x1 y1 a hx1 hy1 ha ok t fl e w hT)) (fun no => ⟨(box (fun w hT => kConvert_no 0 f m (by decide) (by decide) h0f h1f h0m x1 y1 a hx1 hy1 ha (fun q => no q.2) w hT)), (box (fun w hT => kConvert_no 2 f m (by decide) (by decide) h0f h1f h0m x1 y1 a hx1 hy1 ha (fun q => no q.2) w hT))⟩) (fun ok m4 o N ex e h => box (fun w hT => kWhole_is f m (okB_yes h0f ok).1 ⟨h0m, m4⟩ x1 y1 a hx1 hy1 ha ok o N ex e h w hT)) (fun no => box (fun w hT => kWhole_no f m h0f h1f h0m x1 y1 a hx1 hy1 ha no w hT)) (box (fun w hT => r19alive w hT)) w hT
end Go.Proofs.YtlpelcfaakfmiaaDoor
namespace Go.Proofs.YtlpelcfaakfmiaaDoor
set_option maxRecDepth 100000
set_option maxHeartbeats 40000000
set_option maxRecDepth 100000
open WMath
open Go.ChangeShapes Go.WideShapes Go.ChangeAt Go.RowKit
theorem trod_row4 {H : Type} {enc : TypeId × Value → H} {P : Program} {w : World} {base : Nat} {spare : Nat → Bool} {held : Bool} {t : TypeId} {f0 f1 f2 f3 : Field} {fuel : Nat} {cs : List Value} {x : DataW H × List MemPlace} (ht : P.underlying t = some (.struct #[f0, f1, f2, f3])) (h : DataW.trod enc P w base spare held fuel t cs = some x) :
    ∃ y0 y1 y2 y3 n, x = (.agg [y0.1, y1.1, y2.1, y3.1], y0.2 ++ (y1.2 ++ (y2.2 ++ y3.2))) ∧ DataW.trod enc P w base spare held n f0.type ((cs.drop f0.offset).take (P.cellsOf f0.type)) = some y0 ∧
      DataW.trod enc P w base spare held n f1.type ((cs.drop f1.offset).take (P.cellsOf f1.type)) = some y1 ∧ DataW.trod enc P w base spare held n f2.type ((cs.drop f2.offset).take (P.cellsOf f2.type)) = some y2 ∧
      DataW.trod enc P w base spare held n f3.type ((cs.drop f3.offset).take (P.cellsOf f3.type)) = some y3 := by
  obtain ⟨xs, n, _, rfl, hl, hlen, hf⟩ := DataW.trod_struct ht h
  match xs, hlen with
  | [y0, y1, y2, y3], _ => exact ⟨y0, y1, y2, y3, n, by simp, by simpa using hf 0 f0 rfl, by simpa using hf 1 f1 rfl, by simpa using hf 2 f2 rfl, by simpa using hf 3 f3 rfl⟩


theorem list4' {α : Type} (l : List α) (h : l.length = 4) : ∃ a b c d, l = [a, b, c, d] := by
  match l, h with
  | [a, b, c, d], _ => exact ⟨a, b, c, d, rfl⟩

theorem row_read {w : World} {fuel : Nat} {enc : TypeId × Value → Unit} {base : Nat} {spare : Nat → Bool} {held : Bool} {l : List Value} {a b c : Int} {s : List UInt8} {p : List MemPlace}
    (h : DataW.trod enc Tryd.prog w base spare held fuel 105 l = some (.agg [.lit (.int .i64 a), .lit (.int .i64 b), .lit (.int .i64 c), .lit (.string s)], p)) (hl : l.length = 4) :
    l = [.int .i64 a, .int .i64 b, .int .i64 c, .string ⟨⟨s⟩⟩] := by
  have h3 : Tryd.prog.cellsOf 3 = 1 := by kernel_rfl
  have h9 : Tryd.prog.cellsOf 9 = 1 := by kernel_rfl
  obtain ⟨c0, c1, c2, c3, rfl⟩ := list4' l hl
  obtain ⟨y0, y1, y2, y3, n, hx, g0, g1, g2, g3⟩ := trod_row4 Tryd.underlying105 h
  simp only [h3, h9] at g0 g1 g2 g3
  obtain ⟨x0, e0, k0, w0⟩ := DataW.trod_int Tryd.underlying3 g0
  obtain ⟨x1, e1, k1, w1⟩ := DataW.trod_int Tryd.underlying3 g1
  obtain ⟨x2, e2, k2, w2⟩ := DataW.trod_int Tryd.underlying3 g2
  obtain ⟨x3, e3, k3, w3⟩ := DataW.trod_string Tryd.underlying9 g3
  simp at e0 e1 e2 e3
  subst e0 e1 e2 e3
  rw [k0, k1, k2, k3] at hx
  simp at hx
  obtain ⟨⟨rfl, rfl, rfl, rfl⟩, _⟩ := hx
  rfl

theorem list6x {α : Type} (l : List α) (h : l.length = 6) : ∃ a b c d e f, l = [a, b, c, d, e, f] := by
  match l, h with
  | [a, b, c, d, e, f], _ => exact ⟨a, b, c, d, e, f, rfl⟩
theorem wide_read {w : World} {fuel : Nat} {enc : TypeId × Value → Unit} {base : Nat} {spare : Nat → Bool} {held : Bool} {l : List Value} {a0 a1 a2 a3 a4 a5 : Int} {p : List MemPlace}
    (h : DataW.trod enc Tryd.prog w base spare held fuel 35 l = some (.agg [.lit (.int .u64 a0), .lit (.int .u64 a1), .lit (.int .u64 a2), .lit (.int .u64 a3), .lit (.int .u64 a4), .lit (.int .u64 a5)], p)) (hl0 : l.length = 6) :
    l = [.int .u64 a0, .int .u64 a1, .int .u64 a2, .int .u64 a3, .int .u64 a4, .int .u64 a5] := by
  have hce : Tryd.prog.cellsOf 24 = 1 := by kernel_rfl
  obtain ⟨c0, c1, c2, c3, c4, c5, rfl⟩ := list6x l hl0
  obtain ⟨xs, m, hm, hx, hl, hxl, hel⟩ := DataW.trod_array Tryd.underlying35 h
  rw [hce] at hel
  match xs, hxl with
  | [y0, y1, y2, y3, y4, y5], _ =>
    have hx1 := congrArg Prod.fst hx
    simp at hx1
    obtain ⟨h0, h1, h2, h3, h4, h5⟩ := hx1
    have q0 := hel 0 (by decide)
    have q1 := hel 1 (by decide)
    have q2 := hel 2 (by decide)
    have q3 := hel 3 (by decide)
    have q4 := hel 4 (by decide)
    have q5 := hel 5 (by decide)
    simp only [List.getElem?_cons_zero, List.getElem?_cons_succ] at q0 q1 q2 q3 q4 q5
    obtain ⟨x0, e0, k0, w0⟩ := DataW.trod_int Tryd.underlying24 q0
    obtain ⟨x1, e1, k1, w1⟩ := DataW.trod_int Tryd.underlying24 q1
    obtain ⟨x2, e2, k2, w2⟩ := DataW.trod_int Tryd.underlying24 q2
    obtain ⟨x3, e3, k3, w3⟩ := DataW.trod_int Tryd.underlying24 q3
    obtain ⟨x4, e4, k4, w4⟩ := DataW.trod_int Tryd.underlying24 q4
    obtain ⟨x5, e5, k5, w5⟩ := DataW.trod_int Tryd.underlying24 q5
    simp at e0 e1 e2 e3 e4 e5
    subst e0 e1 e2 e3 e4 e5
    rw [k0] at h0
    rw [k1] at h1
    rw [k2] at h2
    rw [k3] at h3
    rw [k4] at h4
    rw [k5] at h5
    simp at h0 h1 h2 h3 h4 h5
    subst h0 h1 h2 h3 h4 h5
    rfl
def laid7 : List (String × DataW Unit) := [("abacus/shape.formats", Rows.laid_abacus_shape_formats), ("abacus/toint.below", Rows.laid_abacus_toint_below), ("abacus/toint.above", Rows.laid_abacus_toint_above)]
theorem gTab7 : Tryd.prog.globalNamed "abacus/shape.formats" = some 2 := by kernel_rfl
theorem gType7 : (Tryd.prog.globals[2]?).map (·.type) = some 116 := by kernel_rfl
theorem gTab_below : Tryd.prog.globalNamed "abacus/toint.below" = some 0 := by kernel_rfl
theorem gType_below : (Tryd.prog.globals[0]?).map (·.type) = some 60 := by kernel_rfl
def cells_below : Array Value := #[.int .u64 2147483648, .int .u64 0, .int .u64 0, .int .u64 0, .int .u64 0, .int .u64 0, .int .u64 0, .int .u64 0, .int .u64 0, .int .u64 0, .int .u64 0, .int .u64 0, .int .u64 9223372036854775808, .int .u64 0, .int .u64 0, .int .u64 0, .int .u64 0, .int .u64 0, .int .u64 0, .int .u64 0, .int .u64 0, .int .u64 0, .int .u64 0, .int .u64 0]
theorem of_below {W : World} {rest : List (String × DataW Unit)} (h : laidMet Tryd.prog (("abacus/toint.below", Rows.laid_abacus_toint_below) :: rest) W) : ∀ i, i < 24 → W.cell? ⟨0, i, none⟩ = cells_below[i]? := by
  have hce : Tryd.prog.cellsOf 35 = 6 := by kernel_rfl
  have hct : Tryd.prog.cellsOf 60 = 24 := by kernel_rfl
  obtain ⟨ps, ⟨g', t', cs, fuel, p, q, hg', ht', hvar, hd, _, _⟩, _⟩ := h
  obtain rfl := Option.some.inj (gTab_below.symm.trans hg')
  obtain rfl := Option.some.inj (gType_below.symm.trans ht')
  obtain ⟨xs, m, rfl, hx, hl, hxl, hel⟩ := DataW.trod_array Tryd.underlying60 hd
  rw [hce] at hel
  rw [hct] at hl
  have hl2 : cs.size = 24 := by simpa using hl
  match xs, hxl with
  | [y0, y1, y2, y3], _ =>
    have hx1 := congrArg Prod.fst hx
    simp [Rows.laid_abacus_toint_below] at hx1
    obtain ⟨h0, h1, h2, h3⟩ := hx1
    have q0 := hel 0 (by decide)
    have q1 := hel 1 (by decide)
    have q2 := hel 2 (by decide)
    have q3 := hel 3 (by decide)
    simp only [List.getElem?_cons_zero, List.getElem?_cons_succ] at q0 q1 q2 q3
    have z0 := wide_read (p := y0.2) (by rw [q0, h0]) (by simp; omega)
    have z1 := wide_read (p := y1.2) (by rw [q1, h1]) (by simp; omega)
    have z2 := wide_read (p := y2.2) (by rw [q2, h2]) (by simp; omega)
    have z3 := wide_read (p := y3.2) (by rw [q3, h3]) (by simp; omega)
    have hcs : ∀ i, i < 24 → cs.toList[i]? = cells_below[i]? := by
      intro i hi
      have e0 : cs.toList[i]? = (cs.toList.drop (i / 6 * 6))[i % 6]? := by rw [List.getElem?_drop]; congr 1; omega
      have e1 : (cs.toList.drop (i / 6 * 6))[i % 6]? = ((cs.toList.drop (i / 6 * 6)).take 6)[i % 6]? := by rw [List.getElem?_take, if_pos (by omega)]
      rw [e0, e1]
      have : i / 6 = 0 ∨ i / 6 = 1 ∨ i / 6 = 2 ∨ i / 6 = 3 := by omega
      have hj : i % 6 = 0 ∨ i % 6 = 1 ∨ i % 6 = 2 ∨ i % 6 = 3 ∨ i % 6 = 4 ∨ i % 6 = 5 := by omega
      have hi2 : i = i / 6 * 6 + i % 6 := by omega
      rcases this with e | e | e | e <;> rw [e] at hi2 ⊢ <;> rcases hj with k | k | k | k | k | k <;> rw [k] at hi2 ⊢ <;> subst hi2 <;> first | (rw [z0]; rfl) | (rw [z1]; rfl) | (rw [z2]; rfl) | (rw [z3]; rfl)
    intro i hi
    rw [World.var?_cell gTab_below hvar i, ← hcs i hi]
    simp
theorem gTab_above : Tryd.prog.globalNamed "abacus/toint.above" = some 1 := by kernel_rfl
theorem gType_above : (Tryd.prog.globals[1]?).map (·.type) = some 60 := by kernel_rfl
def cells_above : Array Value := #[.int .u64 2147483647, .int .u64 0, .int .u64 0, .int .u64 0, .int .u64 0, .int .u64 0, .int .u64 4294967295, .int .u64 0, .int .u64 0, .int .u64 0, .int .u64 0, .int .u64 0, .int .u64 9223372036854775807, .int .u64 0, .int .u64 0, .int .u64 0, .int .u64 0, .int .u64 0, .int .u64 18446744073709551615, .int .u64 0, .int .u64 0, .int .u64 0, .int .u64 0, .int .u64 0]
theorem of_above {W : World} {rest : List (String × DataW Unit)} (h : laidMet Tryd.prog (("abacus/toint.above", Rows.laid_abacus_toint_above) :: rest) W) : ∀ i, i < 24 → W.cell? ⟨1, i, none⟩ = cells_above[i]? := by
  have hce : Tryd.prog.cellsOf 35 = 6 := by kernel_rfl
  have hct : Tryd.prog.cellsOf 60 = 24 := by kernel_rfl
  obtain ⟨ps, ⟨g', t', cs, fuel, p, q, hg', ht', hvar, hd, _, _⟩, _⟩ := h
  obtain rfl := Option.some.inj (gTab_above.symm.trans hg')
  obtain rfl := Option.some.inj (gType_above.symm.trans ht')
  obtain ⟨xs, m, rfl, hx, hl, hxl, hel⟩ := DataW.trod_array Tryd.underlying60 hd
  rw [hce] at hel
  rw [hct] at hl
  have hl2 : cs.size = 24 := by simpa using hl
  match xs, hxl with
  | [y0, y1, y2, y3], _ =>
    have hx1 := congrArg Prod.fst hx
    simp [Rows.laid_abacus_toint_above] at hx1
    obtain ⟨h0, h1, h2, h3⟩ := hx1
    have q0 := hel 0 (by decide)
    have q1 := hel 1 (by decide)
    have q2 := hel 2 (by decide)
    have q3 := hel 3 (by decide)
    simp only [List.getElem?_cons_zero, List.getElem?_cons_succ] at q0 q1 q2 q3
    have z0 := wide_read (p := y0.2) (by rw [q0, h0]) (by simp; omega)
    have z1 := wide_read (p := y1.2) (by rw [q1, h1]) (by simp; omega)
    have z2 := wide_read (p := y2.2) (by rw [q2, h2]) (by simp; omega)
    have z3 := wide_read (p := y3.2) (by rw [q3, h3]) (by simp; omega)
    have hcs : ∀ i, i < 24 → cs.toList[i]? = cells_above[i]? := by
      intro i hi
      have e0 : cs.toList[i]? = (cs.toList.drop (i / 6 * 6))[i % 6]? := by rw [List.getElem?_drop]; congr 1; omega
      have e1 : (cs.toList.drop (i / 6 * 6))[i % 6]? = ((cs.toList.drop (i / 6 * 6)).take 6)[i % 6]? := by rw [List.getElem?_take, if_pos (by omega)]
      rw [e0, e1]
      have : i / 6 = 0 ∨ i / 6 = 1 ∨ i / 6 = 2 ∨ i / 6 = 3 := by omega
      have hj : i % 6 = 0 ∨ i % 6 = 1 ∨ i % 6 = 2 ∨ i % 6 = 3 ∨ i % 6 = 4 ∨ i % 6 = 5 := by omega
      have hi2 : i = i / 6 * 6 + i % 6 := by omega
      rcases this with e | e | e | e <;> rw [e] at hi2 ⊢ <;> rcases hj with k | k | k | k | k | k <;> rw [k] at hi2 ⊢ <;> subst hi2 <;> first | (rw [z0]; rfl) | (rw [z1]; rfl) | (rw [z2]; rfl) | (rw [z3]; rfl)
    intro i hi
    rw [World.var?_cell gTab_above hvar i, ← hcs i hi]
    simp
theorem of_laid7 {W : World} (h : laidMetH Tryd.prog laid7 W) : FAt W := by
  have hce : Tryd.prog.cellsOf 105 = 4 := by kernel_rfl
  have hct : Tryd.prog.cellsOf 116 = 16 := by kernel_rfl
  rw [MakeChecks.laidMetH_plain _ _ _ (by kernel_rfl)] at h
  have u1 := of_below (laidMet.tail h)
  have u2 := of_above (laidMet.tail (laidMet.tail h))
  obtain ⟨ps, ⟨g', t', cs, fuel, p, q, hg', ht', hvar, hd, _, _⟩, _⟩ := h
  obtain rfl := Option.some.inj (gTab7.symm.trans hg')
  obtain rfl := Option.some.inj (gType7.symm.trans ht')
  obtain ⟨xs, m, rfl, hx, hl, hxl, hel⟩ := DataW.trod_array Tryd.underlying116 hd
  rw [hce] at hel
  rw [hct] at hl
  have hl2 : cs.size = 16 := by simpa using hl
  match xs, hxl with
  | [y0, y1, y2, y3], _ =>
    have hx1 := congrArg Prod.fst hx
    simp [Rows.laid_abacus_shape_formats] at hx1
    obtain ⟨h0, h1, h2, h3⟩ := hx1
    have q0 := hel 0 (by decide)
    have q1 := hel 1 (by decide)
    have q2 := hel 2 (by decide)
    have q3 := hel 3 (by decide)
    simp only [List.getElem?_cons_zero, List.getElem?_cons_succ] at q0 q1 q2 q3
    have z0 := row_read (p := y0.2) (by rw [q0, h0]) (by simp; omega)
    have z1 := row_read (p := y1.2) (by rw [q1, h1]) (by simp; omega)
    have z2 := row_read (p := y2.2) (by rw [q2, h2]) (by simp; omega)
    have z3 := row_read (p := y3.2) (by rw [q3, h3]) (by simp; omega)
    have hcs : ∀ i, i < 16 → cs.toList[i]? = fcells[i]? := by
      intro i hi
      have e0 : cs.toList[i]? = (cs.toList.drop (i / 4 * 4))[i % 4]? := by rw [List.getElem?_drop]; congr 1; omega
      have e1 : (cs.toList.drop (i / 4 * 4))[i % 4]? = ((cs.toList.drop (i / 4 * 4)).take 4)[i % 4]? := by rw [List.getElem?_take, if_pos (by omega)]
      rw [e0, e1]
      have : i / 4 = 0 ∨ i / 4 = 1 ∨ i / 4 = 2 ∨ i / 4 = 3 := by omega
      have hj : i % 4 = 0 ∨ i % 4 = 1 ∨ i % 4 = 2 ∨ i % 4 = 3 := by omega
      have hi2 : i = i / 4 * 4 + i % 4 := by omega
      rcases this with e | e | e | e <;> rw [e] at hi2 ⊢ <;> rcases hj with k | k | k | k <;> rw [k] at hi2 ⊢ <;> subst hi2 <;> first | (rw [z0]; rfl) | (rw [z1]; rfl) | (rw [z2]; rfl) | (rw [z3]; rfl)
    refine ⟨?_, List.forall_mem_cons.2 ⟨u1 0 (by decide), List.forall_mem_cons.2 ⟨u1 1 (by decide), List.forall_mem_cons.2 ⟨u1 2 (by decide), List.forall_mem_cons.2 ⟨u1 3 (by decide), List.forall_mem_cons.2 ⟨u1 4 (by decide), List.forall_mem_cons.2 ⟨u1 5 (by decide), List.forall_mem_cons.2 ⟨u1 6 (by decide), List.forall_mem_cons.2 ⟨u1 7 (by decide), List.forall_mem_cons.2 ⟨u1 8 (by decide), List.forall_mem_cons.2 ⟨u1 9 (by decide), List.forall_mem_cons.2 ⟨u1 10 (by decide), List.forall_mem_cons.2 ⟨u1 11 (by decide), List.forall_mem_cons.2 ⟨u1 12 (by decide), List.forall_mem_cons.2 ⟨u1 13 (by decide), List.forall_mem_cons.2 ⟨u1 14 (by decide), List.forall_mem_cons.2 ⟨u1 15 (by decide), List.forall_mem_cons.2 ⟨u1 16 (by decide), List.forall_mem_cons.2 ⟨u1 17 (by decide), List.forall_mem_cons.2 ⟨u1 18 (by decide), List.forall_mem_cons.2 ⟨u1 19 (by decide), List.forall_mem_cons.2 ⟨u1 20 (by decide), List.forall_mem_cons.2 ⟨u1 21 (by decide), List.forall_mem_cons.2 ⟨u1 22 (by decide), List.forall_mem_cons.2 ⟨u1 23 (by decide), List.forall_mem_cons.2 ⟨u2 0 (by decide), List.forall_mem_cons.2 ⟨u2 1 (by decide), List.forall_mem_cons.2 ⟨u2 2 (by decide), List.forall_mem_cons.2 ⟨u2 3 (by decide), List.forall_mem_cons.2 ⟨u2 4 (by decide), List.forall_mem_cons.2 ⟨u2 5 (by decide), List.forall_mem_cons.2 ⟨u2 6 (by decide), List.forall_mem_cons.2 ⟨u2 7 (by decide), List.forall_mem_cons.2 ⟨u2 8 (by decide), List.forall_mem_cons.2 ⟨u2 9 (by decide), List.forall_mem_cons.2 ⟨u2 10 (by decide), List.forall_mem_cons.2 ⟨u2 11 (by decide), List.forall_mem_cons.2 ⟨u2 12 (by decide), List.forall_mem_cons.2 ⟨u2 13 (by decide), List.forall_mem_cons.2 ⟨u2 14 (by decide), List.forall_mem_cons.2 ⟨u2 15 (by decide), List.forall_mem_cons.2 ⟨u2 16 (by decide), List.forall_mem_cons.2 ⟨u2 17 (by decide), List.forall_mem_cons.2 ⟨u2 18 (by decide), List.forall_mem_cons.2 ⟨u2 19 (by decide), List.forall_mem_cons.2 ⟨u2 20 (by decide), List.forall_mem_cons.2 ⟨u2 21 (by decide), List.forall_mem_cons.2 ⟨u2 22 (by decide), List.forall_mem_cons.2 ⟨u2 23 (by decide), List.forall_mem_nil _⟩⟩⟩⟩⟩⟩⟩⟩⟩⟩⟩⟩⟩⟩⟩⟩⟩⟩⟩⟩⟩⟩⟩⟩⟩⟩⟩⟩⟩⟩⟩⟩⟩⟩⟩⟩⟩⟩⟩⟩⟩⟩⟩⟩⟩⟩⟩⟩⟩
    intro i hi
    rw [World.var?_cell gTab7 hvar i, ← hcs i hi]
    simp

theorem door_met7 (os : Os) (args : Array Value) : laidMetH Tryd.prog laid7 ((World.doorLaid Tryd.prog 400 os).forCall (fun _ _ => 0) ⟨#[], args, []⟩).memory :=
  laidMetH_of_parts3 (fuel := 8) (laidMet_of_run' 8 (by kernel_rfl) (by kernel_rfl)) (by kernel_rfl) (by kernel_rfl)
end Go.Proofs.YtlpelcfaakfmiaaDoor
