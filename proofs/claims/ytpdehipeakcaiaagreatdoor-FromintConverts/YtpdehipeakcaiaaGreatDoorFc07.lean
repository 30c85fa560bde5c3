/-
  What the functions that the statement reaches return: part 7 (S2, S3, S4, S6, K1, K3, K5, K6, KA, KD, KF, KU, V1, V2).
-/
import Derived.Lib.MinMax
import Derived.Deep.RegionHeld3
import Derived.Laws.CopyRow
import Derived.Test.YtpdehipeakcaiaaGreatDoorFc06
namespace Go.Proofs.YtpdehipeakcaiaaGreatDoor
set_option maxRecDepth 100000
set_option maxHeartbeats 40000000
set_option maxRecDepth 100000
open Go.RowKit WMath
theorem gen7 {X : Act → World → Prop} {t0 t1 t2 t3 t4 t5 t6 t7 t8 t10 t11 t12 t13 t14 t15 t16 t17 t18 t19 t20 t21 t22 t23 t24 t25 t26 t27 t28 : Value} {d : List Deferred} {w W : World} {I J : Int} {G : Nat}
    (key : ∀ w5 g, R7 w I J w5 g → X ⟨#[t0, t1, t2, t3, t4, t5, t6, t7, t8, .pointer (some ⟨g, 0, none⟩), t10, t11, t12, t13, t14, t15, t16, t17, t18, t19, t20, t21, t22, t23, t24, t25, t26, t27, t28], d⟩ w5) (r : R7 w I J W G) :
    X ⟨#[t0, t1, t2, t3, t4, t5, t6, t7, t8, .pointer (some ⟨G, 0, none⟩), t10, t11, t12, t13, t14, t15, t16, t17, t18, t19, t20, t21, t22, t23, t24, t25, t26, t27, t28], d⟩ W := key W G r

set_option maxHeartbeats 40000000 in
theorem s_pack_any (f x a b p n H L I J q m M N I' J' : Int) (neg : Bool) (h0 : 0 ≤ f) (h1 : f ≤ 255) (hc : fC f = 0) (hp : fP f = p) (hn : IntKind.u64.wrap (p - 1) = n) (n0 : 0 ≤ n) (n1 : n ≤ 18446744073709551615)
    (hH : rHi x n = H) (hL : rLo x n = L) (hI : bits .or .u64 H a = I) (hJ : bits .or .u64 L b = J) (hq : fW f = q) (hm : q - 1 = m) (m0 : 0 ≤ m) (m1 : m ≤ 127) (hM : rHi 1 m = M) (hN : rLo 1 m = N) (hI' : bits .or .u64 I M = I') (hJ' : bits .or .u64 J N = J') (w : World) (hT : FAt w) :
    Calls Tryz.prog 54 #[.int .u8 f, .bool neg, .int .u64 x, .agg #[.int .u64 a, .int .u64 b]] w fun e w' => e = .returned (.agg #[.int .u64 (if neg then I' else I), .int .u64 (if neg then J' else J)]) ∧ Below w.heap.size w w' := by
  have k1 : Box (∀ w : World, FAt w → Calls Tryz.prog 88 #[.int .u8 f] w fun e w' => e = .returned (.int .u64 n) ∧ w' = w.alloc (.cells (fR f) 104)) := box (fun w hw => s_fraction f p n h0 h1 hp hn w hw)
  have k2 := box (s_raised x n H L n0 n1 hH hL)
  have k3 := box (s_join H L a b I J hI hJ)
  have k0 := box (s_check_is f 0 h0 h1 hc)
  have k4 : Box (∀ w : World, FAt w → Calls Tryz.prog 89 #[.int .u8 f] w fun e w' => e = .returned (.int .i64 q) ∧ w' = w.alloc (.cells (fR f) 104)) := box (fun w hw => s_width f q h0 h1 hq w hw)
  have k5 := box (s_raised 1 m M N m0 (by omega) hM hN)
  have k6 := box (s_join I J M N I' J' hI' hJ')
  have T0 := box hT
  have TT := box (fatB hT (btr7 (bal7 w (.cells #[.int .u64 a, .int .u64 b] 27)) (bal7 _ (.cells #[.int .u64 0, .int .u64 0] 27))))
  have e1 : IntKind.i64.wrap (q - 1) = m := by rw [hm, IntKind.wrap_i64]; omega
  have e2 : IntKind.u64.wrap m = m := by rw [IntKind.wrap_u64]; omega
  have e3 : IntKind.i64.wrap m = m := by rw [IntKind.wrap_i64]; omega
  clear hT hp hn hH hL hI hJ hc h0 h1 n0 n1 hq hM hN hI' hJ' m0 m1 hm
  go_enter Tryz.func54, Tryz.ntmps54
  go_wp2_with fail
  refine (k0.out _).mono ?_
  rintro r w' ⟨rfl, rfl⟩
  go_wp2_with fail
  apply cut7
  · intro key
    go_region_with (first
      | (go_at_call 88; refine (k1.out _ (by repeat (first | exact TT.out | refine fat_al ?_ _ | refine fat_dr ?_))).mono ?_; rintro r w2 ⟨rfl, rfl⟩)
      | (go_at_call 87; refine (k2.out _).mono ?_; rintro r w2 ⟨rfl, rfl⟩)
      | (go_at_call 86; refine (k3.out _).mono ?_; rintro r w2 ⟨rfl, rfl⟩))
    all_goals
      refine gen7 (w := w) (I := I) (J := J) key ⟨?_, ?_, ?_, ?_⟩
      · repeat (first | exact Below.refl _ _ | refine bel_dr ?_ | refine bel_al ?_ _)
      · repeat (first | refine row_dr ?_ | (refine row_last ?_; simp only [size_al]; done) | refine row_al ?_ _)
      · repeat (first | refine row_dr ?_ | (refine row_last ?_; simp only [size_al]; done) | refine row_al ?_ _)
      · omega
  rintro w5 g ⟨B5, R5, S5, hg⟩
  have F5 := box (fatB T0.out B5)
  have c50 := cell7 R5 0 _ rfl
  have c51 := cell7 R5 1 _ rfl
  cases neg
  · have q0 := fz (k := 0) S5
    have q1 := fz (k := 1) S5
    have d0 := cell7 S5 0 _ rfl
    have d1 := cell7 S5 1 _ rfl
    obtain ⟨E0, E1⟩ := set2_cells S5 (.int .u64 I) (.int .u64 J)
    go_wp2
    exact bodyPost_ret (v := .agg #[.int .u64 I, .int .u64 J]) (by simp [results, Tryz.results54, go_sem, E0, E1]) rfl ⟨rfl, set2_below B5 (by omega) _ _⟩
  · have r1 := row_al R5 (.cells (fR f) 104)
    have r2 := row_al r1 (.cells #[.int .u64 M, .int .u64 N] 27)
    have r5 := row_al (row_al (row_al r2 (.cells #[.int .u64 I, .int .u64 J] 27)) (.cells #[.int .u64 M, .int .u64 N] 27)) (.cells #[.int .u64 I', .int .u64 J'] 27)
    have s5 := row_al (row_al (row_al (row_al (row_al S5 (.cells (fR f) 104)) (.cells #[.int .u64 M, .int .u64 N] 27)) (.cells #[.int .u64 I, .int .u64 J] 27)) (.cells #[.int .u64 M, .int .u64 N] 27)) (.cells #[.int .u64 I', .int .u64 J'] 27)
    have Q5 : Box (R7 w I' J' _ g) := box ⟨set2_below (bel_al (bel_al (bel_al (bel_al (bel_al B5 _) _) _) _) _) (by omega) (.int .u64 I') (.int .u64 J'), set2_row r5 _ _, by rw [setCell_other (by omega), setCell_other (by omega)]; exact s5, hg⟩
    have c10 := cell7 r1 0 _ rfl
    have c11 := cell7 r1 1 _ rfl
    have c20 := cell7 r2 0 _ rfl
    have c21 := cell7 r2 1 _ rfl
    have q0 := fz (k := 0) r5
    have q1 := fz (k := 1) r5
    have e50 := cell7 r5 0 _ rfl
    have e51 := cell7 r5 1 _ rfl
    clear r1 r2 r5 s5
    go_wp2_with fail
    apply cut7
    · intro key
      go_region_with (first
        | (go_at_call 89; refine (k4.out _ (by repeat (first | exact F5.out | refine fat_al ?_ _ | refine fat_dr ?_))).mono ?_; rintro r w2 ⟨rfl, rfl⟩)
        | (go_at_call 87; refine (k5.out _).mono ?_; rintro r w2 ⟨rfl, rfl⟩)
        | (go_at_call 86; refine (k6.out _).mono ?_; rintro r w2 ⟨rfl, rfl⟩))
      all_goals
        refine gen7 (w := w) (I := I') (J := J') key ?_
        exact ⟨bel_dr Q5.out.1, row_dr Q5.out.2.1, row_dr Q5.out.2.2.1, hg⟩
    clear R5 S5 F5 c50 c51 c10 c11 c20 c21 q0 q1 e50 e51 B5
    rintro w6 g6 ⟨B6, R6, S6, hg6⟩
    have c60 := cell7 R6 0 _ rfl
    have c61 := cell7 R6 1 _ rfl
    have q0 := fz (k := 0) S6
    have q1 := fz (k := 1) S6
    have d0 := cell7 S6 0 _ rfl
    have d1 := cell7 S6 1 _ rfl
    obtain ⟨E0, E1⟩ := set2_cells S6 (.int .u64 I') (.int .u64 J')
    go_wp2
    exact bodyPost_ret (v := .agg #[.int .u64 I', .int .u64 J']) (by simp [results, Tryz.results54, go_sem, E0, E1]) rfl ⟨rfl, set2_below B6 (by omega) _ _⟩
def pkHi (f : Int) (neg : Bool) (x a : Int) : Int := if neg then bits .or .u64 (bits .or .u64 (rHi x (IntKind.u64.wrap (fP f - 1))) a) (rHi 1 (fW f - 1)) else bits .or .u64 (rHi x (IntKind.u64.wrap (fP f - 1))) a
def pkLo (f : Int) (neg : Bool) (x b : Int) : Int := if neg then bits .or .u64 (bits .or .u64 (rLo x (IntKind.u64.wrap (fP f - 1))) b) (rLo 1 (fW f - 1)) else bits .or .u64 (rLo x (IntKind.u64.wrap (fP f - 1))) b

theorem s_pack_is (f x a b I J : Int) (neg : Bool) (hf : Is4 f) (hI : pkHi f neg x a = I) (hJ : pkLo f neg x b = J) (w : World) (hT : FAt w) :
    Calls Tryz.prog 54 #[.int .u8 f, .bool neg, .int .u64 x, .agg #[.int .u64 a, .int .u64 b]] w fun e w' => e = .returned (.agg #[.int .u64 I, .int .u64 J]) ∧ Below w.heap.size w w' := by
  subst hI hJ
  have k : 0 ≤ IntKind.u64.wrap (fP f - 1) ∧ IntKind.u64.wrap (fP f - 1) ≤ 18446744073709551615 ∧ 0 ≤ fW f - 1 ∧ fW f - 1 ≤ 127 ∧ fC f = 0 ∧ 0 ≤ f ∧ f ≤ 255 := by
    rcases hf with rfl | rfl | rfl | rfl <;> decide +kernel
  have h := s_pack_any f x a b _ _ _ _ _ _ _ _ _ _ _ _ neg k.2.2.2.2.2.1 k.2.2.2.2.2.2 k.2.2.2.2.1 rfl rfl k.1 k.2.1 rfl rfl rfl rfl rfl rfl k.2.2.1 k.2.2.2.1 rfl rfl rfl rfl w hT
  refine h.mono ?_
  rintro r w' ⟨rfl, b⟩
  refine ⟨?_, b⟩
  cases neg <;> rfl

theorem top7 {f : Int} (h : Is4 f) : IntKind.u64.wrap (IntKind.u64.wrap (2 ^ min (fW f - fP f).toNat 64) - 1) = (oV f : Int) := by
  rcases h with rfl | rfl | rfl | rfl <;> decide +kernel

theorem s_top_is (f : Int) (hf : Is4 f) (w : World) (hT : FAt w) :
    Calls Tryz.prog 100 #[.int .u8 f] w fun e w' => e = .returned (.int .u64 (oV f : Nat)) ∧ Below w.heap.size w w' :=
  s_top f _ _ _ _ (is4_ok hf).1 (is4_ok hf).2.1 rfl rfl rfl (is4_ok hf).2.2.2 (top7 hf) w hT

theorem pk_Inf {f : Int} (h : Is4 f) (neg : Bool) : pkHi f neg ((oV f : Nat)) (0) = ((bv7 (eInf f neg)).1 : Nat) ∧ pkLo f neg ((oV f : Nat)) (0) = ((bv7 (eInf f neg)).2 : Nat) := by
  rcases h with rfl | rfl | rfl | rfl <;> cases neg <;> decide +kernel
theorem pk_Zero {f : Int} (h : Is4 f) (neg : Bool) : pkHi f neg (0) (0) = ((bv7 (eZero f neg)).1 : Nat) ∧ pkLo f neg (0) (0) = ((bv7 (eZero f neg)).2 : Nat) := by
  rcases h with rfl | rfl | rfl | rfl <;> cases neg <;> decide +kernel
theorem pk_Greatest {f : Int} (h : Is4 f) (neg : Bool) : pkHi f neg (((oV f : Nat) : Int) - 1) ((if rLo 1 (fP f - 1) = 0 then IntKind.u64.wrap (rHi 1 (fP f - 1) - 1) else rHi 1 (fP f - 1))) = ((bv7 (eGreatest f neg)).1 : Nat) ∧ pkLo f neg (((oV f : Nat) : Int) - 1) (IntKind.u64.wrap (rLo 1 (fP f - 1) - 1)) = ((bv7 (eGreatest f neg)).2 : Nat) := by
  rcases h with rfl | rfl | rfl | rfl <;> cases neg <;> decide +kernel

set_option maxHeartbeats 1000000 in
theorem s_inf (f : Int) (neg : Bool) (hf : Is4 f) (v : Nat) (hv : eInf f neg = v) (w : World) (hT : FAt w) :
    Calls Tryz.prog 62 #[.int .u8 f, .bool neg] w fun e w' => e = .returned (bitsV (bv7 v)) ∧ Below w.heap.size w w' := by
  subst hv
  have TT := box hT
  have P := box (pk_Inf hf neg)
  obtain ⟨x, y, hxy⟩ : ∃ x y, bv7 (eInf f neg) = (x, y) := ⟨_, _, rfl⟩
  rw [hxy] at P ⊢
  have e0 : bitsV (x, y) = .agg #[.int .u64 (x : Nat), .int .u64 (y : Nat)] := rfl
  rw [e0]
  have f4 := is4_ok hf
  clear hxy hT e0
  have R0 : (w.alloc (.cells #[.int .u64 0, .int .u64 0] 27)).heap[w.heap.size]? = some (.cells #[.int .u64 0, .int .u64 0] 27) := last7 _ _
  have B0 := bal7 w (.cells #[.int .u64 0, .int .u64 0] 27)
  go_enter Tryz.func62, Tryz.ntmps62
  go_wp2_with fail
  refine (s_top_is f hf _ (fatB TT.out B0)).mono ?_
  rintro r w1 ⟨rfl, b1⟩
  have B1 := btr7 B0 b1
  have R1 := heap_of b1 _ _ _ R0
  clear B0 R0 b1
  go_wp2_with fail
  refine (s_pack_is f _ 0 0 _ _ neg hf P.out.1 P.out.2 _ (fatB TT.out B1)).mono ?_
  rintro r w2 ⟨rfl, b2⟩
  have B2 := btr7 B1 b2
  have R2 := heap_of b2 _ _ _ R1
  clear B1 R1 b2
  have q0 := fz (k := 0) R2
  have q1 := fz (k := 1) R2
  have d0 := cell7 R2 0 _ rfl
  have d1 := cell7 R2 1 _ rfl
  obtain ⟨E0, E1⟩ := set2_cells R2 (.int .u64 x) (.int .u64 y)
  go_wp2
  exact bodyPost_ret (v := .agg #[.int .u64 x, .int .u64 y]) (by simp [results, Tryz.results62, go_sem, E0, E1]) rfl ⟨rfl, set2_below B2 (by omega) _ _⟩

set_option maxHeartbeats 1000000 in
theorem s_zero (f : Int) (neg : Bool) (hf : Is4 f) (v : Nat) (hv : eZero f neg = v) (w : World) (hT : FAt w) :
    Calls Tryz.prog 22 #[.int .u8 f, .bool neg] w fun e w' => e = .returned (bitsV (bv7 v)) ∧ Below w.heap.size w w' := by
  subst hv
  have TT := box hT
  have P := box (pk_Zero hf neg)
  obtain ⟨x, y, hxy⟩ : ∃ x y, bv7 (eZero f neg) = (x, y) := ⟨_, _, rfl⟩
  rw [hxy] at P ⊢
  have e0 : bitsV (x, y) = .agg #[.int .u64 (x : Nat), .int .u64 (y : Nat)] := rfl
  rw [e0]
  have f4 := is4_ok hf
  clear hxy hT e0
  have R0 : (w.alloc (.cells #[.int .u64 0, .int .u64 0] 27)).heap[w.heap.size]? = some (.cells #[.int .u64 0, .int .u64 0] 27) := last7 _ _
  have B0 := bal7 w (.cells #[.int .u64 0, .int .u64 0] 27)
  go_enter Tryz.func22, Tryz.ntmps22
  go_wp2_with fail
  refine (s_pack_is f 0 0 0 _ _ neg hf P.out.1 P.out.2 _ (fatB TT.out B0)).mono ?_
  rintro r w1 ⟨rfl, b1⟩
  have B1 := btr7 B0 b1
  have R1 := heap_of b1 _ _ _ R0
  clear B0 R0 b1
  have q0 := fz (k := 0) R1
  have q1 := fz (k := 1) R1
  have d0 := cell7 R1 0 _ rfl
  have d1 := cell7 R1 1 _ rfl
  obtain ⟨E0, E1⟩ := set2_cells R1 (.int .u64 x) (.int .u64 y)
  go_wp2
  exact bodyPost_ret (v := .agg #[.int .u64 x, .int .u64 y]) (by simp [results, Tryz.results22, go_sem, E0, E1]) rfl ⟨rfl, set2_below B1 (by omega) _ _⟩

set_option maxHeartbeats 1000000 in
theorem s_greatest (f : Int) (neg : Bool) (hf : Is4 f) (v : Nat) (hv : eGreatest f neg = v) (w : World) (hT : FAt w) :
    Calls Tryz.prog 61 #[.int .u8 f, .bool neg] w fun e w' => e = .returned (bitsV (bv7 v)) ∧ Below w.heap.size w w' := by
  subst hv
  have TT := box hT
  have P := box (pk_Greatest hf neg)
  obtain ⟨x, y, hxy⟩ : ∃ x y, bv7 (eGreatest f neg) = (x, y) := ⟨_, _, rfl⟩
  rw [hxy] at P ⊢
  have e0 : bitsV (x, y) = .agg #[.int .u64 (x : Nat), .int .u64 (y : Nat)] := rfl
  rw [e0]
  have f4 := is4_ok hf
  clear hxy hT e0
  obtain ⟨p, hp⟩ : ∃ p : Int, fP f = p := ⟨_, rfl⟩
  obtain ⟨n, hn⟩ : ∃ n : Int, fP f - 1 = n := ⟨_, rfl⟩
  obtain ⟨H, hH⟩ : ∃ n : Int, rHi 1 (fP f - 1) = n := ⟨_, rfl⟩
  obtain ⟨L, hL⟩ : ∃ n : Int, rLo 1 (fP f - 1) = n := ⟨_, rfl⟩
  obtain ⟨K, hK⟩ : ∃ n : Int, (if L = 0 then IntKind.u64.wrap (H - 1) else H) = n := ⟨_, rfl⟩
  obtain ⟨M, hM⟩ : ∃ n : Int, IntKind.u64.wrap (L - 1) = n := ⟨_, rfl⟩
  obtain ⟨E, hE⟩ : ∃ n : Int, ((oV f : Nat) : Int) - 1 = n := ⟨_, rfl⟩
  have n0 : 0 ≤ n := by rw [← hn]; rcases hf with rfl | rfl | rfl | rfl <;> decide +kernel
  have n1 : n ≤ 18446744073709551615 := by rw [← hn]; rcases hf with rfl | rfl | rfl | rfl <;> decide +kernel
  have HN : Box (IntKind.u64.wrap (p - 1) = n) := box (by rw [← hn, ← hp]; rcases hf with rfl | rfl | rfl | rfl <;> decide +kernel)
  have w1 : IntKind.u64.wrap (((oV f : Nat) : Int) - 1) = E := by rw [← hE]; rcases hf with rfl | rfl | rfl | rfl <;> decide +kernel
  rw [hL, hH, hK, hM, hE] at P
  have HP := box hp
  have HH : Box (rHi 1 n = H) := box (by rw [← hn]; exact hH)
  have HL : Box (rLo 1 n = L) := box (by rw [← hn]; exact hL)
  have HK := box hK
  have HM := box hM
  clear hp hn hH hL hK hM hE
  have R0 : (w.alloc (.cells #[.int .u64 0, .int .u64 0] 27)).heap[w.heap.size]? = some (.cells #[.int .u64 0, .int .u64 0] 27) := last7 _ _
  have B0 := bal7 w (.cells #[.int .u64 0, .int .u64 0] 27)
  go_enter Tryz.func61, Tryz.ntmps61
  go_wp2_with fail
  refine (s_top_is f hf _ (fatB TT.out B0)).mono ?_
  rintro r w1 ⟨rfl, b1⟩
  have B1 := btr7 B0 b1
  have R1 := heap_of b1 _ _ _ R0
  clear B0 R0 b1
  go_wp2_with fail
  refine (s_fraction f p n f4.1 f4.2.1 HP.out HN.out _ (fatB TT.out B1)).mono ?_
  rintro r w' ⟨rfl, rfl⟩
  have B2 := bel_al B1 (.cells (fR f) 104)
  have R2 := row_al R1 (.cells (fR f) 104)
  clear B1 R1
  go_wp2_with fail
  refine (s_ones n H L n0 n1 HH.out HL.out K M HK.out HM.out _).mono ?_
  rintro r w3 ⟨rfl, b3⟩
  have B3 := btr7 B2 b3
  have R3 := heap_of b3 _ _ _ R2
  clear B2 R2 b3
  go_wp2_with fail
  refine (s_pack_is f E K M _ _ neg hf P.out.1 P.out.2 _ (fatB TT.out B3)).mono ?_
  rintro r w4 ⟨rfl, b4⟩
  have B4 := btr7 B3 b4
  have R4 := heap_of b4 _ _ _ R3
  clear B3 R3 b4
  have q0 := fz (k := 0) R4
  have q1 := fz (k := 1) R4
  have d0 := cell7 R4 0 _ rfl
  have d1 := cell7 R4 1 _ rfl
  obtain ⟨E0, E1⟩ := set2_cells R4 (.int .u64 x) (.int .u64 y)
  go_wp2
  exact bodyPost_ret (v := .agg #[.int .u64 x, .int .u64 y]) (by simp [results, Tryz.results61, go_sem, E0, E1]) rfl ⟨rfl, set2_below B4 (by omega) _ _⟩

theorem r_right (f : Int) (o : Bool) (ho : decide (f ≤ 3) = o) (w : World) :
    Calls Tryz.prog 11 #[.int .u8 f] w fun e w' => e = .returned (.bool o) ∧ w' = w := by
  go_enter Tryz.func11, Tryz.ntmps11
  go_wp2
  go_ret
  exact ⟨rfl, rfl⟩
theorem r_mode (f : Int) (o : Bool) (ho : decide (f ≤ 4) = o) (w : World) :
    Calls Tryz.prog 12 #[.int .u8 f] w fun e w' => e = .returned (.bool o) ∧ w' = w := by
  go_enter Tryz.func12, Tryz.ntmps12
  go_wp2
  go_ret
  exact ⟨rfl, rfl⟩
theorem r_width (f v : Int) (h0 : 0 ≤ f) (hv : fW f = v) (w : World) :
    Calls Tryz.prog 133 #[.int .u8 f] w fun e w' => e = .returned (.int .i64 v) ∧ w' = w := by
  subst hv
  rcases f_cases f h0 with rfl | rfl | rfl | rfl | h
  · go_enter Tryz.func133, Tryz.ntmps133
    go_wp2
    go_ret
    exact ⟨rfl, rfl⟩
  · go_enter Tryz.func133, Tryz.ntmps133
    go_wp2
    go_ret
    exact ⟨rfl, rfl⟩
  · go_enter Tryz.func133, Tryz.ntmps133
    go_wp2
    go_ret
    exact ⟨rfl, rfl⟩
  · go_enter Tryz.func133, Tryz.ntmps133
    go_wp2
    go_ret
    exact ⟨rfl, rfl⟩
  · have e0 : fW f = 0 := by unfold fW; rw [if_neg (by omega), if_neg (by omega), if_neg (by omega), if_neg (by omega)]
    rw [e0]
    have d0 : (f == 0) = false := by simp; omega
    have d1 : (f == 1) = false := by simp; omega
    have d2 : (f == 2) = false := by simp; omega
    have d3 : (f == 3) = false := by simp; omega
    go_enter Tryz.func133, Tryz.ntmps133
    go_wp2
    go_ret
    exact ⟨rfl, rfl⟩
theorem r_precision (f v : Int) (h0 : 0 ≤ f) (hv : fP f = v) (w : World) :
    Calls Tryz.prog 75 #[.int .u8 f] w fun e w' => e = .returned (.int .i64 v) ∧ w' = w := by
  subst hv
  rcases f_cases f h0 with rfl | rfl | rfl | rfl | h
  · go_enter Tryz.func75, Tryz.ntmps75
    go_wp2
    go_ret
    exact ⟨rfl, rfl⟩
  · go_enter Tryz.func75, Tryz.ntmps75
    go_wp2
    go_ret
    exact ⟨rfl, rfl⟩
  · go_enter Tryz.func75, Tryz.ntmps75
    go_wp2
    go_ret
    exact ⟨rfl, rfl⟩
  · go_enter Tryz.func75, Tryz.ntmps75
    go_wp2
    go_ret
    exact ⟨rfl, rfl⟩
  · have e0 : fP f = 0 := by unfold fP; rw [if_neg (by omega), if_neg (by omega), if_neg (by omega), if_neg (by omega)]
    rw [e0]
    have d0 : (f == 0) = false := by simp; omega
    have d1 : (f == 1) = false := by simp; omega
    have d2 : (f == 2) = false := by simp; omega
    have d3 : (f == 3) = false := by simp; omega
    go_enter Tryz.func75, Tryz.ntmps75
    go_wp2
    go_ret
    exact ⟨rfl, rfl⟩
theorem r_emax (f v : Int) (h0 : 0 ≤ f) (hv : fE f = v) (w : World) :
    Calls Tryz.prog 76 #[.int .u8 f] w fun e w' => e = .returned (.int .i64 v) ∧ w' = w := by
  subst hv
  rcases f_cases f h0 with rfl | rfl | rfl | rfl | h
  · go_enter Tryz.func76, Tryz.ntmps76
    go_wp2
    go_ret
    exact ⟨rfl, rfl⟩
  · go_enter Tryz.func76, Tryz.ntmps76
    go_wp2
    go_ret
    exact ⟨rfl, rfl⟩
  · go_enter Tryz.func76, Tryz.ntmps76
    go_wp2
    go_ret
    exact ⟨rfl, rfl⟩
  · go_enter Tryz.func76, Tryz.ntmps76
    go_wp2
    go_ret
    exact ⟨rfl, rfl⟩
  · have e0 : fE f = 0 := by unfold fE; rw [if_neg (by omega), if_neg (by omega), if_neg (by omega), if_neg (by omega)]
    rw [e0]
    have d0 : (f == 0) = false := by simp; omega
    have d1 : (f == 1) = false := by simp; omega
    have d2 : (f == 2) = false := by simp; omega
    have d3 : (f == 3) = false := by simp; omega
    go_enter Tryz.func76, Tryz.ntmps76
    go_wp2
    go_ret
    exact ⟨rfl, rfl⟩

theorem fE_lim {f m : Int} (h : fE f = m) : 0 ≤ m ∧ m ≤ 16383 := by rw [← h]; unfold fE; split <;> (try split) <;> (try split) <;> (try split) <;> omega
theorem fP_lim {f m : Int} (h : fP f = m) : 0 ≤ m ∧ m ≤ 113 := by rw [← h]; unfold fP; split <;> (try split) <;> (try split) <;> (try split) <;> omega
theorem fW_lim {f m : Int} (h : fW f = m) : 0 ≤ m ∧ m ≤ 128 := by rw [← h]; unfold fW; split <;> (try split) <;> (try split) <;> (try split) <;> omega

theorem r_emin (f m v : Int) (h0 : 0 ≤ f) (hm : fE f = m) (hv : (if fC f = 0 then 1 - m else 0) = v) (w : World) :
    Calls Tryz.prog 78 #[.int .u8 f] w fun e w' => e = .returned (.int .i64 v) ∧ w' = w := by
  have hm2 := fE_lim hm
  by_cases h : f ≤ 3
  · have hc : fC f = 0 := by unfold fC; rw [if_pos (by omega)]
    rw [if_pos hc] at hv
    subst hv
    have hw : IntKind.i64.wrap (1 - m) = 1 - m := by rw [IntKind.wrap_i64]; omega
    go_enter Tryz.func78, Tryz.ntmps78
    go_wp2_with fail
    refine (r_right f true (by simp [h]) _).mono ?_
    rintro r w' ⟨rfl, rfl⟩
    go_wp2_with fail
    refine (r_emax f m h0 hm _).mono ?_
    rintro r w' ⟨rfl, rfl⟩
    go_wp2
    go_ret
    exact ⟨rfl, rfl⟩
  · have hc : ¬ fC f = 0 := by unfold fC; rw [if_neg (by omega)]; decide
    rw [if_neg hc] at hv
    subst hv
    go_enter Tryz.func78, Tryz.ntmps78
    go_wp2_with fail
    refine (r_right f false (by simp; omega) _).mono ?_
    rintro r w' ⟨rfl, rfl⟩
    go_wp2
    go_ret
    exact ⟨rfl, rfl⟩

theorem r_ones (f m v : Int) (h0 : 0 ≤ f) (hm : fE f = m) (hv : 2 * m + 1 = v) (w : World) :
    Calls Tryz.prog 126 #[.int .u8 f] w fun e w' => e = .returned (.int .i64 v) ∧ w' = w := by
  have hm2 := fE_lim hm
  have h1 : IntKind.i64.wrap (2 * m) = 2 * m := by rw [IntKind.wrap_i64]; omega
  have h2 : IntKind.i64.wrap (2 * m + 1) = v := by rw [IntKind.wrap_i64]; omega
  go_enter Tryz.func126, Tryz.ntmps126
  go_wp2_with fail
  refine (r_emax f m h0 hm _).mono ?_
  rintro r w' ⟨rfl, rfl⟩
  go_wp2
  go_ret
  exact ⟨rfl, rfl⟩

theorem lt_Q7 {v : Nat} (h : v < 340282366920938463463374607431768211456) : v < Q := by
  have := bits_ltQ (v % 18446744073709551616) (v / 18446744073709551616) (Nat.mod_lt _ (by decide)) (by omega)
  omega
theorem wd01 {v : Nat} (h : v < 340282366920938463463374607431768211456) : wd v 0 = v % 18446744073709551616 ∧ wd v 1 = v / 18446744073709551616 := by
  constructor
  · unfold wd; rw [Nat.mul_zero, Nat.pow_zero, Nat.div_one]
  · unfold wd; rw [show 2 ^ (64 * 1) = 18446744073709551616 by decide, Nat.mod_eq_of_lt (by omega)]

theorem bel_set {w W : World} {b : Nat} {c : Array Value} (h : Below w.heap.size w W) (hb : w.heap.size ≤ b) : Below w.heap.size w (W.setRow b c) := Below.setRow h hb

set_option maxHeartbeats 2000000 in
theorem r_build (f p q : Int) (neg : Bool) (e T A B C v pn qn : Nat) (hf : Is4 f) (hp : fP f = p) (hq : fW f = q) (hpn : p - 1 = (pn : Int)) (hqn : q - 1 = (qn : Int)) (he : e < 65536) (hT : T < Q)
    (hA : e * 2 ^ pn = A) (lA : A < Q) (hB : A + T = B) (lB : B < 340282366920938463463374607431768211456) (hC : 1 * 2 ^ qn = C) (lC : C < Q) (hv : B + (if neg then C else 0) = v) (lv : v < 340282366920938463463374607431768211456) (w : World) :
    Calls Tryz.prog 112 #[.int .u8 f, .bool neg, .int .i64 (e : Nat), .agg (cw 6 T)] w fun r w' => r = .returned (bitsV (bv7 v)) ∧ Below w.heap.size w w' := by
  have hat := cw_at 6
  have hz := cw6z
  have hff := cw6f
  have hs0 := st0
  have hcs : ∀ x, ((cw 6 x).size = 6) = True := fun x => eq_true (cw_size 6 x)
  have f4 := is4_ok hf
  have p2 := fP_lim hp
  have q2 := fW_lim hq
  have f3 : f ≤ 3 := by rcases hf with rfl | rfl | rfl | rfl <;> decide
  have e1 : IntKind.i64.wrap (p - 1) = (pn : Int) := by rw [← hpn, IntKind.wrap_i64]; omega
  have e3 : IntKind.i64.wrap (q - 1) = (qn : Int) := by rw [← hqn, IntKind.wrap_i64]; omega
  have e2 : IntKind.u64.wrap (e : Int) = (e : Int) := by rw [IntKind.wrap_u64]; omega
  have lBQ := lt_Q7 lB
  have lvQ := lt_Q7 lv
  have cp : cnt6 (pn : Int) = pn := by unfold cnt6; omega
  have cq : cnt6 (qn : Int) = qn := by unfold cnt6; omega
  have KA : Box (∀ w : World, Calls Tryz.prog 130 #[.agg (cw 6 e), .int .i64 (pn : Nat)] w fun r w' => r = .returned (.tuple #[.agg (cw 6 A), .bool false]) ∧ Below w.heap.size w w') := box (fun w => rwleft_is e A pn false (lt_Q7 (by omega)) (by rw [cp, hA, Nat.mod_eq_of_lt lA]) (by rw [cp, hA]; simp; omega) w)
  have KB : Box (∀ w : World, Calls Tryz.prog 132 #[.agg (cw 6 A), .agg (cw 6 T)] w fun r w' => r = .returned (.tuple #[.agg (cw 6 B), .bool false]) ∧ Below w.heap.size w w') := box (fun w => rwadd_is A T B false lA hT (by rw [hB, Nat.mod_eq_of_lt lBQ]) (by rw [hB]; simp; omega) w)
  have KC : Box (∀ w : World, Calls Tryz.prog 130 #[.agg (cw 6 1), .int .i64 (qn : Nat)] w fun r w' => r = .returned (.tuple #[.agg (cw 6 C), .bool false]) ∧ Below w.heap.size w w') := box (fun w => rwleft_is 1 C qn false (lt_Q7 (by omega)) (by rw [cq, hC, Nat.mod_eq_of_lt lC]) (by rw [cq, hC]; simp; omega) w)
  have KD : Box (neg = true → ∀ w : World, Calls Tryz.prog 132 #[.agg (cw 6 B), .agg (cw 6 C)] w fun r w' => r = .returned (.tuple #[.agg (cw 6 v), .bool false]) ∧ Below w.heap.size w w') := box (fun hn w => by
    subst hn
    have hv' : B + C = v := by simpa using hv
    exact rwadd_is B C v false lBQ lC (by rw [hv', Nat.mod_eq_of_lt lvQ]) (by rw [hv']; simp; omega) w)
  have W01 := wd01 lv
  have KE : Box (∀ w : World, Calls Tryz.prog 134 #[.agg (cw 6 v)] w fun r w' => r = .returned (.tuple #[.agg #[.int .u64 (v / 18446744073709551616 : Nat), .int .u64 (v % 18446744073709551616 : Nat)], .bool true]) ∧ Below w.heap.size w w') := box (fun w => by
    have h := rwtobits_yes v lvQ (by rw [W01.1, W01.2]; omega) w
    rw [W01.1, W01.2] at h
    exact h)
  have KR := box (r_right f true (by simp [f3]))
  have KP := box (r_precision f p f4.1 hp)
  have KW := box (r_width f q f4.1 hq)
  have KO : Box (∀ w : World, Calls Tryz.prog 131 #[.int .u64 (e : Nat)] w fun r w' => r = .returned (.agg (cw 6 e)) ∧ Below w.heap.size w w') := box (fun w => rwof_any e (by omega) w)
  have K1 : Box (∀ w : World, Calls Tryz.prog 131 #[.int .u64 1] w fun r w' => r = .returned (.agg (cw 6 1)) ∧ Below w.heap.size w w') := box (fun w => rwof_any 1 (by omega) w)
  obtain ⟨vh, hvh⟩ : ∃ x : Nat, v / 18446744073709551616 = x := ⟨_, rfl⟩
  obtain ⟨vl, hvl⟩ : ∃ x : Nat, v % 18446744073709551616 = x := ⟨_, rfl⟩
  have eR : bitsV (bv7 v) = .agg #[.int .u64 (vh : Nat), .int .u64 (vl : Nat)] := by unfold bitsV bv7; rw [hvh, hvl]
  rw [eR]
  rw [hvh, hvl] at KE
  have RT : ((w.alloc (.cells (cw 6 T) 42)).alloc (.cells #[.int .u64 0, .int .u64 0] 27)).heap[w.heap.size]? = some (.cells (cw 6 T) 42) := row_al (last7 _ _) _
  have RR : ((w.alloc (.cells (cw 6 T) 42)).alloc (.cells #[.int .u64 0, .int .u64 0] 27)).heap[w.heap.size + 1]? = some (.cells #[.int .u64 0, .int .u64 0] 27) := row_last (by simp only [size_al])
  have B0 : Below w.heap.size w ((w.alloc (.cells (cw 6 T) 42)).alloc (.cells #[.int .u64 0, .int .u64 0] 27)) := btr7 (bal7 _ _) (bal7 _ _)
  have HV : Box (B + (if neg then C else 0) = v) := box hv
  have HL := box lB
  have HCL := box lC
  have HVL := box lvQ
  clear hA lA hB lB hC lC hv lv hT he hpn hqn f4 p2 q2 f3 hp hq cp cq W01 lBQ lvQ hvh hvl eR hf
  go_enter Tryz.func112, Tryz.ntmps112
  go_wp2_with fail
  refine (KR.out _).mono ?_
  rintro r w' ⟨rfl, rfl⟩
  go_wp2_with fail
  refine (KO.out _).mono ?_
  rintro r w1 ⟨rfl, b1⟩
  have B1 := btr7 B0 b1
  have RT1 := heap_of b1 _ _ _ RT
  have RR1 := heap_of b1 _ _ _ RR
  clear B0 RT RR b1
  go_wp2_with fail
  refine (KP.out _).mono ?_
  rintro r w' ⟨rfl, rfl⟩
  go_wp2_with fail
  refine (KA.out _).mono ?_
  rintro r w2 ⟨rfl, b2⟩
  have B2 := btr7 B1 b2
  have RT2 := heap_of b2 _ _ _ RT1
  have RR2 := heap_of b2 _ _ _ RR1
  clear B1 RT1 RR1 b2
  have S2 := B2.size
  have ZT := (Array.getElem?_eq_some_iff.1 RR2).1
  have RT3 := row_al RT2 (.cells (cw 6 A) 42)
  have RR3 := row_al RR2 (.cells (cw 6 A) 42)
  have RW3 : (w2.alloc (.cells (cw 6 A) 42)).heap[w2.heap.size]? = some (.cells (cw 6 A) 42) := last7 _ _
  have B3 := bel_al B2 (.cells (cw 6 A) 42)
  have c0 := row_cell RT3
  go_wp2_with fail
  refine (KB.out _).mono ?_
  rintro r w4 ⟨rfl, b4⟩
  have B4 := btr7 B3 b4
  have RR4 := heap_of b4 _ _ _ RR3
  have RW4 := heap_of b4 _ _ _ RW3
  clear B3 RR3 RW3 RT3 RT2 RR2 B2 b4 c0
  obtain ⟨g, hg⟩ : ∃ g, w2.heap.size = g := ⟨_, rfl⟩
  rw [hg] at RW4 ZT S2 ⊢
  clear hg
  have hst := st_any w4 g B A RW4
  have B5 : Below w.heap.size w (w4.setRow g (cw 6 B)) := bel_set B4 S2
  have RW5 : (w4.setRow g (cw 6 B)).heap[g]? = some (.cells (cw 6 B) 42) := setRow_row RW4
  have RR5 : (w4.setRow g (cw 6 B)).heap[w.heap.size + 1]? = some (.cells #[.int .u64 0, .int .u64 0] 27) := by rw [setRow_other (by omega)]; exact RR4
  obtain ⟨w5, hw5⟩ : ∃ w5, w4.setRow g (cw 6 B) = w5 := ⟨_, rfl⟩
  rw [hw5] at B5 RW5 RR5 hst
  clear B4 RW4 RR4
  have c5 := row_cell RW5
  have fin : Box (∀ (w6 : World) (b : Below w.heap.size w w6), w6.heap[w.heap.size + 1]? = some (.cells #[.int .u64 0, .int .u64 0] 27) → True) := box (fun _ _ _ => trivial)
  cases neg
  · have e5 : B = v := by have := HV.out; simpa using this
    subst e5
    clear fin
    go_wp2_with fail
    refine (KE.out _).mono ?_
    rintro r w6 ⟨rfl, b6⟩
    have B6 := btr7 B5 b6
    have RR6 := row_al (heap_of b6 _ _ _ RR5) (.cells #[.int .u64 vh, .int .u64 vl] 27)
    have RB6 : (w6.alloc (.cells #[.int .u64 vh, .int .u64 vl] 27)).heap[w6.heap.size]? = some (.cells #[.int .u64 vh, .int .u64 vl] 27) := last7 _ _
    have B7 := bel_al B6 (.cells #[.int .u64 vh, .int .u64 vl] 27)
    clear hst hw5 c5 RW5 RR5 B5 b6 B6
    have q0 := fz (k := 0) RR6
    have q1 := fz (k := 1) RR6
    have d0 := cell7 RR6 0 _ rfl
    have d1 := cell7 RR6 1 _ rfl
    obtain ⟨E0, E1⟩ := set2_cells RR6 (.int .u64 vh) (.int .u64 vl)
    go_wp2
    exact bodyPost_ret (v := .agg #[.int .u64 vh, .int .u64 vl]) (by simp [results, Tryz.results112, go_sem, E0, E1]) rfl ⟨rfl, set2_below B7 (by omega) _ _⟩
  · go_wp2_with fail
    refine (K1.out _).mono ?_
    rintro r w6 ⟨rfl, b6⟩
    have B6 := btr7 B5 b6
    have RR6 := heap_of b6 _ _ _ RR5
    have RW6 := heap_of b6 _ _ _ RW5
    clear B5 RR5 RW5 c5 hst hw5 b6
    go_wp2_with fail
    refine (KW.out _).mono ?_
    rintro r w' ⟨rfl, rfl⟩
    go_wp2_with fail
    refine (KC.out _).mono ?_
    rintro r w7 ⟨rfl, b7⟩
    have B7 := bel_al (btr7 B6 b7) (.cells (cw 6 C) 42)
    have RR7 := row_al (heap_of b7 _ _ _ RR6) (.cells (cw 6 C) 42)
    have RW7 := row_al (heap_of b7 _ _ _ RW6) (.cells (cw 6 C) 42)
    clear B6 RR6 RW6 b7
    have c7 := row_cell RW7
    go_wp2_with fail
    refine (KD.out (by simp) _).mono ?_
    rintro r w9 ⟨rfl, b9⟩
    have B9 := btr7 B7 b9
    have RR9 := heap_of b9 _ _ _ RR7
    have RW9 := heap_of b9 _ _ _ RW7
    clear B7 RR7 RW7 b9 c7
    have hst9 := st_any w9 g v B RW9
    have B10 : Below w.heap.size w (w9.setRow g (cw 6 v)) := bel_set B9 S2
    have RW10 : (w9.setRow g (cw 6 v)).heap[g]? = some (.cells (cw 6 v) 42) := setRow_row RW9
    have RR10 : (w9.setRow g (cw 6 v)).heap[w.heap.size + 1]? = some (.cells #[.int .u64 0, .int .u64 0] 27) := by rw [setRow_other (by omega)]; exact RR9
    obtain ⟨w10, hw10⟩ : ∃ w10, w9.setRow g (cw 6 v) = w10 := ⟨_, rfl⟩
    rw [hw10] at B10 RW10 RR10 hst9
    clear B9 RW9 RR9
    have c10 := row_cell RW10
    go_wp2_with fail
    refine (KE.out _).mono ?_
    rintro r w11 ⟨rfl, b11⟩
    have B11 := btr7 B10 b11
    have RR11 := row_al (heap_of b11 _ _ _ RR10) (.cells #[.int .u64 vh, .int .u64 vl] 27)
    have RB11 : (w11.alloc (.cells #[.int .u64 vh, .int .u64 vl] 27)).heap[w11.heap.size]? = some (.cells #[.int .u64 vh, .int .u64 vl] 27) := last7 _ _
    have B12 := bel_al B11 (.cells #[.int .u64 vh, .int .u64 vl] 27)
    clear hst9 hw10 c10 RW10 RR10 B10 b11 B11
    have q0 := fz (k := 0) RR11
    have q1 := fz (k := 1) RR11
    have d0 := cell7 RR11 0 _ rfl
    have d1 := cell7 RR11 1 _ rfl
    obtain ⟨E0, E1⟩ := set2_cells RR11 (.int .u64 vh) (.int .u64 vl)
    go_wp2
    exact bodyPost_ret (v := .agg #[.int .u64 vh, .int .u64 vl]) (by simp [results, Tryz.results112, go_sem, E0, E1]) rfl ⟨rfl, set2_below B12 (by omega) _ _⟩

theorem r_enc (f : Int) (neg : Bool) (e T v : Nat) (hf : Is4 f) (he : e < 32768) (hT : T < 2 ^ pV f) (hv : enc7 f neg e T = v) (hev : e ≤ oV f) (w : World) :
    Calls Tryz.prog 112 #[.int .u8 f, .bool neg, .int .i64 (e : Nat), .agg (cw 6 T)] w fun r w' => r = .returned (bitsV (bv7 v)) ∧ Below w.heap.size w w' := by
  subst hv
  have k : fP f - 1 = (pV f : Int) ∧ fW f - 1 = (wV f : Int) ∧ 2 ^ wV f ≤ 170141183460469231731687303715884105728 ∧ 2 ^ pV f ≤ 5192296858534827628530496329220096 ∧ (oV f + 1) * 2 ^ pV f ≤ 2 ^ wV f := by
    rcases hf with rfl | rfl | rfl | rfl <;> decide +kernel
  obtain ⟨k1, k2, k3, k4, k5⟩ := k
  unfold enc7
  obtain ⟨P, hP⟩ : ∃ P, 2 ^ pV f = P := ⟨_, rfl⟩
  obtain ⟨C, hC⟩ : ∃ C, 2 ^ wV f = C := ⟨_, rfl⟩
  rw [hP] at k4 k5 hT
  rw [hC] at k3 k5
  rw [hP, hC]
  have h1 : e * P ≤ oV f * P := Nat.mul_le_mul_right _ hev
  have h2 : (oV f + 1) * P = oV f * P + P := by rw [Nat.add_mul, Nat.one_mul]
  have h3 : (if neg = true then C else 0) ≤ C := by split <;> omega
  refine r_build f _ _ neg e T (e * P) (e * P + T) C _ (pV f) (wV f) hf rfl rfl k1 k2 (by omega) (lt_Q7 (by omega)) (by rw [hP]) (lt_Q7 (by omega)) rfl (by omega) (by rw [hC, Nat.one_mul]) (lt_Q7 (by omega)) rfl (by omega) w



set_option maxHeartbeats 1000000 in
theorem r_inf (f : Int) (neg : Bool) (hf : Is4 f) (v : Nat) (hv : eInf f neg = v) (w : World) :
    Calls Tryz.prog 106 #[.int .u8 f, .bool neg] w fun r w' => r = .returned (bitsV (bv7 v)) ∧ Below w.heap.size w w' := by
  have f4 := is4_ok hf
  have hz := cw6z
  have hff := cw6f
  obtain ⟨x, y, hxy⟩ : ∃ x y, bv7 v = (x, y) := ⟨_, _, rfl⟩
  have e0 : bitsV (bv7 v) = .agg #[.int .u64 (x : Nat), .int .u64 (y : Nat)] := by rw [hxy]; rfl
  obtain ⟨E, hE⟩ : ∃ E : Nat, oV f = E := ⟨_, rfl⟩
  obtain ⟨T, hT⟩ : ∃ T : Nat, 0 = T := ⟨_, rfl⟩
  have k := r_enc f neg E T v hf (by rw [← hE]; rcases hf with rfl | rfl | rfl | rfl <;> decide +kernel) (by rw [← hT]; rcases hf with rfl | rfl | rfl | rfl <;> decide +kernel) (by rw [← hE, ← hT]; exact hv) (by rw [← hE]; rcases hf with rfl | rfl | rfl | rfl <;> decide +kernel)
  rw [e0]
  rw [e0] at k
  have KB := box k
  clear k hv e0 hxy
  subst hT
  have HE := box hE
  clear hE
  have R0 : (w.alloc (.cells #[.int .u64 0, .int .u64 0] 27)).heap[w.heap.size]? = some (.cells #[.int .u64 0, .int .u64 0] 27) := last7 _ _
  have B0 := bal7 w (.cells #[.int .u64 0, .int .u64 0] 27)
  go_enter Tryz.func106, Tryz.ntmps106
  go_wp2_with fail
  refine (r_ones f _ (E : Int) f4.1 rfl (by rw [← HE.out]; rcases hf with rfl | rfl | rfl | rfl <;> decide +kernel) _).mono ?_
  rintro r w' ⟨rfl, rfl⟩
  go_wp2_with fail
  refine (KB.out _).mono ?_
  rintro r w1 ⟨rfl, b1⟩
  have B1 := btr7 B0 b1
  have R1 := heap_of b1 _ _ _ R0
  clear B0 R0 b1
  have q0 := fz (k := 0) R1
  have q1 := fz (k := 1) R1
  have d0 := cell7 R1 0 _ rfl
  have d1 := cell7 R1 1 _ rfl
  obtain ⟨E0, E1⟩ := set2_cells R1 (.int .u64 x) (.int .u64 y)
  go_wp2
  exact bodyPost_ret (v := .agg #[.int .u64 x, .int .u64 y]) (by simp [results, Tryz.results106, go_sem, E0, E1]) rfl ⟨rfl, set2_below B1 (by omega) _ _⟩

set_option maxHeartbeats 1000000 in
theorem r_zero (f : Int) (neg : Bool) (hf : Is4 f) (v : Nat) (hv : eZero f neg = v) (w : World) :
    Calls Tryz.prog 81 #[.int .u8 f, .bool neg] w fun r w' => r = .returned (bitsV (bv7 v)) ∧ Below w.heap.size w w' := by
  have f4 := is4_ok hf
  have hz := cw6z
  have hff := cw6f
  obtain ⟨x, y, hxy⟩ : ∃ x y, bv7 v = (x, y) := ⟨_, _, rfl⟩
  have e0 : bitsV (bv7 v) = .agg #[.int .u64 (x : Nat), .int .u64 (y : Nat)] := by rw [hxy]; rfl
  obtain ⟨E, hE⟩ : ∃ E : Nat, 0 = E := ⟨_, rfl⟩
  obtain ⟨T, hT⟩ : ∃ T : Nat, 0 = T := ⟨_, rfl⟩
  have k := r_enc f neg E T v hf (by rw [← hE]; rcases hf with rfl | rfl | rfl | rfl <;> decide +kernel) (by rw [← hT]; rcases hf with rfl | rfl | rfl | rfl <;> decide +kernel) (by rw [← hE, ← hT]; exact hv) (by rw [← hE]; rcases hf with rfl | rfl | rfl | rfl <;> decide +kernel)
  rw [e0]
  rw [e0] at k
  have KB := box k
  clear k hv e0 hxy
  subst hT
  subst hE
  have R0 : (w.alloc (.cells #[.int .u64 0, .int .u64 0] 27)).heap[w.heap.size]? = some (.cells #[.int .u64 0, .int .u64 0] 27) := last7 _ _
  have B0 := bal7 w (.cells #[.int .u64 0, .int .u64 0] 27)
  go_enter Tryz.func81, Tryz.ntmps81
  go_wp2_with fail
  refine (KB.out _).mono ?_
  rintro r w1 ⟨rfl, b1⟩
  have B1 := btr7 B0 b1
  have R1 := heap_of b1 _ _ _ R0
  clear B0 R0 b1
  have q0 := fz (k := 0) R1
  have q1 := fz (k := 1) R1
  have d0 := cell7 R1 0 _ rfl
  have d1 := cell7 R1 1 _ rfl
  obtain ⟨E0, E1⟩ := set2_cells R1 (.int .u64 x) (.int .u64 y)
  go_wp2
  exact bodyPost_ret (v := .agg #[.int .u64 x, .int .u64 y]) (by simp [results, Tryz.results81, go_sem, E0, E1]) rfl ⟨rfl, set2_below B1 (by omega) _ _⟩

set_option maxHeartbeats 1000000 in
theorem r_greatest (f : Int) (neg : Bool) (hf : Is4 f) (v : Nat) (hv : eGreatest f neg = v) (w : World) :
    Calls Tryz.prog 105 #[.int .u8 f, .bool neg] w fun r w' => r = .returned (bitsV (bv7 v)) ∧ Below w.heap.size w w' := by
  have f4 := is4_ok hf
  have hz := cw6z
  have hff := cw6f
  obtain ⟨x, y, hxy⟩ : ∃ x y, bv7 v = (x, y) := ⟨_, _, rfl⟩
  have e0 : bitsV (bv7 v) = .agg #[.int .u64 (x : Nat), .int .u64 (y : Nat)] := by rw [hxy]; rfl
  obtain ⟨E, hE⟩ : ∃ E : Nat, oV f - 1 = E := ⟨_, rfl⟩
  obtain ⟨T, hT⟩ : ∃ T : Nat, 2 ^ pV f - 1 = T := ⟨_, rfl⟩
  have k := r_enc f neg E T v hf (by rw [← hE]; rcases hf with rfl | rfl | rfl | rfl <;> decide +kernel) (by rw [← hT]; rcases hf with rfl | rfl | rfl | rfl <;> decide +kernel) (by rw [← hE, ← hT]; exact hv) (by rw [← hE]; rcases hf with rfl | rfl | rfl | rfl <;> decide +kernel)
  rw [e0]
  rw [e0] at k
  have KB := box k
  clear k hv e0 hxy
  obtain ⟨pn, hpn⟩ : ∃ pn : Nat, pV f = pn := ⟨_, rfl⟩
  obtain ⟨M, hM⟩ : ∃ M : Int, 2 * fE f + 1 = M := ⟨_, rfl⟩
  obtain ⟨p, hp⟩ : ∃ p : Int, fP f = p := ⟨_, rfl⟩
  have w1 : IntKind.i64.wrap (M - 1) = (E : Int) := by rw [← hE, ← hM]; rcases hf with rfl | rfl | rfl | rfl <;> decide +kernel
  have w2' : IntKind.i64.wrap (p - 1) = (pn : Int) := by rw [← hpn, ← hp]; rcases hf with rfl | rfl | rfl | rfl <;> decide +kernel
  have HK : Box (2 ^ cnt6 (pn : Int) - 1 = T) := box (by rw [← hT, ← hpn]; rcases hf with rfl | rfl | rfl | rfl <;> decide +kernel)
  have HM := box hM
  have HP := box hp
  clear hM hp hpn
  have HE := box hE
  clear hE
  have HT := box hT
  clear hT
  have R0 : (w.alloc (.cells #[.int .u64 0, .int .u64 0] 27)).heap[w.heap.size]? = some (.cells #[.int .u64 0, .int .u64 0] 27) := last7 _ _
  have B0 := bal7 w (.cells #[.int .u64 0, .int .u64 0] 27)
  go_enter Tryz.func105, Tryz.ntmps105
  go_wp2_with fail
  refine (r_ones f _ M f4.1 rfl HM.out _).mono ?_
  rintro r w' ⟨rfl, rfl⟩
  go_wp2_with fail
  refine (r_precision f p f4.1 HP.out _).mono ?_
  rintro r w' ⟨rfl, rfl⟩
  go_wp2_with fail
  refine (rwmask_is (pn : Int) T HK.out _).mono ?_
  rintro r w1 ⟨rfl, b1⟩
  have B1 := btr7 B0 b1
  have R1 := heap_of b1 _ _ _ R0
  clear B0 R0 b1
  go_wp2_with fail
  refine (KB.out _).mono ?_
  rintro r w2 ⟨rfl, b2⟩
  have B2 := btr7 B1 b2
  have R2 := heap_of b2 _ _ _ R1
  clear B1 R1 b2
  have q0 := fz (k := 0) R2
  have q1 := fz (k := 1) R2
  have d0 := cell7 R2 0 _ rfl
  have d1 := cell7 R2 1 _ rfl
  obtain ⟨E0, E1⟩ := set2_cells R2 (.int .u64 x) (.int .u64 y)
  go_wp2
  exact bodyPost_ret (v := .agg #[.int .u64 x, .int .u64 y]) (by simp [results, Tryz.results105, go_sem, E0, E1]) rfl ⟨rfl, set2_below B2 (by omega) _ _⟩

end Go.Proofs.YtpdehipeakcaiaaGreatDoor
namespace Go.Proofs.YtpdehipeakcaiaaGreatDoor
set_option maxRecDepth 100000
set_option maxHeartbeats 40000000
set_option maxRecDepth 100000
open Go.RowKit WMath
set_option linter.unusedVariables false
theorem is4_of {f : Int} (h0 : 0 ≤ f) (h : f ≤ 3) : Is4 f := by unfold Is4; omega


theorem blen_iff (n W : Nat) : blen n ≤ W ↔ n < 2 ^ W := by
  constructor
  · intro h
    exact Nat.lt_of_lt_of_le (blen_lt n) (Nat.pow_le_pow_right (by decide) h)
  · exact blen_le_of n W

end Go.Proofs.YtpdehipeakcaiaaGreatDoor
namespace Go.Proofs.YtpdehipeakcaiaaGreatDoor
set_option maxRecDepth 100000
set_option maxHeartbeats 40000000
set_option maxRecDepth 100000
open Go.RowKit WMath
def kN (f : Int) (n : Nat) : Bool := decide (n / 2 ^ wV f % 2 = 1)
def kE (f : Int) (n : Nat) : Nat := n / 2 ^ pV f % (oV f + 1)
def kT (f : Int) (n : Nat) : Nat := n % 2 ^ pV f
def kC (f : Int) (n : Nat) : Nat :=
  if kE f n = oV f then (if kT f n = 0 then (if kN f n then 0 else 7) else if 2 ^ (pV f - 1) ≤ kT f n then 9 else 8)
  else if kE f n ≠ 0 then (if kN f n then 1 else 6)
  else if kT f n ≠ 0 then (if kN f n then 2 else 5) else (if kN f n then 3 else 4)
def lx (f : Int) : Int := 1 - fE f - pV f
def kS (f : Int) (n : Nat) : Nat := if kC f n = 2 ∨ kC f n = 5 then kT f n else if kC f n = 1 ∨ kC f n = 6 then 2 ^ pV f + kT f n else 0
def kX (f : Int) (n : Nat) : Int := if kC f n = 2 ∨ kC f n = 5 then lx f else if kC f n = 1 ∨ kC f n = 6 then lx f + (kE f n : Int) - 1 else 0
def kF (f : Int) (n : Nat) : Nat := if kC f n = 8 ∨ kC f n = 9 then kT f n else 0
theorem fm {f : Int} (h : Is4 f) : 2 ^ wV f = (oV f + 1) * 2 ^ pV f ∧ 2 ≤ pV f ∧ 2 ^ pV f = 2 * 2 ^ (pV f - 1) ∧ 2 ^ (pV f - 1) ≥ 2 ∧ 3 ≤ oV f ∧ oV f < 32768 ∧ 2 * 2 ^ wV f ≤ 340282366920938463463374607431768211456 := by
  rcases h with rfl | rfl | rfl | rfl <;> decide +kernel
def kp (f : Int) (n : Nat) : Nat × Nat × Int × Nat := (kC f n, kS f n, kX f n, kF f n)
theorem xor_two (a b : Nat) : (a ^^^ b) % 2 = (a + b) % 2 := by
  have := @Nat.xor_mod_two_eq_one a b
  omega
theorem xor_bit : ∀ (k a : Nat), a ^^^ 2 ^ k = if a / 2 ^ k % 2 = 1 then a - 2 ^ k else a + 2 ^ k
  | 0, a => by
    have h1 : (a ^^^ 1) / 2 = a / 2 := by rw [Nat.xor_div_two]; simp
    have h2 : (a ^^^ 1) % 2 = (a + 1) % 2 := by rw [xor_two]
    rw [Nat.pow_zero, Nat.div_one]
    split <;> omega
  | k + 1, a => by
    have ih := xor_bit k (a / 2)
    have h1 : (a ^^^ 2 ^ (k + 1)) / 2 = a / 2 ^^^ 2 ^ k := by rw [Nat.xor_div_two, Nat.pow_succ, Nat.mul_div_cancel _ (by decide)]
    have h2 : (a ^^^ 2 ^ (k + 1)) % 2 = a % 2 := by rw [xor_two, Nat.pow_succ]; omega
    have h3 : a / 2 / 2 ^ k = a / 2 ^ (k + 1) := by rw [Nat.div_div_eq_div_mul, Nat.pow_succ, Nat.mul_comm]
    rw [ih, h3] at h1
    have h4 : a / 2 ^ (k + 1) % 2 = 1 → 2 ^ k ≤ a / 2 := fun h => by
      rw [← h3] at h
      by_cases c : 2 ^ k ≤ a / 2
      · exact c
      · rw [Nat.div_eq_of_lt (by omega)] at h; exact absurd h (by decide)
    rw [Nat.pow_succ] at h1 h2 h4 ⊢
    split at h1
    · rename_i c
      have := h4 c
      rw [if_pos c]; omega
    · rename_i c
      rw [if_neg c]; omega
def sgB (f : Int) (n : Nat) (neg : Bool) : Nat := if neg then n ^^^ 2 ^ wV f else n
theorem sgB_low {f : Int} {n : Nat} (hn : n < 2 ^ wV f) (neg : Bool) : sgB f n neg = n + (if neg then 2 ^ wV f else 0) := by
  unfold sgB
  cases neg
  · rfl
  · rw [if_pos rfl, xor_bit, Nat.div_eq_of_lt hn, if_neg (by decide), if_pos rfl]
def toB (s : Nat) : Nat := if s < 340282366920938463463374607431768211456 then s else 0
def plN (f : Int) (u : Nat) : Nat := u * 2 ^ pV f % (if f = 3 then 340282366920938463463374607431768211456 else 18446744073709551616)
def u64w (x : Int) : Nat := (x % 18446744073709551616).toNat
def fb (f : Int) (s : Nat) (x : Int) : Nat := (plN f (u64w (x - lx f)) + toB s) % 340282366920938463463374607431768211456
def eb (f : Int) (r : Nat) : Nat := (eInf f false + toB r) % 340282366920938463463374607431768211456
def mg (f : Int) (c s : Nat) (x : Int) (r : Nat) : Nat := if c = 3 ∨ c = 4 then 0 else if c = 1 ∨ c = 2 ∨ c = 5 ∨ c = 6 then fb f s x else eb f r
def gP (f : Int) (p : Nat × Nat × Int × Nat) : Nat := sgB f (mg f p.1 p.2.1 p.2.2.1 p.2.2.2) (decide (p.1 ≤ 3))
theorem fb_is {f : Int} (h : Is4 f) (k s : Nat) (hk : k ≤ oV f) (hs : k * 2 ^ pV f + s < 2 ^ wV f) : fb f s (lx f + k) = k * 2 ^ pV f + s := by
  obtain ⟨f1, f2, f3, f4, f5, f6, f7⟩ := fm h
  have e1 : u64w (lx f + k - lx f) = k := by
    unfold u64w
    rw [show lx f + (k : Int) - lx f = k by omega]
    omega
  have e2 : toB s = s := by unfold toB; rw [if_pos (by omega)]
  have e3 : plN f k = k * 2 ^ pV f := by
    unfold plN
    refine Nat.mod_eq_of_lt ?_
    have h2 : k * 2 ^ pV f < 2 ^ wV f := by omega
    have h3 : 2 ^ wV f ≤ (if f = 3 then 340282366920938463463374607431768211456 else 18446744073709551616) := by
      rcases h with rfl | rfl | rfl | rfl <;> decide +kernel
    omega
  unfold fb
  rw [e1, e2, e3, Nat.mod_eq_of_lt (by omega)]
def pk (f : Int) (p : Nat × Nat × Int × Nat) : Nat × Int := if kp f (gP f p) = p then (gP f p, 0) else (0, 80)
end Go.Proofs.YtpdehipeakcaiaaGreatDoor
namespace Go.Proofs.YtpdehipeakcaiaaGreatDoor
set_option maxRecDepth 100000
set_option maxHeartbeats 40000000
set_option maxRecDepth 100000
open Go.RowKit WMath
set_option linter.unusedSimpArgs false
set_option linter.unusedVariables false
theorem pow64 (k : Nat) : ((2 : Int) ^ k) = ((2 ^ k : Nat) : Int) := by norm_cast
theorem sk_zero (f : Int) (neg : Bool) (hf : Is4 f) (u v : Nat) (hv : bv7 (eZero f neg) = (u, v)) (w : World) (hT : FAt w) : Calls Tryz.prog 22 #[.int .u8 f, .bool neg] w fun r w' => r = .returned (.agg #[.int .u64 (u : Nat), .int .u64 (v : Nat)]) ∧ Below w.heap.size w w' := by
  have := s_zero f neg hf _ rfl w hT
  rw [hv] at this
  exact this
theorem sk_inf (f : Int) (neg : Bool) (hf : Is4 f) (u v : Nat) (hv : bv7 (eInf f neg) = (u, v)) (w : World) (hT : FAt w) : Calls Tryz.prog 62 #[.int .u8 f, .bool neg] w fun r w' => r = .returned (.agg #[.int .u64 (u : Nat), .int .u64 (v : Nat)]) ∧ Below w.heap.size w w' := by
  have := s_inf f neg hf _ rfl w hT
  rw [hv] at this
  exact this
theorem size_dr (W : World) : W.drew.heap.size = W.heap.size := rfl
theorem rk_enc (f : Int) (neg : Bool) (e T v a b : Nat) (hf : Is4 f) (hT : T < 2 ^ pV f) (hev : e ≤ oV f) (hv : enc7 f neg e T = v) (hab : bv7 v = (a, b)) (w : World) :
    Calls Tryz.prog 112 #[.int .u8 f, .bool neg, .int .i64 (e : Nat), .agg (cw 6 T)] w fun r w' => r = .returned (.agg #[.int .u64 (a : Nat), .int .u64 (b : Nat)]) ∧ Below w.heap.size w w' := by
  have h := r_enc f neg e T v hf (by have := (fm hf).2.2.2.2.2.1; omega) hT hv hev w
  rw [hab] at h
  exact h
def qt (f : Int) (n : Nat) : Nat := if kC f n = 8 then n + 2 ^ (pV f - 1) else n
theorem cnt_k8 {i : Nat} (h : i < 384) : cnt6 (i : Int) = i := by unfold cnt6; omega
theorem lt_128 {s : Nat} (hs : s < Q) : (wd s 0 + 18446744073709551616 * wd s 1 = s) ↔ s < 340282366920938463463374607431768211456 := by
  constructor
  · intro h
    have := wd_lt s 0
    have := wd_lt s 1
    omega
  · intro h
    rw [(wd01 h).1, (wd01 h).2]; omega
theorem ktobits_one (s u v : Nat) (hs : s < Q) (huv : bv7 (toB s) = (u, v)) : ∃ o, ∀ w, Calls Tryz.prog 63 #[.agg (cw 6 s)] w fun r w' => r = .returned (.tuple #[.agg #[.int .u64 (u : Nat), .int .u64 (v : Nat)], .bool o]) ∧ Below w.heap.size w w' := by
  unfold toB bv7 at huv
  by_cases h : s < 340282366920938463463374607431768211456
  · rw [if_pos h] at huv
    injection huv with h1 h2
    refine ⟨true, fun w => ?_⟩
    have k := wtobits_yes s hs ((lt_128 hs).2 h) w
    rw [(wd01 h).1, (wd01 h).2, h1, h2] at k
    exact k
  · rw [if_neg h] at huv
    injection huv with h1 h2
    refine ⟨false, fun w => ?_⟩
    have k := wtobits_no s hs (fun e => h ((lt_128 hs).1 e)) w
    rw [← h1, ← h2]
    exact k
theorem em_lim {f : Int} (hf : Is4 f) : IntKind.i64.wrap (1 - fE f - fP f) = 1 - fE f - fP f ∧ IntKind.i64.wrap (1 - fE f - fP f + 1) = lx f ∧ IntKind.i64.wrap (fE f - fP f) = fE f - fP f ∧ IntKind.i64.wrap (fE f - fP f + 1) = fE f - (pV f : Int) ∧ (if fC f = 0 then 1 - fE f else 0) = 1 - fE f ∧ 2 * fE f + 1 = (oV f : Int) ∧ 0 ≤ fE f ∧ fE f ≤ 16383 ∧ fP f = (pV f : Int) + 1 ∧ lx f = 1 - fE f - fP f + 1 ∧ pV f < 128 ∧ -16494 ≤ lx f ∧ lx f ≤ 0 := by
  rcases hf with rfl | rfl | rfl | rfl <;> decide +kernel
end Go.Proofs.YtpdehipeakcaiaaGreatDoor
namespace Go.Proofs.YtpdehipeakcaiaaGreatDoor
set_option maxRecDepth 100000
set_option maxHeartbeats 40000000
set_option maxRecDepth 100000
open Go.RowKit WMath XMath
set_option linter.unusedSimpArgs false
set_option linter.unusedVariables false
theorem blen_low (n : Nat) (h : n ≠ 0) : 1 ≤ blen n ∧ 2 ^ (blen n - 1) ≤ n ∧ n < 2 ^ blen n := by
  have h1 := blen_iff n (blen n - 1)
  have h2 := (blen_iff n (blen n)).1 (Nat.le_refl _)
  have h3 := blen_iff n 0
  have h4 : 1 ≤ blen n := by
    rcases Nat.eq_zero_or_pos (blen n) with e | e
    · have := h3.1 (by omega)
      rw [Nat.pow_zero] at this
      omega
    · exact e
  exact ⟨h4, by omega, h2⟩
theorem blen_one : blen 1 = 1 := by decide
theorem top_whole (b : Bool) (n : Nat) (e : Int) (h : n ≠ 0) : topX ⟨b, n, 1, e⟩ = (blen n : Int) - 1 + e := by
  obtain ⟨h1, h2, h3⟩ := blen_low n h
  unfold topX tA tB lenD
  simp only [blen_one]
  have e1 : (max (-((blen n : Int) - ((1 : Nat) : Int))) 0).toNat = 0 := by omega
  have e2 : (max ((blen n : Int) - ((1 : Nat) : Int)) 0).toNat = blen n - 1 := by omega
  rw [e1, e2, Nat.pow_zero, Nat.mul_one, Nat.one_mul, if_neg (by omega)]
  omega
def ofA (f : Int) (x : XN) : Int := max (topX x) (1 - fE f) - (pV f : Int)
def ofX (f : Int) (x : XN) : Nat × Bool :=
  if x.n = 0 then (0, true)
  else if fE f < topX x then (0, false)
  else if (flX x (ofA f x)).1.2 = true then (sgB f (fb f (flX x (ofA f x)).1.1 (ofA f x)) x.b, true) else (0, false)
theorem fl_no (x : XN) (a : Int) (hx : x.can) (n0 : x.n ≠ 0) (h : x.d ≠ 1 ∨ x.e < a) : (flX x a).1.2 = false := by
  have ho := hx.odd n0
  unfold flX
  split
  · rfl
  try rw [if_neg n0]
  split
  · rename_i hae
    have hd : x.d ≠ 1 := by omega
    split
    · simp only [decide_eq_false_iff_not]
      intro hm
      have h1 : x.d ∣ x.n * 2 ^ (x.e - a).toNat := Nat.dvd_of_mod_eq_zero hm
      have h2 : Nat.Coprime x.d (2 ^ (x.e - a).toNat) := by
        apply Nat.Coprime.pow_right
        have : Nat.Coprime 2 x.d := by
          rw [Nat.coprime_iff_gcd_eq_one, Nat.gcd_comm]
          have := Nat.gcd_rec 2 x.d
          rw [Nat.gcd_comm, Nat.gcd_rec, ho.2.1]
          rfl
        exact this.symm
      have h3 : x.d ∣ x.n := h2.dvd_of_dvd_mul_right h1
      have h4 : x.d ∣ Nat.gcd x.n x.d := Nat.dvd_gcd h3 (Nat.dvd_refl _)
      rw [ho.2.2] at h4
      exact hd (Nat.dvd_one.1 h4)
    · rfl
  · split <;> rfl
theorem fl_yes (x : XN) (a : Int) (n0 : x.n ≠ 0) (hd : x.d = 1) (h : a ≤ x.e) (h1 : -2097152 ≤ a) (h2 : a ≤ 2097152) (hl : nl (x.n * 2 ^ (x.e - a).toNat) ≤ 16384) : flX x a = ((x.n * 2 ^ (x.e - a).toNat, true), 0) := by
  unfold flX
  rw [if_neg (by omega), if_neg n0, if_pos h, if_pos hl, hd, Nat.div_one, Nat.mod_one]
  rfl
theorem nm8 {f : Int} (hf : Is4 f) : fE f - (pV f : Int) - lx f + 1 = ((oV f - 1 : Nat) : Int) ∧ 1 ≤ oV f ∧ lx f = 1 - fE f - (pV f : Int) ∧ pV f < 128 ∧ fE f ≤ 16383 ∧ 0 ≤ fE f := by
  rcases hf with rfl | rfl | rfl | rfl <;> decide +kernel
theorem of_yes {f : Int} (hf : Is4 f) (b : Bool) (n : Nat) (e : Int) (n0 : n ≠ 0) (ht : topX ⟨b, n, 1, e⟩ ≤ fE f) (ha : ofA f ⟨b, n, 1, e⟩ ≤ e) :
    ∃ m k t, m = n * 2 ^ (e - ofA f ⟨b, n, 1, e⟩).toNat ∧ k < oV f ∧ t < 2 ^ pV f ∧ ofX f ⟨b, n, 1, e⟩ = (enc7 f b k t, true) ∧ ((k = 0 ∧ m = t ∧ ofA f ⟨b, n, 1, e⟩ = lx f) ∨ (1 ≤ k ∧ m = 2 ^ pV f + t ∧ ofA f ⟨b, n, 1, e⟩ = lx f + (k : Int) - 1)) := by
  obtain ⟨g1, g2, g3, g4, g5, g6, g7⟩ := fm hf
  obtain ⟨n1, n2, n3, n4, n5, n6⟩ := nm8 hf
  obtain ⟨l1, l2, l3⟩ := blen_low n n0
  have tw := top_whole b n e n0
  obtain ⟨a, hA⟩ : ∃ a, ofA f ⟨b, n, 1, e⟩ = a := ⟨_, rfl⟩
  have hA2 := hA
  unfold ofA at hA2
  rw [hA] at ha ⊢
  rw [tw] at ht hA2
  obtain ⟨j, hj⟩ : ∃ j : Nat, (e - a).toNat = j := ⟨_, rfl⟩
  have hje : e = a + (j : Int) := by omega
  obtain ⟨m, hm⟩ : ∃ m, n * 2 ^ j = m := ⟨_, rfl⟩
  have m1 : 2 ^ (blen n - 1 + j) ≤ m := by rw [← hm, Nat.pow_add]; exact Nat.mul_le_mul_right _ l2
  have m2 : m < 2 ^ (blen n + j) := by rw [← hm, Nat.pow_add]; exact Nat.mul_lt_mul_of_pos_right l3 (Nat.two_pow_pos _)
  have lj : blen n + j ≤ pV f + 1 := by omega
  have m3 : m < 2 * 2 ^ pV f := by
    have := Nat.pow_le_pow_right (show 0 < 2 by decide) lj
    rw [Nat.pow_succ] at this
    omega
  have hl : nl m ≤ 16384 := nl_pow m (pV f + 1) (by rw [Nat.pow_succ]; omega) (by omega)
  obtain ⟨k, hk⟩ : ∃ k : Nat, a = lx f + (k : Int) := ⟨(a - lx f).toNat, by omega⟩
  have hk2 : k + 2 ≤ oV f := by omega
  have hb0 : (k + 2) * 2 ^ pV f ≤ oV f * 2 ^ pV f := Nat.mul_le_mul_right _ hk2
  have hb1 : k * 2 ^ pV f + m < 2 ^ wV f := by
    rw [g1, Nat.add_mul, Nat.one_mul]
    rw [Nat.add_mul] at hb0
    omega
  have hfb : fb f m a = k * 2 ^ pV f + m := by rw [hk]; exact fb_is hf k m (by omega) hb1
  have hof : ofX f ⟨b, n, 1, e⟩ = (sgB f (k * 2 ^ pV f + m) b, true) := by
    unfold ofX
    rw [hA, fl_yes ⟨b, n, 1, e⟩ a n0 rfl ha (by omega) (by omega) (by show nl (n * 2 ^ (e - a).toNat) ≤ 16384; rw [hj, hm]; exact hl)]
    simp only []
    rw [if_neg n0, if_neg (by rw [tw]; omega), if_pos trivial, hj, hm, hfb]
  rw [hj, hm]
  by_cases hs : m < 2 ^ pV f
  · have hk0 : k = 0 := by
      have : blen n - 1 + j < pV f := by
        rcases Nat.lt_or_ge (blen n - 1 + j) (pV f) with q | q
        · exact q
        · have := Nat.pow_le_pow_right (show 0 < 2 by decide) q
          omega
      omega
    subst hk0
    refine ⟨m, 0, m, rfl, by omega, hs, ?_, Or.inl ⟨rfl, rfl, by omega⟩⟩
    rw [hof, sgB_low hb1]
    unfold enc7
    rfl
  · have e1 : k * 2 ^ pV f + m = (k + 1) * 2 ^ pV f + (m - 2 ^ pV f) := by rw [Nat.add_mul]; omega
    refine ⟨m, k + 1, m - 2 ^ pV f, rfl, by omega, by omega, ?_, Or.inr ⟨by omega, by omega, by omega⟩⟩
    rw [hof, sgB_low hb1, e1]
    unfold enc7
    rfl
theorem of_no {f : Int} (x : XN) (hx : x.can) (n0 : x.n ≠ 0) (h : fE f < topX x ∨ x.d ≠ 1 ∨ x.e < ofA f x) : ofX f x = (0, false) := by
  unfold ofX
  rw [if_neg n0]
  by_cases h1 : fE f < topX x
  · rw [if_pos h1]
  · rw [if_neg h1, if_neg]
    rw [fl_no x _ hx n0 (by omega)]
    decide
theorem blen_is (n k : Nat) (h1 : 2 ^ k ≤ n) (h2 : n < 2 ^ (k + 1)) : blen n = k + 1 := by
  have a := (blen_iff n (k + 1)).2 h2
  have b := blen_iff n k
  omega
theorem blen_shift (n k : Nat) (h : n ≠ 0) : blen (n * 2 ^ k) = blen n + k := by
  obtain ⟨l1, l2, l3⟩ := blen_low n h
  have := blen_is (n * 2 ^ k) (blen n - 1 + k) (by rw [Nat.pow_add]; exact Nat.mul_le_mul_right _ l2) (by
    rw [show blen n - 1 + k + 1 = blen n + k by omega, Nat.pow_add]
    exact Nat.mul_lt_mul_of_pos_right l3 (Nat.two_pow_pos _))
  omega
theorem mk_whole (neg : Bool) (s : Nat) (x : Int) (s0 : s ≠ 0) (h1 : -1048576 ≤ x) (h2 : x + (tz s : Int) ≤ 1048576) : mk neg s 1 x = (⟨neg, od s, 1, x + (tz s : Int)⟩, 0) := by
  have o1 : od 1 = 1 := od_odd 1 rfl
  have t1 : tz 1 = 0 := tz_odd 1 rfl
  unfold mk
  rw [if_neg s0, o1, t1, Nat.gcd_one_right, Nat.div_one, Nat.div_one]
  rw [if_pos (by omega)]
  congr 2
  omega
def sV (f : Int) (e t : Nat) : Nat := if e = 0 then t else 2 ^ pV f + t
def xV (f : Int) (e : Nat) : Int := if e = 0 then lx f else lx f + (e : Int) - 1
theorem val_of {f : Int} (hf : Is4 f) (neg : Bool) (e t : Nat) (he : e < oV f) (ht : t < 2 ^ pV f) (nz : sV f e t ≠ 0) :
    mk neg (sV f e t) 1 (xV f e) = (⟨neg, od (sV f e t), 1, xV f e + (tz (sV f e t) : Int)⟩, 0) ∧ ofX f ⟨neg, od (sV f e t), 1, xV f e + (tz (sV f e t) : Int)⟩ = (enc7 f neg e t, true) ∧ ofA f ⟨neg, od (sV f e t), 1, xV f e + (tz (sV f e t) : Int)⟩ = xV f e := by
  obtain ⟨n1, n2, n3, n4, n5, n6⟩ := nm8 hf
  have oe : (oV f : Int) = 2 * fE f + 1 := by unfold oV; omega
  obtain ⟨s, hs⟩ : ∃ s, sV f e t = s := ⟨_, rfl⟩
  obtain ⟨x, hx⟩ : ∃ x, xV f e = x := ⟨_, rfl⟩
  rw [hs] at nz
  rw [hs, hx]
  obtain ⟨o1, o2⟩ := od_is s nz
  have od0 : od s ≠ 0 := by omega
  have bs : blen s = blen (od s) + tz s := by
    have := blen_shift (od s) (tz s) od0
    rw [← o1] at this
    exact this
  have tw := top_whole neg (od s) (x + (tz s : Int)) od0
  have tz1 := tz_blen s
  unfold sV at hs
  unfold xV at hx
  have sl : s < 2 * 2 ^ pV f := by split at hs <;> omega
  have bl : blen s ≤ pV f + 1 := (blen_iff s _).2 (by rw [Nat.pow_succ]; omega)
  have A : ofA f ⟨neg, od s, 1, x + (tz s : Int)⟩ = x ∧ topX ⟨neg, od s, 1, x + (tz s : Int)⟩ ≤ fE f := by
    unfold ofA
    rw [tw]
    by_cases e0 : e = 0
    · rw [if_pos e0] at hs hx
      have : blen s ≤ pV f := (blen_iff s _).2 (by omega)
      omega
    · rw [if_neg e0] at hs hx
      have : blen s = pV f + 1 := blen_is s (pV f) (by omega) (by rw [Nat.pow_succ]; omega)
      omega
  have xl : -20000 ≤ x ∧ x ≤ 20000 := by split at hx <;> omega
  refine ⟨mk_whole neg s x nz (by omega) (by omega), ?_, A.1⟩
  obtain ⟨m, k, t', h1, h2, h3, h4, h5⟩ := of_yes hf neg (od s) (x + (tz s : Int)) od0 A.2 (by rw [A.1]; omega)
  rw [A.1, show (x + (tz s : Int) - x).toNat = tz s by omega, ← o1] at h1
  rw [A.1] at h5
  rw [h4]
  by_cases e0 : e = 0
  · rw [if_pos e0] at hs hx
    rcases h5 with ⟨q1, q2, q3⟩ | ⟨q1, q2, q3⟩
    · rw [q1, e0, show t' = t by omega]
    · omega
  · rw [if_neg e0] at hs hx
    rcases h5 with ⟨q1, q2, q3⟩ | ⟨q1, q2, q3⟩
    · omega
    · rw [show k = e by omega, show t' = t by omega]
end Go.Proofs.YtpdehipeakcaiaaGreatDoor
