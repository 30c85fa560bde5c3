/-
  What the functions that the statement reaches return: part 14 (A3, A4, A5, A7).
-/
import Derived.Test.YtoaaajeblhaeoaaDoorAt13
namespace Go.Proofs.YtoaaajeblhaeoaaDoor
set_option maxRecDepth 100000
set_option maxHeartbeats 40000000
set_option maxRecDepth 100000
open Go.RowKit WMath XMath
set_option linter.unusedSimpArgs false
set_option linter.unusedVariables false
def kM (f : Int) (n : Nat) : Nat := kE f n * 2 ^ pV f + kT f n
theorem kC_all (f : Int) (n : Nat) : (kE f n = oV f ∧ kT f n = 0 ∧ kC f n = if kN f n then 0 else 7) ∨ (kE f n = oV f ∧ kT f n ≠ 0 ∧ kT f n < 2 ^ (pV f - 1) ∧ kC f n = 8) ∨ (kE f n = oV f ∧ 2 ^ (pV f - 1) ≤ kT f n ∧ kC f n = 9) ∨
    (kE f n < oV f ∧ kE f n ≠ 0 ∧ kC f n = if kN f n then 1 else 6) ∨ (kE f n < oV f ∧ kE f n = 0 ∧ kT f n ≠ 0 ∧ kC f n = if kN f n then 2 else 5) ∨ (kE f n < oV f ∧ kE f n = 0 ∧ kT f n = 0 ∧ kC f n = if kN f n then 3 else 4) := by
  have el := kE_le (f := f) n
  have p := Nat.two_pow_pos (pV f - 1)
  unfold kC
  by_cases c1 : kE f n = oV f
  · by_cases c2 : kT f n = 0
    · left
      refine ⟨c1, c2, ?_⟩
      (repeat' split) <;> first | rfl | omega | simp_all
    · by_cases c3 : kT f n < 2 ^ (pV f - 1)
      · right; left
        refine ⟨c1, c2, c3, ?_⟩
        (repeat' split) <;> first | rfl | omega | simp_all
      · right; right; left
        refine ⟨c1, by omega, ?_⟩
        (repeat' split) <;> first | rfl | omega | simp_all
  · by_cases c2 : kE f n = 0
    · by_cases c3 : kT f n = 0
      · right; right; right; right; right
        refine ⟨by omega, c2, c3, ?_⟩
        (repeat' split) <;> first | rfl | omega | simp_all
      · right; right; right; right; left
        refine ⟨by omega, c2, c3, ?_⟩
        (repeat' split) <;> first | rfl | omega | simp_all
    · right; right; right; left
      refine ⟨by omega, c2, ?_⟩
      (repeat' split) <;> first | rfl | omega | simp_all
theorem kM_ord {f : Int} {g l : Nat} (h : kM f l ≤ kM f g) : kE f l ≤ kE f g ∧ (kE f l = kE f g → kT f l ≤ kT f g) := by
  have t1 := kT_lt (f := f) g
  have t2 := kT_lt (f := f) l
  unfold kM at h
  refine ⟨?_, fun e => by rw [e] at h; omega⟩
  rcases Nat.lt_or_ge (kE f g) (kE f l) with c | c
  · exfalso
    have := Nat.mul_le_mul_right (2 ^ pV f) (show kE f g + 1 ≤ kE f l by omega)
    rw [Nat.add_mul, Nat.one_mul] at this
    omega
  · exact c
theorem kM_class {f : Int} {g l : Nat} (h : kM f l ≤ kM f g) : (kC f l = 9 → kC f g = 9) ∧ (kC f l = 0 ∨ kC f l = 7 → kC f g = 0 ∨ kC f g = 7 ∨ kC f g = 8 ∨ kC f g = 9) ∧ (kC f l = 8 → kC f g = 8 ∨ kC f g = 9) := by
  obtain ⟨o1, o2⟩ := kM_ord h
  have pp := Nat.two_pow_pos (pV f - 1)
  have eg := kE_le (f := f) g
  have cl := kC_all f l
  have cg := kC_all f g
  have sl : (if kN f l then (0 : Nat) else 7) = 0 ∨ (if kN f l then (0 : Nat) else 7) = 7 := by cases kN f l <;> simp
  have sg : (if kN f g then (0 : Nat) else 7) = 0 ∨ (if kN f g then (0 : Nat) else 7) = 7 := by cases kN f g <;> simp
  have s2 : (if kN f l then (1 : Nat) else 6) = 1 ∨ (if kN f l then (1 : Nat) else 6) = 6 := by cases kN f l <;> simp
  have s3 : (if kN f l then (2 : Nat) else 5) = 2 ∨ (if kN f l then (2 : Nat) else 5) = 5 := by cases kN f l <;> simp
  have s4 : (if kN f l then (3 : Nat) else 4) = 3 ∨ (if kN f l then (3 : Nat) else 4) = 4 := by cases kN f l <;> simp
  have s5 : (if kN f g then (1 : Nat) else 6) = 1 ∨ (if kN f g then (1 : Nat) else 6) = 6 := by cases kN f g <;> simp
  have s6 : (if kN f g then (2 : Nat) else 5) = 2 ∨ (if kN f g then (2 : Nat) else 5) = 5 := by cases kN f g <;> simp
  have s7 : (if kN f g then (3 : Nat) else 4) = 3 ∨ (if kN f g then (3 : Nat) else 4) = 4 := by cases kN f g <;> simp
  generalize (if kN f l then (0 : Nat) else 7) = a1 at *
  generalize (if kN f g then (0 : Nat) else 7) = a2 at *
  generalize (if kN f l then (1 : Nat) else 6) = a3 at *
  generalize (if kN f l then (2 : Nat) else 5) = a4 at *
  generalize (if kN f l then (3 : Nat) else 4) = a5 at *
  generalize (if kN f g then (1 : Nat) else 6) = a6 at *
  generalize (if kN f g then (2 : Nat) else 5) = a7 at *
  generalize (if kN f g then (3 : Nat) else 4) = a8 at *
  refine ⟨fun q => ?_, fun q => ?_, fun q => ?_⟩ <;> omega
theorem kC_sign {f : Int} (n : Nat) (h : 0 < kC f n ∧ kC f n < 7) : decide (kC f n ≤ 3) = kN f n := by
  have c := kC_all f n
  cases hn : kN f n
  · rw [hn] at c
    rw [decide_eq_false_iff_not]
    simp only [Bool.false_eq_true, if_false] at c
    omega
  · rw [hn] at c
    rw [decide_eq_true_iff]
    simp only [if_true] at c
    omega
theorem kM_dist {f : Int} (hf : Is4 f) {g l : Nat} (h : kM f l ≤ kM f g) (hg : kC f g = 1 ∨ kC f g = 2 ∨ kC f g = 5 ∨ kC f g = 6) (hl : kC f l = 1 ∨ kC f l = 2 ∨ kC f l = 5 ∨ kC f l = 6) :
    ∃ n : Nat, kX f g = kX f l + (n : Int) ∧ kS f l ≤ kS f g * 2 ^ n ∧ (8 * kS f l % 2 ^ n ≠ 0 → 2 ^ pV f ≤ kS f g) ∧ kS f l < 2 * 2 ^ pV f := by
  obtain ⟨o1, o2⟩ := kM_ord h
  obtain ⟨g1, g2, g3, g4⟩ := k_parts (f := f) g hg
  obtain ⟨l1, l2, l3, l4⟩ := k_parts (f := f) l hl
  have t1 := kT_lt (f := f) g
  have t2 := kT_lt (f := f) l
  rw [g2, g3, l2, l3]
  unfold sV xV
  generalize lx f = x
  generalize 2 ^ pV f = p at *
  generalize kE f g = eg at *
  generalize kE f l = el at *
  generalize kT f g = tg at *
  generalize kT f l = tl at *
  by_cases c0 : eg = 0
  · have c1 : el = 0 := by omega
    rw [if_pos c0, if_pos c0, if_pos c1, if_pos c1]
    exact ⟨0, by omega, by rw [Nat.pow_zero, Nat.mul_one]; exact o2 (by omega), fun q => absurd (by rw [Nat.pow_zero]; exact Nat.mod_one _) q, by omega⟩
  · rw [if_neg c0, if_neg c0]
    have big : ∀ n : Nat, 1 ≤ n → ∀ y, y < 2 * p → y ≤ (p + tg) * 2 ^ n := fun n hn y hy => by
      have : 2 ^ 1 ≤ 2 ^ n := Nat.pow_le_pow_right (by decide) hn
      have := Nat.mul_le_mul_left (p + tg) this
      omega
    by_cases c1 : el = 0
    · rw [if_pos c1, if_pos c1]
      refine ⟨eg - 1, by omega, ?_, fun _ => by omega, by omega⟩
      by_cases c2 : eg = 1
      · rw [c2, Nat.sub_self, Nat.pow_zero, Nat.mul_one]
        omega
      · exact big (eg - 1) (by omega) tl (by omega)
    · rw [if_neg c1, if_neg c1]
      refine ⟨eg - el, by omega, ?_, fun _ => by omega, by omega⟩
      by_cases c2 : el = eg
      · have := o2 c2
        rw [c2, Nat.sub_self, Nat.pow_zero, Nat.mul_one]
        omega
      · exact big (eg - el) (by omega) (p + tl) (by omega)
def adS (f : Int) (g l : Nat) : Nat := if kN f g = kN f l then 8 * kS f g + jr (8 * kS f l) (kX f g - kX f l).toNat else 8 * kS f g - jr (8 * kS f l) (kX f g - kX f l).toNat
def addG (f m : Int) (g l : Nat) : Nat × Int :=
  if kC f g = 8 ∨ kC f l = 8 then (eNaN f, 16)
  else if kC f g = 9 then (eNaN f, 0)
  else if kC f g = 0 ∨ kC f g = 7 then (if (kC f l = 0 ∨ kC f l = 7) ∧ kC f g ≠ kC f l then (eNaN f, 16) else (g, 0))
  else if adS f g l = 0 then (eZero f (if kN f g = kN f l then kN f g else decide (m = 2)), 0)
  else dlv f m (kN f g) (kX f g - 3 + (blen (adS f g l) : Int) - 1) (qW (pV f + 1) (adS f g l)) (qM (pV f + 1) (adS f g l) false)
def addR (f m : Int) (a b : Nat) : Nat × Int := if kM f a < kM f b then addG f m b a else addG f m a b
theorem jr_zero (n : Nat) : jr 0 n = 0 := by rw [jr_even 0 n (Nat.zero_mod _), Nat.zero_div]
theorem kM_lt {f : Int} (hf : Is4 f) (n : Nat) : kM f n < 340282366920938463463374607431768211456 := by
  have h := (enc_k hf false (kE_le (f := f) n) (kT_lt (f := f) n)).1
  have e : enc7 f false (kE f n) (kT f n) = kM f n := rfl
  rw [e] at h
  have := (fm hf).2.2.2.2.2.2
  unfold Fit at h
  omega
theorem kmag_is (f : Int) (hf : Is4 f) (x y n : Nat) (hx : x < 18446744073709551616) (hy : y < 18446744073709551616) (hn : y + 18446744073709551616 * x = n) (ho : okB f n = true) (w : World) (hT : FAt w) : Calls Tryd.prog 26 #[.int .u8 f, .agg #[.int .u64 x, .int .u64 y]] w fun r w' => r = .returned (.agg (cw 6 (kM f n))) ∧ Below w.heap.size w w' := by
  have fit := (okB_yes (is4_ok hf).1 ho).2
  have ke := k_enc hf fit
  have ml := kM_lt hf n
  cases hN : kN f n
  · have e : n = kM f n := by rw [hN] at ke; exact ke.symm
    exact ad_mag_no f x y _ w (box (fun w hT => kSign_yes f hf x y n false hx hy hn ho hN w hT)) (box (fun w => wofbits_is x y _ hx hy (by rw [hn]; exact e) w)) hT
  · have e : sgB f n true = kM f n := by
      have := flip_enc hf (kN f n) (kE_le (f := f) n) (kT_lt (f := f) n)
      rw [ke, hN] at this
      unfold sgB
      rw [if_pos rfl, this]
      rfl
    obtain ⟨u, v, hv⟩ : ∃ u v, bv7 (kM f n) = (u, v) := ⟨_, _, rfl⟩
    obtain ⟨i1, i2, i3⟩ := bv_lt ml hv
    exact ad_mag_yes f x y u v _ w (box (fun w hT => kSign_yes f hf x y n true hx hy hn ho hN w hT)) (box (fun w hT => kFlip_yes f hf x y n u v hx hy hn ho (by rw [e]; exact hv) w hT)) (box (fun w => wofbits_is u v _ i1 i2 i3 w)) hT
theorem q131 {s : Nat} (h : s < 2 ^ 128) : 8 * s < Q := Nat.lt_of_lt_of_le (show 8 * s < 2 ^ 131 by omega) (by decide +kernel)
theorem kraised (s : Nat) (h : s < 2 ^ 128) (w : World) : Calls Tryd.prog 63 #[.agg (cw 6 s)] w fun r w' => r = .returned (.agg (cw 6 (8 * s))) ∧ Below w.heap.size w w' :=
  ad_raised s (8 * s) _ w (box (fun w => wleft_is s (8 * s) 3 _ (Nat.lt_of_le_of_lt (by omega) (q131 h)) (by rw [show cnt6 3 = 3 by decide, Nat.mul_comm, show 2 ^ 3 = 8 from rfl]; exact Nat.mod_eq_of_lt (q131 h)) rfl w))
theorem jr_le {f : Int} (hf : Is4 f) {g l : Nat} (h : kM f l ≤ kM f g) (hg : 0 < kC f g ∧ kC f g < 7) (hl : 0 < kC f l ∧ kC f l < 7) : jr (8 * kS f l) (kX f g - kX f l).toNat ≤ 8 * kS f g := by
  by_cases zl : kC f l = 3 ∨ kC f l = 4
  · rw [(k_null l zl).1, Nat.mul_zero, jr_zero]
    exact Nat.zero_le _
  · by_cases zg : kC f g = 3 ∨ kC f g = 4
    · exfalso
      obtain ⟨o1, o2⟩ := kM_ord h
      have c1 := kC_all f g
      have c2 := kC_all f l
      have s5 : (if kN f g then (1 : Nat) else 6) = 1 ∨ (if kN f g then (1 : Nat) else 6) = 6 := by cases kN f g <;> simp
      have s6 : (if kN f g then (2 : Nat) else 5) = 2 ∨ (if kN f g then (2 : Nat) else 5) = 5 := by cases kN f g <;> simp
      have s7 : (if kN f l then (3 : Nat) else 4) = 3 ∨ (if kN f l then (3 : Nat) else 4) = 4 := by cases kN f l <;> simp
      have s8 : (if kN f g then (0 : Nat) else 7) = 0 ∨ (if kN f g then (0 : Nat) else 7) = 7 := by cases kN f g <;> simp
      generalize (if kN f g then (1 : Nat) else 6) = a1 at *
      generalize (if kN f g then (2 : Nat) else 5) = a2 at *
      generalize (if kN f l then (3 : Nat) else 4) = a3 at *
      generalize (if kN f g then (0 : Nat) else 7) = a4 at *
      omega
    · obtain ⟨n, d1, d2, d3, d4⟩ := kM_dist hf h (by omega) (by omega)
      rw [show (kX f g - kX f l).toNat = n by omega]
      exact (sum_unlike (pV f) _ _ n d3 d4 d2).1
theorem ktotal_is (f m : Int) (hf : Is4 f) (g l cg cl mg ml : Nat) (Xg Xl : Int) (r1 r2 : Nat) (h : kM f l ≤ kM f g) (hcg : kC f g = cg) (hcl : kC f l = cl) (hmg : kS f g = mg) (hml : kS f l = ml) (hXg : kX f g = Xg) (hXl : kX f l = Xl) (fg : 0 < cg ∧ cg < 7) (fl : 0 < cl ∧ cl < 7) (S : Nat) (hS : adS f g l = S) (neg : Bool) (hng : (if S = 0 then (if kN f g = kN f l then kN f g else decide (m = 2)) else kN f g) = neg) (w : World) :
    S < Q ∧ Calls Tryd.prog 30 #[.int .u8 m, .agg (pt cg mg Xg r1), .agg (pt cl ml Xl r2)] w fun r w' => r = .returned (.agg (rg neg S (Xg - 3) false)) ∧ Below w.heap.size w w' := by
  obtain ⟨a1, a2, a3⟩ := kS_lim hf g
  obtain ⟨b1, b2, b3⟩ := kS_lim hf l
  have jl := jr_le hf h (by rw [hcg]; exact fg) (by rw [hcl]; exact fl)
  have sg := kC_sign (f := f) g (by rw [hcg]; exact fg)
  have sl := kC_sign (f := f) l (by rw [hcl]; exact fl)
  rw [hcg] at sg
  rw [hcl] at sl
  unfold adS at hS
  rw [hmg] at a1 jl hS
  rw [hml] at b1 jl hS
  rw [hXg] at a2 a3 jl hS
  rw [hXl] at b2 b3 jl hS
  obtain ⟨o1, ho1⟩ : ∃ o, kN f g = o := ⟨_, rfl⟩
  obtain ⟨o2, ho2⟩ : ∃ o, kN f l = o := ⟨_, rfl⟩
  rw [ho1] at sg hng hS
  rw [ho2] at sl hng hS
  have KB1 : Box (∀ w, Calls Tryd.prog 62 #[.agg (pt cg mg Xg r1)] w fun r w' => r = .returned (.bool o1) ∧ Below w.heap.size w w') := box (fun w => ad_below cg mg Xg r1 o1 (by rw [← sg, decide_eq_decide]; omega) w)
  have KB2 : Box (∀ w, Calls Tryd.prog 62 #[.agg (pt cl ml Xl r2)] w fun r w' => r = .returned (.bool o2) ∧ Below w.heap.size w w') := box (fun w => ad_below cl ml Xl r2 o2 (by rw [← sl, decide_eq_decide]; omega) w)
  have KR1 := box (fun w => kraised mg a1 w)
  have KR2 := box (fun w => kraised ml b1 w)
  obtain ⟨L, hL⟩ : ∃ L, jr (8 * ml) (Xg - Xl).toNat = L := ⟨_, rfl⟩
  rw [hL] at jl hS
  have qg := q131 a1
  have ql := q131 b1
  have KJ : Box (∀ w, Calls Tryd.prog 64 #[.agg (cw 6 (8 * ml)), .int .i64 (Xg - Xl)] w fun r w' => r = .returned (.agg (cw 6 L)) ∧ Below w.heap.size w w') := box (fun w => jright_is (8 * ml) L (Xg - Xl) ql (by rw [jr_cnt6 _ _ ql]; exact hL) w)
  have LQ : L < Q := by rw [← hL]; exact jr_ltQ _ _ ql
  have w1 : IntKind.i64.wrap (Xg - Xl) = Xg - Xl := wrap_i64_is _ (by omega) (by omega)
  have w2 : IntKind.i64.wrap (Xg - 3) = Xg - 3 := wrap_i64_is _ (by omega) (by omega)
  by_cases c : o1 = o2
  · rw [if_pos c] at hS
    subst c
    have hn : o1 = neg := by
      rw [← hng]
      split <;> simp
    have SQ : S < Q := by
      rw [← hS]
      exact Nat.lt_of_le_of_lt (show 8 * mg + L ≤ 8 * (2 * mg) by omega) (Nat.lt_of_lt_of_le (show 8 * (2 * mg) < 2 ^ 132 by have : mg < 2 ^ 128 := a1; omega) (by decide +kernel))
    refine ⟨SQ, ?_⟩
    rw [← hn]
    exact ad_total_like m cg mg Xg r1 cl ml Xl r2 o1 _ _ S _ _ false w KB1 KB2 KR1 KR2 L KJ (box (fun w => wadd_is _ _ S false qg LQ (by rw [hS]; exact Nat.mod_eq_of_lt SQ) (decide_eq_false (by rw [hS]; omega)) w)) w1 w2
  · rw [if_neg c] at hS
    have SQ : S < Q := by omega
    refine ⟨SQ, ?_⟩
    have hd : (o1 == o2) = false := by cases o1 <;> cases o2 <;> simp_all
    have KA : Box (∀ w, Calls Tryd.prog 56 #[.agg (cw 6 (8 * mg)), .agg (cw 6 L)] w fun r w' => r = .returned (.tuple #[.agg (cw 6 S), .bool false]) ∧ Below w.heap.size w w') := box (fun w => wsub_is _ _ S false qg LQ (by rw [show 8 * mg + Q - L = S + Q by omega, Nat.add_mod_right]; exact Nat.mod_eq_of_lt SQ) (decide_eq_false (by omega)) w)
    by_cases z : S = 0
    · rw [if_pos z, if_neg c] at hng
      exact ad_total_zero m cg mg Xg r1 cl ml Xl r2 o1 o2 _ _ S _ _ false w KB1 KB2 KR1 KR2 L KJ KA neg hd (by rw [← hng]; rfl) SQ (eq_true z) w1 w2
    · rw [if_neg z] at hng
      rw [← hng]
      exact ad_total_un m cg mg Xg r1 cl ml Xl r2 o1 o2 _ _ S _ _ false w KB1 KB2 KR1 KR2 L KJ KA hd SQ (eq_false z) w1 w2
theorem bv_back {x y n u v : Nat} (hx : x < 18446744073709551616) (hy : y < 18446744073709551616) (hn : y + 18446744073709551616 * x = n) (hv : bv7 n = (u, v)) : x = u ∧ y = v := by
  unfold bv7 at hv
  injection hv with h1 h2
  omega
theorem kplus_n (f m : Int) (hf : Is4 f) (hm : 0 ≤ m ∧ m ≤ 4) (x1 y1 a x2 y2 b : Nat) (hx1 : x1 < 18446744073709551616) (hy1 : y1 < 18446744073709551616) (ha : y1 + 18446744073709551616 * x1 = a) (hx2 : x2 < 18446744073709551616) (hy2 : y2 < 18446744073709551616) (hb : y2 + 18446744073709551616 * x2 = b)
    (oa : okB f a = true) (ob : okB f b = true) (ho : kM f b ≤ kM f a) (M : Nat) (fl : Int) (hr : addG f m a b = (M, fl)) (u v : Nat) (hv : bv7 M = (u, v)) (w : World) (hT : FAt w) :
    Calls Tryd.prog 16 #[.int .u8 f, .int .u8 m, .agg #[.int .u64 x1, .int .u64 y1], .agg #[.int .u64 x2, .int .u64 y2]] w fun r w' => r = .returned (.tuple #[.agg #[.int .u64 u, .int .u64 v], .int .u8 fl, .int .i64 0]) ∧ Below w.heap.size w w' := by
  have KMa := box (fun w hT => kmag_is f hf x1 y1 a hx1 hy1 ha oa w hT)
  have KMb := box (fun w hT => kmag_is f hf x2 y2 b hx2 hy2 hb ob w hT)
  have KC := box (fun w => wcmp_is (kM f a) (kM f b) _ (lt_Q7 (kM_lt hf a)) (lt_Q7 (kM_lt hf b)) rfl w)
  have hc : decide (cmpv (kM f a) (kM f b) < 0) = false := by
    unfold cmpv
    (repeat' split) <;> first | decide | omega | (rw [decide_eq_false_iff_not]; omega)
  have hle : kM f b ≤ kM f a := by omega
  obtain ⟨k1, k2, k3⟩ := kM_class hle
  obtain ⟨sa1, sa2, sa3⟩ := kS_lim hf a
  obtain ⟨sb1, sb2, sb3⟩ := kS_lim hf b
  obtain ⟨c1, Aa⟩ : ∃ c, kC f a = c := ⟨_, rfl⟩
  obtain ⟨c2, Ab⟩ : ∃ c, kC f b = c := ⟨_, rfl⟩
  obtain ⟨m1, hm1⟩ : ∃ c, kS f a = c := ⟨_, rfl⟩
  obtain ⟨m2, hm2⟩ : ∃ c, kS f b = c := ⟨_, rfl⟩
  obtain ⟨X1, hX1⟩ : ∃ c, kX f a = c := ⟨_, rfl⟩
  obtain ⟨X2, hX2⟩ : ∃ c, kX f b = c := ⟨_, rfl⟩
  have KU1 : Box (∀ w, FAt w → Calls Tryd.prog 27 #[.int .u8 f, .agg #[.int .u64 x1, .int .u64 y1]] w fun r w' => r = .returned (.tuple #[.agg (pt c1 m1 X1 (kF f a)), .int .i64 0]) ∧ Below w.heap.size w w') := box (fun w hT => kUnpack_yes f hf x1 y1 a c1 m1 (kF f a) X1 hx1 hy1 ha oa (by unfold kp; rw [Aa, hm1, hX1]) w hT)
  have KU2 : Box (∀ w, FAt w → Calls Tryd.prog 27 #[.int .u8 f, .agg #[.int .u64 x2, .int .u64 y2]] w fun r w' => r = .returned (.tuple #[.agg (pt c2 m2 X2 (kF f b)), .int .i64 0]) ∧ Below w.heap.size w w') := box (fun w hT => kUnpack_yes f hf x2 y2 b c2 m2 (kF f b) X2 hx2 hy2 hb ob (by unfold kp; rw [Ab, hm2, hX2]) w hT)
  have lc1 : c1 < 10 := by rw [← Aa]; exact kC_lt f _
  have lc2 : c2 < 10 := by rw [← Ab]; exact kC_lt f _
  unfold addG at hr
  rw [Aa, Ab] at hr k1 k2 k3
  have KN : bv7 (eNaN f) = (u, v) → Box (∀ w, FAt w → Calls Tryd.prog 28 #[.int .u8 f] w fun r w' => r = .returned (.agg #[.int .u64 u, .int .u64 v]) ∧ Below w.heap.size w w') := fun h => box (fun w hT => kNaN_is f hf u v h w hT)
  by_cases a1 : c1 = 8 ∨ c2 = 8
  · rw [if_pos a1] at hr
    injection hr with r1 r2
    subst r1 r2
    by_cases a2 : c1 = 8
    · exact ad_plus_nsx f m x1 y1 x2 y2 u v _ _ _ c1 m1 X1 _ c2 m2 X2 _ false 0 0 0 w hc (ieq (by omega)) KMa KMb KC KU1 KU2 (KN hv) hT
    · exact ad_plus_nsy f m x1 y1 x2 y2 u v _ _ _ c1 m1 X1 _ c2 m2 X2 _ false 0 0 0 w hc (ine (by omega)) (ieq (by omega)) KMa KMb KC KU1 KU2 (KN hv) hT
  rw [if_neg a1] at hr
  have h18 : ((c1 : Int) == 8) = false := ine (by omega)
  have h28 : ((c2 : Int) == 8) = false := ine (by omega)
  by_cases b1 : c1 = 9
  · rw [if_pos b1] at hr
    injection hr with r1 r2
    subst r1 r2
    exact ad_plus_nq f m x1 y1 x2 y2 u v _ _ _ c1 m1 X1 _ c2 m2 X2 _ false 0 0 0 w hc h18 h28 (ieq (by omega)) KMa KMb KC KU1 KU2 (KN hv) hT
  rw [if_neg b1] at hr
  have h19 : ((c1 : Int) == 9) = false := ine (by omega)
  have KE1 : ∀ o, decide (c1 = 0 ∨ c1 = 7) = o → Box (∀ w, Calls Tryd.prog 29 #[.int .u8 c1] w fun r w' => r = .returned (.bool o) ∧ Below w.heap.size w w') := fun o h => box (fun w => op_endless c1 o (by rw [← Bool.decide_or]; exact h) w)
  have KE2 : ∀ o, decide (c2 = 0 ∨ c2 = 7) = o → Box (∀ w, Calls Tryd.prog 29 #[.int .u8 c2] w fun r w' => r = .returned (.bool o) ∧ Below w.heap.size w w') := fun o h => box (fun w => op_endless c2 o (by rw [← Bool.decide_or]; exact h) w)
  by_cases e1 : c1 = 0 ∨ c1 = 7
  · rw [if_pos e1] at hr
    have KE1 := KE1 true (decide_eq_true e1)
    by_cases e2 : c2 = 0 ∨ c2 = 7
    · have KE2 := KE2 true (decide_eq_true e2)
      by_cases e3 : c1 ≠ c2
      · rw [if_pos ⟨e2, e3⟩] at hr
        injection hr with r1 r2
        subst r1 r2
        exact ad_plus_nii f m x1 y1 x2 y2 u v _ _ _ c1 m1 X1 _ c2 m2 X2 _ false 0 0 0 w hc h18 h28 h19 (by simp only [bne_iff_ne, ne_eq]; omega) KMa KMb KC KU1 KU2 KE1 KE2 (KN hv) hT
      · rw [if_neg (fun q => e3 q.2)] at hr
        injection hr with r1 r2
        subst r1 r2
        obtain ⟨v1, v2⟩ := bv_back hx1 hy1 ha hv
        subst v1 v2
        exact ad_plus_nis f m x1 y1 x2 y2 0 0 _ _ _ c1 m1 X1 _ c2 m2 X2 _ false 0 0 0 w hc h18 h28 h19 (by rw [show c1 = c2 by omega]; simp) KMa KMb KC KU1 KU2 KE1 KE2 hT
    · have KE2 := KE2 false (decide_eq_false e2)
      rw [if_neg (fun q => e2 q.1)] at hr
      injection hr with r1 r2
      subst r1 r2
      obtain ⟨v1, v2⟩ := bv_back hx1 hy1 ha hv
      subst v1 v2
      exact ad_plus_nin f m x1 y1 x2 y2 0 0 _ _ _ c1 m1 X1 _ c2 m2 X2 _ false 0 0 0 w hc h18 h28 h19 KMa KMb KC KU1 KU2 KE1 KE2 hT
  rw [if_neg e1] at hr
  have KE1 := KE1 false (decide_eq_false e1)
  have fg : 0 < c1 ∧ c1 < 7 := by omega
  have fl2 : 0 < c2 ∧ c2 < 7 := by omega
  obtain ⟨S, hS⟩ : ∃ S, adS f a b = S := ⟨_, rfl⟩
  obtain ⟨neg, hng⟩ : ∃ neg, (if S = 0 then (if kN f a = kN f b then kN f a else decide (m = 2)) else kN f a) = neg := ⟨_, rfl⟩
  have KT := fun w => ktotal_is f m hf a b c1 c2 m1 m2 X1 X2 (kF f a) (kF f b) hle Aa Ab hm1 hm2 hX1 hX2 fg fl2 S hS neg hng w
  have SQ := (KT w).1
  refine ad_plus_nfi f m x1 y1 x2 y2 u v _ _ _ c1 m1 X1 _ c2 m2 X2 _ neg S (X1 - 3) fl w hc h18 h28 h19 KMa KMb KC KU1 KU2 KE1 (box (fun w => (KT w).2)) ?_ hT
  rw [hS, hX1] at hr
  rw [hX1] at sa2 sa3
  by_cases z : S = 0
  · rw [if_pos z] at hr hng
    rw [hng] at hr
    injection hr with r1 r2
    subst r1 r2
    rw [z]
    exact box (fun w hT => kPack_zero f m hf hm neg (X1 - 3) (by omega) (by omega) u v hv w hT)
  · rw [if_neg z] at hr hng
    rw [hng] at hr
    exact box (fun w hT => kPack_is f m hf hm neg S SQ z (X1 - 3) false (by omega) (by omega) (fun h => Bool.noConfusion h) M fl hr u v hv w hT)
theorem kplus_w (f m : Int) (hf : Is4 f) (hm : 0 ≤ m ∧ m ≤ 4) (x1 y1 a x2 y2 b : Nat) (hx1 : x1 < 18446744073709551616) (hy1 : y1 < 18446744073709551616) (ha : y1 + 18446744073709551616 * x1 = a) (hx2 : x2 < 18446744073709551616) (hy2 : y2 < 18446744073709551616) (hb : y2 + 18446744073709551616 * x2 = b)
    (oa : okB f a = true) (ob : okB f b = true) (ho : kM f a < kM f b) (M : Nat) (fl : Int) (hr : addG f m b a = (M, fl)) (u v : Nat) (hv : bv7 M = (u, v)) (w : World) (hT : FAt w) :
    Calls Tryd.prog 16 #[.int .u8 f, .int .u8 m, .agg #[.int .u64 x1, .int .u64 y1], .agg #[.int .u64 x2, .int .u64 y2]] w fun r w' => r = .returned (.tuple #[.agg #[.int .u64 u, .int .u64 v], .int .u8 fl, .int .i64 0]) ∧ Below w.heap.size w w' := by
  have KMa := box (fun w hT => kmag_is f hf x1 y1 a hx1 hy1 ha oa w hT)
  have KMb := box (fun w hT => kmag_is f hf x2 y2 b hx2 hy2 hb ob w hT)
  have KC := box (fun w => wcmp_is (kM f a) (kM f b) _ (lt_Q7 (kM_lt hf a)) (lt_Q7 (kM_lt hf b)) rfl w)
  have hc : decide (cmpv (kM f a) (kM f b) < 0) = true := by
    unfold cmpv
    (repeat' split) <;> first | decide | omega | (rw [decide_eq_true_iff]; omega)
  have hle : kM f a ≤ kM f b := by omega
  obtain ⟨k1, k2, k3⟩ := kM_class hle
  obtain ⟨sa1, sa2, sa3⟩ := kS_lim hf b
  obtain ⟨sb1, sb2, sb3⟩ := kS_lim hf a
  obtain ⟨c1, Aa⟩ : ∃ c, kC f b = c := ⟨_, rfl⟩
  obtain ⟨c2, Ab⟩ : ∃ c, kC f a = c := ⟨_, rfl⟩
  obtain ⟨m1, hm1⟩ : ∃ c, kS f b = c := ⟨_, rfl⟩
  obtain ⟨m2, hm2⟩ : ∃ c, kS f a = c := ⟨_, rfl⟩
  obtain ⟨X1, hX1⟩ : ∃ c, kX f b = c := ⟨_, rfl⟩
  obtain ⟨X2, hX2⟩ : ∃ c, kX f a = c := ⟨_, rfl⟩
  have KU1 : Box (∀ w, FAt w → Calls Tryd.prog 27 #[.int .u8 f, .agg #[.int .u64 x2, .int .u64 y2]] w fun r w' => r = .returned (.tuple #[.agg (pt c1 m1 X1 (kF f b)), .int .i64 0]) ∧ Below w.heap.size w w') := box (fun w hT => kUnpack_yes f hf x2 y2 b c1 m1 (kF f b) X1 hx2 hy2 hb ob (by unfold kp; rw [Aa, hm1, hX1]) w hT)
  have KU2 : Box (∀ w, FAt w → Calls Tryd.prog 27 #[.int .u8 f, .agg #[.int .u64 x1, .int .u64 y1]] w fun r w' => r = .returned (.tuple #[.agg (pt c2 m2 X2 (kF f a)), .int .i64 0]) ∧ Below w.heap.size w w') := box (fun w hT => kUnpack_yes f hf x1 y1 a c2 m2 (kF f a) X2 hx1 hy1 ha oa (by unfold kp; rw [Ab, hm2, hX2]) w hT)
  have lc1 : c1 < 10 := by rw [← Aa]; exact kC_lt f _
  have lc2 : c2 < 10 := by rw [← Ab]; exact kC_lt f _
  unfold addG at hr
  rw [Aa, Ab] at hr k1 k2 k3
  have KN : bv7 (eNaN f) = (u, v) → Box (∀ w, FAt w → Calls Tryd.prog 28 #[.int .u8 f] w fun r w' => r = .returned (.agg #[.int .u64 u, .int .u64 v]) ∧ Below w.heap.size w w') := fun h => box (fun w hT => kNaN_is f hf u v h w hT)
  by_cases a1 : c1 = 8 ∨ c2 = 8
  · rw [if_pos a1] at hr
    injection hr with r1 r2
    subst r1 r2
    by_cases a2 : c1 = 8
    · exact ad_plus_wsx f m x1 y1 x2 y2 u v _ _ _ c1 m1 X1 _ c2 m2 X2 _ false 0 0 0 w hc (ieq (by omega)) KMa KMb KC KU1 KU2 (KN hv) hT
    · exact ad_plus_wsy f m x1 y1 x2 y2 u v _ _ _ c1 m1 X1 _ c2 m2 X2 _ false 0 0 0 w hc (ine (by omega)) (ieq (by omega)) KMa KMb KC KU1 KU2 (KN hv) hT
  rw [if_neg a1] at hr
  have h18 : ((c1 : Int) == 8) = false := ine (by omega)
  have h28 : ((c2 : Int) == 8) = false := ine (by omega)
  by_cases b1 : c1 = 9
  · rw [if_pos b1] at hr
    injection hr with r1 r2
    subst r1 r2
    exact ad_plus_wq f m x1 y1 x2 y2 u v _ _ _ c1 m1 X1 _ c2 m2 X2 _ false 0 0 0 w hc h18 h28 (ieq (by omega)) KMa KMb KC KU1 KU2 (KN hv) hT
  rw [if_neg b1] at hr
  have h19 : ((c1 : Int) == 9) = false := ine (by omega)
  have KE1 : ∀ o, decide (c1 = 0 ∨ c1 = 7) = o → Box (∀ w, Calls Tryd.prog 29 #[.int .u8 c1] w fun r w' => r = .returned (.bool o) ∧ Below w.heap.size w w') := fun o h => box (fun w => op_endless c1 o (by rw [← Bool.decide_or]; exact h) w)
  have KE2 : ∀ o, decide (c2 = 0 ∨ c2 = 7) = o → Box (∀ w, Calls Tryd.prog 29 #[.int .u8 c2] w fun r w' => r = .returned (.bool o) ∧ Below w.heap.size w w') := fun o h => box (fun w => op_endless c2 o (by rw [← Bool.decide_or]; exact h) w)
  by_cases e1 : c1 = 0 ∨ c1 = 7
  · rw [if_pos e1] at hr
    have KE1 := KE1 true (decide_eq_true e1)
    by_cases e2 : c2 = 0 ∨ c2 = 7
    · have KE2 := KE2 true (decide_eq_true e2)
      by_cases e3 : c1 ≠ c2
      · rw [if_pos ⟨e2, e3⟩] at hr
        injection hr with r1 r2
        subst r1 r2
        exact ad_plus_wii f m x1 y1 x2 y2 u v _ _ _ c1 m1 X1 _ c2 m2 X2 _ false 0 0 0 w hc h18 h28 h19 (by simp only [bne_iff_ne, ne_eq]; omega) KMa KMb KC KU1 KU2 KE1 KE2 (KN hv) hT
      · rw [if_neg (fun q => e3 q.2)] at hr
        injection hr with r1 r2
        subst r1 r2
        obtain ⟨v1, v2⟩ := bv_back hx2 hy2 hb hv
        subst v1 v2
        exact ad_plus_wis f m x1 y1 x2 y2 0 0 _ _ _ c1 m1 X1 _ c2 m2 X2 _ false 0 0 0 w hc h18 h28 h19 (by rw [show c1 = c2 by omega]; simp) KMa KMb KC KU1 KU2 KE1 KE2 hT
    · have KE2 := KE2 false (decide_eq_false e2)
      rw [if_neg (fun q => e2 q.1)] at hr
      injection hr with r1 r2
      subst r1 r2
      obtain ⟨v1, v2⟩ := bv_back hx2 hy2 hb hv
      subst v1 v2
      exact ad_plus_win f m x1 y1 x2 y2 0 0 _ _ _ c1 m1 X1 _ c2 m2 X2 _ false 0 0 0 w hc h18 h28 h19 KMa KMb KC KU1 KU2 KE1 KE2 hT
  rw [if_neg e1] at hr
  have KE1 := KE1 false (decide_eq_false e1)
  have fg : 0 < c1 ∧ c1 < 7 := by omega
  have fl2 : 0 < c2 ∧ c2 < 7 := by omega
  obtain ⟨S, hS⟩ : ∃ S, adS f b a = S := ⟨_, rfl⟩
  obtain ⟨neg, hng⟩ : ∃ neg, (if S = 0 then (if kN f b = kN f a then kN f b else decide (m = 2)) else kN f b) = neg := ⟨_, rfl⟩
  have KT := fun w => ktotal_is f m hf b a c1 c2 m1 m2 X1 X2 (kF f b) (kF f a) hle Aa Ab hm1 hm2 hX1 hX2 fg fl2 S hS neg hng w
  have SQ := (KT w).1
  refine ad_plus_wfi f m x1 y1 x2 y2 u v _ _ _ c1 m1 X1 _ c2 m2 X2 _ neg S (X1 - 3) fl w hc h18 h28 h19 KMa KMb KC KU1 KU2 KE1 (box (fun w => (KT w).2)) ?_ hT
  rw [hS, hX1] at hr
  rw [hX1] at sa2 sa3
  by_cases z : S = 0
  · rw [if_pos z] at hr hng
    rw [hng] at hr
    injection hr with r1 r2
    subst r1 r2
    rw [z]
    exact box (fun w hT => kPack_zero f m hf hm neg (X1 - 3) (by omega) (by omega) u v hv w hT)
  · rw [if_neg z] at hr hng
    rw [hng] at hr
    exact box (fun w hT => kPack_is f m hf hm neg S SQ z (X1 - 3) false (by omega) (by omega) (fun h => Bool.noConfusion h) M fl hr u v hv w hT)
theorem kplus_is2 (f m : Int) (hf : Is4 f) (hm : 0 ≤ m ∧ m ≤ 4) (x1 y1 a x2 y2 b : Nat) (hx1 : x1 < 18446744073709551616) (hy1 : y1 < 18446744073709551616) (ha : y1 + 18446744073709551616 * x1 = a) (hx2 : x2 < 18446744073709551616) (hy2 : y2 < 18446744073709551616) (hb : y2 + 18446744073709551616 * x2 = b)
    (oa : okB f a = true) (ob : okB f b = true) (M : Nat) (fl : Int) (hr : addR f m a b = (M, fl)) (u v : Nat) (hv : bv7 M = (u, v)) (w : World) (hT : FAt w) :
    Calls Tryd.prog 16 #[.int .u8 f, .int .u8 m, .agg #[.int .u64 x1, .int .u64 y1], .agg #[.int .u64 x2, .int .u64 y2]] w fun r w' => r = .returned (.tuple #[.agg #[.int .u64 u, .int .u64 v], .int .u8 fl, .int .i64 0]) ∧ Below w.heap.size w w' := by
  unfold addR at hr
  by_cases c : kM f a < kM f b
  · rw [if_pos c] at hr
    exact kplus_w f m hf hm x1 y1 a x2 y2 b hx1 hy1 ha hx2 hy2 hb oa ob c M fl hr u v hv w hT
  · rw [if_neg c] at hr
    exact kplus_n f m hf hm x1 y1 a x2 y2 b hx1 hy1 ha hx2 hy2 hb oa ob (by omega) M fl hr u v hv w hT
theorem cls_sg (f : Int) (n : Nat) : ∃ a1 a2 a3 a4 : Nat, (a1 = 0 ∨ a1 = 7) ∧ (a2 = 1 ∨ a2 = 6) ∧ (a3 = 2 ∨ a3 = 5) ∧ (a4 = 3 ∨ a4 = 4) ∧
    ((kE f n = oV f ∧ kT f n = 0 ∧ kC f n = a1) ∨ (kE f n = oV f ∧ kT f n ≠ 0 ∧ kT f n < 2 ^ (pV f - 1) ∧ kC f n = 8) ∨ (kE f n = oV f ∧ 2 ^ (pV f - 1) ≤ kT f n ∧ kC f n = 9) ∨ (kE f n < oV f ∧ kE f n ≠ 0 ∧ kC f n = a2) ∨ (kE f n < oV f ∧ kE f n = 0 ∧ kT f n ≠ 0 ∧ kC f n = a3) ∨ (kE f n < oV f ∧ kE f n = 0 ∧ kT f n = 0 ∧ kC f n = a4)) :=
  ⟨_, _, _, _, by cases kN f n <;> simp, by cases kN f n <;> simp, by cases kN f n <;> simp, by cases kN f n <;> simp, kC_all f n⟩
theorem addR_nan (f m : Int) (a b : Nat) (h : 8 ≤ kC f a ∨ 8 ≤ kC f b) : addR f m a b = (eNaN f, if kC f a = 8 ∨ kC f b = 8 then 16 else 0) := by
  have la := kC_lt f a
  have lb := kC_lt f b
  unfold addR addG
  by_cases c : kM f a < kM f b
  · have k := kM_class (f := f) (g := b) (l := a) (by omega)
    rw [if_pos c]
    by_cases d : kC f a = 8 ∨ kC f b = 8
    · rw [if_pos d, if_pos (by omega)]
    · rw [if_neg d, if_neg (by omega), if_pos (by omega)]
  · have k := kM_class (f := f) (g := a) (l := b) (by omega)
    rw [if_neg c]
    by_cases d : kC f a = 8 ∨ kC f b = 8
    · rw [if_pos d, if_pos d]
    · rw [if_neg d, if_pos (show kC f a = 9 by omega), if_neg d]
theorem kM_inf (f : Int) (n : Nat) (h : kC f n = 0 ∨ kC f n = 7) : kM f n = oV f * 2 ^ pV f ∧ kN f n = decide (kC f n = 0) := by
  obtain ⟨a1, a2, a3, a4, s1, s2, s3, s4, c⟩ := cls_sg f n
  have e : kE f n = oV f ∧ kT f n = 0 := by omega
  refine ⟨by unfold kM; rw [e.1, e.2, Nat.add_zero], ?_⟩
  have d := kC_all f n
  cases hn : kN f n
  · rw [hn] at d
    simp only [Bool.false_eq_true, if_false] at d
    rw [eq_comm, decide_eq_false_iff_not]
    omega
  · rw [hn] at d
    simp only [if_true] at d
    rw [eq_comm, decide_eq_true_iff]
    omega
theorem addR_inf2 (f m : Int) (a b : Nat) (ha : kC f a = 0 ∨ kC f a = 7) (hb : kC f b = 0 ∨ kC f b = 7) : addR f m a b = if kC f a ≠ kC f b then (eNaN f, 16) else (a, 0) := by
  unfold addR addG
  rw [(kM_inf f a ha).1, (kM_inf f b hb).1, if_neg (Nat.lt_irrefl _), if_neg (by omega), if_neg (by omega), if_pos ha]
  by_cases c : kC f a ≠ kC f b
  · rw [if_pos ⟨hb, c⟩, if_pos c]
  · rw [if_neg (fun q => c q.2), if_neg c]
theorem kM_zero (f : Int) (n : Nat) (h : kC f n = 3 ∨ kC f n = 4) : kM f n = 0 ∧ kE f n = 0 ∧ kT f n = 0 := by
  obtain ⟨a1, a2, a3, a4, s1, s2, s3, s4, c⟩ := cls_sg f n
  have e : kE f n = 0 ∧ kT f n = 0 := by omega
  exact ⟨by unfold kM; rw [e.1, e.2, Nat.zero_mul], e⟩
theorem kM_pos {f : Int} {n : Nat} (h : kC f n = 1 ∨ kC f n = 2 ∨ kC f n = 5 ∨ kC f n = 6) : 0 < kM f n := by
  obtain ⟨a1, a2, a3, a4, s1, s2, s3, s4, c⟩ := cls_sg f n
  have p := Nat.two_pow_pos (pV f)
  have e : kE f n ≠ 0 ∨ kT f n ≠ 0 := by omega
  unfold kM
  rcases e with e | e
  · have := Nat.mul_le_mul_right (2 ^ pV f) (show 1 ≤ kE f n by omega)
    omega
  · omega
theorem adS_zero (f : Int) (g l : Nat) (h : kC f l = 3 ∨ kC f l = 4) : adS f g l = 8 * kS f g := by
  unfold adS
  rw [(k_null l h).1, Nat.mul_zero, jr_zero, Nat.add_zero, Nat.sub_zero, ite_self]
theorem addR_zeros (f m : Int) (a b : Nat) (ha : kC f a = 3 ∨ kC f a = 4) (hb : kC f b = 3 ∨ kC f b = 4) : addR f m a b = (eZero f (if kN f a = kN f b then kN f a else decide (m = 2)), 0) := by
  unfold addR addG
  rw [(kM_zero f a ha).1, (kM_zero f b hb).1, if_neg (Nat.lt_irrefl _), if_neg (by omega), if_neg (by omega), if_neg (by omega), if_pos (by rw [adS_zero f a b hb, (k_null a ha).1])]
theorem rnd_vX {f : Int} (hf : Is4 f) (m : Int) (g : Nat) (hg : kC f g = 1 ∨ kC f g = 2 ∨ kC f g = 5 ∨ kC f g = 6) : (vX f g).can ∧ nl (vX f g).n ≤ 8192 ∧ (vX f g).n ≠ 0 ∧ (vX f g).d = 1 ∧ rnd f m (vX f g) = dlv f m (kN f g) (kX f g + (blen (kS f g) : Int) - 1) (qW (pV f + 1) (kS f g)) (qM (pV f + 1) (kS f g) false) := by
  obtain ⟨a1, a2, a3, a4⟩ := vX_whole hf g (by omega) (by omega)
  obtain ⟨l1, l2, l3⟩ := kS_lim hf g
  obtain ⟨w1, w2, w3, w4, w5, w6, w7⟩ := x_whole hf (kN f g) (kS f g) (kX f g) a1 (by have := (blen_iff (kS f g) 128).2 a2; omega) (by omega) (by omega)
  rw [a3]
  refine ⟨w2, w4, w3, rfl, ?_⟩
  unfold rnd
  rw [if_neg w3, w5, w6, w7]
theorem addG_zero {f : Int} (hf : Is4 f) (m : Int) (g l : Nat) (hg : kC f g = 1 ∨ kC f g = 2 ∨ kC f g = 5 ∨ kC f g = 6) (hl : kC f l = 3 ∨ kC f l = 4) : addG f m g l = rnd f m (vX f g) := by
  obtain ⟨a, b, c, d⟩ := k_parts (f := f) g hg
  have bs := blen_shift (kS f g) 3 d
  have ql := q_longer (pV f + 1) (kS f g) 3 d
  rw [three_up] at bs ql
  unfold addG
  rw [if_neg (by omega), if_neg (by omega), if_neg (by omega), adS_zero f g l hl, if_neg (by omega), (rnd_vX hf m g hg).2.2.2.2, ql.1, ql.2, bs]
  congr 1
  omega
theorem k_same {f : Int} (hf : Is4 f) {a b : Nat} (fa : Fit f a) (fb : Fit f b) (hn : kN f a = kN f b) (he : kE f a = kE f b) (ht : kT f a = kT f b) : a = b := by
  rw [← k_enc hf fa, ← k_enc hf fb, hn, he, ht]
theorem no_under {f : Int} (hf : Is4 f) (m : Int) (neg : Bool) (N : Nat) (N0 : N ≠ 0) (x : Int) (hx : lx f ≤ x) : (dlv f m neg (x + (blen N : Int) - 1) (qW (pV f + 1) N) (qM (pV f + 1) N false)).2 ≠ 3 := by
  have hp := fp8 hf
  obtain ⟨w1, w2⟩ := q_ok (f := f) N N0
  obtain ⟨b1, b2, b3⟩ := blen_low N N0
  obtain ⟨T, hT⟩ : ∃ T, x + (blen N : Int) - 1 = T := ⟨_, rfl⟩
  rw [hT]
  unfold dlv
  by_cases ov : fE f < stE f T - fP f + (blen (rG m neg (qW (pV f + 1) N) (dK f T) (qM (pV f + 1) N false)) : Int)
  · rw [if_pos ov]
    show (5 : Int) ≠ 3
    decide
  rw [if_neg ov]
  show (if (rH (qW (pV f + 1) N) (dK f T) || rM (qW (pV f + 1) N) (dK f T) (qM (pV f + 1) N false)) = true then (if tnB f m neg T (qW (pV f + 1) N) (qM (pV f + 1) N false) = true then (3 : Int) else 1) else 0) ≠ 3
  by_cases tn : tnB f m neg T (qW (pV f + 1) N) (qM (pV f + 1) N false) = true
  · have tl : T < 1 - fE f := by
      unfold tnB at tn
      have tn := of_decide_eq_true tn
      have g : 2 ^ pV f ≤ rG m neg (qW (pV f + 1) N) 0 (qM (pV f + 1) N false) := by
        unfold rG rS
        rw [Nat.pow_zero, Nat.div_one]
        split <;> omega
      have := (blen_low _ (show rG m neg (qW (pV f + 1) N) 0 (qM (pV f + 1) N false) ≠ 0 by have := Nat.two_pow_pos (pV f); omega)).2.2
      have := (Nat.pow_lt_pow_iff_right (show 1 < 2 by decide)).1 (Nat.lt_of_le_of_lt g this)
      omega
    unfold lx at hx
    have bl : blen N ≤ pV f := by omega
    obtain ⟨k, hk⟩ : ∃ k, dK f T = k := ⟨_, rfl⟩
    have hk2 : (k : Int) = 1 - fE f - T := by rw [← hk]; unfold dK stE; omega
    have eW : qW (pV f + 1) N = N * 2 ^ (pV f + 1 + 1 - blen N) := by unfold qW; rw [if_neg (by omega)]
    have eM : qM (pV f + 1) N false = false := by unfold qM; rw [if_neg (by omega)]
    obtain ⟨j, hj⟩ : ∃ j, pV f + 1 + 1 - blen N = k + 1 + j := ⟨pV f + 1 + 1 - blen N - (k + 1), by omega⟩
    have e2 : N * 2 ^ (k + 1 + j) = 2 * (N * 2 ^ j) * 2 ^ k := by
      rw [Nat.pow_add, Nat.pow_add, Nat.pow_one]
      simp only [Nat.mul_assoc, Nat.mul_comm, Nat.mul_left_comm]
    have h1 : rH (N * 2 ^ (k + 1 + j)) k = false := by
      unfold rH
      rw [e2, Nat.mul_div_cancel _ (Nat.two_pow_pos k), decide_eq_false_iff_not]
      omega
    have h2 : rM (N * 2 ^ (k + 1 + j)) k false = false := by
      unfold rM
      rw [e2, Nat.mul_mod_left]
      rfl
    rw [eW, eM, hk, hj, h1, h2, if_neg (show ¬ ((false || false) = true) by decide)]
    decide
  · rw [if_neg tn]
    split <;> decide
theorem kX_ge {f : Int} (n : Nat) (h : kC f n = 1 ∨ kC f n = 2 ∨ kC f n = 5 ∨ kC f n = 6) : lx f ≤ kX f n := by
  obtain ⟨a, b, c, d⟩ := k_parts (f := f) n h
  rw [c]
  unfold xV
  split <;> omega
theorem addG_flag {f : Int} (hf : Is4 f) (m : Int) (g l : Nat) (h : kM f l ≤ kM f g) : (addG f m g l).2 ≠ 3 := by
  have lg := kC_lt f g
  have ll := kC_lt f l
  obtain ⟨k1, k2, k3⟩ := kM_class h
  unfold addG
  by_cases c1 : kC f g = 8 ∨ kC f l = 8
  · rw [if_pos c1]
    show (16 : Int) ≠ 3
    decide
  rw [if_neg c1]
  by_cases c2 : kC f g = 9
  · rw [if_pos c2]
    show (0 : Int) ≠ 3
    decide
  rw [if_neg c2]
  by_cases c3 : kC f g = 0 ∨ kC f g = 7
  · rw [if_pos c3]
    split
    · show (16 : Int) ≠ 3
      decide
    · show (0 : Int) ≠ 3
      decide
  rw [if_neg c3]
  by_cases c4 : adS f g l = 0
  · rw [if_pos c4]
    show (0 : Int) ≠ 3
    decide
  rw [if_neg c4]
  by_cases zl : kC f l = 3 ∨ kC f l = 4
  · have hz := adS_zero f g l zl
    have g0 : ¬ (kC f g = 3 ∨ kC f g = 4) := fun q => c4 (by rw [hz, (k_null g q).1])
    have hg : kC f g = 1 ∨ kC f g = 2 ∨ kC f g = 5 ∨ kC f g = 6 := by omega
    have nu := no_under hf m (kN f g) (kS f g) (k_parts g hg).2.2.2 (kX f g) (kX_ge g hg)
    have e := addG_zero hf m g l hg zl
    rw [(rnd_vX hf m g hg).2.2.2.2] at e
    unfold addG at e
    rw [if_neg c1, if_neg c2, if_neg c3, if_neg c4] at e
    rw [e]
    exact nu
  · have hl : kC f l = 1 ∨ kC f l = 2 ∨ kC f l = 5 ∨ kC f l = 6 := by omega
    have hg : kC f g = 1 ∨ kC f g = 2 ∨ kC f g = 5 ∨ kC f g = 6 := by
      have : ¬ (kC f g = 3 ∨ kC f g = 4) := fun q => by
        have z := (kM_zero f g q).1
        have := kM_pos hl
        omega
      omega
    obtain ⟨n, d1, d2, d3, d4⟩ := kM_dist hf h hg hl
    obtain ⟨g1, g2, g3, g4⟩ := k_parts (f := f) g hg
    have hS : adS f g l = if kN f g = kN f l then 8 * kS f g + jr (8 * kS f l) n else 8 * kS f g - jr (8 * kS f l) n := by
      unfold adS
      rw [show (kX f g - kX f l).toNat = n by omega]
    have fin : ∀ N, N ≠ 0 → blen (adS f g l) + n = blen N + 3 → qW (pV f + 1) (adS f g l) = qW (pV f + 1) N → qM (pV f + 1) (adS f g l) false = qM (pV f + 1) N false → (dlv f m (kN f g) (kX f g - 3 + (blen (adS f g l) : Int) - 1) (qW (pV f + 1) (adS f g l)) (qM (pV f + 1) (adS f g l) false)).2 ≠ 3 := fun N N0 b1 q1 q2 => by
      have nu := no_under hf m (kN f g) N N0 (kX f l) (kX_ge l hl)
      rw [q1, q2, show kX f g - 3 + (blen (adS f g l) : Int) - 1 = kX f l + (blen N : Int) - 1 by omega]
      exact nu
    by_cases c : kN f g = kN f l
    · rw [if_pos c] at hS
      have s := sum_like (pV f) (kS f g) (kS f l) n g4 d3
      rw [← hS] at s
      have p := Nat.mul_pos (Nat.pos_of_ne_zero g4) (Nat.two_pow_pos n)
      exact fin _ (by omega) s.1 s.2.1 s.2.2
    · rw [if_neg c] at hS
      have s := sum_unlike (pV f) (kS f g) (kS f l) n d3 d4 d2
      rw [← hS] at s
      have N0 : kS f g * 2 ^ n - kS f l ≠ 0 := fun q => c4 (s.2.1.1 q)
      have s := s.2.2 N0
      exact fin _ N0 s.1 s.2.1 s.2.2
theorem addR_flag {f : Int} (hf : Is4 f) (m : Int) (a b : Nat) : (addR f m a b).2 ≠ 3 := by
  unfold addR
  by_cases c : kM f a < kM f b
  · rw [if_pos c]
    exact addG_flag hf m b a (by omega)
  · rw [if_neg c]
    exact addG_flag hf m a b (by omega)
theorem kM_eq {f : Int} {a b : Nat} (h : kM f a = kM f b) : kE f a = kE f b ∧ kT f a = kT f b := by
  obtain ⟨o1, o2⟩ := kM_ord (f := f) (g := a) (l := b) (by omega)
  obtain ⟨o3, o4⟩ := kM_ord (f := f) (g := b) (l := a) (by omega)
  have e : kE f a = kE f b := by omega
  exact ⟨e, by have := o2 e.symm; have := o4 e; omega⟩
theorem addR_turn {f : Int} (hf : Is4 f) (m : Int) (a b : Nat) (fa : Fit f a) (fb : Fit f b) : addR f m a b = addR f m b a := by
  rcases Nat.lt_trichotomy (kM f a) (kM f b) with c | c | c
  · unfold addR
    rw [if_pos c, if_neg (by omega)]
  · by_cases hn : kN f a = kN f b
    · have e := kM_eq c
      rw [k_same hf fa fb hn e.1 e.2]
    · have la := kC_lt f a
      have lb := kC_lt f b
      have e := kM_eq c
      by_cases n0 : 8 ≤ kC f a ∨ 8 ≤ kC f b
      · rw [addR_nan f m a b n0, addR_nan f m b a (by omega)]
        congr 1
        by_cases q : kC f a = 8 ∨ kC f b = 8
        · rw [if_pos q, if_pos (by omega)]
        · rw [if_neg q, if_neg (by omega)]
      · obtain ⟨a1, a2, a3, a4, s1, s2, s3, s4, ca⟩ := cls_sg f a
        obtain ⟨b1, b2, b3, b4, t1, t2, t3, t4, cb⟩ := cls_sg f b
        by_cases i : kC f a = 0 ∨ kC f a = 7
        · have i2 : kC f b = 0 ∨ kC f b = 7 := by omega
          have ne : kC f a ≠ kC f b := fun q => hn (by rw [(kM_inf f a i).2, (kM_inf f b i2).2, q])
          rw [addR_inf2 f m a b i i2, addR_inf2 f m b a i2 i, if_pos ne, if_pos (Ne.symm ne)]
        · have fa' : 0 < kC f a ∧ kC f a < 7 := by omega
          have fb' : 0 < kC f b ∧ kC f b < 7 := by omega
          by_cases z : kC f a = 3 ∨ kC f a = 4
          · have z2 : kC f b = 3 ∨ kC f b = 4 := by omega
            rw [addR_zeros f m a b z z2, addR_zeros f m b a z2 z, if_neg hn, if_neg (Ne.symm hn)]
          · have na : kC f a = 1 ∨ kC f a = 2 ∨ kC f a = 5 ∨ kC f a = 6 := by omega
            have nb : kC f b = 1 ∨ kC f b = 2 ∨ kC f b = 5 ∨ kC f b = 6 := by omega
            have zero : ∀ g l, kM f l = kM f g → kN f g ≠ kN f l → (kC f g = 1 ∨ kC f g = 2 ∨ kC f g = 5 ∨ kC f g = 6) → (kC f l = 1 ∨ kC f l = 2 ∨ kC f l = 5 ∨ kC f l = 6) → addG f m g l = (eZero f (decide (m = 2)), 0) := fun g l hM hN hg hl => by
              have ee := kM_eq hM
              have pg := k_parts (f := f) g hg
              have pl := k_parts (f := f) l hl
              have ez : adS f g l = 0 := by
                unfold adS
                rw [if_neg hN, pg.2.1, pg.2.2.1, pl.2.1, pl.2.2.1, ee.1, ee.2, Int.sub_self]
                show 8 * sV f (kE f g) (kT f g) - jr (8 * sV f (kE f g) (kT f g)) 0 = 0
                rw [jr_even _ 0 (by rw [Nat.pow_zero]; exact Nat.mod_one _), Nat.pow_zero, Nat.div_one, Nat.sub_self]
              unfold addG
              rw [if_neg (by omega), if_neg (by omega), if_neg (by omega), if_pos ez, if_neg hN]
            unfold addR
            rw [if_neg (by omega), if_neg (by omega), zero a b c.symm hn na nb, zero b a c (Ne.symm hn) nb na]
  · unfold addR
    rw [if_neg (by omega), if_pos c]
theorem addR_own {f : Int} (hf : Is4 f) (m : Int) (a z : Nat) (fa : Fit f a) (ha : 0 < kC f a ∧ kC f a < 7) (hz : z = eZero f (kN f a)) : addR f m a z = (a, 0) := by
  have p := Nat.two_pow_pos (pV f)
  obtain ⟨e1, e2, e3, e4⟩ := enc_k hf (kN f a) (e := 0) (t := 0) (Nat.zero_le _) p
  have ez : enc7 f (kN f a) 0 0 = z := hz.symm
  rw [ez] at e1 e2 e3 e4
  have cz : kC f z = 3 ∨ kC f z = 4 := by
    obtain ⟨a1, a2, a3, a4, s1, s2, s3, s4, ca⟩ := cls_sg f z
    have : 0 < oV f := by unfold oV; omega
    omega
  by_cases za : kC f a = 3 ∨ kC f a = 4
  · rw [addR_zeros f m a z za cz, e2, if_pos rfl]
    have zz := kM_zero f a za
    have ke := k_enc hf fa
    rw [zz.2.1, zz.2.2] at ke
    have : eZero f (kN f a) = a := ke
    rw [this]
  · have na : kC f a = 1 ∨ kC f a = 2 ∨ kC f a = 5 ∨ kC f a = 6 := by omega
    unfold addR
    rw [(kM_zero f z cz).1, if_neg (by omega), addG_zero hf m a z na cz]
    obtain ⟨o1, o2, o3, o4⟩ := own_round hf m a fa ha
    rcases o4 with o4 | o4
    · exact o4.2
    · have := (rnd_vX hf m a na).2.2.1
      rw [o4] at this
      exact absurd rfl this
end Go.Proofs.YtoaaajeblhaeoaaDoor
