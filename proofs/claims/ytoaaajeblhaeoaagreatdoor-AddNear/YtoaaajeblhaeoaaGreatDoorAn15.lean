/-
  What the functions that the statement reaches return: part 15 (A3, A4, A5, A7, A8, A10, A11).
-/
import Derived.Test.YtoaaajeblhaeoaaGreatDoorAn14
namespace Go.Proofs.YtoaaajeblhaeoaaGreatDoor
set_option maxRecDepth 100000
set_option maxHeartbeats 40000000
set_option maxRecDepth 100000
open Go.RowKit WMath XMath
set_option linter.unusedSimpArgs false
set_option linter.unusedVariables false
def kM (f : Int) (n : Nat) : Nat := kE f n * 2 ^ pV f + kT f n
theorem kC_all (f : Int) (n : Nat) : (kE f n = oV f ∧ kT f n = 0 ∧ kC f n = if kN f n then 0 else 7) ∨ (kE f n = oV f ∧ kT f n ≠ 0 ∧ kT f n < 2 ^ (pV f - 1) ∧ kC f n = 8) ∨ (kE f n = oV f ∧ 2 ^ (pV f - 1) ≤ kT f n ∧ kC f n = 9) ∨
    (kE f n < oV f ∧ kE f n ≠ 0 ∧ kC f n = if kN f n then 1 else 6) ∨ (kE f n < oV f ∧ kE f n = 0 ∧ kT f n ≠ 0 ∧ kC f n = if kN f n then 2 else 5) ∨ (kE f n < oV f ∧ kE f n = 0 ∧ kT f n = 0 ∧ kC f n = if kN f n then 3 else 4) := by
  have el := kE_le (f := f) n
  have p := Nat.two_pow_pos (pV f - 1)
  unfold kC
  by_cases c1 : kE f n = oV f
  · by_cases c2 : kT f n = 0
    · left
      refine ⟨c1, c2, ?_⟩
      (repeat' split) <;> first | rfl | omega | simp_all
    · by_cases c3 : kT f n < 2 ^ (pV f - 1)
      · right; left
        refine ⟨c1, c2, c3, ?_⟩
        (repeat' split) <;> first | rfl | omega | simp_all
      · right; right; left
        refine ⟨c1, by omega, ?_⟩
        (repeat' split) <;> first | rfl | omega | simp_all
  · by_cases c2 : kE f n = 0
    · by_cases c3 : kT f n = 0
      · right; right; right; right; right
        refine ⟨by omega, c2, c3, ?_⟩
        (repeat' split) <;> first | rfl | omega | simp_all
      · right; right; right; right; left
        refine ⟨by omega, c2, c3, ?_⟩
        (repeat' split) <;> first | rfl | omega | simp_all
    · right; right; right; left
      refine ⟨by omega, c2, ?_⟩
      (repeat' split) <;> first | rfl | omega | simp_all
theorem kM_ord {f : Int} {g l : Nat} (h : kM f l ≤ kM f g) : kE f l ≤ kE f g ∧ (kE f l = kE f g → kT f l ≤ kT f g) := by
  have t1 := kT_lt (f := f) g
  have t2 := kT_lt (f := f) l
  unfold kM at h
  refine ⟨?_, fun e => by rw [e] at h; omega⟩
  rcases Nat.lt_or_ge (kE f g) (kE f l) with c | c
  · exfalso
    have := Nat.mul_le_mul_right (2 ^ pV f) (show kE f g + 1 ≤ kE f l by omega)
    rw [Nat.add_mul, Nat.one_mul] at this
    omega
  · exact c
theorem kM_class {f : Int} {g l : Nat} (h : kM f l ≤ kM f g) : (kC f l = 9 → kC f g = 9) ∧ (kC f l = 0 ∨ kC f l = 7 → kC f g = 0 ∨ kC f g = 7 ∨ kC f g = 8 ∨ kC f g = 9) ∧ (kC f l = 8 → kC f g = 8 ∨ kC f g = 9) := by
  obtain ⟨o1, o2⟩ := kM_ord h
  have pp := Nat.two_pow_pos (pV f - 1)
  have eg := kE_le (f := f) g
  have cl := kC_all f l
  have cg := kC_all f g
  have sl : (if kN f l then (0 : Nat) else 7) = 0 ∨ (if kN f l then (0 : Nat) else 7) = 7 := by cases kN f l <;> simp
  have sg : (if kN f g then (0 : Nat) else 7) = 0 ∨ (if kN f g then (0 : Nat) else 7) = 7 := by cases kN f g <;> simp
  have s2 : (if kN f l then (1 : Nat) else 6) = 1 ∨ (if kN f l then (1 : Nat) else 6) = 6 := by cases kN f l <;> simp
  have s3 : (if kN f l then (2 : Nat) else 5) = 2 ∨ (if kN f l then (2 : Nat) else 5) = 5 := by cases kN f l <;> simp
  have s4 : (if kN f l then (3 : Nat) else 4) = 3 ∨ (if kN f l then (3 : Nat) else 4) = 4 := by cases kN f l <;> simp
  have s5 : (if kN f g then (1 : Nat) else 6) = 1 ∨ (if kN f g then (1 : Nat) else 6) = 6 := by cases kN f g <;> simp
  have s6 : (if kN f g then (2 : Nat) else 5) = 2 ∨ (if kN f g then (2 : Nat) else 5) = 5 := by cases kN f g <;> simp
  have s7 : (if kN f g then (3 : Nat) else 4) = 3 ∨ (if kN f g then (3 : Nat) else 4) = 4 := by cases kN f g <;> simp
  generalize (if kN f l then (0 : Nat) else 7) = a1 at *
  generalize (if kN f g then (0 : Nat) else 7) = a2 at *
  generalize (if kN f l then (1 : Nat) else 6) = a3 at *
  generalize (if kN f l then (2 : Nat) else 5) = a4 at *
  generalize (if kN f l then (3 : Nat) else 4) = a5 at *
  generalize (if kN f g then (1 : Nat) else 6) = a6 at *
  generalize (if kN f g then (2 : Nat) else 5) = a7 at *
  generalize (if kN f g then (3 : Nat) else 4) = a8 at *
  refine ⟨fun q => ?_, fun q => ?_, fun q => ?_⟩ <;> omega
theorem kC_sign {f : Int} (n : Nat) (h : 0 < kC f n ∧ kC f n < 7) : decide (kC f n ≤ 3) = kN f n := by
  have c := kC_all f n
  cases hn : kN f n
  · rw [hn] at c
    rw [decide_eq_false_iff_not]
    simp only [Bool.false_eq_true, if_false] at c
    omega
  · rw [hn] at c
    rw [decide_eq_true_iff]
    simp only [if_true] at c
    omega
theorem kM_dist {f : Int} (hf : Is4 f) {g l : Nat} (h : kM f l ≤ kM f g) (hg : kC f g = 1 ∨ kC f g = 2 ∨ kC f g = 5 ∨ kC f g = 6) (hl : kC f l = 1 ∨ kC f l = 2 ∨ kC f l = 5 ∨ kC f l = 6) :
    ∃ n : Nat, kX f g = kX f l + (n : Int) ∧ kS f l ≤ kS f g * 2 ^ n ∧ (8 * kS f l % 2 ^ n ≠ 0 → 2 ^ pV f ≤ kS f g) ∧ kS f l < 2 * 2 ^ pV f := by
  obtain ⟨o1, o2⟩ := kM_ord h
  obtain ⟨g1, g2, g3, g4⟩ := k_parts (f := f) g hg
  obtain ⟨l1, l2, l3, l4⟩ := k_parts (f := f) l hl
  have t1 := kT_lt (f := f) g
  have t2 := kT_lt (f := f) l
  rw [g2, g3, l2, l3]
  unfold sV xV
  generalize lx f = x
  generalize 2 ^ pV f = p at *
  generalize kE f g = eg at *
  generalize kE f l = el at *
  generalize kT f g = tg at *
  generalize kT f l = tl at *
  by_cases c0 : eg = 0
  · have c1 : el = 0 := by omega
    rw [if_pos c0, if_pos c0, if_pos c1, if_pos c1]
    exact ⟨0, by omega, by rw [Nat.pow_zero, Nat.mul_one]; exact o2 (by omega), fun q => absurd (by rw [Nat.pow_zero]; exact Nat.mod_one _) q, by omega⟩
  · rw [if_neg c0, if_neg c0]
    have big : ∀ n : Nat, 1 ≤ n → ∀ y, y < 2 * p → y ≤ (p + tg) * 2 ^ n := fun n hn y hy => by
      have : 2 ^ 1 ≤ 2 ^ n := Nat.pow_le_pow_right (by decide) hn
      have := Nat.mul_le_mul_left (p + tg) this
      omega
    by_cases c1 : el = 0
    · rw [if_pos c1, if_pos c1]
      refine ⟨eg - 1, by omega, ?_, fun _ => by omega, by omega⟩
      by_cases c2 : eg = 1
      · rw [c2, Nat.sub_self, Nat.pow_zero, Nat.mul_one]
        omega
      · exact big (eg - 1) (by omega) tl (by omega)
    · rw [if_neg c1, if_neg c1]
      refine ⟨eg - el, by omega, ?_, fun _ => by omega, by omega⟩
      by_cases c2 : el = eg
      · have := o2 c2
        rw [c2, Nat.sub_self, Nat.pow_zero, Nat.mul_one]
        omega
      · exact big (eg - el) (by omega) (p + tl) (by omega)
def adS (f : Int) (g l : Nat) : Nat := if kN f g = kN f l then 8 * kS f g + jr (8 * kS f l) (kX f g - kX f l).toNat else 8 * kS f g - jr (8 * kS f l) (kX f g - kX f l).toNat
def addG (f m : Int) (g l : Nat) : Nat × Int :=
  if kC f g = 8 ∨ kC f l = 8 then (eNaN f, 16)
  else if kC f g = 9 then (eNaN f, 0)
  else if kC f g = 0 ∨ kC f g = 7 then (if (kC f l = 0 ∨ kC f l = 7) ∧ kC f g ≠ kC f l then (eNaN f, 16) else (g, 0))
  else if adS f g l = 0 then (eZero f (if kN f g = kN f l then kN f g else decide (m = 2)), 0)
  else dlv f m (kN f g) (kX f g - 3 + (blen (adS f g l) : Int) - 1) (qW (pV f + 1) (adS f g l)) (qM (pV f + 1) (adS f g l) false)
def addR (f m : Int) (a b : Nat) : Nat × Int := if kM f a < kM f b then addG f m b a else addG f m a b
theorem jr_zero (n : Nat) : jr 0 n = 0 := by rw [jr_even 0 n (Nat.zero_mod _), Nat.zero_div]
theorem kM_lt {f : Int} (hf : Is4 f) (n : Nat) : kM f n < 340282366920938463463374607431768211456 := by
  have h := (enc_k hf false (kE_le (f := f) n) (kT_lt (f := f) n)).1
  have e : enc7 f false (kE f n) (kT f n) = kM f n := rfl
  rw [e] at h
  have := (fm hf).2.2.2.2.2.2
  unfold Fit at h
  omega
theorem kmag_is (f : Int) (hf : Is4 f) (x y n : Nat) (hx : x < 18446744073709551616) (hy : y < 18446744073709551616) (hn : y + 18446744073709551616 * x = n) (ho : okB f n = true) (w : World) (hT : FAt w) : Calls Tryz.prog 156 #[.int .u8 f, .agg #[.int .u64 x, .int .u64 y]] w fun r w' => r = .returned (.agg (cw 6 (kM f n))) ∧ Below w.heap.size w w' := by
  have fit := (okB_yes (is4_ok hf).1 ho).2
  have ke := k_enc hf fit
  have ml := kM_lt hf n
  cases hN : kN f n
  · have e : n = kM f n := by rw [hN] at ke; exact ke.symm
    exact ad_mag_no f x y _ w (box (fun w hT => kSign_yes f hf x y n false hx hy hn ho hN w hT)) (box (fun w => wofbits_is x y _ hx hy (by rw [hn]; exact e) w)) hT
  · have e : sgB f n true = kM f n := by
      have := flip_enc hf (kN f n) (kE_le (f := f) n) (kT_lt (f := f) n)
      rw [ke, hN] at this
      unfold sgB
      rw [if_pos rfl, this]
      rfl
    obtain ⟨u, v, hv⟩ : ∃ u v, bv7 (kM f n) = (u, v) := ⟨_, _, rfl⟩
    obtain ⟨i1, i2, i3⟩ := bv_lt ml hv
    exact ad_mag_yes f x y u v _ w (box (fun w hT => kSign_yes f hf x y n true hx hy hn ho hN w hT)) (box (fun w hT => kFlip_yes f hf x y n u v hx hy hn ho (by rw [e]; exact hv) w hT)) (box (fun w => wofbits_is u v _ i1 i2 i3 w)) hT
theorem q131 {s : Nat} (h : s < 2 ^ 128) : 8 * s < Q := Nat.lt_of_lt_of_le (show 8 * s < 2 ^ 131 by omega) (by decide +kernel)
theorem kraised (s : Nat) (h : s < 2 ^ 128) (w : World) : Calls Tryz.prog 245 #[.agg (cw 6 s)] w fun r w' => r = .returned (.agg (cw 6 (8 * s))) ∧ Below w.heap.size w w' :=
  ad_raised s (8 * s) _ w (box (fun w => wleft_is s (8 * s) 3 _ (Nat.lt_of_le_of_lt (by omega) (q131 h)) (by rw [show cnt6 3 = 3 by decide, Nat.mul_comm, show 2 ^ 3 = 8 from rfl]; exact Nat.mod_eq_of_lt (q131 h)) rfl w))
theorem jr_le {f : Int} (hf : Is4 f) {g l : Nat} (h : kM f l ≤ kM f g) (hg : 0 < kC f g ∧ kC f g < 7) (hl : 0 < kC f l ∧ kC f l < 7) : jr (8 * kS f l) (kX f g - kX f l).toNat ≤ 8 * kS f g := by
  by_cases zl : kC f l = 3 ∨ kC f l = 4
  · rw [(k_null l zl).1, Nat.mul_zero, jr_zero]
    exact Nat.zero_le _
  · by_cases zg : kC f g = 3 ∨ kC f g = 4
    · exfalso
      obtain ⟨o1, o2⟩ := kM_ord h
      have c1 := kC_all f g
      have c2 := kC_all f l
      have s5 : (if kN f g then (1 : Nat) else 6) = 1 ∨ (if kN f g then (1 : Nat) else 6) = 6 := by cases kN f g <;> simp
      have s6 : (if kN f g then (2 : Nat) else 5) = 2 ∨ (if kN f g then (2 : Nat) else 5) = 5 := by cases kN f g <;> simp
      have s7 : (if kN f l then (3 : Nat) else 4) = 3 ∨ (if kN f l then (3 : Nat) else 4) = 4 := by cases kN f l <;> simp
      have s8 : (if kN f g then (0 : Nat) else 7) = 0 ∨ (if kN f g then (0 : Nat) else 7) = 7 := by cases kN f g <;> simp
      generalize (if kN f g then (1 : Nat) else 6) = a1 at *
      generalize (if kN f g then (2 : Nat) else 5) = a2 at *
      generalize (if kN f l then (3 : Nat) else 4) = a3 at *
      generalize (if kN f g then (0 : Nat) else 7) = a4 at *
      omega
    · obtain ⟨n, d1, d2, d3, d4⟩ := kM_dist hf h (by omega) (by omega)
      rw [show (kX f g - kX f l).toNat = n by omega]
      exact (sum_unlike (pV f) _ _ n d3 d4 d2).1
theorem ktotal_is (f m : Int) (hf : Is4 f) (g l cg cl mg ml : Nat) (Xg Xl : Int) (r1 r2 : Nat) (h : kM f l ≤ kM f g) (hcg : kC f g = cg) (hcl : kC f l = cl) (hmg : kS f g = mg) (hml : kS f l = ml) (hXg : kX f g = Xg) (hXl : kX f l = Xl) (fg : 0 < cg ∧ cg < 7) (fl : 0 < cl ∧ cl < 7) (S : Nat) (hS : adS f g l = S) (neg : Bool) (hng : (if S = 0 then (if kN f g = kN f l then kN f g else decide (m = 2)) else kN f g) = neg) (w : World) :
    S < Q ∧ Calls Tryz.prog 159 #[.int .u8 m, .agg (pt cg mg Xg r1), .agg (pt cl ml Xl r2)] w fun r w' => r = .returned (.agg (rg neg S (Xg - 3) false)) ∧ Below w.heap.size w w' := by
  obtain ⟨a1, a2, a3⟩ := kS_lim hf g
  obtain ⟨b1, b2, b3⟩ := kS_lim hf l
  have jl := jr_le hf h (by rw [hcg]; exact fg) (by rw [hcl]; exact fl)
  have sg := kC_sign (f := f) g (by rw [hcg]; exact fg)
  have sl := kC_sign (f := f) l (by rw [hcl]; exact fl)
  rw [hcg] at sg
  rw [hcl] at sl
  unfold adS at hS
  rw [hmg] at a1 jl hS
  rw [hml] at b1 jl hS
  rw [hXg] at a2 a3 jl hS
  rw [hXl] at b2 b3 jl hS
  obtain ⟨o1, ho1⟩ : ∃ o, kN f g = o := ⟨_, rfl⟩
  obtain ⟨o2, ho2⟩ : ∃ o, kN f l = o := ⟨_, rfl⟩
  rw [ho1] at sg hng hS
  rw [ho2] at sl hng hS
  have KB1 : Box (∀ w, Calls Tryz.prog 244 #[.agg (pt cg mg Xg r1)] w fun r w' => r = .returned (.bool o1) ∧ Below w.heap.size w w') := box (fun w => ad_below cg mg Xg r1 o1 (by rw [← sg, decide_eq_decide]; omega) w)
  have KB2 : Box (∀ w, Calls Tryz.prog 244 #[.agg (pt cl ml Xl r2)] w fun r w' => r = .returned (.bool o2) ∧ Below w.heap.size w w') := box (fun w => ad_below cl ml Xl r2 o2 (by rw [← sl, decide_eq_decide]; omega) w)
  have KR1 := box (fun w => kraised mg a1 w)
  have KR2 := box (fun w => kraised ml b1 w)
  obtain ⟨L, hL⟩ : ∃ L, jr (8 * ml) (Xg - Xl).toNat = L := ⟨_, rfl⟩
  rw [hL] at jl hS
  have qg := q131 a1
  have ql := q131 b1
  have KJ : Box (∀ w, Calls Tryz.prog 246 #[.agg (cw 6 (8 * ml)), .int .i64 (Xg - Xl)] w fun r w' => r = .returned (.agg (cw 6 L)) ∧ Below w.heap.size w w') := box (fun w => jright_is (8 * ml) L (Xg - Xl) ql (by rw [jr_cnt6 _ _ ql]; exact hL) w)
  have LQ : L < Q := by rw [← hL]; exact jr_ltQ _ _ ql
  have w1 : IntKind.i64.wrap (Xg - Xl) = Xg - Xl := wrap_i64_is _ (by omega) (by omega)
  have w2 : IntKind.i64.wrap (Xg - 3) = Xg - 3 := wrap_i64_is _ (by omega) (by omega)
  by_cases c : o1 = o2
  · rw [if_pos c] at hS
    subst c
    have hn : o1 = neg := by
      rw [← hng]
      split <;> simp
    have SQ : S < Q := by
      rw [← hS]
      exact Nat.lt_of_le_of_lt (show 8 * mg + L ≤ 8 * (2 * mg) by omega) (Nat.lt_of_lt_of_le (show 8 * (2 * mg) < 2 ^ 132 by have : mg < 2 ^ 128 := a1; omega) (by decide +kernel))
    refine ⟨SQ, ?_⟩
    rw [← hn]
    exact ad_total_like m cg mg Xg r1 cl ml Xl r2 o1 _ _ S _ _ false w KB1 KB2 KR1 KR2 L KJ (box (fun w => wadd_is _ _ S false qg LQ (by rw [hS]; exact Nat.mod_eq_of_lt SQ) (decide_eq_false (by rw [hS]; omega)) w)) w1 w2
  · rw [if_neg c] at hS
    have SQ : S < Q := by omega
    refine ⟨SQ, ?_⟩
    have hd : (o1 == o2) = false := by cases o1 <;> cases o2 <;> simp_all
    have KA : Box (∀ w, Calls Tryz.prog 242 #[.agg (cw 6 (8 * mg)), .agg (cw 6 L)] w fun r w' => r = .returned (.tuple #[.agg (cw 6 S), .bool false]) ∧ Below w.heap.size w w') := box (fun w => wsub_is _ _ S false qg LQ (by rw [show 8 * mg + Q - L = S + Q by omega, Nat.add_mod_right]; exact Nat.mod_eq_of_lt SQ) (decide_eq_false (by omega)) w)
    by_cases z : S = 0
    · rw [if_pos z, if_neg c] at hng
      exact ad_total_zero m cg mg Xg r1 cl ml Xl r2 o1 o2 _ _ S _ _ false w KB1 KB2 KR1 KR2 L KJ KA neg hd (by rw [← hng]; rfl) SQ (eq_true z) w1 w2
    · rw [if_neg z] at hng
      rw [← hng]
      exact ad_total_un m cg mg Xg r1 cl ml Xl r2 o1 o2 _ _ S _ _ false w KB1 KB2 KR1 KR2 L KJ KA hd SQ (eq_false z) w1 w2
theorem bv_back {x y n u v : Nat} (hx : x < 18446744073709551616) (hy : y < 18446744073709551616) (hn : y + 18446744073709551616 * x = n) (hv : bv7 n = (u, v)) : x = u ∧ y = v := by
  unfold bv7 at hv
  injection hv with h1 h2
  omega
theorem kplus_n (f m : Int) (hf : Is4 f) (hm : 0 ≤ m ∧ m ≤ 4) (x1 y1 a x2 y2 b : Nat) (hx1 : x1 < 18446744073709551616) (hy1 : y1 < 18446744073709551616) (ha : y1 + 18446744073709551616 * x1 = a) (hx2 : x2 < 18446744073709551616) (hy2 : y2 < 18446744073709551616) (hb : y2 + 18446744073709551616 * x2 = b)
    (oa : okB f a = true) (ob : okB f b = true) (ho : kM f b ≤ kM f a) (M : Nat) (fl : Int) (hr : addG f m a b = (M, fl)) (u v : Nat) (hv : bv7 M = (u, v)) (w : World) (hT : FAt w) :
    Calls Tryz.prog 76 #[.int .u8 f, .int .u8 m, .agg #[.int .u64 x1, .int .u64 y1], .agg #[.int .u64 x2, .int .u64 y2]] w fun r w' => r = .returned (.tuple #[.agg #[.int .u64 u, .int .u64 v], .int .u8 fl, .int .i64 0]) ∧ Below w.heap.size w w' := by
  have KMa := box (fun w hT => kmag_is f hf x1 y1 a hx1 hy1 ha oa w hT)
  have KMb := box (fun w hT => kmag_is f hf x2 y2 b hx2 hy2 hb ob w hT)
  have KC := box (fun w => wcmp_is (kM f a) (kM f b) _ (lt_Q7 (kM_lt hf a)) (lt_Q7 (kM_lt hf b)) rfl w)
  have hc : decide (cmpv (kM f a) (kM f b) < 0) = false := by
    unfold cmpv
    (repeat' split) <;> first | decide | omega | (rw [decide_eq_false_iff_not]; omega)
  have hle : kM f b ≤ kM f a := by omega
  obtain ⟨k1, k2, k3⟩ := kM_class hle
  obtain ⟨sa1, sa2, sa3⟩ := kS_lim hf a
  obtain ⟨sb1, sb2, sb3⟩ := kS_lim hf b
  obtain ⟨c1, Aa⟩ : ∃ c, kC f a = c := ⟨_, rfl⟩
  obtain ⟨c2, Ab⟩ : ∃ c, kC f b = c := ⟨_, rfl⟩
  obtain ⟨m1, hm1⟩ : ∃ c, kS f a = c := ⟨_, rfl⟩
  obtain ⟨m2, hm2⟩ : ∃ c, kS f b = c := ⟨_, rfl⟩
  obtain ⟨X1, hX1⟩ : ∃ c, kX f a = c := ⟨_, rfl⟩
  obtain ⟨X2, hX2⟩ : ∃ c, kX f b = c := ⟨_, rfl⟩
  have KU1 : Box (∀ w, FAt w → Calls Tryz.prog 45 #[.int .u8 f, .agg #[.int .u64 x1, .int .u64 y1]] w fun r w' => r = .returned (.tuple #[.agg (pt c1 m1 X1 (kF f a)), .int .i64 0]) ∧ Below w.heap.size w w') := box (fun w hT => kUnpack_yes f hf x1 y1 a c1 m1 (kF f a) X1 hx1 hy1 ha oa (by unfold kp; rw [Aa, hm1, hX1]) w hT)
  have KU2 : Box (∀ w, FAt w → Calls Tryz.prog 45 #[.int .u8 f, .agg #[.int .u64 x2, .int .u64 y2]] w fun r w' => r = .returned (.tuple #[.agg (pt c2 m2 X2 (kF f b)), .int .i64 0]) ∧ Below w.heap.size w w') := box (fun w hT => kUnpack_yes f hf x2 y2 b c2 m2 (kF f b) X2 hx2 hy2 hb ob (by unfold kp; rw [Ab, hm2, hX2]) w hT)
  have lc1 : c1 < 10 := by rw [← Aa]; exact kC_lt f _
  have lc2 : c2 < 10 := by rw [← Ab]; exact kC_lt f _
  unfold addG at hr
  rw [Aa, Ab] at hr k1 k2 k3
  have KN : bv7 (eNaN f) = (u, v) → Box (∀ w, FAt w → Calls Tryz.prog 157 #[.int .u8 f] w fun r w' => r = .returned (.agg #[.int .u64 u, .int .u64 v]) ∧ Below w.heap.size w w') := fun h => box (fun w hT => kNaN_is f hf u v h w hT)
  by_cases a1 : c1 = 8 ∨ c2 = 8
  · rw [if_pos a1] at hr
    injection hr with r1 r2
    subst r1 r2
    by_cases a2 : c1 = 8
    · exact ad_plus_nsx f m x1 y1 x2 y2 u v _ _ _ c1 m1 X1 _ c2 m2 X2 _ false 0 0 0 w hc (ieq (by omega)) KMa KMb KC KU1 KU2 (KN hv) hT
    · exact ad_plus_nsy f m x1 y1 x2 y2 u v _ _ _ c1 m1 X1 _ c2 m2 X2 _ false 0 0 0 w hc (ine (by omega)) (ieq (by omega)) KMa KMb KC KU1 KU2 (KN hv) hT
  rw [if_neg a1] at hr
  have h18 : ((c1 : Int) == 8) = false := ine (by omega)
  have h28 : ((c2 : Int) == 8) = false := ine (by omega)
  by_cases b1 : c1 = 9
  · rw [if_pos b1] at hr
    injection hr with r1 r2
    subst r1 r2
    exact ad_plus_nq f m x1 y1 x2 y2 u v _ _ _ c1 m1 X1 _ c2 m2 X2 _ false 0 0 0 w hc h18 h28 (ieq (by omega)) KMa KMb KC KU1 KU2 (KN hv) hT
  rw [if_neg b1] at hr
  have h19 : ((c1 : Int) == 9) = false := ine (by omega)
  have KE1 : ∀ o, decide (c1 = 0 ∨ c1 = 7) = o → Box (∀ w, Calls Tryz.prog 158 #[.int .u8 c1] w fun r w' => r = .returned (.bool o) ∧ Below w.heap.size w w') := fun o h => box (fun w => op_endless c1 o (by rw [← Bool.decide_or]; exact h) w)
  have KE2 : ∀ o, decide (c2 = 0 ∨ c2 = 7) = o → Box (∀ w, Calls Tryz.prog 158 #[.int .u8 c2] w fun r w' => r = .returned (.bool o) ∧ Below w.heap.size w w') := fun o h => box (fun w => op_endless c2 o (by rw [← Bool.decide_or]; exact h) w)
  by_cases e1 : c1 = 0 ∨ c1 = 7
  · rw [if_pos e1] at hr
    have KE1 := KE1 true (decide_eq_true e1)
    by_cases e2 : c2 = 0 ∨ c2 = 7
    · have KE2 := KE2 true (decide_eq_true e2)
      by_cases e3 : c1 ≠ c2
      · rw [if_pos ⟨e2, e3⟩] at hr
        injection hr with r1 r2
        subst r1 r2
        exact ad_plus_nii f m x1 y1 x2 y2 u v _ _ _ c1 m1 X1 _ c2 m2 X2 _ false 0 0 0 w hc h18 h28 h19 (by simp only [bne_iff_ne, ne_eq]; omega) KMa KMb KC KU1 KU2 KE1 KE2 (KN hv) hT
      · rw [if_neg (fun q => e3 q.2)] at hr
        injection hr with r1 r2
        subst r1 r2
        obtain ⟨v1, v2⟩ := bv_back hx1 hy1 ha hv
        subst v1 v2
        exact ad_plus_nis f m x1 y1 x2 y2 0 0 _ _ _ c1 m1 X1 _ c2 m2 X2 _ false 0 0 0 w hc h18 h28 h19 (by rw [show c1 = c2 by omega]; simp) KMa KMb KC KU1 KU2 KE1 KE2 hT
    · have KE2 := KE2 false (decide_eq_false e2)
      rw [if_neg (fun q => e2 q.1)] at hr
      injection hr with r1 r2
      subst r1 r2
      obtain ⟨v1, v2⟩ := bv_back hx1 hy1 ha hv
      subst v1 v2
      exact ad_plus_nin f m x1 y1 x2 y2 0 0 _ _ _ c1 m1 X1 _ c2 m2 X2 _ false 0 0 0 w hc h18 h28 h19 KMa KMb KC KU1 KU2 KE1 KE2 hT
  rw [if_neg e1] at hr
  have KE1 := KE1 false (decide_eq_false e1)
  have fg : 0 < c1 ∧ c1 < 7 := by omega
  have fl2 : 0 < c2 ∧ c2 < 7 := by omega
  obtain ⟨S, hS⟩ : ∃ S, adS f a b = S := ⟨_, rfl⟩
  obtain ⟨neg, hng⟩ : ∃ neg, (if S = 0 then (if kN f a = kN f b then kN f a else decide (m = 2)) else kN f a) = neg := ⟨_, rfl⟩
  have KT := fun w => ktotal_is f m hf a b c1 c2 m1 m2 X1 X2 (kF f a) (kF f b) hle Aa Ab hm1 hm2 hX1 hX2 fg fl2 S hS neg hng w
  have SQ := (KT w).1
  refine ad_plus_nfi f m x1 y1 x2 y2 u v _ _ _ c1 m1 X1 _ c2 m2 X2 _ neg S (X1 - 3) fl w hc h18 h28 h19 KMa KMb KC KU1 KU2 KE1 (box (fun w => (KT w).2)) ?_ hT
  rw [hS, hX1] at hr
  rw [hX1] at sa2 sa3
  by_cases z : S = 0
  · rw [if_pos z] at hr hng
    rw [hng] at hr
    injection hr with r1 r2
    subst r1 r2
    rw [z]
    exact box (fun w hT => kPack_zero f m hf hm neg (X1 - 3) (by omega) (by omega) u v hv w hT)
  · rw [if_neg z] at hr hng
    rw [hng] at hr
    exact box (fun w hT => kPack_is f m hf hm neg S SQ z (X1 - 3) false (by omega) (by omega) (fun h => Bool.noConfusion h) M fl hr u v hv w hT)
theorem kplus_w (f m : Int) (hf : Is4 f) (hm : 0 ≤ m ∧ m ≤ 4) (x1 y1 a x2 y2 b : Nat) (hx1 : x1 < 18446744073709551616) (hy1 : y1 < 18446744073709551616) (ha : y1 + 18446744073709551616 * x1 = a) (hx2 : x2 < 18446744073709551616) (hy2 : y2 < 18446744073709551616) (hb : y2 + 18446744073709551616 * x2 = b)
    (oa : okB f a = true) (ob : okB f b = true) (ho : kM f a < kM f b) (M : Nat) (fl : Int) (hr : addG f m b a = (M, fl)) (u v : Nat) (hv : bv7 M = (u, v)) (w : World) (hT : FAt w) :
    Calls Tryz.prog 76 #[.int .u8 f, .int .u8 m, .agg #[.int .u64 x1, .int .u64 y1], .agg #[.int .u64 x2, .int .u64 y2]] w fun r w' => r = .returned (.tuple #[.agg #[.int .u64 u, .int .u64 v], .int .u8 fl, .int .i64 0]) ∧ Below w.heap.size w w' := by
  have KMa := box (fun w hT => kmag_is f hf x1 y1 a hx1 hy1 ha oa w hT)
  have KMb := box (fun w hT => kmag_is f hf x2 y2 b hx2 hy2 hb ob w hT)
  have KC := box (fun w => wcmp_is (kM f a) (kM f b) _ (lt_Q7 (kM_lt hf a)) (lt_Q7 (kM_lt hf b)) rfl w)
  have hc : decide (cmpv (kM f a) (kM f b) < 0) = true := by
    unfold cmpv
    (repeat' split) <;> first | decide | omega | (rw [decide_eq_true_iff]; omega)
  have hle : kM f a ≤ kM f b := by omega
  obtain ⟨k1, k2, k3⟩ := kM_class hle
  obtain ⟨sa1, sa2, sa3⟩ := kS_lim hf b
  obtain ⟨sb1, sb2, sb3⟩ := kS_lim hf a
  obtain ⟨c1, Aa⟩ : ∃ c, kC f b = c := ⟨_, rfl⟩
  obtain ⟨c2, Ab⟩ : ∃ c, kC f a = c := ⟨_, rfl⟩
  obtain ⟨m1, hm1⟩ : ∃ c, kS f b = c := ⟨_, rfl⟩
  obtain ⟨m2, hm2⟩ : ∃ c, kS f a = c := ⟨_, rfl⟩
  obtain ⟨X1, hX1⟩ : ∃ c, kX f b = c := ⟨_, rfl⟩
  obtain ⟨X2, hX2⟩ : ∃ c, kX f a = c := ⟨_, rfl⟩
  have KU1 : Box (∀ w, FAt w → Calls Tryz.prog 45 #[.int .u8 f, .agg #[.int .u64 x2, .int .u64 y2]] w fun r w' => r = .returned (.tuple #[.agg (pt c1 m1 X1 (kF f b)), .int .i64 0]) ∧ Below w.heap.size w w') := box (fun w hT => kUnpack_yes f hf x2 y2 b c1 m1 (kF f b) X1 hx2 hy2 hb ob (by unfold kp; rw [Aa, hm1, hX1]) w hT)
  have KU2 : Box (∀ w, FAt w → Calls Tryz.prog 45 #[.int .u8 f, .agg #[.int .u64 x1, .int .u64 y1]] w fun r w' => r = .returned (.tuple #[.agg (pt c2 m2 X2 (kF f a)), .int .i64 0]) ∧ Below w.heap.size w w') := box (fun w hT => kUnpack_yes f hf x1 y1 a c2 m2 (kF f a) X2 hx1 hy1 ha oa (by unfold kp; rw [Ab, hm2, hX2]) w hT)
  have lc1 : c1 < 10 := by rw [← Aa]; exact kC_lt f _
  have lc2 : c2 < 10 := by rw [← Ab]; exact kC_lt f _
  unfold addG at hr
  rw [Aa, Ab] at hr k1 k2 k3
  have KN : bv7 (eNaN f) = (u, v) → Box (∀ w, FAt w → Calls Tryz.prog 157 #[.int .u8 f] w fun r w' => r = .returned (.agg #[.int .u64 u, .int .u64 v]) ∧ Below w.heap.size w w') := fun h => box (fun w hT => kNaN_is f hf u v h w hT)
  by_cases a1 : c1 = 8 ∨ c2 = 8
  · rw [if_pos a1] at hr
    injection hr with r1 r2
    subst r1 r2
    by_cases a2 : c1 = 8
    · exact ad_plus_wsx f m x1 y1 x2 y2 u v _ _ _ c1 m1 X1 _ c2 m2 X2 _ false 0 0 0 w hc (ieq (by omega)) KMa KMb KC KU1 KU2 (KN hv) hT
    · exact ad_plus_wsy f m x1 y1 x2 y2 u v _ _ _ c1 m1 X1 _ c2 m2 X2 _ false 0 0 0 w hc (ine (by omega)) (ieq (by omega)) KMa KMb KC KU1 KU2 (KN hv) hT
  rw [if_neg a1] at hr
  have h18 : ((c1 : Int) == 8) = false := ine (by omega)
  have h28 : ((c2 : Int) == 8) = false := ine (by omega)
  by_cases b1 : c1 = 9
  · rw [if_pos b1] at hr
    injection hr with r1 r2
    subst r1 r2
    exact ad_plus_wq f m x1 y1 x2 y2 u v _ _ _ c1 m1 X1 _ c2 m2 X2 _ false 0 0 0 w hc h18 h28 (ieq (by omega)) KMa KMb KC KU1 KU2 (KN hv) hT
  rw [if_neg b1] at hr
  have h19 : ((c1 : Int) == 9) = false := ine (by omega)
  have KE1 : ∀ o, decide (c1 = 0 ∨ c1 = 7) = o → Box (∀ w, Calls Tryz.prog 158 #[.int .u8 c1] w fun r w' => r = .returned (.bool o) ∧ Below w.heap.size w w') := fun o h => box (fun w => op_endless c1 o (by rw [← Bool.decide_or]; exact h) w)
  have KE2 : ∀ o, decide (c2 = 0 ∨ c2 = 7) = o → Box (∀ w, Calls Tryz.prog 158 #[.int .u8 c2] w fun r w' => r = .returned (.bool o) ∧ Below w.heap.size w w') := fun o h => box (fun w => op_endless c2 o (by rw [← Bool.decide_or]; exact h) w)
  by_cases e1 : c1 = 0 ∨ c1 = 7
  · rw [if_pos e1] at hr
    have KE1 := KE1 true (decide_eq_true e1)
    by_cases e2 : c2 = 0 ∨ c2 = 7
    · have KE2 := KE2 true (decide_eq_true e2)
      by_cases e3 : c1 ≠ c2
      · rw [if_pos ⟨e2, e3⟩] at hr
        injection hr with r1 r2
        subst r1 r2
        exact ad_plus_wii f m x1 y1 x2 y2 u v _ _ _ c1 m1 X1 _ c2 m2 X2 _ false 0 0 0 w hc h18 h28 h19 (by simp only [bne_iff_ne, ne_eq]; omega) KMa KMb KC KU1 KU2 KE1 KE2 (KN hv) hT
      · rw [if_neg (fun q => e3 q.2)] at hr
        injection hr with r1 r2
        subst r1 r2
        obtain ⟨v1, v2⟩ := bv_back hx2 hy2 hb hv
        subst v1 v2
        exact ad_plus_wis f m x1 y1 x2 y2 0 0 _ _ _ c1 m1 X1 _ c2 m2 X2 _ false 0 0 0 w hc h18 h28 h19 (by rw [show c1 = c2 by omega]; simp) KMa KMb KC KU1 KU2 KE1 KE2 hT
    · have KE2 := KE2 false (decide_eq_false e2)
      rw [if_neg (fun q => e2 q.1)] at hr
      injection hr with r1 r2
      subst r1 r2
      obtain ⟨v1, v2⟩ := bv_back hx2 hy2 hb hv
      subst v1 v2
      exact ad_plus_win f m x1 y1 x2 y2 0 0 _ _ _ c1 m1 X1 _ c2 m2 X2 _ false 0 0 0 w hc h18 h28 h19 KMa KMb KC KU1 KU2 KE1 KE2 hT
  rw [if_neg e1] at hr
  have KE1 := KE1 false (decide_eq_false e1)
  have fg : 0 < c1 ∧ c1 < 7 := by omega
  have fl2 : 0 < c2 ∧ c2 < 7 := by omega
  obtain ⟨S, hS⟩ : ∃ S, adS f b a = S := ⟨_, rfl⟩
  obtain ⟨neg, hng⟩ : ∃ neg, (if S = 0 then (if kN f b = kN f a then kN f b else decide (m = 2)) else kN f b) = neg := ⟨_, rfl⟩
  have KT := fun w => ktotal_is f m hf b a c1 c2 m1 m2 X1 X2 (kF f b) (kF f a) hle Aa Ab hm1 hm2 hX1 hX2 fg fl2 S hS neg hng w
  have SQ := (KT w).1
  refine ad_plus_wfi f m x1 y1 x2 y2 u v _ _ _ c1 m1 X1 _ c2 m2 X2 _ neg S (X1 - 3) fl w hc h18 h28 h19 KMa KMb KC KU1 KU2 KE1 (box (fun w => (KT w).2)) ?_ hT
  rw [hS, hX1] at hr
  rw [hX1] at sa2 sa3
  by_cases z : S = 0
  · rw [if_pos z] at hr hng
    rw [hng] at hr
    injection hr with r1 r2
    subst r1 r2
    rw [z]
    exact box (fun w hT => kPack_zero f m hf hm neg (X1 - 3) (by omega) (by omega) u v hv w hT)
  · rw [if_neg z] at hr hng
    rw [hng] at hr
    exact box (fun w hT => kPack_is f m hf hm neg S SQ z (X1 - 3) false (by omega) (by omega) (fun h => Bool.noConfusion h) M fl hr u v hv w hT)
theorem kplus_is2 (f m : Int) (hf : Is4 f) (hm : 0 ≤ m ∧ m ≤ 4) (x1 y1 a x2 y2 b : Nat) (hx1 : x1 < 18446744073709551616) (hy1 : y1 < 18446744073709551616) (ha : y1 + 18446744073709551616 * x1 = a) (hx2 : x2 < 18446744073709551616) (hy2 : y2 < 18446744073709551616) (hb : y2 + 18446744073709551616 * x2 = b)
    (oa : okB f a = true) (ob : okB f b = true) (M : Nat) (fl : Int) (hr : addR f m a b = (M, fl)) (u v : Nat) (hv : bv7 M = (u, v)) (w : World) (hT : FAt w) :
    Calls Tryz.prog 76 #[.int .u8 f, .int .u8 m, .agg #[.int .u64 x1, .int .u64 y1], .agg #[.int .u64 x2, .int .u64 y2]] w fun r w' => r = .returned (.tuple #[.agg #[.int .u64 u, .int .u64 v], .int .u8 fl, .int .i64 0]) ∧ Below w.heap.size w w' := by
  unfold addR at hr
  by_cases c : kM f a < kM f b
  · rw [if_pos c] at hr
    exact kplus_w f m hf hm x1 y1 a x2 y2 b hx1 hy1 ha hx2 hy2 hb oa ob c M fl hr u v hv w hT
  · rw [if_neg c] at hr
    exact kplus_n f m hf hm x1 y1 a x2 y2 b hx1 hy1 ha hx2 hy2 hb oa ob (by omega) M fl hr u v hv w hT
theorem rnd_vX {f : Int} (hf : Is4 f) (m : Int) (g : Nat) (hg : kC f g = 1 ∨ kC f g = 2 ∨ kC f g = 5 ∨ kC f g = 6) : (vX f g).can ∧ nl (vX f g).n ≤ 8192 ∧ (vX f g).n ≠ 0 ∧ (vX f g).d = 1 ∧ rnd f m (vX f g) = dlv f m (kN f g) (kX f g + (blen (kS f g) : Int) - 1) (qW (pV f + 1) (kS f g)) (qM (pV f + 1) (kS f g) false) := by
  obtain ⟨a1, a2, a3, a4⟩ := vX_whole hf g (by omega) (by omega)
  obtain ⟨l1, l2, l3⟩ := kS_lim hf g
  obtain ⟨w1, w2, w3, w4, w5, w6, w7⟩ := x_whole hf (kN f g) (kS f g) (kX f g) a1 (by have := (blen_iff (kS f g) 128).2 a2; omega) (by omega) (by omega)
  rw [a3]
  refine ⟨w2, w4, w3, rfl, ?_⟩
  unfold rnd
  rw [if_neg w3, w5, w6, w7]
theorem addG_num {f : Int} (hf : Is4 f) (m : Int) (g l : Nat) (hg : kC f g = 1 ∨ kC f g = 2 ∨ kC f g = 5 ∨ kC f g = 6) (hl : kC f l = 1 ∨ kC f l = 2 ∨ kC f l = 5 ∨ kC f l = 6) (h : kM f l ≤ kM f g) :
    ∃ (zb : Bool) (zn : Nat) (ze : Int), addX (vX f g) (vX f l) = (⟨zb, zn, 1, ze⟩, 0) ∧ addX (vX f l) (vX f g) = (⟨zb, zn, 1, ze⟩, 0) ∧ (XN.mk zb zn 1 ze).can ∧ nl zn ≤ 8192 ∧
      ((zn = 0 ∧ zb = false ∧ ze = 0 ∧ kN f g ≠ kN f l ∧ addG f m g l = (eZero f (decide (m = 2)), 0)) ∨ (zn ≠ 0 ∧ rnd f m ⟨zb, zn, 1, ze⟩ = addG f m g l)) := by
  obtain ⟨n, d1, d2, d3, d4⟩ := kM_dist hf h hg hl
  obtain ⟨g1, g2, g3, g4⟩ := vX_whole hf g (by omega) (by omega)
  obtain ⟨l1, l2, l3, l4⟩ := vX_whole hf l (by omega) (by omega)
  obtain ⟨gl1, gl2, gl3⟩ := kS_lim hf g
  obtain ⟨ll1, ll2, ll3⟩ := kS_lim hf l
  have hS : adS f g l = if kN f g = kN f l then 8 * kS f g + jr (8 * kS f l) n else 8 * kS f g - jr (8 * kS f l) n := by
    unfold adS
    rw [show (kX f g - kX f l).toNat = n by omega]
  obtain ⟨N, hN⟩ : ∃ N, sumN (kN f g) (kN f l) (kS f g) (kS f l) n = N := ⟨_, rfl⟩
  have key : (N = 0 → kN f g ≠ kN f l ∧ adS f g l = 0) ∧ (N ≠ 0 → adS f g l ≠ 0 ∧ blen (adS f g l) + n = blen N + 3 ∧ qW (pV f + 1) (adS f g l) = qW (pV f + 1) N ∧ qM (pV f + 1) (adS f g l) false = qM (pV f + 1) N false) := by
    unfold sumN at hN
    by_cases c : kN f g = kN f l
    · rw [if_pos c] at hN hS
      have s := sum_like (pV f) (kS f g) (kS f l) n g1 d3
      rw [hN, ← hS] at s
      have p := Nat.mul_pos (Nat.pos_of_ne_zero g1) (Nat.two_pow_pos n)
      exact ⟨fun q => by omega, fun _ => ⟨by omega, s⟩⟩
    · rw [if_neg c] at hN hS
      have s := sum_unlike (pV f) (kS f g) (kS f l) n d3 d4 d2
      rw [hN, ← hS] at s
      exact ⟨fun q => ⟨c, s.2.1.1 q⟩, fun q => ⟨fun z => q (s.2.1.2 z), s.2.2 q⟩⟩
  rw [g3, l3]
  have ag : addG f m g l = if adS f g l = 0 then (eZero f (if kN f g = kN f l then kN f g else decide (m = 2)), 0) else dlv f m (kN f g) (kX f g - 3 + (blen (adS f g l) : Int) - 1) (qW (pV f + 1) (adS f g l)) (qM (pV f + 1) (adS f g l) false) := by
    unfold addG
    rw [if_neg (by omega), if_neg (by omega), if_neg (by omega)]
  by_cases z : N = 0
  · obtain ⟨k1, k2⟩ := key.1 z
    obtain ⟨n1, n2⟩ := add_null hf (kN f g) (kN f l) (kS f g) (kS f l) n (kX f g) (kX f l) g1 l1 g2 l2 d1 d2 gl2 gl3 ll2 ll3 (by rw [hN, z])
    exact ⟨false, 0, 0, n1, n2, x0_can, Nat.le_trans (nl_mono 0 1 (by decide)) (Nat.le_trans (nl_le_of 1 1 (by decide)) (by decide)), Or.inl ⟨rfl, rfl, rfl, k1, by rw [ag, if_pos k2, if_neg k1]⟩⟩
  · obtain ⟨k1, k2, k3, k4⟩ := key.2 z
    obtain ⟨k, e, n1, n2, n3, n4, n5, n6⟩ := add_num hf m (kN f g) (kN f l) (kS f g) (kS f l) n (kX f g) (kX f l) g1 l1 g2 l2 d1 d2 gl2 gl3 ll2 ll3 N hN z
    refine ⟨kN f g, k, e, n1, n2, n3, n4, Or.inr ⟨n5, ?_⟩⟩
    rw [n6, ag, if_neg k1, k3, k4]
    congr 1
    omega
theorem kX_ge {f : Int} (n : Nat) (h : kC f n = 1 ∨ kC f n = 2 ∨ kC f n = 5 ∨ kC f n = 6) : lx f ≤ kX f n := by
  obtain ⟨a, b, c, d⟩ := k_parts (f := f) n h
  rw [c]
  unfold xV
  split <;> omega
theorem kAdd_yes (f m : Int) (hf : Is4 f) (hm : 0 ≤ m ∧ m ≤ 4) (x1 y1 a x2 y2 b : Nat) (hx1 : x1 < 18446744073709551616) (hy1 : y1 < 18446744073709551616) (ha : y1 + 18446744073709551616 * x1 = a) (hx2 : x2 < 18446744073709551616) (hy2 : y2 < 18446744073709551616) (hb : y2 + 18446744073709551616 * x2 = b)
    (oa : okB f a = true) (ob : okB f b = true) (M : Nat) (fl : Int) (hr : addR f m a b = (M, fl)) (u v : Nat) (hv : bv7 M = (u, v)) (w : World) (hT : FAt w) :
    Calls Tryz.prog 30 #[.int .u8 f, .int .u8 m, .agg #[.int .u64 x1, .int .u64 y1], .agg #[.int .u64 x2, .int .u64 y2]] w fun r w' => r = .returned (.tuple #[.agg #[.int .u64 u, .int .u64 v], .int .u8 fl, .int .i64 0]) ∧ Below w.heap.size w w' :=
  add_add_yes f m x1 y1 x2 y2 u v 0 0 fl 0 w (kmay2 f m (is4_ok hf).1 (is4_ok hf).2.1 hm.1 x1 y1 a x2 y2 b hx1 hy1 ha hx2 hy2 hb true (by rw [oa, ob, decide_eq_true (show f ≤ 3 ∧ m ≤ 4 from ⟨is4_le hf, hm.2⟩)]; rfl)) (box (fun w hT => kplus_is2 f m hf hm x1 y1 a x2 y2 b hx1 hy1 ha hx2 hy2 hb oa ob M fl hr u v hv w hT)) hT
theorem flip_ok {f : Int} (hf : Is4 f) {n : Nat} (ho : okB f n = true) : okB f (sgB f n true) = true ∧ sgB f n true < 340282366920938463463374607431768211456 := by
  have fit := (okB_yes (is4_ok hf).1 ho).2
  have e := flip_k hf fit
  have k := (enc_k hf (!kN f n) (kE_le (f := f) n) (kT_lt (f := f) n)).1
  rw [← e] at k
  have := (fm hf).2.2.2.2.2.2
  refine ⟨?_, by unfold Fit at k; omega⟩
  unfold okB
  rw [decide_eq_true_iff]
  exact ⟨is4_le hf, k⟩
theorem al11 : addR 2 0 15360 15360 = (16384, 0) ∧ okB 2 15360 = true := by decide +kernel
theorem r11alive (w : World) (hT : FAt w) : Calls Tryz.prog 34 #[] w fun r w' => r = .returned (.bool true) ∧ Below w.heap.size w w' := by
  have FF := box hT
  have K1 : Box (∀ w, FAt w → Calls Tryz.prog 30 #[.int .u8 2, .int .u8 0, .agg #[.int .u64 0, .int .u64 15360], .agg #[.int .u64 0, .int .u64 15360]] w fun r w' => r = .returned (.tuple #[.agg #[.int .u64 0, .int .u64 16384], .int .u8 0, .int .i64 0]) ∧ Below w.heap.size w w') := box (fun w hT => kAdd_yes 2 0 (by unfold Is4; omega) (by decide) 0 15360 15360 0 15360 15360 (by decide) (by decide) rfl (by decide) (by decide) rfl al11.2 al11.2 _ _ al11.1 0 16384 rfl w hT)
  clear hT
  have B0 : Below w.heap.size w w := (Below.refl _ _)
  go_enter Tryz.func34, Tryz.ntmps34
  go_wp2_with fail
  refine (K1.out _ (fatB FF.out B0)).mono ?_
  rintro r w1 ⟨rfl, b1⟩
  have B1 : Below w.heap.size w w1 := btr B0 b1
  clear b1 B0 
  have S2 := box B1.size
  have Aa := heap_alloc_last w1 (Obj.cells #[.int .u64 0, .int .u64 16384] 25)
  have B2 := btr B1 (bal w1 (Obj.cells #[.int .u64 0, .int .u64 16384] 25))
  clear B1 
  obtain ⟨Ab, Ac⟩ := cells2s Aa
  go_wp2
  go_ret
  exact ⟨rfl, B2⟩
theorem exact_flag {f : Int} (hf : Is4 f) (m : Int) (neg : Bool) (N : Nat) (N0 : N ≠ 0) (hN : N < 2 * 2 ^ pV f) (x : Int) (hx : lx f ≤ x) (ht : x + (blen N : Int) - 1 ≤ fE f) : (dlv f m neg (x + (blen N : Int) - 1) (qW (pV f + 1) N) (qM (pV f + 1) N false)).2 = 0 := by
  have hp := fp8 hf
  obtain ⟨n1, n2, n3, n4, n5, n6⟩ := nm8 hf
  obtain ⟨b1, b2, b3⟩ := blen_low N N0
  have bl : blen N ≤ pV f + 1 := (blen_iff N _).2 (by rw [Nat.pow_succ]; omega)
  obtain ⟨T, hT⟩ : ∃ T, x + (blen N : Int) - 1 = T := ⟨_, rfl⟩
  rw [hT] at ht ⊢
  unfold lx at hx
  obtain ⟨k, hk⟩ : ∃ k, dK f T = k := ⟨_, rfl⟩
  have hk2 : (k : Int) = stE f T - T := by rw [← hk]; unfold dK stE; omega
  have hk3 : stE f T = T ∨ stE f T = 1 - fE f := by unfold stE; omega
  have eW : qW (pV f + 1) N = N * 2 ^ (pV f + 1 + 1 - blen N) := by unfold qW; rw [if_neg (by omega)]
  have eM : qM (pV f + 1) N false = false := by unfold qM; rw [if_neg (by omega)]
  obtain ⟨j, hj⟩ : ∃ j, pV f + 1 + 1 - blen N = k + 1 + j := ⟨pV f + 1 + 1 - blen N - (k + 1), by omega⟩
  have e2 : N * 2 ^ (k + 1 + j) = 2 * (N * 2 ^ j) * 2 ^ k := by
    rw [Nat.pow_add, Nat.pow_add, Nat.pow_one]
    simp only [Nat.mul_assoc, Nat.mul_comm, Nat.mul_left_comm]
  have h1 : rH (N * 2 ^ (k + 1 + j)) k = false := by
    unfold rH
    rw [e2, Nat.mul_div_cancel _ (Nat.two_pow_pos k), decide_eq_false_iff_not]
    omega
  have h2 : rM (N * 2 ^ (k + 1 + j)) k false = false := by
    unfold rM
    rw [e2, Nat.mul_mod_left]
    rfl
  have h3 : rS (N * 2 ^ (k + 1 + j)) k = N * 2 ^ j := by
    unfold rS
    rw [e2, Nat.mul_div_cancel _ (Nat.two_pow_pos k), Nat.mul_div_cancel_left _ (by decide)]
  have h4 : rG m neg (N * 2 ^ (k + 1 + j)) k false = N * 2 ^ j := by
    unfold rG
    rw [h1, h2, gO_none, if_neg (by decide), h3]
  have bs := blen_shift N j N0
  unfold dlv
  rw [eW, eM, hk, hj, h4, bs, if_neg (by omega)]
  show (if (rH (N * 2 ^ (k + 1 + j)) k || rM (N * 2 ^ (k + 1 + j)) k false) = true then _ else (0 : Int)) = 0
  rw [h1, h2, if_neg (by decide)]
theorem top_le {f : Int} (hf : Is4 f) (n : Nat) (h : kC f n = 1 ∨ kC f n = 2 ∨ kC f n = 5 ∨ kC f n = 6) : kX f n + (blen (kS f n) : Int) - 1 ≤ fE f ∧ kS f n < 2 * 2 ^ pV f := by
  obtain ⟨n1, n2, n3, n4, n5, n6⟩ := nm8 hf
  obtain ⟨k1, k2, k3, k4⟩ := k_parts (f := f) n h
  have t := kT_lt (f := f) n
  have oe : (oV f : Int) = 2 * fE f + 1 := by unfold oV; omega
  have sl : kS f n < 2 * 2 ^ pV f := by rw [k2]; unfold sV; split <;> omega
  have bl : blen (kS f n) ≤ pV f + 1 := (blen_iff _ _).2 (by rw [Nat.pow_succ]; omega)
  have o3 := (nb_p hf).2.2.2.2.2.2
  refine ⟨?_, sl⟩
  rw [k3]
  unfold xV lx
  split <;> omega
theorem blen_mono' {a b : Nat} (h : a ≤ b) (a0 : a ≠ 0) : blen a ≤ blen b := by
  have h1 := (blen_low a a0).2.1
  have h2 := (blen_low b (by omega)).2.2
  have := (Nat.pow_lt_pow_iff_right (show 1 < 2 by decide)).1 (Nat.lt_of_le_of_lt h1 (Nat.lt_of_le_of_lt h h2))
  omega
theorem near_flag {f : Int} (hf : Is4 f) (m : Int) (g l : Nat) (hM : kM f l ≤ kM f g) (hN : kN f g ≠ kN f l) (hg : kC f g = 1 ∨ kC f g = 2 ∨ kC f g = 5 ∨ kC f g = 6) (hl : kC f l = 1 ∨ kC f l = 2 ∨ kC f l = 5 ∨ kC f l = 6) (n : Nat) (hn : kX f g = kX f l + (n : Int)) (h2 : kS f g * 2 ^ n ≤ 2 * kS f l) : (addG f m g l).2 = 0 := by
  obtain ⟨n', d1, d2, d3, d4⟩ := kM_dist hf hM hg hl
  obtain rfl : n' = n := by omega
  have s := sum_unlike (pV f) (kS f g) (kS f l) n' d3 d4 d2
  have hS : adS f g l = 8 * kS f g - jr (8 * kS f l) n' := by
    unfold adS
    rw [show (kX f g - kX f l).toNat = n' by omega, if_neg hN]
  rw [← hS] at s
  unfold addG
  rw [if_neg (by omega), if_neg (by omega), if_neg (by omega)]
  by_cases z : adS f g l = 0
  · rw [if_pos z]
  · rw [if_neg z]
    have N0 : kS f g * 2 ^ n' - kS f l ≠ 0 := fun q => z (s.2.1.1 q)
    obtain ⟨q1, q2, q3⟩ := s.2.2 N0
    obtain ⟨t1, t2⟩ := top_le hf l hl
    have bm := blen_mono' (show kS f g * 2 ^ n' - kS f l ≤ kS f l by omega) N0
    have e := exact_flag hf m (kN f g) _ N0 (by omega) (kX f l) (kX_ge l hl) (by omega)
    rw [q2, q3, show kX f g - 3 + (blen (adS f g l) : Int) - 1 = kX f l + (blen (kS f g * 2 ^ n' - kS f l) : Int) - 1 by omega]
    exact e
def dbl (f : Int) (a : Nat) : Nat := if kE f a = 0 then 2 * kT f a else kM f a + 2 ^ pV f
theorem dbl_parts {f : Int} (hf : Is4 f) (a : Nat) (ha : kC f a = 1 ∨ kC f a = 2 ∨ kC f a = 5 ∨ kC f a = 6) (hE : kE f a + 1 < oV f) : Fit f (dbl f a) ∧ kN f (dbl f a) = false ∧ (kC f (dbl f a) = 5 ∨ kC f (dbl f a) = 6) ∧
    ((kS f (dbl f a) = 2 * kS f a ∧ kX f (dbl f a) = kX f a) ∨ (kS f (dbl f a) = kS f a ∧ kX f (dbl f a) = kX f a + 1)) := by
  obtain ⟨k1, k2, k3, k4⟩ := k_parts (f := f) a ha
  have t := kT_lt (f := f) a
  have fin : ∀ e t, e < oV f → t < 2 ^ pV f → enc7 f false e t = dbl f a → sV f e t ≠ 0 → Fit f (dbl f a) ∧ kN f (dbl f a) = false ∧ (kC f (dbl f a) = 5 ∨ kC f (dbl f a) = 6) ∧ kS f (dbl f a) = sV f e t ∧ kX f (dbl f a) = xV f e := fun e t he ht h nz => by
    obtain ⟨e1, e2, e3, e4⟩ := enc_k hf false (e := e) (t := t) (by omega) ht
    rw [h] at e1 e2 e3 e4
    have c := kC_all f (dbl f a)
    rw [e2, e3, e4] at c
    simp only [Bool.false_eq_true, if_false] at c
    have c2 : kC f (dbl f a) = 5 ∨ kC f (dbl f a) = 6 := by
      unfold sV at nz
      split at nz <;> omega
    obtain ⟨j1, j2, j3, j4⟩ := k_parts (f := f) (dbl f a) (by omega)
    rw [e3, e4] at j2
    rw [e3] at j3
    exact ⟨e1, e2, c2, j2, j3⟩
  by_cases c0 : kE f a = 0
  · have hd : dbl f a = 2 * kT f a := by unfold dbl; rw [if_pos c0]
    have sa : kS f a = kT f a := by rw [k2]; unfold sV; rw [if_pos c0]
    have xa : kX f a = lx f := by rw [k3]; unfold xV; rw [if_pos c0]
    by_cases c1 : 2 * kT f a < 2 ^ pV f
    · obtain ⟨f1, f2, f3, f4, f5⟩ := fin 0 (2 * kT f a) (by omega) c1 (by rw [hd]; unfold enc7; simp) (by unfold sV; rw [if_pos rfl]; omega)
      refine ⟨f1, f2, f3, Or.inl ⟨?_, ?_⟩⟩
      · rw [f4, sa]; unfold sV; rw [if_pos rfl]
      · rw [f5, xa]; unfold xV; rw [if_pos rfl]
    · obtain ⟨f1, f2, f3, f4, f5⟩ := fin 1 (2 * kT f a - 2 ^ pV f) (by omega) (by omega) (by rw [hd]; unfold enc7; simp; omega) (by unfold sV; rw [if_neg (by decide)]; omega)
      refine ⟨f1, f2, f3, Or.inl ⟨?_, ?_⟩⟩
      · rw [f4, sa]; unfold sV; rw [if_neg (by decide)]; omega
      · rw [f5, xa]; unfold xV; rw [if_neg (by decide)]; omega
  · have hd : dbl f a = kM f a + 2 ^ pV f := by unfold dbl; rw [if_neg c0]
    obtain ⟨f1, f2, f3, f4, f5⟩ := fin (kE f a + 1) (kT f a) hE t (by rw [hd]; unfold enc7 kM; rw [Nat.add_mul]; simp; omega) (by unfold sV; rw [if_neg (by omega)]; have := Nat.two_pow_pos (pV f); omega)
    refine ⟨f1, f2, f3, Or.inr ⟨?_, ?_⟩⟩
    · rw [f4, k2]; unfold sV; rw [if_neg (by omega), if_neg c0]
    · rw [f5, k3]; unfold xV; rw [if_neg (by omega), if_neg c0]; omega
theorem two_is {f : Int} (hf : Is4 f) (a : Nat) (ha : kC f a = 5 ∨ kC f a = 6) (hN : kN f a = false) : ∃ M fl, addR f 1 a a = (M, fl) ∧ okB f M = true ∧ kN f M = false ∧ (kC f M = 5 ∨ kC f M = 6) ∧
    ((kS f M = 2 * kS f a ∧ kX f M = kX f a) ∨ (kS f M = kS f a ∧ kX f M = kX f a + 1) ∨ (kX f M = kX f a ∧ kS f M < 2 * kS f a)) := by
  have ha' : kC f a = 1 ∨ kC f a = 2 ∨ kC f a = 5 ∨ kC f a = 6 := by omega
  obtain ⟨k1, k2, k3, k4⟩ := k_parts (f := f) a ha'
  obtain ⟨n1, n2, n3, n4, n5, n6⟩ := nm8 hf
  have hp := fp8 hf
  have t := kT_lt (f := f) a
  have pp := Nat.two_pow_pos (pV f)
  have oe : (oV f : Int) = 2 * fE f + 1 := by unfold oV; omega
  have ag : addR f 1 a a = dlv f 1 false (kX f a + (blen (2 * kS f a) : Int) - 1) (qW (pV f + 1) (2 * kS f a)) (qM (pV f + 1) (2 * kS f a) false) := by
    have s := sum_like (pV f) (kS f a) (kS f a) 0 k4 (fun q => absurd (by rw [Nat.pow_zero]; exact Nat.mod_one _) q)
    have hS : adS f a a = 8 * kS f a + jr (8 * kS f a) 0 := by unfold adS; rw [if_pos rfl, Int.sub_self]; rfl
    rw [← hS, Nat.pow_zero, Nat.mul_one, show kS f a + kS f a = 2 * kS f a by omega] at s
    unfold addR
    rw [if_neg (Nat.lt_irrefl _)]
    unfold addG
    rw [if_neg (by omega), if_neg (by omega), if_neg (by omega), if_neg (by rw [hS]; omega), hN, s.2.1, s.2.2]
    congr 1
    omega
  have okM : ∀ M, Fit f M → okB f M = true := fun M h => by
    unfold okB
    rw [decide_eq_true_iff]
    exact ⟨by rcases hf with rfl | rfl | rfl | rfl <;> decide, h⟩
  by_cases hE : kE f a + 1 < oV f
  · obtain ⟨d1, d2, d3, d4⟩ := dbl_parts hf a ha' hE
    have d3' : kC f (dbl f a) = 1 ∨ kC f (dbl f a) = 2 ∨ kC f (dbl f a) = 5 ∨ kC f (dbl f a) = 6 := by omega
    obtain ⟨w1, w2, w3, w4⟩ := own_round hf 1 (dbl f a) d1 (by omega)
    have rr : rnd f 1 (vX f (dbl f a)) = (dbl f a, 0) := by
      rcases w4 with w4 | w4
      · exact w4.2
      · have := (rnd_vX hf 1 (dbl f a) d3').2.2.1
        rw [w4] at this
        exact absurd rfl this
    rw [(rnd_vX hf 1 (dbl f a) d3').2.2.2.2, d2] at rr
    refine ⟨dbl f a, 0, ?_, okM _ d1, d2, d3, ?_⟩
    · rw [ag, ← rr]
      rcases d4 with ⟨e1, e2⟩ | ⟨e1, e2⟩
      · rw [e1, e2]
      · have bs := blen_shift (kS f a) 1 k4
        have ql := q_longer (pV f + 1) (kS f a) 1 k4
        rw [Nat.pow_one, Nat.mul_comm (kS f a) 2] at bs ql
        rw [e1, e2, ql.1, ql.2, bs]
        congr 1
        omega
    · rcases d4 with d4 | d4
      · exact Or.inl d4
      · exact Or.inr (Or.inl d4)
  · have eE : kE f a = oV f - 1 := by omega
    have o3 := (nb_p hf).2.2.2.2.2.2
    have sa : kS f a = 2 ^ pV f + kT f a := by rw [k2]; unfold sV; rw [if_neg (by omega)]
    have xa : kX f a = fE f - (pV f : Int) := by rw [k3]; unfold xV lx; rw [if_neg (by omega)]; omega
    have bl : blen (2 * kS f a) = pV f + 2 := by
      have bs := blen_shift (kS f a) 1 k4
      rw [Nat.pow_one, Nat.mul_comm (kS f a) 2] at bs
      have b1 : blen (kS f a) ≤ pV f + 1 := (blen_iff _ _).2 (by rw [Nat.pow_succ]; omega)
      have b2 := (blen_low (kS f a) k4).2.2
      have := (Nat.pow_lt_pow_iff_right (show 1 < 2 by decide)).1 (Nat.lt_of_le_of_lt (show 2 ^ pV f ≤ kS f a by omega) b2)
      omega
    obtain ⟨e1, e2, e3, e4⟩ := enc_k hf false (e := oV f - 1) (t := 2 ^ pV f - 1) (by omega) (by omega)
    have eg : enc7 f false (oV f - 1) (2 ^ pV f - 1) = eGreatest f false := rfl
    rw [eg] at e1 e2 e3 e4
    have c := kC_all f (eGreatest f false)
    rw [e2, e3] at c
    simp only [Bool.false_eq_true, if_false] at c
    have c2 : kC f (eGreatest f false) = 6 := by omega
    obtain ⟨j1, j2, j3, j4⟩ := k_parts (f := f) (eGreatest f false) (by omega)
    rw [e3, e4] at j2
    rw [e3] at j3
    refine ⟨eGreatest f false, 5, ?_, okM _ e1, e2, Or.inr c2, Or.inr (Or.inr ⟨?_, ?_⟩)⟩
    · rw [ag]
      have wok := q_ok (f := f) (2 * kS f a) (by omega)
      rw [dlv_over hf wok 1 false _ _ (by rw [bl, xa]; omega)]
      have : ovB f 1 false = eGreatest f false := by
        unfold ovB gO
        rw [if_neg (by decide)]
      rw [this]
    · rw [j3, xa]
      unfold xV lx
      rw [if_neg (by omega)]
      omega
    · rw [j2, sa]
      unfold sV
      rw [if_neg (by omega)]
      omega
theorem dist_zero {f : Int} (hf : Is4 f) {g c : Nat} (hg : kC f g = 1 ∨ kC f g = 2 ∨ kC f g = 5 ∨ kC f g = 6) (hc : kC f c = 1 ∨ kC f c = 2 ∨ kC f c = 5 ∨ kC f c = 6) (n : Nat) (hn : kX f g = kX f c + (n : Int)) (h : kS f g * 2 ^ n ≤ kS f c) : kM f g ≤ kM f c := by
  obtain ⟨g1, g2, g3, g4⟩ := k_parts (f := f) g hg
  obtain ⟨c1, c2, c3, c4⟩ := k_parts (f := f) c hc
  have t1 := kT_lt (f := f) g
  have t2 := kT_lt (f := f) c
  rw [g2, c2] at h
  rw [g3, c3] at hn
  unfold sV at h
  unfold xV at hn
  unfold kM
  by_cases a0 : kE f g = 0
  · rw [if_pos a0] at h hn
    rw [a0, Nat.zero_mul, Nat.zero_add]
    by_cases b0 : kE f c = 0
    · rw [if_pos b0] at h hn
      obtain rfl : n = 0 := by omega
      rw [Nat.pow_zero, Nat.mul_one] at h
      omega
    · have := Nat.mul_le_mul_right (2 ^ pV f) (show 1 ≤ kE f c by omega)
      omega
  · rw [if_neg a0] at h hn
    have pn := Nat.two_pow_pos n
    have big : 1 ≤ n → 2 * (2 ^ pV f) ≤ (2 ^ pV f + kT f g) * 2 ^ n := fun hn1 => by
      have : 2 ^ 1 ≤ 2 ^ n := Nat.pow_le_pow_right (by decide) hn1
      have := Nat.mul_le_mul_left (2 ^ pV f + kT f g) this
      omega
    by_cases b0 : kE f c = 0
    · rw [if_pos b0] at h hn
      exfalso
      have h0 := Nat.mul_le_mul_left (2 ^ pV f + kT f g) pn
      omega
    · rw [if_neg b0] at h hn
      by_cases n0 : n = 0
      · subst n0
        rw [Nat.pow_zero, Nat.mul_one] at h
        have e : kE f g = kE f c := by omega
        rw [e]
        omega
      · have := big (by omega)
        omega
theorem sub_neg {f : Int} (hf : Is4 f) (m : Int) (c b : Nat) (hc : kC f c = 5 ∨ kC f c = 6) (hb : kC f b = 5 ∨ kC f b = 6) (nb : kN f b = false) (nc : kN f c = false) (fb : Fit f b) (h : kM f c < kM f b) : kN f (addR f m c (sgB f b true)).1 = true := by
  have e := flip_k hf fb
  obtain ⟨e1, e2, e3, e4⟩ := enc_k hf (!kN f b) (kE_le (f := f) b) (kT_lt (f := f) b)
  rw [← e] at e1 e2 e3 e4
  rw [nb] at e2
  have kMe : kM f (sgB f b true) = kM f b := by unfold kM; rw [e3, e4]
  have cc : kC f (sgB f b true) = 1 ∨ kC f (sgB f b true) = 2 := by
    have c1 := kC_all f (sgB f b true)
    have c2 := kC_all f b
    rw [e2, e3, e4] at c1
    rw [nb] at c2
    simp only [Bool.false_eq_true, if_false, Bool.not_false, if_true] at c1 c2
    omega
  obtain ⟨n, d1, d2, d3, d4⟩ := kM_dist hf (g := sgB f b true) (l := c) (by omega) (by omega) (by omega)
  obtain ⟨zb, zn, ze, q1, q2, q3, q4, q5⟩ := addG_num hf m (sgB f b true) c (by omega) (by omega) (by omega)
  unfold addR
  rw [if_pos (by omega)]
  have hS : adS f (sgB f b true) c = 8 * kS f (sgB f b true) - jr (8 * kS f c) n := by
    unfold adS
    rw [show (kX f (sgB f b true) - kX f c).toNat = n by omega, if_neg (by rw [e2, nc]; decide)]
  have s := sum_unlike (pV f) (kS f (sgB f b true)) (kS f c) n d3 d4 d2
  rw [← hS] at s
  have ne : adS f (sgB f b true) c ≠ 0 := fun q => by
    have z := s.2.1.2 q
    have hle : kM f (sgB f b true) ≤ kM f c := by
      have p1 := k_parts (f := f) (sgB f b true) (by omega)
      have p2 := k_parts (f := f) c (by omega)
      exact dist_zero hf (by omega) (by omega) n d1 (by omega)
    omega
  unfold addG
  rw [if_neg (by omega), if_neg (by omega), if_neg (by omega), if_neg ne, e2]
  obtain ⟨ee, t, fl, h1, h2, h2b, h3, h4⟩ := dlv_enc hf (q_ok (f := f) _ ne) m true (kX f (sgB f b true) - 3 + (blen (adS f (sgB f b true) c) : Int) - 1) (qM (pV f + 1) (adS f (sgB f b true) c) false)
  show kN f (dlv f m true (kX f (sgB f b true) - 3 + (blen (adS f (sgB f b true) c) : Int) - 1) (qW (pV f + 1) (adS f (sgB f b true) c)) (qM (pV f + 1) (adS f (sgB f b true) c) false)).1 = true
  rw [h3]
  exact (enc_k hf true h1 h2).2.1
def kl (f : Int) (n : Nat) : Bool := !okB f n || decide (kC f n = 0 ∨ 7 ≤ kC f n)
theorem kl_no (f : Int) (x y : Nat) (w : World) (K1 : Box (∀ w, FAt w → Calls Tryz.prog 24 #[.int .u8 f, .agg #[.int .u64 x, .int .u64 y]] w fun r w' => r = .returned (.tuple #[.int .u8 0, .int .i64 2]) ∧ Below w.heap.size w w')) (hT : FAt w) : Calls Tryz.prog 37 #[.int .u8 f, .agg #[.int .u64 x, .int .u64 y]] w fun r w' => r = .returned (.bool true) ∧ Below w.heap.size w w' := by
  have FF := box hT
  clear hT
  obtain ⟨Aa, B0⟩ := opn1 w (Obj.cells #[.int .u64 x, .int .u64 y] 25)
  go_enter Tryz.func37, Tryz.ntmps37
  go_wp2_with fail
  refine (K1.out _ (fatB FF.out B0)).mono ?_
  rintro r w1 ⟨rfl, b1⟩
  have B1 : Below w.heap.size w w1 := btr B0 b1
  have Ab := heap_of b1 _ _ _ Aa
  clear b1 B0 Aa
  obtain ⟨Ac, Ad⟩ := cells2s Ab
  go_wp2
  go_ret
  exact ⟨rfl, B1⟩
theorem kl_yes (f : Int) (x y c : Nat) (o : Bool) (hd : decide (c = 0 ∨ 7 ≤ c) = o) (w : World) (K1 : Box (∀ w, FAt w → Calls Tryz.prog 24 #[.int .u8 f, .agg #[.int .u64 x, .int .u64 y]] w fun r w' => r = .returned (.tuple #[.int .u8 c, .int .i64 0]) ∧ Below w.heap.size w w')) (hT : FAt w) : Calls Tryz.prog 37 #[.int .u8 f, .agg #[.int .u64 x, .int .u64 y]] w fun r w' => r = .returned (.bool o) ∧ Below w.heap.size w w' := by
  have FF := box hT
  clear hT
  by_cases c0 : c = 0
  · rw [decide_eq_true (Or.inl c0)] at hd
    subst hd
    have d0 : ((c : Int) == 0) = true := by rw [c0]; rfl
    clear c0
    obtain ⟨Aa, B0⟩ := opn1 w (Obj.cells #[.int .u64 x, .int .u64 y] 25)
    go_enter Tryz.func37, Tryz.ntmps37
    go_wp2_with fail
    refine (K1.out _ (fatB FF.out B0)).mono ?_
    rintro r w1 ⟨rfl, b1⟩
    have B1 : Below w.heap.size w w1 := btr B0 b1
    have Ab := heap_of b1 _ _ _ Aa
    clear b1 B0 Aa
    obtain ⟨Ac, Ad⟩ := cells2s Ab
    go_wp2
    go_ret
    exact ⟨rfl, B1⟩
  · have d0 : ((c : Int) == 0) = false := by rw [beq_eq_false_iff_ne]; omega
    have d7 : decide ((7 : Int) ≤ (c : Int)) = o := by
      rw [← hd, decide_eq_decide]
      omega
    clear c0 hd
    obtain ⟨Aa, B0⟩ := opn1 w (Obj.cells #[.int .u64 x, .int .u64 y] 25)
    go_enter Tryz.func37, Tryz.ntmps37
    go_wp2_with fail
    refine (K1.out _ (fatB FF.out B0)).mono ?_
    rintro r w1 ⟨rfl, b1⟩
    have B1 : Below w.heap.size w w1 := btr B0 b1
    have Ab := heap_of b1 _ _ _ Aa
    clear b1 B0 Aa
    obtain ⟨Ac, Ad⟩ := cells2s Ab
    go_wp2
    go_ret
    exact ⟨rfl, B1⟩
theorem kl_is (f : Int) (h0 : 0 ≤ f) (h1 : f ≤ 255) (x y n : Nat) (hx : x < 18446744073709551616) (hy : y < 18446744073709551616) (hn : y + 18446744073709551616 * x = n) (o : Bool) (ho : kl f n = o) (w : World) (hT : FAt w) : Calls Tryz.prog 37 #[.int .u8 f, .agg #[.int .u64 x, .int .u64 y]] w fun r w' => r = .returned (.bool o) ∧ Below w.heap.size w w' := by
  unfold kl at ho
  cases hk : okB f n
  · rw [hk] at ho
    subst ho
    exact kl_no f x y w (box (fun w hT => kClass_no f h0 h1 x y n hx hy hn hk w hT)) hT
  · rw [hk] at ho
    have hf := (okB_yes h0 hk).1
    exact kl_yes f x y (kC f n) o (by rw [← ho]; rfl) w (box (fun w hT => kClass_yes f hf x y n _ hx hy hn hk rfl w hT)) hT
theorem fit_ok {f : Int} (hf : Is4 f) {n : Nat} (h : Fit f n) : okB f n = true := by
  unfold okB
  rw [decide_eq_true_iff]
  exact ⟨is4_le hf, h⟩
theorem addG_ok {f : Int} (hf : Is4 f) (m : Int) (g l : Nat) (hg : okB f g = true) : okB f (addG f m g l).1 = true := by
  have p := Nat.two_pow_pos (pV f)
  have nan : okB f (eNaN f) = true := fit_ok hf (enc_k hf false (e := oV f) (t := 2 ^ (pV f - 1)) (Nat.le_refl _) (by
    have : 2 ≤ pV f := by rcases hf with rfl | rfl | rfl | rfl <;> decide +kernel
    exact Nat.pow_lt_pow_right (by decide) (by omega))).1
  unfold addG
  split
  · exact nan
  · split
    · exact nan
    · split
      · split
        · exact nan
        · exact hg
      · split
        · exact fit_ok hf (enc_k hf _ (e := 0) (t := 0) (Nat.zero_le _) p).1
        · rename_i q
          obtain ⟨ee, t, fl, h1, h2, h2b, h3, h4⟩ := dlv_enc hf (q_ok (f := f) _ q) m (kN f g) (kX f g - 3 + (blen (adS f g l) : Int) - 1) (qM (pV f + 1) (adS f g l) false)
          show okB f (dlv f m (kN f g) (kX f g - 3 + (blen (adS f g l) : Int) - 1) (qW (pV f + 1) (adS f g l)) (qM (pV f + 1) (adS f g l) false)).1 = true
          rw [h3]
          exact fit_ok hf (enc_k hf _ h1 h2).1
theorem addR_ok {f : Int} (hf : Is4 f) (m : Int) (a b : Nat) (ha : okB f a = true) (hb : okB f b = true) : okB f (addR f m a b).1 = true := by
  unfold addR
  split
  · exact addG_ok hf m b a hb
  · exact addG_ok hf m a b ha
theorem ok_lt {f : Int} (hf : Is4 f) {n : Nat} (h : okB f n = true) : n < 340282366920938463463374607431768211456 := by
  have fit := (okB_yes (is4_ok hf).1 h).2
  have := (fm hf).2.2.2.2.2.2
  unfold Fit at fit
  omega
theorem kSub_yes (f m : Int) (hf : Is4 f) (hm : 0 ≤ m ∧ m ≤ 4) (x1 y1 a x2 y2 b : Nat) (hx1 : x1 < 18446744073709551616) (hy1 : y1 < 18446744073709551616) (ha : y1 + 18446744073709551616 * x1 = a) (hx2 : x2 < 18446744073709551616) (hy2 : y2 < 18446744073709551616) (hb : y2 + 18446744073709551616 * x2 = b)
    (oa : okB f a = true) (ob : okB f b = true) (M : Nat) (fl : Int) (hr : addR f m a (sgB f b true) = (M, fl)) (u v : Nat) (hv : bv7 M = (u, v)) (w : World) (hT : FAt w) :
    Calls Tryz.prog 32 #[.int .u8 f, .int .u8 m, .agg #[.int .u64 x1, .int .u64 y1], .agg #[.int .u64 x2, .int .u64 y2]] w fun r w' => r = .returned (.tuple #[.agg #[.int .u64 u, .int .u64 v], .int .u8 fl, .int .i64 0]) ∧ Below w.heap.size w w' := by
  obtain ⟨of, lf⟩ := flip_ok hf ob
  obtain ⟨p, q, hp⟩ : ∃ p q, bv7 (sgB f b true) = (p, q) := ⟨_, _, rfl⟩
  obtain ⟨p1, p2, p3⟩ := bv_lt lf hp
  have ho : (decide (f ≤ 3 ∧ m ≤ 4) && okB f a && okB f b) = true := by rw [oa, ob, decide_eq_true (show f ≤ 3 ∧ m ≤ 4 from ⟨is4_le hf, hm.2⟩)]; rfl
  exact add_sub_yes f m x1 y1 x2 y2 u v p q fl 0 w (kmay2 f m (is4_ok hf).1 (is4_ok hf).2.1 hm.1 x1 y1 a x2 y2 b hx1 hy1 ha hx2 hy2 hb true ho) (box (fun w hT => kFlip_yes f hf x2 y2 b p q hx2 hy2 hb ob hp w hT)) (box (fun w hT => kplus_is2 f m hf hm x1 y1 a p q _ hx1 hy1 ha p1 p2 p3 oa of M fl hr u v hv w hT)) hT
theorem flip_same {f : Int} (hf : Is4 f) (b : Nat) (fb : Fit f b) (hb : kC f b = 5 ∨ kC f b = 6) (nb : kN f b = false) : kN f (sgB f b true) = true ∧ kM f (sgB f b true) = kM f b ∧ (kC f (sgB f b true) = 1 ∨ kC f (sgB f b true) = 2) ∧ kS f (sgB f b true) = kS f b ∧ kX f (sgB f b true) = kX f b := by
  have e := flip_k hf fb
  obtain ⟨e1, e2, e3, e4⟩ := enc_k hf (!kN f b) (kE_le (f := f) b) (kT_lt (f := f) b)
  rw [← e] at e1 e2 e3 e4
  rw [nb] at e2
  have cc : kC f (sgB f b true) = 1 ∨ kC f (sgB f b true) = 2 := by
    have c1 := kC_all f (sgB f b true)
    have c2 := kC_all f b
    rw [e2, e3, e4] at c1
    rw [nb] at c2
    simp only [Bool.false_eq_true, if_false, Bool.not_false, if_true] at c1 c2
    omega
  obtain ⟨j1, j2, j3, j4⟩ := k_parts (f := f) (sgB f b true) (by omega)
  obtain ⟨i1, i2, i3, i4⟩ := k_parts (f := f) b (by omega)
  exact ⟨e2, by unfold kM; rw [e3, e4], cc, by rw [j2, e3, e4, i2], by rw [j3, e3, i3]⟩
theorem near_num {f : Int} (hf : Is4 f) (m : Int) (a b A B : Nat) (fa : Fit f a) (fb : Fit f b) (ca : kC f a = 5 ∨ kC f a = 6) (cb : kC f b = 5 ∨ kC f b = 6) (na : kN f a = false) (nb : kN f b = false) (cA : kC f A = 5 ∨ kC f A = 6) (cB : kC f B = 5 ∨ kC f B = 6)
    (hA : (kS f A = 2 * kS f a ∧ kX f A = kX f a) ∨ (kS f A = kS f a ∧ kX f A = kX f a + 1) ∨ (kX f A = kX f a ∧ kS f A < 2 * kS f a)) (hB : (kS f B = 2 * kS f b ∧ kX f B = kX f b) ∨ (kS f B = kS f b ∧ kX f B = kX f b + 1) ∨ (kX f B = kX f b ∧ kS f B < 2 * kS f b)) (h1 : kM f b ≤ kM f A) (h2 : kM f a ≤ kM f B) : (addR f m a (sgB f b true)).2 = 0 := by
  obtain ⟨s1, s2, s3, s4, s5⟩ := flip_same hf b fb cb nb
  have half : ∀ g l L, (kC f g = 1 ∨ kC f g = 2 ∨ kC f g = 5 ∨ kC f g = 6) → (kC f L = 1 ∨ kC f L = 2 ∨ kC f L = 5 ∨ kC f L = 6) → kM f g ≤ kM f L → ((kS f L = 2 * kS f l ∧ kX f L = kX f l) ∨ (kS f L = kS f l ∧ kX f L = kX f l + 1) ∨ (kX f L = kX f l ∧ kS f L < 2 * kS f l)) → ∀ n : Nat, kX f g = kX f l + (n : Int) → kS f g * 2 ^ n ≤ 2 * kS f l := fun g l L hg hL hle hh n hn => by
    obtain ⟨k, d1, d2, d3, d4⟩ := kM_dist hf hle hL hg
    rcases hh with ⟨e1, e2⟩ | ⟨e1, e2⟩ | ⟨e1, e2⟩
    · obtain rfl : n = 0 := by omega
      obtain rfl : k = 0 := by omega
      rw [Nat.pow_zero, Nat.mul_one] at d2 ⊢
      omega
    · have : (n = 0 ∧ k = 1) ∨ (n = 1 ∧ k = 0) := by omega
      rcases this with ⟨rfl, rfl⟩ | ⟨rfl, rfl⟩
      · rw [Nat.pow_one] at d2
        rw [Nat.pow_zero, Nat.mul_one]
        omega
      · rw [Nat.pow_zero, Nat.mul_one] at d2
        rw [Nat.pow_one]
        omega
    · obtain rfl : n = 0 := by omega
      obtain rfl : k = 0 := by omega
      rw [Nat.pow_zero, Nat.mul_one] at d2 ⊢
      omega
  unfold addR
  rw [s2]
  by_cases c : kM f a < kM f b
  · rw [if_pos c]
    obtain ⟨n, d1, d2, d3, d4⟩ := kM_dist hf (g := sgB f b true) (l := a) (by omega) (by omega) (by omega)
    exact near_flag hf m (sgB f b true) a (by omega) (by rw [s1, na]; decide) (by omega) (by omega) n d1 (by
      rw [s4]
      exact half b a A (by omega) (by omega) h1 hA n (by omega))
  · rw [if_neg c]
    obtain ⟨n, d1, d2, d3, d4⟩ := kM_dist hf (g := a) (l := sgB f b true) (by omega) (by omega) (by omega)
    exact near_flag hf m a (sgB f b true) (by omega) (by rw [s1, na]; decide) (by omega) (by omega) n d1 (by
      rw [s4]
      exact half a b B (by omega) (by omega) h2 hB n (by omega))
theorem near_main (f m : Int) (hf : Is4 f) (hm : 0 ≤ m ∧ m ≤ 4) (x1 y1 a x2 y2 b : Nat) (hx1 : x1 < 18446744073709551616) (hy1 : y1 < 18446744073709551616) (ha : y1 + 18446744073709551616 * x1 = a) (hx2 : x2 < 18446744073709551616) (hy2 : y2 < 18446744073709551616) (hb : y2 + 18446744073709551616 * x2 = b)
    (oa : okB f a = true) (ob : okB f b = true) (ca : kC f a = 5 ∨ kC f a = 6) (cb : kC f b = 5 ∨ kC f b = 6) (na : kN f a = false) (nb : kN f b = false) :
    ∃ (t1 t2 : Nat) (tf : Int) (m1 m2 : Nat) (mf : Int) (s1 s2 : Nat) (sf : Int) (u1 u2 : Nat) (uf : Int) (p q : Bool), Box (∀ w, FAt w → Calls Tryz.prog 30 #[.int .u8 f, .int .u8 1, .agg #[.int .u64 x1, .int .u64 y1], .agg #[.int .u64 x1, .int .u64 y1]] w fun r w' => r = .returned (.tuple #[.agg #[.int .u64 t1, .int .u64 t2], .int .u8 tf, .int .i64 0]) ∧ Below w.heap.size w w') ∧
      Box (∀ w, FAt w → Calls Tryz.prog 30 #[.int .u8 f, .int .u8 1, .agg #[.int .u64 x2, .int .u64 y2], .agg #[.int .u64 x2, .int .u64 y2]] w fun r w' => r = .returned (.tuple #[.agg #[.int .u64 m1, .int .u64 m2], .int .u8 mf, .int .i64 0]) ∧ Below w.heap.size w w') ∧
      Box (∀ w, FAt w → Calls Tryz.prog 32 #[.int .u8 f, .int .u8 m, .agg #[.int .u64 t1, .int .u64 t2], .agg #[.int .u64 x2, .int .u64 y2]] w fun r w' => r = .returned (.tuple #[.agg #[.int .u64 s1, .int .u64 s2], .int .u8 sf, .int .i64 0]) ∧ Below w.heap.size w w') ∧
      Box (∀ w, FAt w → Calls Tryz.prog 32 #[.int .u8 f, .int .u8 m, .agg #[.int .u64 m1, .int .u64 m2], .agg #[.int .u64 x1, .int .u64 y1]] w fun r w' => r = .returned (.tuple #[.agg #[.int .u64 u1, .int .u64 u2], .int .u8 uf, .int .i64 0]) ∧ Below w.heap.size w w') ∧
      Box (∀ w, FAt w → Calls Tryz.prog 25 #[.int .u8 f, .agg #[.int .u64 s1, .int .u64 s2]] w fun r w' => r = .returned (.bool p) ∧ Below w.heap.size w w') ∧ Box (∀ w, FAt w → Calls Tryz.prog 25 #[.int .u8 f, .agg #[.int .u64 u1, .int .u64 u2]] w fun r w' => r = .returned (.bool q) ∧ Below w.heap.size w w') ∧
      (p = false → q = false → ∃ d1 d2 : Nat, Box (∀ w, FAt w → Calls Tryz.prog 32 #[.int .u8 f, .int .u8 m, .agg #[.int .u64 x1, .int .u64 y1], .agg #[.int .u64 x2, .int .u64 y2]] w fun r w' => r = .returned (.tuple #[.agg #[.int .u64 d1, .int .u64 d2], .int .u8 0, .int .i64 0]) ∧ Below w.heap.size w w')) := by
  have fa := (okB_yes (is4_ok hf).1 oa).2
  have fb := (okB_yes (is4_ok hf).1 ob).2
  have h1m : (0 : Int) ≤ 1 ∧ (1 : Int) ≤ 4 := by decide
  obtain ⟨A, tf, a1, a2, a3, a4, a5⟩ := two_is hf a ca na
  obtain ⟨B, mf, b1, b2, b3, b4, b5⟩ := two_is hf b cb nb
  obtain ⟨t1, t2, ht⟩ : ∃ t1 t2, bv7 A = (t1, t2) := ⟨_, _, rfl⟩
  obtain ⟨m1, m2, hmm⟩ : ∃ t1 t2, bv7 B = (t1, t2) := ⟨_, _, rfl⟩
  obtain ⟨i1, i2, i3⟩ := bv_lt (ok_lt hf a2) ht
  obtain ⟨j1, j2, j3⟩ := bv_lt (ok_lt hf b2) hmm
  obtain ⟨S, sf, hs⟩ : ∃ S sf, addR f m A (sgB f b true) = (S, sf) := ⟨_, _, rfl⟩
  obtain ⟨U, uf, hu⟩ : ∃ S sf, addR f m B (sgB f a true) = (S, sf) := ⟨_, _, rfl⟩
  have oS : okB f S = true := by
    have := addR_ok hf m A (sgB f b true) a2 (flip_ok hf ob).1
    rw [hs] at this
    exact this
  have oU : okB f U = true := by
    have := addR_ok hf m B (sgB f a true) b2 (flip_ok hf oa).1
    rw [hu] at this
    exact this
  obtain ⟨s1, s2, hS⟩ : ∃ t1 t2, bv7 S = (t1, t2) := ⟨_, _, rfl⟩
  obtain ⟨u1, u2, hU⟩ : ∃ t1 t2, bv7 U = (t1, t2) := ⟨_, _, rfl⟩
  obtain ⟨k1, k2, k3⟩ := bv_lt (ok_lt hf oS) hS
  obtain ⟨l1, l2, l3⟩ := bv_lt (ok_lt hf oU) hU
  refine ⟨t1, t2, tf, m1, m2, mf, s1, s2, sf, u1, u2, uf, kN f S, kN f U, box (fun w hT => kAdd_yes f 1 hf h1m x1 y1 a x1 y1 a hx1 hy1 ha hx1 hy1 ha oa oa A tf a1 t1 t2 ht w hT), box (fun w hT => kAdd_yes f 1 hf h1m x2 y2 b x2 y2 b hx2 hy2 hb hx2 hy2 hb ob ob B mf b1 m1 m2 hmm w hT),
    box (fun w hT => kSub_yes f m hf hm t1 t2 A x2 y2 b i1 i2 i3 hx2 hy2 hb a2 ob S sf hs s1 s2 hS w hT), box (fun w hT => kSub_yes f m hf hm m1 m2 B x1 y1 a j1 j2 j3 hx1 hy1 ha b2 oa U uf hu u1 u2 hU w hT),
    box (fun w hT => kSign_yes f hf s1 s2 S _ k1 k2 k3 oS rfl w hT), box (fun w hT => kSign_yes f hf u1 u2 U _ l1 l2 l3 oU rfl w hT), fun hp hq => ?_⟩
  have g1 : kM f b ≤ kM f A := by
    rcases Nat.lt_or_ge (kM f A) (kM f b) with c | c
    · have := sub_neg hf m A b a4 cb nb a3 fb c
      rw [hs] at this
      rw [this] at hp
      exact Bool.noConfusion hp
    · exact c
  have g2 : kM f a ≤ kM f B := by
    rcases Nat.lt_or_ge (kM f B) (kM f a) with c | c
    · have := sub_neg hf m B a b4 ca na b3 fa c
      rw [hu] at this
      rw [this] at hq
      exact Bool.noConfusion hq
    · exact c
  have fz := near_num hf m a b A B fa fb ca cb na nb a4 b4 a5 b5 g1 g2
  obtain ⟨D, df, hD⟩ : ∃ D df, addR f m a (sgB f b true) = (D, df) := ⟨_, _, rfl⟩
  rw [hD] at fz
  obtain rfl : df = 0 := fz
  obtain ⟨d1, d2, hd⟩ : ∃ t1 t2, bv7 D = (t1, t2) := ⟨_, _, rfl⟩
  exact ⟨d1, d2, box (fun w hT => kSub_yes f m hf hm x1 y1 a x2 y2 b hx1 hy1 ha hx2 hy2 hb oa ob D 0 hD d1 d2 hd w hT)⟩
end Go.Proofs.YtoaaajeblhaeoaaGreatDoor
