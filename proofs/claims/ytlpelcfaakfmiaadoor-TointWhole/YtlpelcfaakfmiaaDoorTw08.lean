/-
  What the functions that the statement reaches return: part 8 (GH, GN, GP, GO).
-/
import Derived.Test.YtlpelcfaakfmiaaDoorTw07
namespace Go.Proofs.YtlpelcfaakfmiaaDoor
set_option maxRecDepth 100000
set_option maxHeartbeats 40000000
set_option maxRecDepth 100000
open Go.RowKit WMath XMath
set_option linter.unusedSimpArgs false
set_option linter.unusedVariables false
def hfR (x : XN) : Int := if (flX x (-1)).1.1 % 2 = 1 then (if (flX x (-1)).1.2 then 0 else 1) else -1
def tiR (f m : Int) (n : Nat) : Nat × Bool :=
  if (flX (vX f n) 0).1.2 then ((flX (vX f n) 0).1.1, true)
  else ((flX (vX f n) 0).1.1 + (if uP m (vX f n).b (decide ((flX (vX f n) 0).1.1 % 2 = 1)) (hfR (vX f n)) false then 1 else 0), false)
def loM (k : Int) : Nat := if k = 0 then 2147483648 else if k = 2 then 9223372036854775808 else 0
def hiM (k : Int) : Nat := if k = 0 then 2147483647 else if k = 1 then 4294967295 else if k = 2 then 9223372036854775807 else 18446744073709551615
def leW (k : Int) : Nat := if k = 0 then 18446744071562067968 else if k = 2 then 9223372036854775808 else 0
def grW (k : Int) : Nat := if k = 0 then 2147483647 else if k = 2 then 9223372036854775807 else 18446744073709551615
def rgW (k : Int) (neg : Bool) (N : Nat) : Nat :=
  if k = 0 ∨ k = 1 then sx (if neg then (18446744073709551616 - N % 18446744073709551616) % 18446744073709551616 else N % 18446744073709551616) 32
  else (if neg then (18446744073709551616 - N % 18446744073709551616) % 18446744073709551616 else N % 18446744073709551616)
def tiC (k : Int) (neg : Bool) (N : Nat) (ex : Bool) : Nat × Int :=
  if neg = true ∧ loM k < N then (leW k, 16) else if neg = false ∧ hiM k < N then (grW k, 16) else (rgW k neg N, if ex then 0 else 1)
def tiX (k f m : Int) (n : Nat) : Nat × Int :=
  if 8 ≤ kC f n then (grW k, 16) else if kC f n = 0 then (leW k, 16) else if kC f n = 7 then (grW k, 16) else tiC k (kN f n) (tiR f m n).1 (tiR f m n).2
theorem sx_low {x : Nat} (h : x < 2147483648) : sx x 32 = x := by
  unfold sx
  rw [show (32 - 1 : Nat) = 31 from rfl, Nat.testBit_lt_two_pow (by simpa using h)]
  simp
  omega
theorem sx_high {x : Nat} (h : 18446744071562067968 ≤ x) (h2 : x < 18446744073709551616) : sx x 32 = x := by
  unfold sx
  have : x.testBit (32 - 1) = true := by
    rw [Nat.testBit_eq_decide_div_mod_eq]
    simp
    omega
  rw [if_pos this]
  omega
theorem rg_WL {neg : Bool} {N : Nat} (h1 : neg = true → N ≤ 2147483648) (h2 : neg = false → N ≤ 2147483647) : rgW 2 neg N = rgW 0 neg N := by
  unfold rgW
  rw [if_neg (by decide), if_pos (Or.inl rfl)]
  cases neg
  · have := h2 rfl
    rw [if_neg (by decide), sx_low (by omega)]
  · have := h1 rfl
    rw [if_pos rfl]
    by_cases z : N = 0
    · subst z
      exact (sx_low (by decide)).symm
    · rw [sx_high (by omega) (by omega)]
theorem tiC_WL {neg : Bool} {N : Nat} {ex : Bool} (h : (tiC 0 neg N ex).2 ≠ 16) : tiC 2 neg N ex = tiC 0 neg N ex := by
  unfold tiC at h ⊢
  have l0 : loM 0 = 2147483648 := rfl
  have l2 : loM 2 = 9223372036854775808 := rfl
  have g0 : hiM 0 = 2147483647 := rfl
  have g2 : hiM 2 = 9223372036854775807 := rfl
  by_cases a : neg = true ∧ loM 0 < N
  · rw [if_pos a] at h; exact absurd rfl h
  · by_cases b : neg = false ∧ hiM 0 < N
    · rw [if_neg a, if_pos b] at h; exact absurd rfl h
    · rw [if_neg a, if_neg b, if_neg (fun q => a ⟨q.1, by omega⟩), if_neg (fun q => b ⟨q.1, by omega⟩)]
      rw [rg_WL (fun q => Nat.le_of_not_lt fun r => a ⟨q, by omega⟩) (fun q => Nat.le_of_not_lt fun r => b ⟨q, by omega⟩)]
theorem tiX_WL {f m : Int} {n : Nat} (h : (tiX 0 f m n).2 ≠ 16) : tiX 2 f m n = tiX 0 f m n := by
  unfold tiX at h ⊢
  split at h
  · exact absurd rfl h
  · rename_i c
    rw [if_neg c, if_neg c]
    split at h
    · exact absurd rfl h
    · rename_i c0
      rw [if_neg c0, if_neg c0]
      split at h
      · exact absurd rfl h
      · rename_i c7
        rw [if_neg c7, if_neg c7]
        exact tiC_WL h
theorem tiR_ex {f m : Int} {n : Nat} (h : (tiR f m n).2 = true) (m' : Int) : tiR f m' n = tiR f m n := by
  unfold tiR at h ⊢
  split at h
  · rename_i c
    rw [if_pos c, if_pos c]
  · exact absurd (show false = true from h) (by decide)
theorem tiX_ex {k f m : Int} {n : Nat} (h : (tiX k f m n).2 = 0) (m' : Int) : tiX k f m' n = tiX k f m n := by
  unfold tiX at h ⊢
  split at h
  · exact absurd (show (16 : Int) = 0 from h) (by decide)
  · rename_i c
    rw [if_neg c, if_neg c]
    split at h
    · exact absurd (show (16 : Int) = 0 from h) (by decide)
    · rename_i c0
      rw [if_neg c0, if_neg c0]
      split at h
      · exact absurd (show (16 : Int) = 0 from h) (by decide)
      · rename_i c7
        rw [if_neg c7, if_neg c7]
        have : (tiR f m n).2 = true := by
          unfold tiC at h
          split at h
          · exact absurd (show (16 : Int) = 0 from h) (by decide)
          · split at h
            · exact absurd (show (16 : Int) = 0 from h) (by decide)
            · by_cases e : (tiR f m n).2 = true
              · exact e
              · rw [if_neg e] at h; exact absurd (show (1 : Int) = 0 from h) (by decide)
        rw [tiR_ex this m']
theorem tiX_zero {f m : Int} {n : Nat} (h0 : 0 < kC f n) (h7 : kC f n < 7) (h : (tiR f m n).1 = 0) : tiX 3 f m n = (0, if (tiR f m n).2 then 0 else 1) := by
  unfold tiX
  rw [if_neg (by omega), if_neg (by omega), if_neg (by omega), h]
  unfold tiC
  rw [if_neg (fun q => absurd q.2 (Nat.not_lt_zero _)), if_neg (fun q => absurd q.2 (Nat.not_lt_zero _))]
  have : rgW 3 (kN f n) 0 = 0 := by cases kN f n <;> decide
  rw [this]
def flS (S : Nat) (X a : Int) : Nat × Bool := if a ≤ X then (S * 2 ^ (X - a).toNat, true) else (S / 2 ^ (a - X).toNat, decide (S % 2 ^ (a - X).toNat = 0))
theorem fl_odd (b : Bool) (n : Nat) (e a : Int) (ho : n % 2 = 1) (a1 : -2097152 ≤ a) (a2 : a ≤ 2097152) (hl : nl (n * 2 ^ (e - a).toNat) ≤ 16384) : flX ⟨b, n, 1, e⟩ a = (flS n e a, 0) := by
  have n0 : n ≠ 0 := by omega
  unfold flS
  by_cases c : a ≤ e
  · rw [if_pos c]
    exact fl_yes ⟨b, n, 1, e⟩ a n0 rfl c a1 a2 hl
  · rw [if_neg c]
    have m : decide (n % 2 ^ (a - e).toNat = 0) = false := by
      obtain ⟨i, hi⟩ : ∃ i, (a - e).toNat = i + 1 := ⟨(a - e).toNat - 1, by omega⟩
      rw [hi]
      refine decide_eq_false (fun q => ?_)
      have := (mod_pow_zero n 1 i).1 (by rw [Nat.add_comm]; exact q)
      omega
    have t := top_whole b n e n0
    rw [m]
    by_cases d : topX ⟨b, n, 1, e⟩ < a
    · have z : flX ⟨b, n, 1, e⟩ a = ((0, false), 0) := by
        unfold flX
        rw [if_neg (by omega), if_neg n0, if_neg c, if_pos d]
      have lt : n < 2 ^ (a - e).toNat := Nat.lt_of_lt_of_le (blen_lt n) (Nat.pow_le_pow_right (by decide) (by omega))
      rw [z, Nat.div_eq_of_lt lt]
    · unfold flX
      rw [if_neg (by omega), if_neg n0, if_neg c, if_neg d, Nat.one_mul]
theorem flS_shift (o t : Nat) (X a : Int) : flS (o * 2 ^ t) X a = flS o (X + (t : Int)) a := by
  unfold flS
  by_cases c : a ≤ X
  · rw [if_pos c, if_pos (by omega), Nat.mul_assoc, ← Nat.pow_add, show t + (X - a).toNat = (X + (t : Int) - a).toNat by omega]
  · rw [if_neg c]
    by_cases d : a ≤ X + (t : Int)
    · rw [if_pos d]
      have e : t = (X + (t : Int) - a).toNat + (a - X).toNat := by omega
      have e2 : o * 2 ^ t = o * 2 ^ (X + (t : Int) - a).toNat * 2 ^ (a - X).toNat := by rw [Nat.mul_assoc, ← Nat.pow_add, ← e]
      rw [e2, Nat.mul_div_cancel _ (Nat.two_pow_pos _), Nat.mul_mod_left, decide_eq_true rfl]
    · rw [if_neg d]
      have e : (a - X).toNat = (a - (X + (t : Int))).toNat + t := by omega
      rw [e, Nat.pow_add, Nat.mul_div_mul_right _ _ (Nat.two_pow_pos _), Nat.mul_mod_mul_right]
      have : (o % 2 ^ (a - (X + (t : Int))).toNat * 2 ^ t = 0) ↔ (o % 2 ^ (a - (X + (t : Int))).toNat = 0) := by
        have := Nat.two_pow_pos t
        rw [Nat.mul_eq_zero]
        omega
      rw [decide_eq_decide.2 this]
theorem fl_parts {f : Int} (hf : Is4 f) (n : Nat) (h : 0 < kC f n ∧ kC f n < 7) (a : Int) (a1 : -1 ≤ a) (a2 : a ≤ 0) : flX (vX f n) a = (flS (kS f n) (kX f n) a, 0) := by
  obtain ⟨s1, s2, s3⟩ := kS_lim hf n
  by_cases z : kC f n = 3 ∨ kC f n = 4
  · rw [vX_null f n z]
    have s0 : kS f n = 0 := by
      have := (k_null (f := f) n z).1
      exact this
    rw [s0]
    unfold flX flS X0
    rw [if_neg (by omega), if_pos rfl]
    split
    · rw [Nat.zero_mul]
    · rw [Nat.zero_div, Nat.zero_mod, decide_eq_true rfl]
  · obtain ⟨n0, l, e, _⟩ := vX_whole hf n h z
    obtain ⟨o1, o2⟩ := od_is (kS f n) n0
    rw [e]
    have tl := tz_blen (kS f n)
    have bl : blen (kS f n) ≤ 128 := (blen_iff _ 128).2 l
    have od0 : od (kS f n) ≠ 0 := by omega
    have bs := blen_shift (od (kS f n)) (tz (kS f n)) od0
    rw [← o1] at bs
    rw [fl_odd (kN f n) (od (kS f n)) (kX f n + (tz (kS f n) : Int)) a o2 (by omega) (by omega) (by
      have sh := blen_shift (od (kS f n)) (kX f n + (tz (kS f n) : Int) - a).toNat od0
      unfold nl
      omega), ← flS_shift, ← o1]
def tiS (m : Int) (neg : Bool) (S : Nat) (X : Int) : Nat × Bool :=
  if 0 ≤ X then (S * 2 ^ X.toNat, true)
  else (S / 2 ^ (-X).toNat + (if uP m neg (decide (S / 2 ^ (-X).toNat % 2 = 1)) (hfV (decide (S / 2 ^ ((-X).toNat - 1) % 2 = 1)) (decide (S % 2 ^ ((-X).toNat - 1) ≠ 0))) (decide (S % 2 ^ (-X).toNat = 0)) then 1 else 0), decide (S % 2 ^ (-X).toNat = 0))
theorem vX_b {f : Int} (hf : Is4 f) (n : Nat) (h : 0 < kC f n ∧ kC f n < 7) (z : ¬ (kC f n = 3 ∨ kC f n = 4)) : (vX f n).b = kN f n := by
  obtain ⟨n0, l, e, _⟩ := vX_whole hf n h z
  rw [e]
theorem tiR_parts {f : Int} (hf : Is4 f) (m : Int) (n : Nat) (h : 0 < kC f n ∧ kC f n < 7) : tiR f m n = tiS m (kN f n) (kS f n) (kX f n) := by
  unfold tiR tiS
  rw [fl_parts hf n h 0 (by decide) (by decide)]
  unfold flS
  by_cases c : 0 ≤ kX f n
  · rw [if_pos c, if_pos c]
    simp only [if_true, Int.sub_zero]
  · rw [if_neg c, if_neg c]
    simp only
    rw [show (0 - kX f n) = -kX f n by omega]
    by_cases d : kS f n % 2 ^ (-kX f n).toNat = 0
    · rw [decide_eq_true d, if_pos rfl]
      unfold uP
      rw [if_pos rfl, if_neg (by decide), Nat.add_zero]
    · rw [decide_eq_false d, if_neg (by decide)]
      have z : ¬ (kC f n = 3 ∨ kC f n = 4) := by
        intro q
        rw [(k_null n q).1, Nat.zero_mod] at d
        exact d rfl
      rw [vX_b hf n h z]
      have e : hfR (vX f n) = hfV (decide (kS f n / 2 ^ ((-kX f n).toNat - 1) % 2 = 1)) (decide (kS f n % 2 ^ ((-kX f n).toNat - 1) ≠ 0)) := by
        unfold hfR
        rw [fl_parts hf n h (-1) (by decide) (by decide)]
        unfold flS
        by_cases c1 : -1 ≤ kX f n
        · have : kX f n = -1 := by omega
          rw [if_pos c1, this]
          simp only [show ((-1 : Int) - -1).toNat = 0 from rfl, show (-(-1 : Int)).toNat - 1 = 0 from rfl, Nat.pow_zero, Nat.mul_one, Nat.div_one, Nat.mod_one]
          unfold hfV
          by_cases q : kS f n % 2 = 1
          · rw [if_pos q, decide_eq_true q]; rfl
          · rw [if_neg q, decide_eq_false q]; rfl
        · rw [if_neg c1, show (-1 - kX f n).toNat = (-kX f n).toNat - 1 by omega]
          simp only
          unfold hfV
          by_cases q : kS f n / 2 ^ ((-kX f n).toNat - 1) % 2 = 1
          · rw [if_pos q, decide_eq_true q]
            by_cases r : kS f n % 2 ^ ((-kX f n).toNat - 1) = 0
            · rw [decide_eq_true r, decide_eq_false (fun k => k r)]; rfl
            · rw [decide_eq_false r, decide_eq_true r]; rfl
          · rw [if_neg q, decide_eq_false q]
            rfl
      rw [e]
end Go.Proofs.YtlpelcfaakfmiaaDoor
namespace Go.Proofs.YtlpelcfaakfmiaaDoor
set_option maxRecDepth 100000
set_option maxHeartbeats 40000000
set_option maxRecDepth 100000
open Go.RowKit WMath
set_option linter.unusedSimpArgs false
set_option linter.unusedVariables false
set_option maxRecDepth 100000 in
set_option maxHeartbeats 8000000 in
theorem r19alive0 (K : Box (∀ w, FAt w → Calls Tryd.prog 4 #[.int .u8 0, .int .u8 2, .int .u8 1, .agg #[.int .u64 0, .int .u64 48128]] w fun r w' => r = .returned (.tuple #[.int .u64 18446744073709551615, .int .u8 0, .int .i64 0]) ∧ Below w.heap.size w w')) (w : World) (hT : FAt w) : Calls Tryd.prog 6 #[] w fun r w' => r = .returned (.bool true) ∧ Below w.heap.size w w' := by
  have FF := box hT
  clear hT
  have B0 : Below w.heap.size w w := (Below.refl _ _)
  go_enter Tryd.func6, Tryd.ntmps6
  go_wp2_with fail
  refine (K.out _ (fatB FF.out B0)).mono ?_
  rintro r w1 ⟨rfl, b1⟩
  have B1 : Below w.heap.size w w1 := btr B0 b1
  clear b1 B0 
  go_wp2
  go_ret
  exact ⟨rfl, B1⟩
set_option maxRecDepth 100000 in
set_option maxHeartbeats 8000000 in
theorem tw_e (f m n : Int) (x1 y1 : Nat) (x y fl gl : Int)  (w : World) (K1 : Box (∀ w, FAt w → Calls Tryd.prog 4 #[.int .u8 0, .int .u8 f, .int .u8 m, .agg #[.int .u64 (x1 : Nat), .int .u64 (y1 : Nat)]] w fun r w' => r = .returned (.tuple #[.int .u64 x, .int .u8 fl, .int .i64 2]) ∧ Below w.heap.size w w')) (K2 : Box (∀ w, FAt w → Calls Tryd.prog 4 #[.int .u8 2, .int .u8 f, .int .u8 m, .agg #[.int .u64 (x1 : Nat), .int .u64 (y1 : Nat)]] w fun r w' => r = .returned (.tuple #[.int .u64 y, .int .u8 gl, .int .i64 2]) ∧ Below w.heap.size w w')) (KA : Box (∀ w, FAt w → Calls Tryd.prog 6 #[] w fun r w' => r = .returned (.bool true) ∧ Below w.heap.size w w')) (hT : FAt w) : Calls Tryd.prog 3 #[.int .u8 f, .int .u8 m, .int .u8 n, .agg #[.int .u64 (x1 : Nat), .int .u64 (y1 : Nat)]] w fun r w' => r = .returned (.bool true) ∧ Below w.heap.size w w' := by
  have FF := box hT
  clear hT
  have hat := cw_at 6
  have hz := cw6z
  have hff := cw6f
  have hs0 := st0
  have hcs : ∀ x, ((cw 6 x).size = 6) = True := fun x => eq_true (cw_size 6 x)
  have heq := eq6
  have q0 : 0 < Q := Q_pos
  have hg6 := eqg6
  obtain ⟨Ra_0, B0⟩ := opn1 w (Obj.cells #[.int .u64 (x1 : Nat), .int .u64 (y1 : Nat)] 26)
  go_enter Tryd.func3, Tryd.ntmps3
  obtain ⟨ca_0_0, ca_0_1⟩ := cells2s Ra_0
  go_wp2_with fail
  refine (K1.out _ (fatB FF.out B0)).mono ?_
  rintro r w1 ⟨rfl, b1⟩
  have B1 : Below w.heap.size w w1 := btr B0 b1
  have Ra_1 := heap_of b1 _ _ _ Ra_0
  clear b1 B0 Ra_0 ca_0_0 ca_0_1
  obtain ⟨ca_1_0, ca_1_1⟩ := cells2s Ra_1
  go_wp2_with fail
  refine (K2.out _ (fatB FF.out B1)).mono ?_
  rintro r w2 ⟨rfl, b2⟩
  have B2 : Below w.heap.size w w2 := btr B1 b2
  have Ra_2 := heap_of b2 _ _ _ Ra_1
  clear b2 B1 Ra_1 ca_1_0 ca_1_1
  obtain ⟨ca_2_0, ca_2_1⟩ := cells2s Ra_2
  go_wp2_with fail
  refine (KA.out _ (fatB FF.out B2)).mono ?_
  rintro r w3 ⟨rfl, b3⟩
  have B3 : Below w.heap.size w w3 := btr B2 b3
  have Ra_3 := heap_of b3 _ _ _ Ra_2
  clear b3 B2 Ra_2 ca_2_0 ca_2_1
  obtain ⟨ca_3_0, ca_3_1⟩ := cells2s Ra_3
  go_wp2
  go_ret
  exact ⟨rfl, B3⟩
set_option maxRecDepth 100000 in
set_option maxHeartbeats 8000000 in
theorem tw_m (f m n : Int) (x1 y1 : Nat) (x y fl gl : Int)  (w : World) (K1 : Box (∀ w, FAt w → Calls Tryd.prog 4 #[.int .u8 0, .int .u8 f, .int .u8 m, .agg #[.int .u64 (x1 : Nat), .int .u64 (y1 : Nat)]] w fun r w' => r = .returned (.tuple #[.int .u64 x, .int .u8 fl, .int .i64 0]) ∧ Below w.heap.size w w')) (K2 : Box (∀ w, FAt w → Calls Tryd.prog 4 #[.int .u8 2, .int .u8 f, .int .u8 m, .agg #[.int .u64 (x1 : Nat), .int .u64 (y1 : Nat)]] w fun r w' => r = .returned (.tuple #[.int .u64 y, .int .u8 gl, .int .i64 0]) ∧ Below w.heap.size w w')) (KM : Box (∀ w, Calls Tryd.prog 5 #[.int .u8 n] w fun r w' => r = .returned (.int .i64 2) ∧ Below w.heap.size w w')) (KA : Box (∀ w, FAt w → Calls Tryd.prog 6 #[] w fun r w' => r = .returned (.bool true) ∧ Below w.heap.size w w')) (hT : FAt w) : Calls Tryd.prog 3 #[.int .u8 f, .int .u8 m, .int .u8 n, .agg #[.int .u64 (x1 : Nat), .int .u64 (y1 : Nat)]] w fun r w' => r = .returned (.bool true) ∧ Below w.heap.size w w' := by
  have FF := box hT
  clear hT
  have hat := cw_at 6
  have hz := cw6z
  have hff := cw6f
  have hs0 := st0
  have hcs : ∀ x, ((cw 6 x).size = 6) = True := fun x => eq_true (cw_size 6 x)
  have heq := eq6
  have q0 : 0 < Q := Q_pos
  have hg6 := eqg6
  obtain ⟨Ra_0, B0⟩ := opn1 w (Obj.cells #[.int .u64 (x1 : Nat), .int .u64 (y1 : Nat)] 26)
  go_enter Tryd.func3, Tryd.ntmps3
  obtain ⟨ca_0_0, ca_0_1⟩ := cells2s Ra_0
  go_wp2_with fail
  refine (K1.out _ (fatB FF.out B0)).mono ?_
  rintro r w1 ⟨rfl, b1⟩
  have B1 : Below w.heap.size w w1 := btr B0 b1
  have Ra_1 := heap_of b1 _ _ _ Ra_0
  clear b1 B0 Ra_0 ca_0_0 ca_0_1
  obtain ⟨ca_1_0, ca_1_1⟩ := cells2s Ra_1
  go_wp2_with fail
  refine (K2.out _ (fatB FF.out B1)).mono ?_
  rintro r w2 ⟨rfl, b2⟩
  have B2 : Below w.heap.size w w2 := btr B1 b2
  have Ra_2 := heap_of b2 _ _ _ Ra_1
  clear b2 B1 Ra_1 ca_1_0 ca_1_1
  obtain ⟨ca_2_0, ca_2_1⟩ := cells2s Ra_2
  go_wp2_with fail
  refine (KM.out _).mono ?_
  rintro r w3 ⟨rfl, b3⟩
  have B3 : Below w.heap.size w w3 := btr B2 b3
  have Ra_3 := heap_of b3 _ _ _ Ra_2
  clear b3 B2 Ra_2 ca_2_0 ca_2_1
  obtain ⟨ca_3_0, ca_3_1⟩ := cells2s Ra_3
  go_wp2_with fail
  refine (KA.out _ (fatB FF.out B3)).mono ?_
  rintro r w4 ⟨rfl, b4⟩
  have B4 : Below w.heap.size w w4 := btr B3 b4
  have Ra_4 := heap_of b4 _ _ _ Ra_3
  clear b4 B3 Ra_3 ca_3_0 ca_3_1
  obtain ⟨ca_4_0, ca_4_1⟩ := cells2s Ra_4
  go_wp2
  go_ret
  exact ⟨rfl, B4⟩
set_option maxRecDepth 100000 in
set_option maxHeartbeats 8000000 in
theorem tw_ie (f m n : Int) (x1 y1 : Nat) (x y gl : Int) (o ex : Bool) (N : Nat) (e : Int) (he : (e == 0) = false) (w : World) (K1 : Box (∀ w, FAt w → Calls Tryd.prog 4 #[.int .u8 0, .int .u8 f, .int .u8 m, .agg #[.int .u64 (x1 : Nat), .int .u64 (y1 : Nat)]] w fun r w' => r = .returned (.tuple #[.int .u64 x, .int .u8 16, .int .i64 0]) ∧ Below w.heap.size w w')) (K2 : Box (∀ w, FAt w → Calls Tryd.prog 4 #[.int .u8 2, .int .u8 f, .int .u8 m, .agg #[.int .u64 (x1 : Nat), .int .u64 (y1 : Nat)]] w fun r w' => r = .returned (.tuple #[.int .u64 y, .int .u8 gl, .int .i64 0]) ∧ Below w.heap.size w w')) (KM : Box (∀ w, Calls Tryd.prog 5 #[.int .u8 n] w fun r w' => r = .returned (.int .i64 0) ∧ Below w.heap.size w w')) (KW : Box (∀ w, FAt w → Calls Tryd.prog 7 #[.int .u8 f, .int .u8 m, .agg #[.int .u64 (x1 : Nat), .int .u64 (y1 : Nat)]] w fun r w' => r = .returned (.tuple #[.bool o, .agg (cw 6 N), .bool ex, .int .i64 e]) ∧ Below w.heap.size w w')) (KA : Box (∀ w, FAt w → Calls Tryd.prog 6 #[] w fun r w' => r = .returned (.bool true) ∧ Below w.heap.size w w')) (hT : FAt w) : Calls Tryd.prog 3 #[.int .u8 f, .int .u8 m, .int .u8 n, .agg #[.int .u64 (x1 : Nat), .int .u64 (y1 : Nat)]] w fun r w' => r = .returned (.bool true) ∧ Below w.heap.size w w' := by
  have FF := box hT
  clear hT
  have hat := cw_at 6
  have hz := cw6z
  have hff := cw6f
  have hs0 := st0
  have hcs : ∀ x, ((cw 6 x).size = 6) = True := fun x => eq_true (cw_size 6 x)
  have heq := eq6
  have q0 : 0 < Q := Q_pos
  have hg6 := eqg6
  obtain ⟨Ra_0, B0⟩ := opn1 w (Obj.cells #[.int .u64 (x1 : Nat), .int .u64 (y1 : Nat)] 26)
  go_enter Tryd.func3, Tryd.ntmps3
  obtain ⟨ca_0_0, ca_0_1⟩ := cells2s Ra_0
  go_wp2_with fail
  refine (K1.out _ (fatB FF.out B0)).mono ?_
  rintro r w1 ⟨rfl, b1⟩
  have B1 : Below w.heap.size w w1 := btr B0 b1
  have Ra_1 := heap_of b1 _ _ _ Ra_0
  clear b1 B0 Ra_0 ca_0_0 ca_0_1
  obtain ⟨ca_1_0, ca_1_1⟩ := cells2s Ra_1
  go_wp2_with fail
  refine (K2.out _ (fatB FF.out B1)).mono ?_
  rintro r w2 ⟨rfl, b2⟩
  have B2 : Below w.heap.size w w2 := btr B1 b2
  have Ra_2 := heap_of b2 _ _ _ Ra_1
  clear b2 B1 Ra_1 ca_1_0 ca_1_1
  obtain ⟨ca_2_0, ca_2_1⟩ := cells2s Ra_2
  go_wp2_with fail
  refine (KM.out _).mono ?_
  rintro r w3 ⟨rfl, b3⟩
  have B3 : Below w.heap.size w w3 := btr B2 b3
  have Ra_3 := heap_of b3 _ _ _ Ra_2
  clear b3 B2 Ra_2 ca_2_0 ca_2_1
  obtain ⟨ca_3_0, ca_3_1⟩ := cells2s Ra_3
  go_wp2_with fail
  refine (KW.out _ (fatB FF.out B3)).mono ?_
  rintro r w4 ⟨rfl, b4⟩
  have B4 : Below w.heap.size w w4 := btr B3 b4
  have Ra_4 := heap_of b4 _ _ _ Ra_3
  clear b4 B3 Ra_3 ca_3_0 ca_3_1
  obtain ⟨ca_4_0, ca_4_1⟩ := cells2s Ra_4
  have S5 := box B4.size
  have La_5 : Box (w.heap.size < w4.heap.size) := box (Array.getElem?_eq_some_iff.1 Ra_4).1
  have Rn1_5 := heap_alloc_last w4 (Obj.cells (cw 6 N) 35)
  have B5 := btr B4 (bal w4 (Obj.cells (cw 6 N) 35))
  have Ra_5 := heap_of (bal w4 (Obj.cells (cw 6 N) 35)) _ _ _ Ra_4
  clear B4 Ra_4 ca_4_0 ca_4_1
  obtain ⟨ca_5_0, ca_5_1⟩ := cells2s Ra_5
  have cn1_5_0 := row_cell Rn1_5
  go_wp2_with fail
  refine (KA.out _ (fatB FF.out B5)).mono ?_
  rintro r w6 ⟨rfl, b6⟩
  have B6 : Below w.heap.size w w6 := btr B5 b6
  have Ra_6 := heap_of b6 _ _ _ Ra_5
  have Rn1_6 := heap_of b6 _ _ _ Rn1_5
  clear b6 B5 Ra_5 ca_5_0 ca_5_1 Rn1_5 cn1_5_0
  obtain ⟨ca_6_0, ca_6_1⟩ := cells2s Ra_6
  have cn1_6_0 := row_cell Rn1_6
  go_wp2
  go_ret
  exact ⟨rfl, B6⟩
set_option maxRecDepth 100000 in
set_option maxHeartbeats 8000000 in
theorem tw_in (f m n : Int) (x1 y1 : Nat) (x y gl : Int) (o ex : Bool) (N : Nat) (hN : decide (N = 0) = false) (hQ : N < Q) (w : World) (K1 : Box (∀ w, FAt w → Calls Tryd.prog 4 #[.int .u8 0, .int .u8 f, .int .u8 m, .agg #[.int .u64 (x1 : Nat), .int .u64 (y1 : Nat)]] w fun r w' => r = .returned (.tuple #[.int .u64 x, .int .u8 16, .int .i64 0]) ∧ Below w.heap.size w w')) (K2 : Box (∀ w, FAt w → Calls Tryd.prog 4 #[.int .u8 2, .int .u8 f, .int .u8 m, .agg #[.int .u64 (x1 : Nat), .int .u64 (y1 : Nat)]] w fun r w' => r = .returned (.tuple #[.int .u64 y, .int .u8 gl, .int .i64 0]) ∧ Below w.heap.size w w')) (KM : Box (∀ w, Calls Tryd.prog 5 #[.int .u8 n] w fun r w' => r = .returned (.int .i64 0) ∧ Below w.heap.size w w')) (KW : Box (∀ w, FAt w → Calls Tryd.prog 7 #[.int .u8 f, .int .u8 m, .agg #[.int .u64 (x1 : Nat), .int .u64 (y1 : Nat)]] w fun r w' => r = .returned (.tuple #[.bool o, .agg (cw 6 N), .bool ex, .int .i64 0]) ∧ Below w.heap.size w w')) (KA : Box (∀ w, FAt w → Calls Tryd.prog 6 #[] w fun r w' => r = .returned (.bool true) ∧ Below w.heap.size w w')) (hT : FAt w) : Calls Tryd.prog 3 #[.int .u8 f, .int .u8 m, .int .u8 n, .agg #[.int .u64 (x1 : Nat), .int .u64 (y1 : Nat)]] w fun r w' => r = .returned (.bool true) ∧ Below w.heap.size w w' := by
  have FF := box hT
  clear hT
  have hat := cw_at 6
  have hz := cw6z
  have hff := cw6f
  have hs0 := st0
  have hcs : ∀ x, ((cw 6 x).size = 6) = True := fun x => eq_true (cw_size 6 x)
  have heq := eq6
  have q0 : 0 < Q := Q_pos
  have hg6 := eqg6
  obtain ⟨Ra_0, B0⟩ := opn1 w (Obj.cells #[.int .u64 (x1 : Nat), .int .u64 (y1 : Nat)] 26)
  go_enter Tryd.func3, Tryd.ntmps3
  obtain ⟨ca_0_0, ca_0_1⟩ := cells2s Ra_0
  go_wp2_with fail
  refine (K1.out _ (fatB FF.out B0)).mono ?_
  rintro r w1 ⟨rfl, b1⟩
  have B1 : Below w.heap.size w w1 := btr B0 b1
  have Ra_1 := heap_of b1 _ _ _ Ra_0
  clear b1 B0 Ra_0 ca_0_0 ca_0_1
  obtain ⟨ca_1_0, ca_1_1⟩ := cells2s Ra_1
  go_wp2_with fail
  refine (K2.out _ (fatB FF.out B1)).mono ?_
  rintro r w2 ⟨rfl, b2⟩
  have B2 : Below w.heap.size w w2 := btr B1 b2
  have Ra_2 := heap_of b2 _ _ _ Ra_1
  clear b2 B1 Ra_1 ca_1_0 ca_1_1
  obtain ⟨ca_2_0, ca_2_1⟩ := cells2s Ra_2
  go_wp2_with fail
  refine (KM.out _).mono ?_
  rintro r w3 ⟨rfl, b3⟩
  have B3 : Below w.heap.size w w3 := btr B2 b3
  have Ra_3 := heap_of b3 _ _ _ Ra_2
  clear b3 B2 Ra_2 ca_2_0 ca_2_1
  obtain ⟨ca_3_0, ca_3_1⟩ := cells2s Ra_3
  go_wp2_with fail
  refine (KW.out _ (fatB FF.out B3)).mono ?_
  rintro r w4 ⟨rfl, b4⟩
  have B4 : Below w.heap.size w w4 := btr B3 b4
  have Ra_4 := heap_of b4 _ _ _ Ra_3
  clear b4 B3 Ra_3 ca_3_0 ca_3_1
  obtain ⟨ca_4_0, ca_4_1⟩ := cells2s Ra_4
  have S5 := box B4.size
  have La_5 : Box (w.heap.size < w4.heap.size) := box (Array.getElem?_eq_some_iff.1 Ra_4).1
  have Rn1_5 := heap_alloc_last w4 (Obj.cells (cw 6 N) 35)
  have B5 := btr B4 (bal w4 (Obj.cells (cw 6 N) 35))
  have Ra_5 := heap_of (bal w4 (Obj.cells (cw 6 N) 35)) _ _ _ Ra_4
  clear B4 Ra_4 ca_4_0 ca_4_1
  obtain ⟨ca_5_0, ca_5_1⟩ := cells2s Ra_5
  have cn1_5_0 := row_cell Rn1_5
  go_wp2_with fail
  refine (KA.out _ (fatB FF.out B5)).mono ?_
  rintro r w6 ⟨rfl, b6⟩
  have B6 : Below w.heap.size w w6 := btr B5 b6
  have Ra_6 := heap_of b6 _ _ _ Ra_5
  have Rn1_6 := heap_of b6 _ _ _ Rn1_5
  clear b6 B5 Ra_5 ca_5_0 ca_5_1 Rn1_5 cn1_5_0
  obtain ⟨ca_6_0, ca_6_1⟩ := cells2s Ra_6
  have cn1_6_0 := row_cell Rn1_6
  go_wp2
  go_ret
  exact ⟨rfl, B6⟩
set_option maxRecDepth 100000 in
set_option maxHeartbeats 8000000 in
theorem tw_iz0 (f m n : Int) (x1 y1 : Nat) (x y gl : Int) (ex : Bool)  (w : World) (K1 : Box (∀ w, FAt w → Calls Tryd.prog 4 #[.int .u8 0, .int .u8 f, .int .u8 m, .agg #[.int .u64 (x1 : Nat), .int .u64 (y1 : Nat)]] w fun r w' => r = .returned (.tuple #[.int .u64 x, .int .u8 16, .int .i64 0]) ∧ Below w.heap.size w w')) (K2 : Box (∀ w, FAt w → Calls Tryd.prog 4 #[.int .u8 2, .int .u8 f, .int .u8 m, .agg #[.int .u64 (x1 : Nat), .int .u64 (y1 : Nat)]] w fun r w' => r = .returned (.tuple #[.int .u64 y, .int .u8 gl, .int .i64 0]) ∧ Below w.heap.size w w')) (KM : Box (∀ w, Calls Tryd.prog 5 #[.int .u8 n] w fun r w' => r = .returned (.int .i64 0) ∧ Below w.heap.size w w')) (KW : Box (∀ w, FAt w → Calls Tryd.prog 7 #[.int .u8 f, .int .u8 m, .agg #[.int .u64 (x1 : Nat), .int .u64 (y1 : Nat)]] w fun r w' => r = .returned (.tuple #[.bool false, .agg (cw 6 0), .bool ex, .int .i64 0]) ∧ Below w.heap.size w w')) (K4 : Box (∀ w, FAt w → Calls Tryd.prog 4 #[.int .u8 3, .int .u8 f, .int .u8 m, .agg #[.int .u64 (x1 : Nat), .int .u64 (y1 : Nat)]] w fun r w' => r = .returned (.tuple #[.int .u64 0, .int .u8 0, .int .i64 0]) ∧ Below w.heap.size w w')) (KA : Box (∀ w, FAt w → Calls Tryd.prog 6 #[] w fun r w' => r = .returned (.bool true) ∧ Below w.heap.size w w')) (hT : FAt w) : Calls Tryd.prog 3 #[.int .u8 f, .int .u8 m, .int .u8 n, .agg #[.int .u64 (x1 : Nat), .int .u64 (y1 : Nat)]] w fun r w' => r = .returned (.bool true) ∧ Below w.heap.size w w' := by
  have FF := box hT
  clear hT
  have hat := cw_at 6
  have hz := cw6z
  have hff := cw6f
  have hs0 := st0
  have hcs : ∀ x, ((cw 6 x).size = 6) = True := fun x => eq_true (cw_size 6 x)
  have heq := eq6
  have q0 : 0 < Q := Q_pos
  have hg6 := eqg6
  obtain ⟨Ra_0, B0⟩ := opn1 w (Obj.cells #[.int .u64 (x1 : Nat), .int .u64 (y1 : Nat)] 26)
  go_enter Tryd.func3, Tryd.ntmps3
  obtain ⟨ca_0_0, ca_0_1⟩ := cells2s Ra_0
  go_wp2_with fail
  refine (K1.out _ (fatB FF.out B0)).mono ?_
  rintro r w1 ⟨rfl, b1⟩
  have B1 : Below w.heap.size w w1 := btr B0 b1
  have Ra_1 := heap_of b1 _ _ _ Ra_0
  clear b1 B0 Ra_0 ca_0_0 ca_0_1
  obtain ⟨ca_1_0, ca_1_1⟩ := cells2s Ra_1
  go_wp2_with fail
  refine (K2.out _ (fatB FF.out B1)).mono ?_
  rintro r w2 ⟨rfl, b2⟩
  have B2 : Below w.heap.size w w2 := btr B1 b2
  have Ra_2 := heap_of b2 _ _ _ Ra_1
  clear b2 B1 Ra_1 ca_1_0 ca_1_1
  obtain ⟨ca_2_0, ca_2_1⟩ := cells2s Ra_2
  go_wp2_with fail
  refine (KM.out _).mono ?_
  rintro r w3 ⟨rfl, b3⟩
  have B3 : Below w.heap.size w w3 := btr B2 b3
  have Ra_3 := heap_of b3 _ _ _ Ra_2
  clear b3 B2 Ra_2 ca_2_0 ca_2_1
  obtain ⟨ca_3_0, ca_3_1⟩ := cells2s Ra_3
  go_wp2_with fail
  refine (KW.out _ (fatB FF.out B3)).mono ?_
  rintro r w4 ⟨rfl, b4⟩
  have B4 : Below w.heap.size w w4 := btr B3 b4
  have Ra_4 := heap_of b4 _ _ _ Ra_3
  clear b4 B3 Ra_3 ca_3_0 ca_3_1
  obtain ⟨ca_4_0, ca_4_1⟩ := cells2s Ra_4
  have S5 := box B4.size
  have La_5 : Box (w.heap.size < w4.heap.size) := box (Array.getElem?_eq_some_iff.1 Ra_4).1
  have Rn1_5 := heap_alloc_last w4 (Obj.cells (cw 6 0) 35)
  have B5 := btr B4 (bal w4 (Obj.cells (cw 6 0) 35))
  have Ra_5 := heap_of (bal w4 (Obj.cells (cw 6 0) 35)) _ _ _ Ra_4
  clear B4 Ra_4 ca_4_0 ca_4_1
  obtain ⟨ca_5_0, ca_5_1⟩ := cells2s Ra_5
  have cn1_5_0 := row_cell Rn1_5
  go_wp2_with fail
  refine (K4.out _ (fatB FF.out B5)).mono ?_
  rintro r w6 ⟨rfl, b6⟩
  have B6 : Below w.heap.size w w6 := btr B5 b6
  have Ra_6 := heap_of b6 _ _ _ Ra_5
  have Rn1_6 := heap_of b6 _ _ _ Rn1_5
  clear b6 B5 Ra_5 ca_5_0 ca_5_1 Rn1_5 cn1_5_0
  obtain ⟨ca_6_0, ca_6_1⟩ := cells2s Ra_6
  have cn1_6_0 := row_cell Rn1_6
  go_wp2_with fail
  refine (KA.out _ (fatB FF.out B6)).mono ?_
  rintro r w7 ⟨rfl, b7⟩
  have B7 : Below w.heap.size w w7 := btr B6 b7
  have Ra_7 := heap_of b7 _ _ _ Ra_6
  have Rn1_7 := heap_of b7 _ _ _ Rn1_6
  clear b7 B6 Ra_6 ca_6_0 ca_6_1 Rn1_6 cn1_6_0
  obtain ⟨ca_7_0, ca_7_1⟩ := cells2s Ra_7
  have cn1_7_0 := row_cell Rn1_7
  go_wp2
  go_ret
  exact ⟨rfl, B7⟩
set_option maxRecDepth 100000 in
set_option maxHeartbeats 8000000 in
theorem tw_iz1 (f m n : Int) (x1 y1 : Nat) (x y gl : Int) (ex : Bool)  (w : World) (K1 : Box (∀ w, FAt w → Calls Tryd.prog 4 #[.int .u8 0, .int .u8 f, .int .u8 m, .agg #[.int .u64 (x1 : Nat), .int .u64 (y1 : Nat)]] w fun r w' => r = .returned (.tuple #[.int .u64 x, .int .u8 16, .int .i64 0]) ∧ Below w.heap.size w w')) (K2 : Box (∀ w, FAt w → Calls Tryd.prog 4 #[.int .u8 2, .int .u8 f, .int .u8 m, .agg #[.int .u64 (x1 : Nat), .int .u64 (y1 : Nat)]] w fun r w' => r = .returned (.tuple #[.int .u64 y, .int .u8 gl, .int .i64 0]) ∧ Below w.heap.size w w')) (KM : Box (∀ w, Calls Tryd.prog 5 #[.int .u8 n] w fun r w' => r = .returned (.int .i64 0) ∧ Below w.heap.size w w')) (KW : Box (∀ w, FAt w → Calls Tryd.prog 7 #[.int .u8 f, .int .u8 m, .agg #[.int .u64 (x1 : Nat), .int .u64 (y1 : Nat)]] w fun r w' => r = .returned (.tuple #[.bool false, .agg (cw 6 0), .bool ex, .int .i64 0]) ∧ Below w.heap.size w w')) (K4 : Box (∀ w, FAt w → Calls Tryd.prog 4 #[.int .u8 3, .int .u8 f, .int .u8 m, .agg #[.int .u64 (x1 : Nat), .int .u64 (y1 : Nat)]] w fun r w' => r = .returned (.tuple #[.int .u64 0, .int .u8 1, .int .i64 0]) ∧ Below w.heap.size w w')) (KA : Box (∀ w, FAt w → Calls Tryd.prog 6 #[] w fun r w' => r = .returned (.bool true) ∧ Below w.heap.size w w')) (hT : FAt w) : Calls Tryd.prog 3 #[.int .u8 f, .int .u8 m, .int .u8 n, .agg #[.int .u64 (x1 : Nat), .int .u64 (y1 : Nat)]] w fun r w' => r = .returned (.bool true) ∧ Below w.heap.size w w' := by
  have FF := box hT
  clear hT
  have hat := cw_at 6
  have hz := cw6z
  have hff := cw6f
  have hs0 := st0
  have hcs : ∀ x, ((cw 6 x).size = 6) = True := fun x => eq_true (cw_size 6 x)
  have heq := eq6
  have q0 : 0 < Q := Q_pos
  have hg6 := eqg6
  obtain ⟨Ra_0, B0⟩ := opn1 w (Obj.cells #[.int .u64 (x1 : Nat), .int .u64 (y1 : Nat)] 26)
  go_enter Tryd.func3, Tryd.ntmps3
  obtain ⟨ca_0_0, ca_0_1⟩ := cells2s Ra_0
  go_wp2_with fail
  refine (K1.out _ (fatB FF.out B0)).mono ?_
  rintro r w1 ⟨rfl, b1⟩
  have B1 : Below w.heap.size w w1 := btr B0 b1
  have Ra_1 := heap_of b1 _ _ _ Ra_0
  clear b1 B0 Ra_0 ca_0_0 ca_0_1
  obtain ⟨ca_1_0, ca_1_1⟩ := cells2s Ra_1
  go_wp2_with fail
  refine (K2.out _ (fatB FF.out B1)).mono ?_
  rintro r w2 ⟨rfl, b2⟩
  have B2 : Below w.heap.size w w2 := btr B1 b2
  have Ra_2 := heap_of b2 _ _ _ Ra_1
  clear b2 B1 Ra_1 ca_1_0 ca_1_1
  obtain ⟨ca_2_0, ca_2_1⟩ := cells2s Ra_2
  go_wp2_with fail
  refine (KM.out _).mono ?_
  rintro r w3 ⟨rfl, b3⟩
  have B3 : Below w.heap.size w w3 := btr B2 b3
  have Ra_3 := heap_of b3 _ _ _ Ra_2
  clear b3 B2 Ra_2 ca_2_0 ca_2_1
  obtain ⟨ca_3_0, ca_3_1⟩ := cells2s Ra_3
  go_wp2_with fail
  refine (KW.out _ (fatB FF.out B3)).mono ?_
  rintro r w4 ⟨rfl, b4⟩
  have B4 : Below w.heap.size w w4 := btr B3 b4
  have Ra_4 := heap_of b4 _ _ _ Ra_3
  clear b4 B3 Ra_3 ca_3_0 ca_3_1
  obtain ⟨ca_4_0, ca_4_1⟩ := cells2s Ra_4
  have S5 := box B4.size
  have La_5 : Box (w.heap.size < w4.heap.size) := box (Array.getElem?_eq_some_iff.1 Ra_4).1
  have Rn1_5 := heap_alloc_last w4 (Obj.cells (cw 6 0) 35)
  have B5 := btr B4 (bal w4 (Obj.cells (cw 6 0) 35))
  have Ra_5 := heap_of (bal w4 (Obj.cells (cw 6 0) 35)) _ _ _ Ra_4
  clear B4 Ra_4 ca_4_0 ca_4_1
  obtain ⟨ca_5_0, ca_5_1⟩ := cells2s Ra_5
  have cn1_5_0 := row_cell Rn1_5
  go_wp2_with fail
  refine (K4.out _ (fatB FF.out B5)).mono ?_
  rintro r w6 ⟨rfl, b6⟩
  have B6 : Below w.heap.size w w6 := btr B5 b6
  have Ra_6 := heap_of b6 _ _ _ Ra_5
  have Rn1_6 := heap_of b6 _ _ _ Rn1_5
  clear b6 B5 Ra_5 ca_5_0 ca_5_1 Rn1_5 cn1_5_0
  obtain ⟨ca_6_0, ca_6_1⟩ := cells2s Ra_6
  have cn1_6_0 := row_cell Rn1_6
  go_wp2_with fail
  refine (KA.out _ (fatB FF.out B6)).mono ?_
  rintro r w7 ⟨rfl, b7⟩
  have B7 : Below w.heap.size w w7 := btr B6 b7
  have Ra_7 := heap_of b7 _ _ _ Ra_6
  have Rn1_7 := heap_of b7 _ _ _ Rn1_6
  clear b7 B6 Ra_6 ca_6_0 ca_6_1 Rn1_6 cn1_6_0
  obtain ⟨ca_7_0, ca_7_1⟩ := cells2s Ra_7
  have cn1_7_0 := row_cell Rn1_7
  go_wp2
  go_ret
  exact ⟨rfl, B7⟩
set_option maxRecDepth 100000 in
set_option maxHeartbeats 8000000 in
theorem tw_0e (f m n : Int) (x1 y1 : Nat) (x y gl : Int) (o ex : Bool) (N : Nat) (e : Int) (he : (e == 0) = false) (w : World) (K1 : Box (∀ w, FAt w → Calls Tryd.prog 4 #[.int .u8 0, .int .u8 f, .int .u8 m, .agg #[.int .u64 (x1 : Nat), .int .u64 (y1 : Nat)]] w fun r w' => r = .returned (.tuple #[.int .u64 x, .int .u8 0, .int .i64 0]) ∧ Below w.heap.size w w')) (K2 : Box (∀ w, FAt w → Calls Tryd.prog 4 #[.int .u8 2, .int .u8 f, .int .u8 m, .agg #[.int .u64 (x1 : Nat), .int .u64 (y1 : Nat)]] w fun r w' => r = .returned (.tuple #[.int .u64 x, .int .u8 0, .int .i64 0]) ∧ Below w.heap.size w w')) (KM : Box (∀ w, Calls Tryd.prog 5 #[.int .u8 n] w fun r w' => r = .returned (.int .i64 0) ∧ Below w.heap.size w w')) (K3 : Box (∀ w, FAt w → Calls Tryd.prog 4 #[.int .u8 0, .int .u8 f, .int .u8 n, .agg #[.int .u64 (x1 : Nat), .int .u64 (y1 : Nat)]] w fun r w' => r = .returned (.tuple #[.int .u64 x, .int .u8 0, .int .i64 0]) ∧ Below w.heap.size w w')) (KW : Box (∀ w, FAt w → Calls Tryd.prog 7 #[.int .u8 f, .int .u8 m, .agg #[.int .u64 (x1 : Nat), .int .u64 (y1 : Nat)]] w fun r w' => r = .returned (.tuple #[.bool o, .agg (cw 6 N), .bool ex, .int .i64 e]) ∧ Below w.heap.size w w')) (KA : Box (∀ w, FAt w → Calls Tryd.prog 6 #[] w fun r w' => r = .returned (.bool true) ∧ Below w.heap.size w w')) (hT : FAt w) : Calls Tryd.prog 3 #[.int .u8 f, .int .u8 m, .int .u8 n, .agg #[.int .u64 (x1 : Nat), .int .u64 (y1 : Nat)]] w fun r w' => r = .returned (.bool true) ∧ Below w.heap.size w w' := by
  have FF := box hT
  clear hT
  have hat := cw_at 6
  have hz := cw6z
  have hff := cw6f
  have hs0 := st0
  have hcs : ∀ x, ((cw 6 x).size = 6) = True := fun x => eq_true (cw_size 6 x)
  have heq := eq6
  have q0 : 0 < Q := Q_pos
  have hg6 := eqg6
  obtain ⟨Ra_0, B0⟩ := opn1 w (Obj.cells #[.int .u64 (x1 : Nat), .int .u64 (y1 : Nat)] 26)
  go_enter Tryd.func3, Tryd.ntmps3
  obtain ⟨ca_0_0, ca_0_1⟩ := cells2s Ra_0
  go_wp2_with fail
  refine (K1.out _ (fatB FF.out B0)).mono ?_
  rintro r w1 ⟨rfl, b1⟩
  have B1 : Below w.heap.size w w1 := btr B0 b1
  have Ra_1 := heap_of b1 _ _ _ Ra_0
  clear b1 B0 Ra_0 ca_0_0 ca_0_1
  obtain ⟨ca_1_0, ca_1_1⟩ := cells2s Ra_1
  go_wp2_with fail
  refine (K2.out _ (fatB FF.out B1)).mono ?_
  rintro r w2 ⟨rfl, b2⟩
  have B2 : Below w.heap.size w w2 := btr B1 b2
  have Ra_2 := heap_of b2 _ _ _ Ra_1
  clear b2 B1 Ra_1 ca_1_0 ca_1_1
  obtain ⟨ca_2_0, ca_2_1⟩ := cells2s Ra_2
  go_wp2_with fail
  refine (KM.out _).mono ?_
  rintro r w3 ⟨rfl, b3⟩
  have B3 : Below w.heap.size w w3 := btr B2 b3
  have Ra_3 := heap_of b3 _ _ _ Ra_2
  clear b3 B2 Ra_2 ca_2_0 ca_2_1
  obtain ⟨ca_3_0, ca_3_1⟩ := cells2s Ra_3
  go_wp2_with fail
  refine (K3.out _ (fatB FF.out B3)).mono ?_
  rintro r w4 ⟨rfl, b4⟩
  have B4 : Below w.heap.size w w4 := btr B3 b4
  have Ra_4 := heap_of b4 _ _ _ Ra_3
  clear b4 B3 Ra_3 ca_3_0 ca_3_1
  obtain ⟨ca_4_0, ca_4_1⟩ := cells2s Ra_4
  go_wp2_with fail
  refine (KW.out _ (fatB FF.out B4)).mono ?_
  rintro r w5 ⟨rfl, b5⟩
  have B5 : Below w.heap.size w w5 := btr B4 b5
  have Ra_5 := heap_of b5 _ _ _ Ra_4
  clear b5 B4 Ra_4 ca_4_0 ca_4_1
  obtain ⟨ca_5_0, ca_5_1⟩ := cells2s Ra_5
  have S6 := box B5.size
  have La_6 : Box (w.heap.size < w5.heap.size) := box (Array.getElem?_eq_some_iff.1 Ra_5).1
  have Rn1_6 := heap_alloc_last w5 (Obj.cells (cw 6 N) 35)
  have B6 := btr B5 (bal w5 (Obj.cells (cw 6 N) 35))
  have Ra_6 := heap_of (bal w5 (Obj.cells (cw 6 N) 35)) _ _ _ Ra_5
  clear B5 Ra_5 ca_5_0 ca_5_1
  obtain ⟨ca_6_0, ca_6_1⟩ := cells2s Ra_6
  have cn1_6_0 := row_cell Rn1_6
  go_wp2_with fail
  refine (KA.out _ (fatB FF.out B6)).mono ?_
  rintro r w7 ⟨rfl, b7⟩
  have B7 : Below w.heap.size w w7 := btr B6 b7
  have Ra_7 := heap_of b7 _ _ _ Ra_6
  have Rn1_7 := heap_of b7 _ _ _ Rn1_6
  clear b7 B6 Ra_6 ca_6_0 ca_6_1 Rn1_6 cn1_6_0
  obtain ⟨ca_7_0, ca_7_1⟩ := cells2s Ra_7
  have cn1_7_0 := row_cell Rn1_7
  go_wp2
  go_ret
  exact ⟨rfl, B7⟩
set_option maxRecDepth 100000 in
set_option maxHeartbeats 8000000 in
theorem tw_0n (f m n : Int) (x1 y1 : Nat) (x y gl : Int) (o ex : Bool) (N : Nat) (hN : decide (N = 0) = false) (hQ : N < Q) (w : World) (K1 : Box (∀ w, FAt w → Calls Tryd.prog 4 #[.int .u8 0, .int .u8 f, .int .u8 m, .agg #[.int .u64 (x1 : Nat), .int .u64 (y1 : Nat)]] w fun r w' => r = .returned (.tuple #[.int .u64 x, .int .u8 0, .int .i64 0]) ∧ Below w.heap.size w w')) (K2 : Box (∀ w, FAt w → Calls Tryd.prog 4 #[.int .u8 2, .int .u8 f, .int .u8 m, .agg #[.int .u64 (x1 : Nat), .int .u64 (y1 : Nat)]] w fun r w' => r = .returned (.tuple #[.int .u64 x, .int .u8 0, .int .i64 0]) ∧ Below w.heap.size w w')) (KM : Box (∀ w, Calls Tryd.prog 5 #[.int .u8 n] w fun r w' => r = .returned (.int .i64 0) ∧ Below w.heap.size w w')) (K3 : Box (∀ w, FAt w → Calls Tryd.prog 4 #[.int .u8 0, .int .u8 f, .int .u8 n, .agg #[.int .u64 (x1 : Nat), .int .u64 (y1 : Nat)]] w fun r w' => r = .returned (.tuple #[.int .u64 x, .int .u8 0, .int .i64 0]) ∧ Below w.heap.size w w')) (KW : Box (∀ w, FAt w → Calls Tryd.prog 7 #[.int .u8 f, .int .u8 m, .agg #[.int .u64 (x1 : Nat), .int .u64 (y1 : Nat)]] w fun r w' => r = .returned (.tuple #[.bool o, .agg (cw 6 N), .bool ex, .int .i64 0]) ∧ Below w.heap.size w w')) (KA : Box (∀ w, FAt w → Calls Tryd.prog 6 #[] w fun r w' => r = .returned (.bool true) ∧ Below w.heap.size w w')) (hT : FAt w) : Calls Tryd.prog 3 #[.int .u8 f, .int .u8 m, .int .u8 n, .agg #[.int .u64 (x1 : Nat), .int .u64 (y1 : Nat)]] w fun r w' => r = .returned (.bool true) ∧ Below w.heap.size w w' := by
  have FF := box hT
  clear hT
  have hat := cw_at 6
  have hz := cw6z
  have hff := cw6f
  have hs0 := st0
  have hcs : ∀ x, ((cw 6 x).size = 6) = True := fun x => eq_true (cw_size 6 x)
  have heq := eq6
  have q0 : 0 < Q := Q_pos
  have hg6 := eqg6
  obtain ⟨Ra_0, B0⟩ := opn1 w (Obj.cells #[.int .u64 (x1 : Nat), .int .u64 (y1 : Nat)] 26)
  go_enter Tryd.func3, Tryd.ntmps3
  obtain ⟨ca_0_0, ca_0_1⟩ := cells2s Ra_0
  go_wp2_with fail
  refine (K1.out _ (fatB FF.out B0)).mono ?_
  rintro r w1 ⟨rfl, b1⟩
  have B1 : Below w.heap.size w w1 := btr B0 b1
  have Ra_1 := heap_of b1 _ _ _ Ra_0
  clear b1 B0 Ra_0 ca_0_0 ca_0_1
  obtain ⟨ca_1_0, ca_1_1⟩ := cells2s Ra_1
  go_wp2_with fail
  refine (K2.out _ (fatB FF.out B1)).mono ?_
  rintro r w2 ⟨rfl, b2⟩
  have B2 : Below w.heap.size w w2 := btr B1 b2
  have Ra_2 := heap_of b2 _ _ _ Ra_1
  clear b2 B1 Ra_1 ca_1_0 ca_1_1
  obtain ⟨ca_2_0, ca_2_1⟩ := cells2s Ra_2
  go_wp2_with fail
  refine (KM.out _).mono ?_
  rintro r w3 ⟨rfl, b3⟩
  have B3 : Below w.heap.size w w3 := btr B2 b3
  have Ra_3 := heap_of b3 _ _ _ Ra_2
  clear b3 B2 Ra_2 ca_2_0 ca_2_1
  obtain ⟨ca_3_0, ca_3_1⟩ := cells2s Ra_3
  go_wp2_with fail
  refine (K3.out _ (fatB FF.out B3)).mono ?_
  rintro r w4 ⟨rfl, b4⟩
  have B4 : Below w.heap.size w w4 := btr B3 b4
  have Ra_4 := heap_of b4 _ _ _ Ra_3
  clear b4 B3 Ra_3 ca_3_0 ca_3_1
  obtain ⟨ca_4_0, ca_4_1⟩ := cells2s Ra_4
  go_wp2_with fail
  refine (KW.out _ (fatB FF.out B4)).mono ?_
  rintro r w5 ⟨rfl, b5⟩
  have B5 : Below w.heap.size w w5 := btr B4 b5
  have Ra_5 := heap_of b5 _ _ _ Ra_4
  clear b5 B4 Ra_4 ca_4_0 ca_4_1
  obtain ⟨ca_5_0, ca_5_1⟩ := cells2s Ra_5
  have S6 := box B5.size
  have La_6 : Box (w.heap.size < w5.heap.size) := box (Array.getElem?_eq_some_iff.1 Ra_5).1
  have Rn1_6 := heap_alloc_last w5 (Obj.cells (cw 6 N) 35)
  have B6 := btr B5 (bal w5 (Obj.cells (cw 6 N) 35))
  have Ra_6 := heap_of (bal w5 (Obj.cells (cw 6 N) 35)) _ _ _ Ra_5
  clear B5 Ra_5 ca_5_0 ca_5_1
  obtain ⟨ca_6_0, ca_6_1⟩ := cells2s Ra_6
  have cn1_6_0 := row_cell Rn1_6
  go_wp2_with fail
  refine (KA.out _ (fatB FF.out B6)).mono ?_
  rintro r w7 ⟨rfl, b7⟩
  have B7 : Below w.heap.size w w7 := btr B6 b7
  have Ra_7 := heap_of b7 _ _ _ Ra_6
  have Rn1_7 := heap_of b7 _ _ _ Rn1_6
  clear b7 B6 Ra_6 ca_6_0 ca_6_1 Rn1_6 cn1_6_0
  obtain ⟨ca_7_0, ca_7_1⟩ := cells2s Ra_7
  have cn1_7_0 := row_cell Rn1_7
  go_wp2
  go_ret
  exact ⟨rfl, B7⟩
set_option maxRecDepth 100000 in
set_option maxHeartbeats 8000000 in
theorem tw_0z0 (f m n : Int) (x1 y1 : Nat) (x y gl : Int) (ex : Bool)  (w : World) (K1 : Box (∀ w, FAt w → Calls Tryd.prog 4 #[.int .u8 0, .int .u8 f, .int .u8 m, .agg #[.int .u64 (x1 : Nat), .int .u64 (y1 : Nat)]] w fun r w' => r = .returned (.tuple #[.int .u64 x, .int .u8 0, .int .i64 0]) ∧ Below w.heap.size w w')) (K2 : Box (∀ w, FAt w → Calls Tryd.prog 4 #[.int .u8 2, .int .u8 f, .int .u8 m, .agg #[.int .u64 (x1 : Nat), .int .u64 (y1 : Nat)]] w fun r w' => r = .returned (.tuple #[.int .u64 x, .int .u8 0, .int .i64 0]) ∧ Below w.heap.size w w')) (KM : Box (∀ w, Calls Tryd.prog 5 #[.int .u8 n] w fun r w' => r = .returned (.int .i64 0) ∧ Below w.heap.size w w')) (K3 : Box (∀ w, FAt w → Calls Tryd.prog 4 #[.int .u8 0, .int .u8 f, .int .u8 n, .agg #[.int .u64 (x1 : Nat), .int .u64 (y1 : Nat)]] w fun r w' => r = .returned (.tuple #[.int .u64 x, .int .u8 0, .int .i64 0]) ∧ Below w.heap.size w w')) (KW : Box (∀ w, FAt w → Calls Tryd.prog 7 #[.int .u8 f, .int .u8 m, .agg #[.int .u64 (x1 : Nat), .int .u64 (y1 : Nat)]] w fun r w' => r = .returned (.tuple #[.bool false, .agg (cw 6 0), .bool ex, .int .i64 0]) ∧ Below w.heap.size w w')) (K4 : Box (∀ w, FAt w → Calls Tryd.prog 4 #[.int .u8 3, .int .u8 f, .int .u8 m, .agg #[.int .u64 (x1 : Nat), .int .u64 (y1 : Nat)]] w fun r w' => r = .returned (.tuple #[.int .u64 0, .int .u8 0, .int .i64 0]) ∧ Below w.heap.size w w')) (KA : Box (∀ w, FAt w → Calls Tryd.prog 6 #[] w fun r w' => r = .returned (.bool true) ∧ Below w.heap.size w w')) (hT : FAt w) : Calls Tryd.prog 3 #[.int .u8 f, .int .u8 m, .int .u8 n, .agg #[.int .u64 (x1 : Nat), .int .u64 (y1 : Nat)]] w fun r w' => r = .returned (.bool true) ∧ Below w.heap.size w w' := by
  have FF := box hT
  clear hT
  have hat := cw_at 6
  have hz := cw6z
  have hff := cw6f
  have hs0 := st0
  have hcs : ∀ x, ((cw 6 x).size = 6) = True := fun x => eq_true (cw_size 6 x)
  have heq := eq6
  have q0 : 0 < Q := Q_pos
  have hg6 := eqg6
  obtain ⟨Ra_0, B0⟩ := opn1 w (Obj.cells #[.int .u64 (x1 : Nat), .int .u64 (y1 : Nat)] 26)
  go_enter Tryd.func3, Tryd.ntmps3
  obtain ⟨ca_0_0, ca_0_1⟩ := cells2s Ra_0
  go_wp2_with fail
  refine (K1.out _ (fatB FF.out B0)).mono ?_
  rintro r w1 ⟨rfl, b1⟩
  have B1 : Below w.heap.size w w1 := btr B0 b1
  have Ra_1 := heap_of b1 _ _ _ Ra_0
  clear b1 B0 Ra_0 ca_0_0 ca_0_1
  obtain ⟨ca_1_0, ca_1_1⟩ := cells2s Ra_1
  go_wp2_with fail
  refine (K2.out _ (fatB FF.out B1)).mono ?_
  rintro r w2 ⟨rfl, b2⟩
  have B2 : Below w.heap.size w w2 := btr B1 b2
  have Ra_2 := heap_of b2 _ _ _ Ra_1
  clear b2 B1 Ra_1 ca_1_0 ca_1_1
  obtain ⟨ca_2_0, ca_2_1⟩ := cells2s Ra_2
  go_wp2_with fail
  refine (KM.out _).mono ?_
  rintro r w3 ⟨rfl, b3⟩
  have B3 : Below w.heap.size w w3 := btr B2 b3
  have Ra_3 := heap_of b3 _ _ _ Ra_2
  clear b3 B2 Ra_2 ca_2_0 ca_2_1
  obtain ⟨ca_3_0, ca_3_1⟩ := cells2s Ra_3
  go_wp2_with fail
  refine (K3.out _ (fatB FF.out B3)).mono ?_
  rintro r w4 ⟨rfl, b4⟩
  have B4 : Below w.heap.size w w4 := btr B3 b4
  have Ra_4 := heap_of b4 _ _ _ Ra_3
  clear b4 B3 Ra_3 ca_3_0 ca_3_1
  obtain ⟨ca_4_0, ca_4_1⟩ := cells2s Ra_4
  go_wp2_with fail
  refine (KW.out _ (fatB FF.out B4)).mono ?_
  rintro r w5 ⟨rfl, b5⟩
  have B5 : Below w.heap.size w w5 := btr B4 b5
  have Ra_5 := heap_of b5 _ _ _ Ra_4
  clear b5 B4 Ra_4 ca_4_0 ca_4_1
  obtain ⟨ca_5_0, ca_5_1⟩ := cells2s Ra_5
  have S6 := box B5.size
  have La_6 : Box (w.heap.size < w5.heap.size) := box (Array.getElem?_eq_some_iff.1 Ra_5).1
  have Rn1_6 := heap_alloc_last w5 (Obj.cells (cw 6 0) 35)
  have B6 := btr B5 (bal w5 (Obj.cells (cw 6 0) 35))
  have Ra_6 := heap_of (bal w5 (Obj.cells (cw 6 0) 35)) _ _ _ Ra_5
  clear B5 Ra_5 ca_5_0 ca_5_1
  obtain ⟨ca_6_0, ca_6_1⟩ := cells2s Ra_6
  have cn1_6_0 := row_cell Rn1_6
  go_wp2_with fail
  refine (K4.out _ (fatB FF.out B6)).mono ?_
  rintro r w7 ⟨rfl, b7⟩
  have B7 : Below w.heap.size w w7 := btr B6 b7
  have Ra_7 := heap_of b7 _ _ _ Ra_6
  have Rn1_7 := heap_of b7 _ _ _ Rn1_6
  clear b7 B6 Ra_6 ca_6_0 ca_6_1 Rn1_6 cn1_6_0
  obtain ⟨ca_7_0, ca_7_1⟩ := cells2s Ra_7
  have cn1_7_0 := row_cell Rn1_7
  go_wp2_with fail
  refine (KA.out _ (fatB FF.out B7)).mono ?_
  rintro r w8 ⟨rfl, b8⟩
  have B8 : Below w.heap.size w w8 := btr B7 b8
  have Ra_8 := heap_of b8 _ _ _ Ra_7
  have Rn1_8 := heap_of b8 _ _ _ Rn1_7
  clear b8 B7 Ra_7 ca_7_0 ca_7_1 Rn1_7 cn1_7_0
  obtain ⟨ca_8_0, ca_8_1⟩ := cells2s Ra_8
  have cn1_8_0 := row_cell Rn1_8
  go_wp2
  go_ret
  exact ⟨rfl, B8⟩
set_option maxRecDepth 100000 in
set_option maxHeartbeats 8000000 in
theorem tw_0z1 (f m n : Int) (x1 y1 : Nat) (x y gl : Int) (ex : Bool)  (w : World) (K1 : Box (∀ w, FAt w → Calls Tryd.prog 4 #[.int .u8 0, .int .u8 f, .int .u8 m, .agg #[.int .u64 (x1 : Nat), .int .u64 (y1 : Nat)]] w fun r w' => r = .returned (.tuple #[.int .u64 x, .int .u8 0, .int .i64 0]) ∧ Below w.heap.size w w')) (K2 : Box (∀ w, FAt w → Calls Tryd.prog 4 #[.int .u8 2, .int .u8 f, .int .u8 m, .agg #[.int .u64 (x1 : Nat), .int .u64 (y1 : Nat)]] w fun r w' => r = .returned (.tuple #[.int .u64 x, .int .u8 0, .int .i64 0]) ∧ Below w.heap.size w w')) (KM : Box (∀ w, Calls Tryd.prog 5 #[.int .u8 n] w fun r w' => r = .returned (.int .i64 0) ∧ Below w.heap.size w w')) (K3 : Box (∀ w, FAt w → Calls Tryd.prog 4 #[.int .u8 0, .int .u8 f, .int .u8 n, .agg #[.int .u64 (x1 : Nat), .int .u64 (y1 : Nat)]] w fun r w' => r = .returned (.tuple #[.int .u64 x, .int .u8 0, .int .i64 0]) ∧ Below w.heap.size w w')) (KW : Box (∀ w, FAt w → Calls Tryd.prog 7 #[.int .u8 f, .int .u8 m, .agg #[.int .u64 (x1 : Nat), .int .u64 (y1 : Nat)]] w fun r w' => r = .returned (.tuple #[.bool false, .agg (cw 6 0), .bool ex, .int .i64 0]) ∧ Below w.heap.size w w')) (K4 : Box (∀ w, FAt w → Calls Tryd.prog 4 #[.int .u8 3, .int .u8 f, .int .u8 m, .agg #[.int .u64 (x1 : Nat), .int .u64 (y1 : Nat)]] w fun r w' => r = .returned (.tuple #[.int .u64 0, .int .u8 1, .int .i64 0]) ∧ Below w.heap.size w w')) (KA : Box (∀ w, FAt w → Calls Tryd.prog 6 #[] w fun r w' => r = .returned (.bool true) ∧ Below w.heap.size w w')) (hT : FAt w) : Calls Tryd.prog 3 #[.int .u8 f, .int .u8 m, .int .u8 n, .agg #[.int .u64 (x1 : Nat), .int .u64 (y1 : Nat)]] w fun r w' => r = .returned (.bool true) ∧ Below w.heap.size w w' := by
  have FF := box hT
  clear hT
  have hat := cw_at 6
  have hz := cw6z
  have hff := cw6f
  have hs0 := st0
  have hcs : ∀ x, ((cw 6 x).size = 6) = True := fun x => eq_true (cw_size 6 x)
  have heq := eq6
  have q0 : 0 < Q := Q_pos
  have hg6 := eqg6
  obtain ⟨Ra_0, B0⟩ := opn1 w (Obj.cells #[.int .u64 (x1 : Nat), .int .u64 (y1 : Nat)] 26)
  go_enter Tryd.func3, Tryd.ntmps3
  obtain ⟨ca_0_0, ca_0_1⟩ := cells2s Ra_0
  go_wp2_with fail
  refine (K1.out _ (fatB FF.out B0)).mono ?_
  rintro r w1 ⟨rfl, b1⟩
  have B1 : Below w.heap.size w w1 := btr B0 b1
  have Ra_1 := heap_of b1 _ _ _ Ra_0
  clear b1 B0 Ra_0 ca_0_0 ca_0_1
  obtain ⟨ca_1_0, ca_1_1⟩ := cells2s Ra_1
  go_wp2_with fail
  refine (K2.out _ (fatB FF.out B1)).mono ?_
  rintro r w2 ⟨rfl, b2⟩
  have B2 : Below w.heap.size w w2 := btr B1 b2
  have Ra_2 := heap_of b2 _ _ _ Ra_1
  clear b2 B1 Ra_1 ca_1_0 ca_1_1
  obtain ⟨ca_2_0, ca_2_1⟩ := cells2s Ra_2
  go_wp2_with fail
  refine (KM.out _).mono ?_
  rintro r w3 ⟨rfl, b3⟩
  have B3 : Below w.heap.size w w3 := btr B2 b3
  have Ra_3 := heap_of b3 _ _ _ Ra_2
  clear b3 B2 Ra_2 ca_2_0 ca_2_1
  obtain ⟨ca_3_0, ca_3_1⟩ := cells2s Ra_3
  go_wp2_with fail
  refine (K3.out _ (fatB FF.out B3)).mono ?_
  rintro r w4 ⟨rfl, b4⟩
  have B4 : Below w.heap.size w w4 := btr B3 b4
  have Ra_4 := heap_of b4 _ _ _ Ra_3
  clear b4 B3 Ra_3 ca_3_0 ca_3_1
  obtain ⟨ca_4_0, ca_4_1⟩ := cells2s Ra_4
  go_wp2_with fail
  refine (KW.out _ (fatB FF.out B4)).mono ?_
  rintro r w5 ⟨rfl, b5⟩
  have B5 : Below w.heap.size w w5 := btr B4 b5
  have Ra_5 := heap_of b5 _ _ _ Ra_4
  clear b5 B4 Ra_4 ca_4_0 ca_4_1
  obtain ⟨ca_5_0, ca_5_1⟩ := cells2s Ra_5
  have S6 := box B5.size
  have La_6 : Box (w.heap.size < w5.heap.size) := box (Array.getElem?_eq_some_iff.1 Ra_5).1
  have Rn1_6 := heap_alloc_last w5 (Obj.cells (cw 6 0) 35)
  have B6 := btr B5 (bal w5 (Obj.cells (cw 6 0) 35))
  have Ra_6 := heap_of (bal w5 (Obj.cells (cw 6 0) 35)) _ _ _ Ra_5
  clear B5 Ra_5 ca_5_0 ca_5_1
  obtain ⟨ca_6_0, ca_6_1⟩ := cells2s Ra_6
  have cn1_6_0 := row_cell Rn1_6
  go_wp2_with fail
  refine (K4.out _ (fatB FF.out B6)).mono ?_
  rintro r w7 ⟨rfl, b7⟩
  have B7 : Below w.heap.size w w7 := btr B6 b7
  have Ra_7 := heap_of b7 _ _ _ Ra_6
  have Rn1_7 := heap_of b7 _ _ _ Rn1_6
  clear b7 B6 Ra_6 ca_6_0 ca_6_1 Rn1_6 cn1_6_0
  obtain ⟨ca_7_0, ca_7_1⟩ := cells2s Ra_7
  have cn1_7_0 := row_cell Rn1_7
  go_wp2_with fail
  refine (KA.out _ (fatB FF.out B7)).mono ?_
  rintro r w8 ⟨rfl, b8⟩
  have B8 : Below w.heap.size w w8 := btr B7 b8
  have Ra_8 := heap_of b8 _ _ _ Ra_7
  have Rn1_8 := heap_of b8 _ _ _ Rn1_7
  clear b8 B7 Ra_7 ca_7_0 ca_7_1 Rn1_7 cn1_7_0
  obtain ⟨ca_8_0, ca_8_1⟩ := cells2s Ra_8
  have cn1_8_0 := row_cell Rn1_8
  go_wp2
  go_ret
  exact ⟨rfl, B8⟩
set_option maxRecDepth 100000 in
set_option maxHeartbeats 8000000 in
theorem tw_1e (f m n : Int) (x1 y1 : Nat) (x y gl : Int) (o ex : Bool) (N : Nat) (e : Int) (he : (e == 0) = false) (w : World) (K1 : Box (∀ w, FAt w → Calls Tryd.prog 4 #[.int .u8 0, .int .u8 f, .int .u8 m, .agg #[.int .u64 (x1 : Nat), .int .u64 (y1 : Nat)]] w fun r w' => r = .returned (.tuple #[.int .u64 x, .int .u8 1, .int .i64 0]) ∧ Below w.heap.size w w')) (K2 : Box (∀ w, FAt w → Calls Tryd.prog 4 #[.int .u8 2, .int .u8 f, .int .u8 m, .agg #[.int .u64 (x1 : Nat), .int .u64 (y1 : Nat)]] w fun r w' => r = .returned (.tuple #[.int .u64 x, .int .u8 1, .int .i64 0]) ∧ Below w.heap.size w w')) (KM : Box (∀ w, Calls Tryd.prog 5 #[.int .u8 n] w fun r w' => r = .returned (.int .i64 0) ∧ Below w.heap.size w w')) (KW : Box (∀ w, FAt w → Calls Tryd.prog 7 #[.int .u8 f, .int .u8 m, .agg #[.int .u64 (x1 : Nat), .int .u64 (y1 : Nat)]] w fun r w' => r = .returned (.tuple #[.bool o, .agg (cw 6 N), .bool ex, .int .i64 e]) ∧ Below w.heap.size w w')) (KA : Box (∀ w, FAt w → Calls Tryd.prog 6 #[] w fun r w' => r = .returned (.bool true) ∧ Below w.heap.size w w')) (hT : FAt w) : Calls Tryd.prog 3 #[.int .u8 f, .int .u8 m, .int .u8 n, .agg #[.int .u64 (x1 : Nat), .int .u64 (y1 : Nat)]] w fun r w' => r = .returned (.bool true) ∧ Below w.heap.size w w' := by
  have FF := box hT
  clear hT
  have hat := cw_at 6
  have hz := cw6z
  have hff := cw6f
  have hs0 := st0
  have hcs : ∀ x, ((cw 6 x).size = 6) = True := fun x => eq_true (cw_size 6 x)
  have heq := eq6
  have q0 : 0 < Q := Q_pos
  have hg6 := eqg6
  obtain ⟨Ra_0, B0⟩ := opn1 w (Obj.cells #[.int .u64 (x1 : Nat), .int .u64 (y1 : Nat)] 26)
  go_enter Tryd.func3, Tryd.ntmps3
  obtain ⟨ca_0_0, ca_0_1⟩ := cells2s Ra_0
  go_wp2_with fail
  refine (K1.out _ (fatB FF.out B0)).mono ?_
  rintro r w1 ⟨rfl, b1⟩
  have B1 : Below w.heap.size w w1 := btr B0 b1
  have Ra_1 := heap_of b1 _ _ _ Ra_0
  clear b1 B0 Ra_0 ca_0_0 ca_0_1
  obtain ⟨ca_1_0, ca_1_1⟩ := cells2s Ra_1
  go_wp2_with fail
  refine (K2.out _ (fatB FF.out B1)).mono ?_
  rintro r w2 ⟨rfl, b2⟩
  have B2 : Below w.heap.size w w2 := btr B1 b2
  have Ra_2 := heap_of b2 _ _ _ Ra_1
  clear b2 B1 Ra_1 ca_1_0 ca_1_1
  obtain ⟨ca_2_0, ca_2_1⟩ := cells2s Ra_2
  go_wp2_with fail
  refine (KM.out _).mono ?_
  rintro r w3 ⟨rfl, b3⟩
  have B3 : Below w.heap.size w w3 := btr B2 b3
  have Ra_3 := heap_of b3 _ _ _ Ra_2
  clear b3 B2 Ra_2 ca_2_0 ca_2_1
  obtain ⟨ca_3_0, ca_3_1⟩ := cells2s Ra_3
  go_wp2_with fail
  refine (KW.out _ (fatB FF.out B3)).mono ?_
  rintro r w4 ⟨rfl, b4⟩
  have B4 : Below w.heap.size w w4 := btr B3 b4
  have Ra_4 := heap_of b4 _ _ _ Ra_3
  clear b4 B3 Ra_3 ca_3_0 ca_3_1
  obtain ⟨ca_4_0, ca_4_1⟩ := cells2s Ra_4
  have S5 := box B4.size
  have La_5 : Box (w.heap.size < w4.heap.size) := box (Array.getElem?_eq_some_iff.1 Ra_4).1
  have Rn1_5 := heap_alloc_last w4 (Obj.cells (cw 6 N) 35)
  have B5 := btr B4 (bal w4 (Obj.cells (cw 6 N) 35))
  have Ra_5 := heap_of (bal w4 (Obj.cells (cw 6 N) 35)) _ _ _ Ra_4
  clear B4 Ra_4 ca_4_0 ca_4_1
  obtain ⟨ca_5_0, ca_5_1⟩ := cells2s Ra_5
  have cn1_5_0 := row_cell Rn1_5
  go_wp2_with fail
  refine (KA.out _ (fatB FF.out B5)).mono ?_
  rintro r w6 ⟨rfl, b6⟩
  have B6 : Below w.heap.size w w6 := btr B5 b6
  have Ra_6 := heap_of b6 _ _ _ Ra_5
  have Rn1_6 := heap_of b6 _ _ _ Rn1_5
  clear b6 B5 Ra_5 ca_5_0 ca_5_1 Rn1_5 cn1_5_0
  obtain ⟨ca_6_0, ca_6_1⟩ := cells2s Ra_6
  have cn1_6_0 := row_cell Rn1_6
  go_wp2
  go_ret
  exact ⟨rfl, B6⟩
set_option maxRecDepth 100000 in
set_option maxHeartbeats 8000000 in
theorem tw_1n (f m n : Int) (x1 y1 : Nat) (x y gl : Int) (o ex : Bool) (N : Nat) (hN : decide (N = 0) = false) (hQ : N < Q) (w : World) (K1 : Box (∀ w, FAt w → Calls Tryd.prog 4 #[.int .u8 0, .int .u8 f, .int .u8 m, .agg #[.int .u64 (x1 : Nat), .int .u64 (y1 : Nat)]] w fun r w' => r = .returned (.tuple #[.int .u64 x, .int .u8 1, .int .i64 0]) ∧ Below w.heap.size w w')) (K2 : Box (∀ w, FAt w → Calls Tryd.prog 4 #[.int .u8 2, .int .u8 f, .int .u8 m, .agg #[.int .u64 (x1 : Nat), .int .u64 (y1 : Nat)]] w fun r w' => r = .returned (.tuple #[.int .u64 x, .int .u8 1, .int .i64 0]) ∧ Below w.heap.size w w')) (KM : Box (∀ w, Calls Tryd.prog 5 #[.int .u8 n] w fun r w' => r = .returned (.int .i64 0) ∧ Below w.heap.size w w')) (KW : Box (∀ w, FAt w → Calls Tryd.prog 7 #[.int .u8 f, .int .u8 m, .agg #[.int .u64 (x1 : Nat), .int .u64 (y1 : Nat)]] w fun r w' => r = .returned (.tuple #[.bool o, .agg (cw 6 N), .bool ex, .int .i64 0]) ∧ Below w.heap.size w w')) (KA : Box (∀ w, FAt w → Calls Tryd.prog 6 #[] w fun r w' => r = .returned (.bool true) ∧ Below w.heap.size w w')) (hT : FAt w) : Calls Tryd.prog 3 #[.int .u8 f, .int .u8 m, .int .u8 n, .agg #[.int .u64 (x1 : Nat), .int .u64 (y1 : Nat)]] w fun r w' => r = .returned (.bool true) ∧ Below w.heap.size w w' := by
  have FF := box hT
  clear hT
  have hat := cw_at 6
  have hz := cw6z
  have hff := cw6f
  have hs0 := st0
  have hcs : ∀ x, ((cw 6 x).size = 6) = True := fun x => eq_true (cw_size 6 x)
  have heq := eq6
  have q0 : 0 < Q := Q_pos
  have hg6 := eqg6
  obtain ⟨Ra_0, B0⟩ := opn1 w (Obj.cells #[.int .u64 (x1 : Nat), .int .u64 (y1 : Nat)] 26)
  go_enter Tryd.func3, Tryd.ntmps3
  obtain ⟨ca_0_0, ca_0_1⟩ := cells2s Ra_0
  go_wp2_with fail
  refine (K1.out _ (fatB FF.out B0)).mono ?_
  rintro r w1 ⟨rfl, b1⟩
  have B1 : Below w.heap.size w w1 := btr B0 b1
  have Ra_1 := heap_of b1 _ _ _ Ra_0
  clear b1 B0 Ra_0 ca_0_0 ca_0_1
  obtain ⟨ca_1_0, ca_1_1⟩ := cells2s Ra_1
  go_wp2_with fail
  refine (K2.out _ (fatB FF.out B1)).mono ?_
  rintro r w2 ⟨rfl, b2⟩
  have B2 : Below w.heap.size w w2 := btr B1 b2
  have Ra_2 := heap_of b2 _ _ _ Ra_1
  clear b2 B1 Ra_1 ca_1_0 ca_1_1
  obtain ⟨ca_2_0, ca_2_1⟩ := cells2s Ra_2
  go_wp2_with fail
  refine (KM.out _).mono ?_
  rintro r w3 ⟨rfl, b3⟩
  have B3 : Below w.heap.size w w3 := btr B2 b3
  have Ra_3 := heap_of b3 _ _ _ Ra_2
  clear b3 B2 Ra_2 ca_2_0 ca_2_1
  obtain ⟨ca_3_0, ca_3_1⟩ := cells2s Ra_3
  go_wp2_with fail
  refine (KW.out _ (fatB FF.out B3)).mono ?_
  rintro r w4 ⟨rfl, b4⟩
  have B4 : Below w.heap.size w w4 := btr B3 b4
  have Ra_4 := heap_of b4 _ _ _ Ra_3
  clear b4 B3 Ra_3 ca_3_0 ca_3_1
  obtain ⟨ca_4_0, ca_4_1⟩ := cells2s Ra_4
  have S5 := box B4.size
  have La_5 : Box (w.heap.size < w4.heap.size) := box (Array.getElem?_eq_some_iff.1 Ra_4).1
  have Rn1_5 := heap_alloc_last w4 (Obj.cells (cw 6 N) 35)
  have B5 := btr B4 (bal w4 (Obj.cells (cw 6 N) 35))
  have Ra_5 := heap_of (bal w4 (Obj.cells (cw 6 N) 35)) _ _ _ Ra_4
  clear B4 Ra_4 ca_4_0 ca_4_1
  obtain ⟨ca_5_0, ca_5_1⟩ := cells2s Ra_5
  have cn1_5_0 := row_cell Rn1_5
  go_wp2_with fail
  refine (KA.out _ (fatB FF.out B5)).mono ?_
  rintro r w6 ⟨rfl, b6⟩
  have B6 : Below w.heap.size w w6 := btr B5 b6
  have Ra_6 := heap_of b6 _ _ _ Ra_5
  have Rn1_6 := heap_of b6 _ _ _ Rn1_5
  clear b6 B5 Ra_5 ca_5_0 ca_5_1 Rn1_5 cn1_5_0
  obtain ⟨ca_6_0, ca_6_1⟩ := cells2s Ra_6
  have cn1_6_0 := row_cell Rn1_6
  go_wp2
  go_ret
  exact ⟨rfl, B6⟩
set_option maxRecDepth 100000 in
set_option maxHeartbeats 8000000 in
theorem tw_1z0 (f m n : Int) (x1 y1 : Nat) (x y gl : Int) (ex : Bool)  (w : World) (K1 : Box (∀ w, FAt w → Calls Tryd.prog 4 #[.int .u8 0, .int .u8 f, .int .u8 m, .agg #[.int .u64 (x1 : Nat), .int .u64 (y1 : Nat)]] w fun r w' => r = .returned (.tuple #[.int .u64 x, .int .u8 1, .int .i64 0]) ∧ Below w.heap.size w w')) (K2 : Box (∀ w, FAt w → Calls Tryd.prog 4 #[.int .u8 2, .int .u8 f, .int .u8 m, .agg #[.int .u64 (x1 : Nat), .int .u64 (y1 : Nat)]] w fun r w' => r = .returned (.tuple #[.int .u64 x, .int .u8 1, .int .i64 0]) ∧ Below w.heap.size w w')) (KM : Box (∀ w, Calls Tryd.prog 5 #[.int .u8 n] w fun r w' => r = .returned (.int .i64 0) ∧ Below w.heap.size w w')) (KW : Box (∀ w, FAt w → Calls Tryd.prog 7 #[.int .u8 f, .int .u8 m, .agg #[.int .u64 (x1 : Nat), .int .u64 (y1 : Nat)]] w fun r w' => r = .returned (.tuple #[.bool false, .agg (cw 6 0), .bool ex, .int .i64 0]) ∧ Below w.heap.size w w')) (K4 : Box (∀ w, FAt w → Calls Tryd.prog 4 #[.int .u8 3, .int .u8 f, .int .u8 m, .agg #[.int .u64 (x1 : Nat), .int .u64 (y1 : Nat)]] w fun r w' => r = .returned (.tuple #[.int .u64 0, .int .u8 0, .int .i64 0]) ∧ Below w.heap.size w w')) (KA : Box (∀ w, FAt w → Calls Tryd.prog 6 #[] w fun r w' => r = .returned (.bool true) ∧ Below w.heap.size w w')) (hT : FAt w) : Calls Tryd.prog 3 #[.int .u8 f, .int .u8 m, .int .u8 n, .agg #[.int .u64 (x1 : Nat), .int .u64 (y1 : Nat)]] w fun r w' => r = .returned (.bool true) ∧ Below w.heap.size w w' := by
  have FF := box hT
  clear hT
  have hat := cw_at 6
  have hz := cw6z
  have hff := cw6f
  have hs0 := st0
  have hcs : ∀ x, ((cw 6 x).size = 6) = True := fun x => eq_true (cw_size 6 x)
  have heq := eq6
  have q0 : 0 < Q := Q_pos
  have hg6 := eqg6
  obtain ⟨Ra_0, B0⟩ := opn1 w (Obj.cells #[.int .u64 (x1 : Nat), .int .u64 (y1 : Nat)] 26)
  go_enter Tryd.func3, Tryd.ntmps3
  obtain ⟨ca_0_0, ca_0_1⟩ := cells2s Ra_0
  go_wp2_with fail
  refine (K1.out _ (fatB FF.out B0)).mono ?_
  rintro r w1 ⟨rfl, b1⟩
  have B1 : Below w.heap.size w w1 := btr B0 b1
  have Ra_1 := heap_of b1 _ _ _ Ra_0
  clear b1 B0 Ra_0 ca_0_0 ca_0_1
  obtain ⟨ca_1_0, ca_1_1⟩ := cells2s Ra_1
  go_wp2_with fail
  refine (K2.out _ (fatB FF.out B1)).mono ?_
  rintro r w2 ⟨rfl, b2⟩
  have B2 : Below w.heap.size w w2 := btr B1 b2
  have Ra_2 := heap_of b2 _ _ _ Ra_1
  clear b2 B1 Ra_1 ca_1_0 ca_1_1
  obtain ⟨ca_2_0, ca_2_1⟩ := cells2s Ra_2
  go_wp2_with fail
  refine (KM.out _).mono ?_
  rintro r w3 ⟨rfl, b3⟩
  have B3 : Below w.heap.size w w3 := btr B2 b3
  have Ra_3 := heap_of b3 _ _ _ Ra_2
  clear b3 B2 Ra_2 ca_2_0 ca_2_1
  obtain ⟨ca_3_0, ca_3_1⟩ := cells2s Ra_3
  go_wp2_with fail
  refine (KW.out _ (fatB FF.out B3)).mono ?_
  rintro r w4 ⟨rfl, b4⟩
  have B4 : Below w.heap.size w w4 := btr B3 b4
  have Ra_4 := heap_of b4 _ _ _ Ra_3
  clear b4 B3 Ra_3 ca_3_0 ca_3_1
  obtain ⟨ca_4_0, ca_4_1⟩ := cells2s Ra_4
  have S5 := box B4.size
  have La_5 : Box (w.heap.size < w4.heap.size) := box (Array.getElem?_eq_some_iff.1 Ra_4).1
  have Rn1_5 := heap_alloc_last w4 (Obj.cells (cw 6 0) 35)
  have B5 := btr B4 (bal w4 (Obj.cells (cw 6 0) 35))
  have Ra_5 := heap_of (bal w4 (Obj.cells (cw 6 0) 35)) _ _ _ Ra_4
  clear B4 Ra_4 ca_4_0 ca_4_1
  obtain ⟨ca_5_0, ca_5_1⟩ := cells2s Ra_5
  have cn1_5_0 := row_cell Rn1_5
  go_wp2_with fail
  refine (K4.out _ (fatB FF.out B5)).mono ?_
  rintro r w6 ⟨rfl, b6⟩
  have B6 : Below w.heap.size w w6 := btr B5 b6
  have Ra_6 := heap_of b6 _ _ _ Ra_5
  have Rn1_6 := heap_of b6 _ _ _ Rn1_5
  clear b6 B5 Ra_5 ca_5_0 ca_5_1 Rn1_5 cn1_5_0
  obtain ⟨ca_6_0, ca_6_1⟩ := cells2s Ra_6
  have cn1_6_0 := row_cell Rn1_6
  go_wp2_with fail
  refine (KA.out _ (fatB FF.out B6)).mono ?_
  rintro r w7 ⟨rfl, b7⟩
  have B7 : Below w.heap.size w w7 := btr B6 b7
  have Ra_7 := heap_of b7 _ _ _ Ra_6
  have Rn1_7 := heap_of b7 _ _ _ Rn1_6
  clear b7 B6 Ra_6 ca_6_0 ca_6_1 Rn1_6 cn1_6_0
  obtain ⟨ca_7_0, ca_7_1⟩ := cells2s Ra_7
  have cn1_7_0 := row_cell Rn1_7
  go_wp2
  go_ret
  exact ⟨rfl, B7⟩
set_option maxRecDepth 100000 in
set_option maxHeartbeats 8000000 in
theorem tw_1z1 (f m n : Int) (x1 y1 : Nat) (x y gl : Int) (ex : Bool)  (w : World) (K1 : Box (∀ w, FAt w → Calls Tryd.prog 4 #[.int .u8 0, .int .u8 f, .int .u8 m, .agg #[.int .u64 (x1 : Nat), .int .u64 (y1 : Nat)]] w fun r w' => r = .returned (.tuple #[.int .u64 x, .int .u8 1, .int .i64 0]) ∧ Below w.heap.size w w')) (K2 : Box (∀ w, FAt w → Calls Tryd.prog 4 #[.int .u8 2, .int .u8 f, .int .u8 m, .agg #[.int .u64 (x1 : Nat), .int .u64 (y1 : Nat)]] w fun r w' => r = .returned (.tuple #[.int .u64 x, .int .u8 1, .int .i64 0]) ∧ Below w.heap.size w w')) (KM : Box (∀ w, Calls Tryd.prog 5 #[.int .u8 n] w fun r w' => r = .returned (.int .i64 0) ∧ Below w.heap.size w w')) (KW : Box (∀ w, FAt w → Calls Tryd.prog 7 #[.int .u8 f, .int .u8 m, .agg #[.int .u64 (x1 : Nat), .int .u64 (y1 : Nat)]] w fun r w' => r = .returned (.tuple #[.bool false, .agg (cw 6 0), .bool ex, .int .i64 0]) ∧ Below w.heap.size w w')) (K4 : Box (∀ w, FAt w → Calls Tryd.prog 4 #[.int .u8 3, .int .u8 f, .int .u8 m, .agg #[.int .u64 (x1 : Nat), .int .u64 (y1 : Nat)]] w fun r w' => r = .returned (.tuple #[.int .u64 0, .int .u8 1, .int .i64 0]) ∧ Below w.heap.size w w')) (KA : Box (∀ w, FAt w → Calls Tryd.prog 6 #[] w fun r w' => r = .returned (.bool true) ∧ Below w.heap.size w w')) (hT : FAt w) : Calls Tryd.prog 3 #[.int .u8 f, .int .u8 m, .int .u8 n, .agg #[.int .u64 (x1 : Nat), .int .u64 (y1 : Nat)]] w fun r w' => r = .returned (.bool true) ∧ Below w.heap.size w w' := by
  have FF := box hT
  clear hT
  have hat := cw_at 6
  have hz := cw6z
  have hff := cw6f
  have hs0 := st0
  have hcs : ∀ x, ((cw 6 x).size = 6) = True := fun x => eq_true (cw_size 6 x)
  have heq := eq6
  have q0 : 0 < Q := Q_pos
  have hg6 := eqg6
  obtain ⟨Ra_0, B0⟩ := opn1 w (Obj.cells #[.int .u64 (x1 : Nat), .int .u64 (y1 : Nat)] 26)
  go_enter Tryd.func3, Tryd.ntmps3
  obtain ⟨ca_0_0, ca_0_1⟩ := cells2s Ra_0
  go_wp2_with fail
  refine (K1.out _ (fatB FF.out B0)).mono ?_
  rintro r w1 ⟨rfl, b1⟩
  have B1 : Below w.heap.size w w1 := btr B0 b1
  have Ra_1 := heap_of b1 _ _ _ Ra_0
  clear b1 B0 Ra_0 ca_0_0 ca_0_1
  obtain ⟨ca_1_0, ca_1_1⟩ := cells2s Ra_1
  go_wp2_with fail
  refine (K2.out _ (fatB FF.out B1)).mono ?_
  rintro r w2 ⟨rfl, b2⟩
  have B2 : Below w.heap.size w w2 := btr B1 b2
  have Ra_2 := heap_of b2 _ _ _ Ra_1
  clear b2 B1 Ra_1 ca_1_0 ca_1_1
  obtain ⟨ca_2_0, ca_2_1⟩ := cells2s Ra_2
  go_wp2_with fail
  refine (KM.out _).mono ?_
  rintro r w3 ⟨rfl, b3⟩
  have B3 : Below w.heap.size w w3 := btr B2 b3
  have Ra_3 := heap_of b3 _ _ _ Ra_2
  clear b3 B2 Ra_2 ca_2_0 ca_2_1
  obtain ⟨ca_3_0, ca_3_1⟩ := cells2s Ra_3
  go_wp2_with fail
  refine (KW.out _ (fatB FF.out B3)).mono ?_
  rintro r w4 ⟨rfl, b4⟩
  have B4 : Below w.heap.size w w4 := btr B3 b4
  have Ra_4 := heap_of b4 _ _ _ Ra_3
  clear b4 B3 Ra_3 ca_3_0 ca_3_1
  obtain ⟨ca_4_0, ca_4_1⟩ := cells2s Ra_4
  have S5 := box B4.size
  have La_5 : Box (w.heap.size < w4.heap.size) := box (Array.getElem?_eq_some_iff.1 Ra_4).1
  have Rn1_5 := heap_alloc_last w4 (Obj.cells (cw 6 0) 35)
  have B5 := btr B4 (bal w4 (Obj.cells (cw 6 0) 35))
  have Ra_5 := heap_of (bal w4 (Obj.cells (cw 6 0) 35)) _ _ _ Ra_4
  clear B4 Ra_4 ca_4_0 ca_4_1
  obtain ⟨ca_5_0, ca_5_1⟩ := cells2s Ra_5
  have cn1_5_0 := row_cell Rn1_5
  go_wp2_with fail
  refine (K4.out _ (fatB FF.out B5)).mono ?_
  rintro r w6 ⟨rfl, b6⟩
  have B6 : Below w.heap.size w w6 := btr B5 b6
  have Ra_6 := heap_of b6 _ _ _ Ra_5
  have Rn1_6 := heap_of b6 _ _ _ Rn1_5
  clear b6 B5 Ra_5 ca_5_0 ca_5_1 Rn1_5 cn1_5_0
  obtain ⟨ca_6_0, ca_6_1⟩ := cells2s Ra_6
  have cn1_6_0 := row_cell Rn1_6
  go_wp2_with fail
  refine (KA.out _ (fatB FF.out B6)).mono ?_
  rintro r w7 ⟨rfl, b7⟩
  have B7 : Below w.heap.size w w7 := btr B6 b7
  have Ra_7 := heap_of b7 _ _ _ Ra_6
  have Rn1_7 := heap_of b7 _ _ _ Rn1_6
  clear b7 B6 Ra_6 ca_6_0 ca_6_1 Rn1_6 cn1_6_0
  obtain ⟨ca_7_0, ca_7_1⟩ := cells2s Ra_7
  have cn1_7_0 := row_cell Rn1_7
  go_wp2
  go_ret
  exact ⟨rfl, B7⟩
end Go.Proofs.YtlpelcfaakfmiaaDoor
namespace Go.Proofs.YtlpelcfaakfmiaaDoor
set_option maxRecDepth 100000
set_option maxHeartbeats 40000000
set_option maxRecDepth 100000
open Go.RowKit WMath XMath
set_option linter.unusedSimpArgs false
set_option linter.unusedVariables false
theorem bel_so {P : Program} {k : FuncId} {a : Array Value} {w : World} {v : Value} (h : Calls P k a w fun r w' => r = .returned v ∧ w' = w) : Calls P k a w fun r w' => r = .returned v ∧ Below w.heap.size w w' := h.mono fun _ _ q => ⟨q.1, by rw [q.2]; exact Below.refl _ _⟩
def whX (f m : Int) (n : Nat) : (Bool × Nat) × (Bool × Int) :=
  if ¬ (0 < kC f n ∧ kC f n < 7) then ((false, 0), (false, 80)) else if 384 < blen (tiR f m n).1 then ((false, 0), (false, 4)) else ((kN f n && decide ((tiR f m n).1 ≠ 0), (tiR f m n).1), ((tiR f m n).2, 0))
end Go.Proofs.YtlpelcfaakfmiaaDoor
