/-
  What the functions that the statement reaches return: part 5 (K1, K2, K3, K4, K5, K6).
-/
import Derived.Lib.MinMax
import Derived.Deep.RegionHeld3
import Derived.Test.YtkblmpmkchkpjaaGreatDoorKt04
namespace Go.Proofs.YtkblmpmkchkpjaaGreatDoor
set_option maxRecDepth 100000
set_option maxHeartbeats 40000000
open Go.RowKit WMath
def kN (f : Int) (n : Nat) : Bool := decide (n / 2 ^ wV f % 2 = 1)
def kE (f : Int) (n : Nat) : Nat := n / 2 ^ pV f % (oV f + 1)
def kT (f : Int) (n : Nat) : Nat := n % 2 ^ pV f
def kC (f : Int) (n : Nat) : Nat :=
  if kE f n = oV f then (if kT f n = 0 then (if kN f n then 0 else 7) else if 2 ^ (pV f - 1) ≤ kT f n then 9 else 8)
  else if kE f n ≠ 0 then (if kN f n then 1 else 6)
  else if kT f n ≠ 0 then (if kN f n then 2 else 5) else (if kN f n then 3 else 4)
def lx (f : Int) : Int := 1 - fE f - pV f
def kS (f : Int) (n : Nat) : Nat := if kC f n = 2 ∨ kC f n = 5 then kT f n else if kC f n = 1 ∨ kC f n = 6 then 2 ^ pV f + kT f n else 0
def kX (f : Int) (n : Nat) : Int := if kC f n = 2 ∨ kC f n = 5 then lx f else if kC f n = 1 ∨ kC f n = 6 then lx f + (kE f n : Int) - 1 else 0
def kF (f : Int) (n : Nat) : Nat := if kC f n = 8 ∨ kC f n = 9 then kT f n else 0
def Fit (f : Int) (n : Nat) : Prop := n < 2 * 2 ^ wV f
theorem fm {f : Int} (h : yT f) : 2 ^ wV f = (oV f + 1) * 2 ^ pV f ∧ 2 ≤ pV f ∧ 2 ^ pV f = 2 * 2 ^ (pV f - 1) ∧ 2 ^ (pV f - 1) ≥ 2 ∧ 3 ≤ oV f ∧ oV f < 32768 ∧ 2 * 2 ^ wV f ≤ 340282366920938463463374607431768211456 := by
 rcases h with rfl | rfl | rfl | rfl <;> decide +kernel
theorem xR {f : Int} (n : Nat) : kT f n < 2 ^ pV f := Nat.mod_lt _ (Nat.two_pow_pos _)
theorem kE_le {f : Int} (n : Nat) : kE f n ≤ oV f := Nat.le_of_lt_succ (Nat.mod_lt _ (Nat.succ_pos _))
theorem kC_lt (f : Int) (n : Nat) : kC f n < 10 := by unfold kC; repeat' split <;> first | decide | skip
theorem k_enc {f : Int} (h : yT f) {n : Nat} (hn : Fit f n) : yK f (kN f n) (kE f n) (kT f n) = n := by
 unfold Fit at hn
 unfold yK kN kE kT
 rcases h with rfl | rfl | rfl | rfl
 all_goals
  simp only [show pV 0 = 23 by decide, show wV 0 = 31 by decide, show oV 0 = 255 by decide, show pV 1 = 52 by decide, show wV 1 = 63 by decide, show oV 1 = 2047 by decide, show pV 2 = 10 by decide, show wV 2 = 15 by decide, show oV 2 = 31 by decide, show pV 3 = 112 by decide, show wV 3 = 127 by decide, show oV 3 = 32767 by decide] at hn ⊢
  simp only [Nat.reducePow, Nat.reduceAdd, decide_eq_true_eq] at hn ⊢
  split <;> omega
theorem x7 {f : Int} (h : yT f) (neg : Bool) {e t : Nat} (he : e ≤ oV f) (ht : t < 2 ^ pV f) : Fit f (yK f neg e t) ∧ kN f (yK f neg e t) = neg ∧ kE f (yK f neg e t) = e ∧ kT f (yK f neg e t) = t := by
 unfold Fit yK kN kE kT
 rcases h with rfl | rfl | rfl | rfl
 all_goals
  simp only [show pV 0 = 23 by decide, show wV 0 = 31 by decide, show oV 0 = 255 by decide, show pV 1 = 52 by decide, show wV 1 = 63 by decide, show oV 1 = 2047 by decide, show pV 2 = 10 by decide, show wV 2 = 15 by decide, show oV 2 = 31 by decide, show pV 3 = 112 by decide, show wV 3 = 127 by decide, show oV 3 = 32767 by decide] at he ht ⊢
  simp only [Nat.reducePow, Nat.reduceAdd] at ht ⊢
  cases neg
  ·
   simp only [Bool.false_eq_true, if_false, decide_eq_false_iff_not]
   omega
  ·
   simp only [if_true, decide_eq_true_eq]
   omega
theorem kC_cases {f : Int} (h : yT f) (neg : Bool) (e t : Nat) (he : e ≤ oV f) (ht : t < 2 ^ pV f) : kC f (yK f neg e t) = 
 (if e = oV f then (if t = 0 then (if neg then 0 else 7) else if 2 ^ (pV f - 1) ≤ t then 9 else 8)
 else if e ≠ 0 then (if neg then 1 else 6)
 else if t ≠ 0 then (if neg then 2 else 5) else (if neg then 3 else 4)) := by
 obtain ⟨_, a, b, c⟩ := x7 h neg he ht
 unfold kC
 rw [a, b, c]
def kp (f : Int) (n : Nat) : Nat × Nat × Int × Nat := (kC f n, kS f n, kX f n, kF f n)
theorem k_low {f : Int} (h : yT f) (n : Nat) : kN f (n % (2 * 2 ^ wV f)) = kN f n ∧ kE f (n % (2 * 2 ^ wV f)) = kE f n ∧ kT f (n % (2 * 2 ^ wV f)) = kT f n := by
 unfold kN kE kT
 rcases h with rfl | rfl | rfl | rfl
 all_goals
  simp only [show pV 0 = 23 by decide, show wV 0 = 31 by decide, show oV 0 = 255 by decide, show pV 1 = 52 by decide, show wV 1 = 63 by decide, show oV 1 = 2047 by decide, show pV 2 = 10 by decide, show wV 2 = 15 by decide, show oV 2 = 31 by decide, show pV 3 = 112 by decide, show wV 3 = 127 by decide, show oV 3 = 32767 by decide]
  simp only [Nat.reducePow, Nat.reduceAdd, Nat.reduceMul, decide_eq_decide]
  omega
theorem kp_low {f : Int} (h : yT f) (n : Nat) : kp f (n % (2 * 2 ^ wV f)) = kp f n := by
 obtain ⟨a, b, c⟩ := k_low h n
 have e : kC f (n % (2 * 2 ^ wV f)) = kC f n := by unfold kC; rw [a, b, c]
 unfold kp kS kX kF
 rw [e, b, c]
theorem xor_two (a b : Nat) : (a ^^^ b) % 2 = (a + b) % 2 := by
 have := @Nat.xor_mod_two_eq_one a b
 omega
theorem xor_bit : ∀ (k a : Nat), a ^^^ 2 ^ k = if a / 2 ^ k % 2 = 1 then a - 2 ^ k else a + 2 ^ k
 | 0, a => by
  have h1 : (a ^^^ 1) / 2 = a / 2 := by rw [Nat.xor_div_two]; simp
  have h2 : (a ^^^ 1) % 2 = (a + 1) % 2 := by rw [xor_two]
  rw [Nat.pow_zero, Nat.div_one]
  split <;> omega
 | k + 1, a => by
  have ih := xor_bit k (a / 2)
  have h1 : (a ^^^ 2 ^ (k + 1)) / 2 = a / 2 ^^^ 2 ^ k := by rw [Nat.xor_div_two, Nat.pow_succ, Nat.mul_div_cancel _ (by decide)]
  have h2 : (a ^^^ 2 ^ (k + 1)) % 2 = a % 2 := by rw [xor_two, Nat.pow_succ]; omega
  have h3 : a / 2 / 2 ^ k = a / 2 ^ (k + 1) := by rw [Nat.div_div_eq_div_mul, Nat.pow_succ, Nat.mul_comm]
  rw [ih, h3] at h1
  have h4 : a / 2 ^ (k + 1) % 2 = 1 → 2 ^ k ≤ a / 2 := fun h => by
   rw [← h3] at h
   by_cases c : 2 ^ k ≤ a / 2
   ·
    exact c
   ·
    rw [Nat.div_eq_of_lt (by omega)] at h; exact absurd h (by decide)
  rw [Nat.pow_succ] at h1 h2 h4 ⊢
  split at h1
  ·
   rename_i c
   have := h4 c
   rw [if_pos c]; omega
  ·
   rename_i c
   rw [if_neg c]; omega
def sgB (f : Int) (n : Nat) (neg : Bool) : Nat := if neg then n ^^^ 2 ^ wV f else n
theorem sgB_low {f : Int} {n : Nat} (hn : n < 2 ^ wV f) (neg : Bool) : sgB f n neg = n + (if neg then 2 ^ wV f else 0) := by
 unfold sgB
 cases neg
 ·
  rfl
 ·
  rw [if_pos rfl, xor_bit, Nat.div_eq_of_lt hn, if_neg (by decide), if_pos rfl]
theorem flip_enc {f : Int} (h : yT f) (neg : Bool) {e t : Nat} (he : e ≤ oV f) (ht : t < 2 ^ pV f) : yK f neg e t ^^^ 2 ^ wV f = yK f (!neg) e t := by
 obtain ⟨f1, f2, f3, f4, f5, f6, f7⟩ := fm h
 have h0 : e * 2 ^ pV f + t < 2 ^ wV f := by
  rw [f1]
  have := Nat.mul_le_mul_right (2 ^ pV f) he
  rw [Nat.add_mul]; omega
 have h1 := sgB_low (f := f) h0 true
 unfold sgB at h1
 rw [if_pos rfl, if_pos rfl] at h1
 unfold yK
 cases neg
 ·
  exact h1
 ·
  rw [if_pos rfl, ← h1, Nat.xor_assoc, Nat.xor_self, Nat.xor_zero]; rfl
def toB (s : Nat) : Nat := if s < 340282366920938463463374607431768211456 then s else 0
def plN (f : Int) (u : Nat) : Nat := u * 2 ^ pV f % (if f = 3 then 340282366920938463463374607431768211456 else 18446744073709551616)
def u64w (x : Int) : Nat := (x % 18446744073709551616).toNat
def fb (f : Int) (s : Nat) (x : Int) : Nat := (plN f (u64w (x - lx f)) + toB s) % 340282366920938463463374607431768211456
def eb (f : Int) (r : Nat) : Nat := (eInf f false + toB r) % 340282366920938463463374607431768211456
def mg (f : Int) (c s : Nat) (x : Int) (r : Nat) : Nat := if c = 3 ∨ c = 4 then 0 else if c = 1 ∨ c = 2 ∨ c = 5 ∨ c = 6 then fb f s x else eb f r
def gP (f : Int) (p : Nat × Nat × Int × Nat) : Nat := sgB f (mg f p.1 p.2.1 p.2.2.1 p.2.2.2) (decide (p.1 ≤ 3))
theorem fb_is {f : Int} (h : yT f) (k s : Nat) (hk : k ≤ oV f) (hs : k * 2 ^ pV f + s < 2 ^ wV f) : fb f s (lx f + k) = k * 2 ^ pV f + s := by
 obtain ⟨f1, f2, f3, f4, f5, f6, f7⟩ := fm h
 have e1 : u64w (lx f + k - lx f) = k := by
  unfold u64w
  rw [show lx f + (k : Int) - lx f = k by omega]
  omega
 have e2 : toB s = s := by unfold toB; rw [if_pos (by omega)]
 have e3 : plN f k = k * 2 ^ pV f := by
  unfold plN
  refine Nat.mod_eq_of_lt ?_
  have h2 : k * 2 ^ pV f < 2 ^ wV f := by omega
  have h3 : 2 ^ wV f ≤ (if f = 3 then 340282366920938463463374607431768211456 else 18446744073709551616) := by
   rcases h with rfl | rfl | rfl | rfl <;> decide +kernel
  omega
 unfold fb
 rw [e1, e2, e3, Nat.mod_eq_of_lt (by omega)]
theorem eb_is {f : Int} (h : yT f) (t : Nat) (ht : t < 2 ^ pV f) : eb f t = oV f * 2 ^ pV f + t := by
 obtain ⟨f1, f2, f3, f4, f5, f6, f7⟩ := fm h
 have e2 : toB t = t := by unfold toB; rw [if_pos (by rw [f1, Nat.add_mul] at f7; omega)]
 unfold eb eInf yK
 rw [e2]
 rw [f1, Nat.add_mul] at f7
 simp only [Bool.false_eq_true, if_false, Nat.add_zero]
 exact Nat.mod_eq_of_lt (by omega)
theorem gP_kp {f : Int} (h : yT f) (neg : Bool) (e t : Nat) (he : e ≤ oV f) (ht : t < 2 ^ pV f) : gP f (kp f (yK f neg e t)) = (if 8 ≤ kC f (yK f neg e t) then yK f false e t else yK f neg e t) := by
 obtain ⟨f1, f2, f3, f4, f5, f6, f7⟩ := fm h
 obtain ⟨_, a, b, c⟩ := x7 h neg he ht
 have hC := kC_cases h neg e t he ht
 have h0 : e * 2 ^ pV f + t < 2 ^ wV f := by
  rw [f1]
  have := Nat.mul_le_mul_right (2 ^ pV f) he
  rw [Nat.add_mul]; omega
 obtain ⟨C, hc⟩ : ∃ C, kC f (yK f neg e t) = C := ⟨_, rfl⟩
 have key : ∀ m, mg f C (kS f (yK f neg e t)) (kX f (yK f neg e t)) (kF f (yK f neg e t)) = m → m = e * 2 ^ pV f + t → (C < 8 → decide (C ≤ 3) = neg) → gP f (kp f (yK f neg e t)) = (if 8 ≤ C then yK f false e t else yK f neg e t) := by
  intro m h1 h2 h3
  unfold gP kp
  simp only []
  rw [hc, h1, h2, sgB_low h0]
  unfold yK
  by_cases h8 : 8 ≤ C
  ·
   rw [if_pos h8, decide_eq_false (by omega)]
  ·
   rw [if_neg h8, h3 (by omega)]
 rw [hc]
 unfold mg kS kX kF at key
 rw [hc, b, c] at key
 rw [hc] at hC
 by_cases c1 : e = oV f
 ·
  rw [if_pos c1] at hC
  by_cases c2 : t = 0
  ·
   rw [if_pos c2] at hC
   refine key (eb f 0) ?_ ?_ ?_
   ·
    cases neg <;> (simp only [Bool.false_eq_true, if_false, if_true] at hC; subst hC; rfl)
   ·
    rw [eb_is h 0 (Nat.two_pow_pos _), c1, c2]
   ·
    cases neg <;> (simp only [Bool.false_eq_true, if_false, if_true] at hC; subst hC; intro _; rfl)
  ·
   rw [if_neg c2] at hC
   refine key (eb f t) ?_ ?_ ?_
   ·
    split at hC <;> (subst hC; rfl)
   ·
    rw [eb_is h t ht, c1]
   ·
    split at hC <;> (subst hC; intro h; exact absurd h (by decide))
 ·
  rw [if_neg c1] at hC
  by_cases c2 : e = 0
  ·
   rw [if_neg (by simpa using c2)] at hC
   by_cases c3 : t = 0
   ·
    rw [if_neg (by simpa using c3)] at hC
    refine key 0 ?_ ?_ ?_
    ·
     cases neg <;> (simp only [Bool.false_eq_true, if_false, if_true] at hC; subst hC; rfl)
    ·
     rw [c2, c3]; simp
    ·
     cases neg <;> (simp only [Bool.false_eq_true, if_false, if_true] at hC; subst hC; intro _; rfl)
   ·
    rw [if_pos (by simpa using c3)] at hC
    refine key (fb f t (lx f)) ?_ ?_ ?_
    ·
     cases neg <;> (simp only [Bool.false_eq_true, if_false, if_true] at hC; subst hC; rfl)
    ·
     have := fb_is h 0 t (by omega) (by omega)
     rw [c2]
     simpa using this
    ·
     cases neg <;> (simp only [Bool.false_eq_true, if_false, if_true] at hC; subst hC; intro _; rfl)
  ·
   rw [if_pos (by simpa using c2)] at hC
   refine key (fb f (2 ^ pV f + t) (lx f + (e : Int) - 1)) ?_ ?_ ?_
   ·
    cases neg <;> (simp only [Bool.false_eq_true, if_false, if_true] at hC; subst hC; rfl)
   ·
    obtain ⟨g, rfl⟩ : ∃ g, e = g + 1 := ⟨e - 1, by omega⟩
    have e1 : (g + 1) * 2 ^ pV f + t = g * 2 ^ pV f + (2 ^ pV f + t) := by rw [Nat.add_mul]; omega
    rw [e1] at h0 ⊢
    have := fb_is h g (2 ^ pV f + t) (by omega) h0
    rw [← this]
    congr 1
    omega
   ·
    cases neg <;> (simp only [Bool.false_eq_true, if_false, if_true] at hC; subst hC; intro _; rfl)
def pk (f : Int) (p : Nat × Nat × Int × Nat) : Nat × Int := if kp f (gP f p) = p then (gP f p, 0) else (0, 80)
theorem pk_yes {f : Int} (h : yT f) {p : Nat × Nat × Int × Nat} (hp : kp f (gP f p) = p) : Fit f (gP f p) ∧ (8 ≤ p.1 → kN f (gP f p) = false) := by
 obtain ⟨m, hm⟩ : ∃ m, gP f p % (2 * 2 ^ wV f) = m := ⟨_, rfl⟩
 have h1 : kp f m = p := by rw [← hm, kp_low h, hp]
 have h2 : Fit f m := by unfold Fit; rw [← hm]; exact Nat.mod_lt _ (by have := Nat.two_pow_pos (wV f); omega)
 have h3 := gP_kp h (kN f m) (kE f m) (kT f m) (kE_le m) (xR m)
 rw [k_enc h h2, h1] at h3
 have h4 : kC f m = p.1 := by rw [← h1]; rfl
 rw [h4] at h3
 by_cases h8 : 8 ≤ p.1
 ·
  rw [if_pos h8] at h3
  obtain ⟨a, b, _⟩ := x7 h false (kE_le (f := f) m) (xR m)
  rw [h3]
  exact ⟨a, fun _ => b⟩
 ·
  rw [if_neg h8] at h3
  rw [h3]
  exact ⟨h2, fun h => absurd h h8⟩
theorem pk_of {f : Int} (h : yT f) {p : Nat × Nat × Int × Nat} {n : Nat} (hn : Fit f n) (hp : kp f n = p) (hz : 8 ≤ p.1 → kN f n = false) : pk f p = (n, 0) := by
 have h3 := gP_kp h (kN f n) (kE f n) (kT f n) (kE_le n) (xR n)
 rw [k_enc h hn, hp] at h3
 have h4 : kC f n = p.1 := by rw [← hp]; rfl
 rw [h4] at h3
 have h5 : gP f p = n := by
  by_cases h8 : 8 ≤ p.1
  ·
   have e := k_enc h hn
   rw [hz h8] at e
   rw [if_pos h8, e] at h3; exact h3
  ·
   rw [if_neg h8] at h3; exact h3
 unfold pk
 rw [h5, if_pos hp]
theorem pk_none {f : Int} (h : yT f) {p : Nat × Nat × Int × Nat} (hp : ∀ n, Fit f n → kp f n = p → False) : pk f p = (0, 80) := by
 unfold pk
 rw [if_neg]
 intro k
 exact hp _ (pk_yes h k).1 k
theorem zF {w : World} {g : Nat} {T : TypeId} {a b : Value} (R : w.heap[g]? = some (.cells #[a, b] T)) : w.cell? ⟨g, 0, none⟩ = some a ∧ w.cell? ⟨g, 1, none⟩ = some b := ⟨zC R 0 _ rfl, zC R 1 _ rfl⟩
theorem x9 (w : World) (o : Obj) : (w.alloc o).heap[w.heap.size]? = some o ∧ Below w.heap.size w (w.alloc o) := ⟨heap_alloc_last _ _, (Below.refl _ _).alloc (Nat.le_refl _) _⟩
theorem yS (w : World) (o1 o2 : Obj) : ((w.alloc o1).alloc o2).heap[w.heap.size]? = some o1 ∧ ((w.alloc o1).alloc o2).heap[w.heap.size + 1]? = some o2 ∧ Below w.heap.size w ((w.alloc o1).alloc o2) := by
 obtain ⟨r0, b⟩ := x9 w o1
 have z : (w.alloc o1).heap.size = w.heap.size + 1 := by simp only [zT]
 exact ⟨by rw [z6 _ _ _ (by omega)]; exact r0, by rw [← z]; exact heap_alloc_last _ _, b.alloc (by omega) _⟩
theorem yX (w : World) (o1 o2 o3 : Obj) : (((w.alloc o1).alloc o2).alloc o3).heap[w.heap.size]? = some o1 ∧ (((w.alloc o1).alloc o2).alloc o3).heap[w.heap.size + 1]? = some o2 ∧ (((w.alloc o1).alloc o2).alloc o3).heap[w.heap.size + 1 + 1]? = some o3 ∧ Below w.heap.size w (((w.alloc o1).alloc o2).alloc o3) := by
 obtain ⟨r0, r1, b⟩ := yS w o1 o2
 have z : ((w.alloc o1).alloc o2).heap.size = w.heap.size + 1 + 1 := by simp only [zT]
 exact ⟨by rw [z6 _ _ _ (by omega)]; exact r0, by rw [z6 _ _ _ (by omega)]; exact r1, by rw [← z]; exact heap_alloc_last _ _, b.alloc (by omega) _⟩
theorem k_from (x y pl : Nat) (v : Int) (hv : bits .or .u64 ((y : Int) / 2 ^ min pl 64) ((x : Int) / 2 ^ min (IntKind.u64.wrap ((pl : Int) - 64)).toNat 64) = v) (w : World) :
  Calls Tryz.prog 166 #[.agg #[.int .u64 x, .int .u64 y], .int .u64 pl] w fun e w' => e = .returned (.int .u64 v) ∧ Below w.heap.size w w' := by
 subst hv
 go_enter Tryz.func166, Tryz.ntmps166
 go_wp2
 go_ret
 exact ⟨rfl, zQ _ _⟩

theorem k_placed (x pl : Nat) (H L : Int) (hH : IntKind.u64.wrap ((x : Int) * 2 ^ min (IntKind.u64.wrap ((pl : Int) - 64)).toNat 64) = H) (hL : IntKind.u64.wrap ((x : Int) * 2 ^ min pl 64) = L) (w : World) :
  Calls Tryz.prog 185 #[.int .u64 x, .int .u64 pl] w fun e w' => e = .returned (.agg #[.int .u64 H, .int .u64 L]) ∧ Below w.heap.size w w' := by
 subst hH hL
 go_enter Tryz.func185, Tryz.ntmps185
 go_wp2
 exact bodyPost_ret (v := .agg #[.int .u64 _, .int .u64 _]) (by simp [results, Tryz.results185, go_sem]; exact ⟨rfl, rfl⟩) rfl ⟨by simp, zQ _ _⟩

theorem k_plus (a b c d H L K : Int) (hH : IntKind.u64.wrap (a + c) = H) (hL : IntKind.u64.wrap (b + d) = L) (hK : (if L < b then IntKind.u64.wrap (H + 1) else H) = K) (w : World) :
  Calls Tryz.prog 182 #[.agg #[.int .u64 a, .int .u64 b], .agg #[.int .u64 c, .int .u64 d]] w fun e w' => e = .returned (.agg #[.int .u64 K, .int .u64 L]) ∧ Below w.heap.size w w' := by
 by_cases h : L < b
 ·
  rw [if_pos h] at hK
  have hd : decide (L < b) = true := decide_eq_true h
  go_enter Tryz.func182, Tryz.ntmps182
  go_wp2
  exact bodyPost_ret (v := .agg #[.int .u64 K, .int .u64 L]) (by simp [results, Tryz.results182, go_sem]) rfl ⟨rfl, zL (zQ _ _) (zL (zQ _ _) (zL (zQ _ _) (zQ _ _)))⟩
 ·
  rw [if_neg h] at hK
  subst hK
  have hd : decide (L < b) = false := decide_eq_false h
  go_enter Tryz.func182, Tryz.ntmps182
  go_wp2
  exact bodyPost_ret (v := .agg #[.int .u64 H, .int .u64 L]) (by simp [results, Tryz.results182, go_sem]) rfl ⟨rfl, zL (zQ _ _) (zL (zQ _ _) (zL (zQ _ _) (zQ _ _)))⟩
theorem kb_width (f v : Int) (h0 : 0 ≤ f) (h1 : f ≤ 255) (hv : fW f = v) (w : World) (hT : yF w) :
  Calls Tryz.prog 79 #[.int .u8 f] w fun e w' => e = .returned (.int .i64 v) ∧ Below w.heap.size w w' :=
 (s_width f v h0 h1 hv w hT).mono fun _ _ h => ⟨h.1, by rw [h.2]; exact zQ _ _⟩
theorem kb_precision (f v : Int) (h0 : 0 ≤ f) (h1 : f ≤ 255) (hv : fP f = v) (w : World) (hT : yF w) :
  Calls Tryz.prog 165 #[.int .u8 f] w fun e w' => e = .returned (.int .i64 v) ∧ Below w.heap.size w w' :=
 (s_precision f v h0 h1 hv w hT).mono fun _ _ h => ⟨h.1, by rw [h.2]; exact zQ _ _⟩
end Go.Proofs.YtkblmpmkchkpjaaGreatDoor
namespace Go.Proofs.YtkblmpmkchkpjaaGreatDoor
set_option maxRecDepth 100000
set_option maxHeartbeats 40000000
open Go.RowKit WMath
set_option linter.unusedSimpArgs false
set_option linter.unusedVariables false
def frm (n pl : Nat) : Nat := if pl < 64 then n % 18446744073709551616 / 2 ^ pl else n / 2 ^ pl
theorem or0 (a : Nat) (h : a < 18446744073709551616) : bits .or .u64 (a : Int) 0 = (a : Int) := by
 have := bits_or_u64_nat a 0 h (by decide)
 simpa using this
theorem or1 (a : Nat) (h : a < 18446744073709551616) : bits .or .u64 0 (a : Int) = (a : Int) := by
 have := bits_or_u64_nat 0 a (by decide) h
 simpa using this
theorem pow64 (k : Nat) : ((2 : Int) ^ k) = ((2 ^ k : Nat) : Int) := by norm_cast
theorem from_is (x y n pl : Nat) (hx : x < 18446744073709551616) (hy : y < 18446744073709551616) (hn : y + 18446744073709551616 * x = n) (hp : pl < 128) :
  bits .or .u64 ((y : Int) / 2 ^ min pl 64) ((x : Int) / 2 ^ min (IntKind.u64.wrap ((pl : Int) - 64)).toNat 64) = (frm n pl : Int) := by
 unfold frm
 rw [IntKind.wrap_u64]
 by_cases h : pl < 64
 ·
  have e1 : min (((pl : Int) - 64) % 18446744073709551616).toNat 64 = 64 := by omega
  have e2 : min pl 64 = pl := by omega
  have e3 : ((x : Int) / 2 ^ 64) = 0 := by
   rw [show ((2 : Int) ^ 64) = 18446744073709551616 by decide]; omega
  have e4 : n % 18446744073709551616 = y := by omega
  rw [e1, e2, e3, if_pos h, e4, pow64, ← Int.natCast_ediv]
  exact or0 _ (Nat.lt_of_le_of_lt (Nat.div_le_self _ _) hy)
 ·
  have e1 : min (((pl : Int) - 64) % 18446744073709551616).toNat 64 = pl - 64 := by omega
  have e2 : min pl 64 = 64 := by omega
  have e3 : ((y : Int) / 2 ^ 64) = 0 := by
   rw [show ((2 : Int) ^ 64) = 18446744073709551616 by decide]; omega
  have e4 : n / 2 ^ pl = x / 2 ^ (pl - 64) := by
   rw [show (2 : Nat) ^ pl = 18446744073709551616 * 2 ^ (pl - 64) by rw [show (18446744073709551616 : Nat) = 2 ^ 64 by decide, ← Nat.pow_add]; congr 1; omega, ← Nat.div_div_eq_div_mul]
   congr 1; omega
  rw [e1, e2, e3, if_neg h, e4, pow64, ← Int.natCast_ediv]
  exact or1 _ (Nat.lt_of_le_of_lt (Nat.div_le_self _ _) hx)
theorem kfrom_is (x y n pl v : Nat) (hx : x < 18446744073709551616) (hy : y < 18446744073709551616) (hn : y + 18446744073709551616 * x = n) (hp : pl < 128) (hv : frm n pl = v) (w : World) : Calls Tryz.prog 166 #[.agg #[.int .u64 x, .int .u64 y], .int .u64 pl] w fun r w' => r = .returned (.int .u64 v) ∧ Below w.heap.size w w' := by
 subst hv
 exact k_from x y pl _ (from_is x y n pl hx hy hn hp) w

theorem and_one (a : Nat) (h : a < 18446744073709551616) : bits .and .u64 (a : Int) 1 = ((a % 2 : Nat) : Int) := and_mask a 1 h (by decide)
theorem frm_lt (n pl : Nat) (hn : n < 340282366920938463463374607431768211456) : frm n pl < 18446744073709551616 := by
 unfold frm
 split
 ·
  exact Nat.lt_of_le_of_lt (Nat.div_le_self _ _) (Nat.mod_lt _ (by decide))
 ·
  rename_i h
  have : (2 : Nat) ^ 64 ≤ 2 ^ pl := Nat.pow_le_pow_right (by decide) (by omega)
  rw [Nat.div_lt_iff_lt_mul (Nat.two_pow_pos _)]
  rw [show (2 : Nat) ^ 64 = 18446744073709551616 by decide] at this
  have h2 := Nat.mul_le_mul_left 18446744073709551616 this
  omega
theorem kbit_is (x y n pl : Nat) (o : Bool) (hx : x < 18446744073709551616) (hy : y < 18446744073709551616) (hn : y + 18446744073709551616 * x = n) (hp : pl < 128) (ho : decide (frm n pl % 2 = 1) = o) (w : World) : Calls Tryz.prog 78 #[.agg #[.int .u64 x, .int .u64 y], .int .u64 pl] w fun r w' => r = .returned (.bool o) ∧ Below w.heap.size w w' := by
 obtain ⟨v, hv⟩ : ∃ v, frm n pl = v := ⟨_, rfl⟩
 rw [hv] at ho
 have KF := zK (kfrom_is x y n pl v hx hy hn hp hv)
 have vl := frm_lt n pl (by omega)
 rw [hv] at vl
 have ha := and_one v vl
 have hd : (((v % 2 : Nat) : Int) == 1) = o := by rw [← ho]; by_cases h : v % 2 = 1 <;> simp [h] <;> omega
 obtain ⟨u, hu⟩ : ∃ u, v % 2 = u := ⟨_, rfl⟩
 rw [hu] at ha hd
 clear ho hv hn hx hy hp hu vl
 obtain ⟨Aa, B0⟩ := x9 w (Obj.cells #[.int .u64 x, .int .u64 y] 25)
 go_enter Tryz.func78, Tryz.ntmps78
 go_wp2_with fail
 refine (KF.out _).mono ?_
 rintro r w1 ⟨rfl, b1⟩
 have B1 : Below w.heap.size w w1 := zL B0 b1
 have Ab := zA b1 _ _ _ Aa
 clear b1 B0 Aa
 obtain ⟨Ac, Ad⟩ := zF Ab
 go_wp2
 go_ret
 exact ⟨rfl, B1⟩

theorem pV_lim {f : Int} (h : yT f) : fP f - 1 = (pV f : Int) ∧ IntKind.i64.wrap (fP f - 1) = (pV f : Int) ∧ IntKind.u64.wrap ((pV f : Nat) : Int) = (pV f : Int) ∧ pV f < 128 ∧ wV f < 128 ∧ fW f - 1 = (wV f : Int) ∧ IntKind.i64.wrap (fW f - 1) = (wV f : Int) ∧ IntKind.u64.wrap ((wV f : Nat) : Int) = (wV f : Int) := by
 rcases h with rfl | rfl | rfl | rfl <;> decide +kernel

theorem kfw (f : Int) (hf : yT f) (p : Nat) (hp : pV f = p) (w : World) (hT : yF w) : Calls Tryz.prog 128 #[.int .u8 f] w fun r w' => r = .returned (.int .u64 p) ∧ Below w.heap.size w w' := by
 subst hp
 have f4 := yL hf
 obtain ⟨_, a2, a3, _⟩ := pV_lim hf
 obtain ⟨P, hP⟩ : ∃ P, fP f = P := ⟨_, rfl⟩
 rw [hP] at a2
 obtain ⟨p, hp⟩ : ∃ p, pV f = p := ⟨_, rfl⟩
 rw [hp] at a2 a3 ⊢
 have TT := zK hT
 have HP := zK hP
 clear hT hf hp hP
 have B0 : Below w.heap.size w w := (Below.refl _ _)
 go_enter Tryz.func128, Tryz.ntmps128
 go_wp2_with fail
 refine ((kb_precision f P f4.1 f4.2.1 HP.out _ (zY TT.out B0))).mono ?_
 rintro r w1 ⟨rfl, b1⟩
 have B1 : Below w.heap.size w w1 := zL B0 b1
 clear b1 B0 
 go_wp2
 go_ret
 exact ⟨rfl, B1⟩

theorem field_of {f : Int} (h : yT f) (n : Nat) : frm n (pV f) % (oV f + 1) = kE f n := by
 unfold frm kE
 rcases h with rfl | rfl | rfl | rfl
 all_goals
  simp only [show pV 0 = 23 by decide, show wV 0 = 31 by decide, show oV 0 = 255 by decide, show pV 1 = 52 by decide, show wV 1 = 63 by decide, show oV 1 = 2047 by decide, show pV 2 = 10 by decide, show wV 2 = 15 by decide, show oV 2 = 31 by decide, show pV 3 = 112 by decide, show wV 3 = 127 by decide, show oV 3 = 32767 by decide]
  simp only [Nat.reducePow, Nat.reduceAdd, Nat.reduceLT, if_true, if_false]
  try omega
theorem sign_of {f : Int} (h : yT f) (n : Nat) : decide (frm n (wV f) % 2 = 1) = kN f n := by
 unfold frm kN
 rcases h with rfl | rfl | rfl | rfl
 all_goals
  simp only [show wV 0 = 31 by decide, show wV 1 = 63 by decide, show wV 2 = 15 by decide, show wV 3 = 127 by decide]
  simp only [Nat.reducePow, Nat.reduceAdd, Nat.reduceLT, if_true, if_false, decide_eq_decide]
  try omega
theorem quiet_of {f : Int} (h : yT f) (t : Nat) (ht : t < 2 ^ pV f) : decide (frm t (pV f - 1) % 2 = 1) = decide (2 ^ (pV f - 1) ≤ t) := by
 unfold frm
 rcases h with rfl | rfl | rfl | rfl
 all_goals
  simp only [show pV 0 = 23 by decide, show pV 1 = 52 by decide, show pV 2 = 10 by decide, show pV 3 = 112 by decide] at ht ⊢
  simp only [Nat.reducePow, Nat.reduceAdd, Nat.reduceSub, Nat.reduceLT, if_true, if_false, decide_eq_decide] at ht ⊢
  omega
theorem top_mask {f : Int} (h : yT f) : IntKind.i64.wrap (fW f - fP f) = fW f - fP f ∧ 0 ≤ fW f - fP f ∧ IntKind.u64.wrap (IntKind.u64.wrap (2 ^ min (fW f - fP f).toNat 64) - 1) = (oV f : Int) ∧ oV f = 2 ^ (fW f - fP f).toNat - 1 ∧ (fW f - fP f).toNat ≤ 64 := by
 rcases h with rfl | rfl | rfl | rfl <;> decide +kernel
theorem kfield_is (f : Int) (hf : yT f) (x y n e : Nat) (hx : x < 18446744073709551616) (hy : y < 18446744073709551616) (hn : y + 18446744073709551616 * x = n) (he : kE f n = e) (w : World) (hT : yF w) : Calls Tryz.prog 126 #[.int .u8 f, .agg #[.int .u64 x, .int .u64 y]] w fun r w' => r = .returned (.int .u64 e) ∧ Below w.heap.size w w' := by
 have f4 := yL hf
 obtain ⟨_, _, _, a4, _⟩ := pV_lim hf
 obtain ⟨t1, t2, t3, t4, t5⟩ := top_mask hf
 obtain ⟨v, hv⟩ : ∃ v, frm n (pV f) = v := ⟨_, rfl⟩
 have KF := zK (kfrom_is x y n (pV f) v hx hy hn a4 hv)
 have vl := frm_lt n (pV f) (by omega)
 rw [hv] at vl
 have ha : bits .and .u64 (v : Int) (oV f : Int) = (e : Int) := by
  have := and_mask v (fW f - fP f).toNat vl t5
  rw [← t4] at this
  rw [this, ← he, ← field_of hf, hv, t4]
  have := Nat.two_pow_pos (fW f - fP f).toNat
  rw [Nat.sub_add_cancel this]
 obtain ⟨q, hq⟩ : ∃ q, fW f = q := ⟨_, rfl⟩
 obtain ⟨p, hp⟩ : ∃ q, fP f = q := ⟨_, rfl⟩
 obtain ⟨k, hk⟩ : ∃ q, pV f = q := ⟨_, rfl⟩
 obtain ⟨o, ho⟩ : ∃ q, oV f = q := ⟨_, rfl⟩
 rw [hq, hp] at t1 t2 t3
 rw [ho] at t3 ha
 rw [hk] at KF
 obtain ⟨d, hd⟩ : ∃ d, q - p = d := ⟨_, rfl⟩
 rw [hd] at t2 t3
 have t1' : IntKind.i64.wrap (q - p) = d := t1.trans hd
 obtain ⟨m, rfl⟩ := Int.eq_ofNat_of_zero_le t2
 rw [Int.toNat_natCast] at t3
 have TT := zK hT
 have HQ := zK hq
 have HP := zK hp
 have HK := zK hk
 have HF := zK hf
 clear hT hf hq hp hk ho hv hn hx hy he vl t1 t2 t4 t5 a4 hd
 obtain ⟨Ac, B0⟩ := x9 w (Obj.cells #[.int .u64 x, .int .u64 y] 25)
 go_enter Tryz.func126, Tryz.ntmps126
 go_wp2_with fail
 refine (kb_width f q f4.1 f4.2.1 HQ.out _ (zY TT.out B0)).mono ?_
 rintro r w1 ⟨rfl, b1⟩
 have B1 : Below w.heap.size w w1 := zL B0 b1
 have Ab := zA b1 _ _ _ Ac
 clear b1 B0 Ac
 obtain ⟨Ae, Af⟩ := zF Ab
 go_wp2_with fail
 refine (kb_precision f p f4.1 f4.2.1 HP.out _ (zY TT.out B1)).mono ?_
 rintro r w2 ⟨rfl, b2⟩
 have B2 : Below w.heap.size w w2 := zL B1 b2
 have Aa := zA b2 _ _ _ Ab
 clear b2 B1 Ab Ae Af
 obtain ⟨Ag, Ah⟩ := zF Aa
 go_wp2_with fail
 obtain ⟨F, hF1, hF2⟩ := zS w2
 have fb_0 := fun u => zC (zA (hF1 u) _ _ _ Aa) 0 _ rfl
 have fb_1 := fun u => zC (zA (hF1 u) _ _ _ Aa) 1 _ rfl
 have TF : zP (∀ u, yF (F u)) := zK (fun u => zY TT.out (zL B2 (hF1 u)))
 refine zJ F hF2 (by kernel_rfl) (by kernel_rfl) ?_
 repeat first | go_big_quiet_step (first | (go_at_call 128; exact zN hF1 hF2 (kfw f HF.out k HK.out _ (TF.out _))) | (go_at_call 166; exact zN hF1 hF2 (KF.out _)) | fail) | quiet_step (first | (go_at_call 128; exact zN hF1 hF2 (kfw f HF.out k HK.out _ (TF.out _))) | (go_at_call 166; exact zN hF1 hF2 (KF.out _)) | fail)
 refine wpQuiet_nil ?_
 rintro _ ⟨uW, rfl⟩
 have B3 := zL B2 (hF1 uW)
 have Ad := zA (hF1 uW) _ _ _ Aa
 obtain ⟨w3, hw⟩ : ∃ V, F uW = V := ⟨_, rfl⟩
 rw [hw] at B3 Ad
 try rw [hw]
 clear hw hF1 hF2 B2 fb_0 fb_1 Aa Ag Ah
 clear TF
 clear F
 obtain ⟨Ai, Aj⟩ := zF Ad
 go_wp2
 go_ret
 exact ⟨rfl, B3⟩
theorem and_zero (a : Nat) (h : a < 18446744073709551616) : bits .and .u64 (a : Int) 0 = 0 := by
 have := and_mask a 0 h (by decide)
 simpa [Nat.mod_one] using this
theorem and_at (a k : Nat) (m : Int) (v : Nat) (h : a < 18446744073709551616) (hk : k ≤ 64) (hm : ((2 ^ k - 1 : Nat) : Int) = m) (hv : a % 2 ^ k = v) : bits .and .u64 (a : Int) m = (v : Int) := by
 subst hm hv
 exact and_mask a k h hk
theorem kfraction_is (f : Int) (hf : yT f) (x y n u v : Nat) (hx : x < 18446744073709551616) (hy : y < 18446744073709551616) (hn : y + 18446744073709551616 * x = n) (hv : xL (kT f n) = (u, v)) (w : World) (hT : yF w) : Calls Tryz.prog 127 #[.int .u8 f, .agg #[.int .u64 x, .int .u64 y]] w fun r w' => r = .returned (.agg #[.int .u64 u, .int .u64 v]) ∧ Below w.heap.size w w' := by
 unfold xL kT at hv
 injection hv with h1 h2
 have TT := zK hT
 rcases hf with rfl | rfl | rfl | rfl
 ·
  rw [show pV 0 = 23 by decide] at h1 h2
  have hm : max (23 : Int) 64 = 64 := by decide
  have a1 := and_zero x hx
  have a2 := and_at y 23 8388607 v hy (by decide) (by decide) (by rw [← h2, ← hn]; simp only [Nat.reducePow]; omega)
  have u0 : u = 0 := by rw [← h1]; simp only [Nat.reducePow]; omega
  subst u0
  clear hT h1 h2 hn hx hy
  obtain ⟨Ab, Ac, B0⟩ := yS w (Obj.cells #[.int .u64 x, .int .u64 y] 25) (Obj.cells #[.int .u64 0, .int .u64 0] 25)
  go_enter Tryz.func127, Tryz.ntmps127
  go_wp2_with fail
  refine (kfw 0 (Or.inl rfl) 23 (by decide) _ (zY TT.out B0)).mono ?_
  rintro r w1 ⟨rfl, b1⟩
  have B1 : Below w.heap.size w w1 := zL B0 b1
  obtain ⟨Ad, Aa⟩ := zV b1 Ab Ac
  clear b1 B0 Ab Ac
  obtain ⟨Ae, Af⟩ := zF Ad
  obtain ⟨Ag, Ah⟩ := zF Aa
  have q0 := fz (k := 0) Aa
  have q1 := fz (k := 1) Aa
  obtain ⟨E0, E1⟩ := zM Aa (.int .u64 0) (.int .u64 v)
  go_wp2
  exact bodyPost_ret (v := .agg #[.int .u64 0, .int .u64 v]) (by simp [results, Tryz.results127, go_sem, E0, E1]) rfl ⟨rfl, zI B1 (by first | exact Nat.le_refl _ | omega | (skip; omega)) _ _⟩
 ·
  rw [show pV 1 = 52 by decide] at h1 h2
  have hm : max (52 : Int) 64 = 64 := by decide
  have a1 := and_zero x hx
  have a2 := and_at y 52 4503599627370495 v hy (by decide) (by decide) (by rw [← h2, ← hn]; simp only [Nat.reducePow]; omega)
  have u0 : u = 0 := by rw [← h1]; simp only [Nat.reducePow]; omega
  subst u0
  clear hT h1 h2 hn hx hy
  obtain ⟨Ab, Ac, B0⟩ := yS w (Obj.cells #[.int .u64 x, .int .u64 y] 25) (Obj.cells #[.int .u64 0, .int .u64 0] 25)
  go_enter Tryz.func127, Tryz.ntmps127
  go_wp2_with fail
  refine (kfw 1 (Or.inr (Or.inl rfl)) 52 (by decide) _ (zY TT.out B0)).mono ?_
  rintro r w1 ⟨rfl, b1⟩
  have B1 : Below w.heap.size w w1 := zL B0 b1
  obtain ⟨Ad, Aa⟩ := zV b1 Ab Ac
  clear b1 B0 Ab Ac
  obtain ⟨Ae, Af⟩ := zF Ad
  obtain ⟨Ag, Ah⟩ := zF Aa
  have q0 := fz (k := 0) Aa
  have q1 := fz (k := 1) Aa
  obtain ⟨E0, E1⟩ := zM Aa (.int .u64 0) (.int .u64 v)
  go_wp2
  exact bodyPost_ret (v := .agg #[.int .u64 0, .int .u64 v]) (by simp [results, Tryz.results127, go_sem, E0, E1]) rfl ⟨rfl, zI B1 (by first | exact Nat.le_refl _ | omega | (skip; omega)) _ _⟩
 ·
  rw [show pV 2 = 10 by decide] at h1 h2
  have hm : max (10 : Int) 64 = 64 := by decide
  have a1 := and_zero x hx
  have a2 := and_at y 10 1023 v hy (by decide) (by decide) (by rw [← h2, ← hn]; simp only [Nat.reducePow]; omega)
  have u0 : u = 0 := by rw [← h1]; simp only [Nat.reducePow]; omega
  subst u0
  clear hT h1 h2 hn hx hy
  obtain ⟨Ab, Ac, B0⟩ := yS w (Obj.cells #[.int .u64 x, .int .u64 y] 25) (Obj.cells #[.int .u64 0, .int .u64 0] 25)
  go_enter Tryz.func127, Tryz.ntmps127
  go_wp2_with fail
  refine (kfw 2 (Or.inr (Or.inr (Or.inl rfl))) 10 (by decide) _ (zY TT.out B0)).mono ?_
  rintro r w1 ⟨rfl, b1⟩
  have B1 : Below w.heap.size w w1 := zL B0 b1
  obtain ⟨Ad, Aa⟩ := zV b1 Ab Ac
  clear b1 B0 Ab Ac
  obtain ⟨Ae, Af⟩ := zF Ad
  obtain ⟨Ag, Ah⟩ := zF Aa
  have q0 := fz (k := 0) Aa
  have q1 := fz (k := 1) Aa
  obtain ⟨E0, E1⟩ := zM Aa (.int .u64 0) (.int .u64 v)
  go_wp2
  exact bodyPost_ret (v := .agg #[.int .u64 0, .int .u64 v]) (by simp [results, Tryz.results127, go_sem, E0, E1]) rfl ⟨rfl, zI B1 (by first | exact Nat.le_refl _ | omega | (skip; omega)) _ _⟩
 ·
  rw [show pV 3 = 112 by decide] at h1 h2
  have hm : max (112 : Int) 64 = 112 := by decide
  have hm2 : IntKind.u64.wrap (IntKind.u64.wrap 18446744073709551616 - 1) = 18446744073709551615 := by decide
  have a1 := and_at x 48 281474976710655 u hx (by decide) (by decide) (by rw [← h1, ← hn]; simp only [Nat.reducePow]; omega)
  have a2 := and_at y 64 18446744073709551615 v hy (by decide) (by decide) (by rw [← h2, ← hn]; simp only [Nat.reducePow]; omega)
  clear hT h1 h2 hn hx hy
  obtain ⟨Ab, Ac, B0⟩ := yS w (Obj.cells #[.int .u64 x, .int .u64 y] 25) (Obj.cells #[.int .u64 0, .int .u64 0] 25)
  go_enter Tryz.func127, Tryz.ntmps127
  go_wp2_with fail
  refine (kfw 3 (Or.inr (Or.inr (Or.inr rfl))) 112 (by decide) _ (zY TT.out B0)).mono ?_
  rintro r w1 ⟨rfl, b1⟩
  have B1 : Below w.heap.size w w1 := zL B0 b1
  obtain ⟨Ad, Aa⟩ := zV b1 Ab Ac
  clear b1 B0 Ab Ac
  obtain ⟨Ae, Af⟩ := zF Ad
  obtain ⟨Ag, Ah⟩ := zF Aa
  have q0 := fz (k := 0) Aa
  have q1 := fz (k := 1) Aa
  obtain ⟨E0, E1⟩ := zM Aa (.int .u64 u) (.int .u64 v)
  go_wp2
  exact bodyPost_ret (v := .agg #[.int .u64 u, .int .u64 v]) (by simp [results, Tryz.results127, go_sem, E0, E1]) rfl ⟨rfl, zI B1 (by first | exact Nat.le_refl _ | omega | (skip; omega)) _ _⟩

theorem ksign_is (f : Int) (hf : yT f) (x y n : Nat) (o : Bool) (hx : x < 18446744073709551616) (hy : y < 18446744073709551616) (hn : y + 18446744073709551616 * x = n) (ho : kN f n = o) (w : World) (hT : yF w) : Calls Tryz.prog 30 #[.int .u8 f, .agg #[.int .u64 x, .int .u64 y]] w fun r w' => r = .returned (.bool o) ∧ Below w.heap.size w w' := by
 have f4 := yL hf
 obtain ⟨_, _, _, _, a5, a6, a7, a8⟩ := pV_lim hf
 have KB := zK (kbit_is x y n (wV f) o hx hy hn a5 (by rw [sign_of hf, ho]))
 obtain ⟨q, hq⟩ : ∃ q, fW f = q := ⟨_, rfl⟩
 obtain ⟨k, hk⟩ : ∃ q, wV f = q := ⟨_, rfl⟩
 rw [hq, hk] at a7
 rw [hk] at KB a8
 have TT := zK hT
 have HQ := zK hq
 clear hT hf hq hk hn hx hy ho a5 a6
 obtain ⟨Aa, B0⟩ := x9 w (Obj.cells #[.int .u64 x, .int .u64 y] 25)
 go_enter Tryz.func30, Tryz.ntmps30
 go_wp2_with fail
 obtain ⟨F, hF1, hF2⟩ := zS (w.alloc (Obj.cells #[.int .u64 x, .int .u64 y] 25))
 have fb_0 := fun u => zC (zA (hF1 u) _ _ _ Aa) 0 _ rfl
 have fb_1 := fun u => zC (zA (hF1 u) _ _ _ Aa) 1 _ rfl
 have TF : zP (∀ u, yF (F u)) := zK (fun u => zY TT.out (zL B0 (hF1 u)))
 refine zJ F hF2 (by kernel_rfl) (by kernel_rfl) ?_
 repeat first | go_big_quiet_step (first | (go_at_call 79; exact zN hF1 hF2 (kb_width f q f4.1 f4.2.1 HQ.out _ (TF.out _))) | (go_at_call 78; exact zN hF1 hF2 (KB.out _)) | fail) | quiet_step (first | (go_at_call 79; exact zN hF1 hF2 (kb_width f q f4.1 f4.2.1 HQ.out _ (TF.out _))) | (go_at_call 78; exact zN hF1 hF2 (KB.out _)) | fail)
 refine wpQuiet_nil ?_
 rintro _ ⟨uW, rfl⟩
 have B1 := zL B0 (hF1 uW)
 have Ab := zA (hF1 uW) _ _ _ Aa
 obtain ⟨w1, hw⟩ : ∃ V, F uW = V := ⟨_, rfl⟩
 rw [hw] at B1 Ab
 try rw [hw]
 clear hw hF1 hF2 B0 fb_0 fb_1 Aa
 clear TF
 clear F
 obtain ⟨Ac, Ad⟩ := zF Ab
 go_wp2
 go_ret
 exact ⟨rfl, B1⟩

theorem lx_lim {f : Int} (h : yT f) : IntKind.i64.wrap (1 - fE f - fP f) = 1 - fE f - fP f ∧ IntKind.i64.wrap (1 - fE f - fP f + 1) = lx f ∧ lx f ≤ 0 ∧ -16494 ≤ lx f ∧ lx f = 1 - fE f - fP f + 1 := by
 rcases h with rfl | rfl | rfl | rfl <;> decide +kernel
theorem kleast_is (f : Int) (hf : yT f) (v : Int) (hv : lx f = v) (w : World) (hT : yF w) : Calls Tryz.prog 162 #[.int .u8 f] w fun r w' => r = .returned (.int .i64 v) ∧ Below w.heap.size w w' := by
 have f4 := yL hf
 obtain ⟨a1, a2, _⟩ := lx_lim hf
 rw [hv] at a2
 obtain ⟨p, hp⟩ : ∃ q, fP f = q := ⟨_, rfl⟩
 obtain ⟨m, hm⟩ : ∃ q, 1 - fE f = q := ⟨_, rfl⟩
 rw [hm, hp] at a1 a2
 have TT := zK hT
 have HP := zK hp
 have HM := zK hm
 clear hT hf hv hp hm
 have B0 : Below w.heap.size w w := (Below.refl _ _)
 go_enter Tryz.func162, Tryz.ntmps162
 go_wp2_with fail
 refine (s_emin f _ m f4.1 f4.2.1 rfl (by rw [if_pos f4.2.2.1]; exact HM.out) _ (zY TT.out B0)).mono ?_
 rintro r w1 ⟨rfl, b1⟩
 have B1 : Below w.heap.size w w1 := zL B0 b1
 clear b1 B0 
 go_wp2_with fail
 refine (kb_precision f p f4.1 f4.2.1 HP.out _ (zY TT.out B1)).mono ?_
 rintro r w2 ⟨rfl, b2⟩
 have B2 : Below w.heap.size w w2 := zL B1 b2
 clear b2 B1 
 go_wp2
 go_ret
 exact ⟨rfl, B2⟩
theorem xor_words (n m : Nat) : xL (n ^^^ m) = (n / 18446744073709551616 ^^^ m / 18446744073709551616, n % 18446744073709551616 ^^^ m % 18446744073709551616) := by
 unfold xL
 rw [show (18446744073709551616 : Nat) = 2 ^ 64 by decide, Nat.xor_div_two_pow, Nat.xor_mod_two_pow]
theorem words_of {x y n : Nat} (hy : y < 18446744073709551616) (hn : y + 18446744073709551616 * x = n) : n / 18446744073709551616 = x ∧ n % 18446744073709551616 = y := by omega
theorem sk_zero (f : Int) (neg : Bool) (hf : yT f) (u v : Nat) (hv : xL (eZero f neg) = (u, v)) (w : World) (hT : yF w) : Calls Tryz.prog 51 #[.int .u8 f, .bool neg] w fun r w' => r = .returned (.agg #[.int .u64 u, .int .u64 v]) ∧ Below w.heap.size w w' := by
 have := s_zero f neg hf _ rfl w hT
 rw [hv] at this
 exact this
theorem sk_inf (f : Int) (neg : Bool) (hf : yT f) (u v : Nat) (hv : xL (eInf f neg) = (u, v)) (w : World) (hT : yF w) : Calls Tryz.prog 96 #[.int .u8 f, .bool neg] w fun r w' => r = .returned (.agg #[.int .u64 u, .int .u64 v]) ∧ Below w.heap.size w w' := by
 have := s_inf f neg hf _ rfl w hT
 rw [hv] at this
 exact this
theorem ezero_is (f : Int) : eZero f true = 2 ^ wV f := by unfold eZero yK; rw [if_pos rfl]; simp
theorem ksigned_is (f : Int) (hf : yT f) (x y n u v : Nat) (neg : Bool) (hx : x < 18446744073709551616) (hy : y < 18446744073709551616) (hn : y + 18446744073709551616 * x = n) (hv : xL (sgB f n neg) = (u, v)) (w : World) (hT : yF w) : Calls Tryz.prog 39 #[.int .u8 f, .agg #[.int .u64 x, .int .u64 y], .bool neg] w fun r w' => r = .returned (.agg #[.int .u64 u, .int .u64 v]) ∧ Below w.heap.size w w' := by
 obtain ⟨n1, n2⟩ := words_of hy hn
 unfold sgB at hv
 cases neg
 ·
  simp only [Bool.false_eq_true, if_false] at hv
  unfold xL at hv
  rw [n1, n2] at hv
  injection hv with h1 h2
  subst h1 h2
  clear hn hT hf hx hy n1 n2
  obtain ⟨Aa, Ab, B0⟩ := yS w (Obj.cells #[.int .u64 x, .int .u64 y] 25) (Obj.cells #[.int .u64 0, .int .u64 0] 25)
  go_enter Tryz.func39, Tryz.ntmps39
  clear B0 Aa Ab
  go_wp2
  exact bodyPost_ret (v := .agg #[.int .u64 x, .int .u64 y]) (by simp [results, Tryz.results39, go_sem]) rfl ⟨rfl, (((Below.refl _ _).alloc (by first | omega | (simp only [zT]; omega)) _).alloc (by first | omega | (simp only [zT]; omega)) _)⟩
 ·
  rw [if_pos rfl, xor_words, n1, n2] at hv
  injection hv with h1 h2
  obtain ⟨s, t, hst⟩ : ∃ s t, xL (eZero f true) = (s, t) := ⟨_, _, rfl⟩
  have KZ := zK (sk_zero f true hf s t hst)
  rw [ezero_is] at hst
  unfold xL at hst
  injection hst with s1 s2
  rw [s1] at h1
  rw [s2] at h2
  have hs : s < 18446744073709551616 ∧ t < 18446744073709551616 := by
   have := (fm hf).2.2.2.2.2.2
   omega
  have a1 : bits .xor .u64 (x : Int) (s : Int) = (u : Int) := by rw [← h1]; exact bits_xor_u64_nat x s hx hs.1
  have a2 : bits .xor .u64 (y : Int) (t : Int) = (v : Int) := by rw [← h2]; exact bits_xor_u64_nat y t hy hs.2
  have TT := zK hT
  clear hn hT hf hx hy n1 n2 s1 s2 h1 h2 hs
  obtain ⟨Aa, Ab, B0⟩ := yS w (Obj.cells #[.int .u64 x, .int .u64 y] 25) (Obj.cells #[.int .u64 0, .int .u64 0] 25)
  go_enter Tryz.func39, Tryz.ntmps39
  go_wp2_with fail
  refine (KZ.out _ (zY TT.out B0)).mono ?_
  rintro r w1 ⟨rfl, b1⟩
  have B1 : Below w.heap.size w w1 := zL B0 b1
  obtain ⟨Ac, Ad⟩ := zV b1 Aa Ab
  clear b1 B0 Aa Ab
  obtain ⟨Af, Ag⟩ := zF Ac
  obtain ⟨Ah, Ai⟩ := zF Ad
  have S2 := zK B1.size
  have Aj := yA Ac
  have Ak := yA Ad
  have Al := heap_alloc_last w1 (Obj.cells #[.int .u64 s, .int .u64 t] 25)
  have B2 := zL B1 (zQ w1 (Obj.cells #[.int .u64 s, .int .u64 t] 25))
  obtain ⟨Am, Ae⟩ := zV (zQ w1 (Obj.cells #[.int .u64 s, .int .u64 t] 25)) Ac Ad
  clear B1 Ac Af Ag Ad Ah Ai
  obtain ⟨An, Ao⟩ := zF Am
  obtain ⟨Ap, Aq⟩ := zF Ae
  obtain ⟨Ar, As⟩ := zF Al
  have q0 := fz (k := 0) Ae
  have q1 := fz (k := 1) Ae
  obtain ⟨E0, E1⟩ := zM Ae (.int .u64 u) (.int .u64 v)
  go_wp2
  exact bodyPost_ret (v := .agg #[.int .u64 u, .int .u64 v]) (by simp [results, Tryz.results39, go_sem, E0, E1]) rfl ⟨rfl, zI B2 (by first | exact Nat.le_refl _ | omega | (have := S2.out; have := Aj.out; have := Ak.out; omega)) _ _⟩

theorem plus_num (x y x' y' n n' u v : Nat) (hx : x < 18446744073709551616) (hy : y < 18446744073709551616) (hn : y + 18446744073709551616 * x = n) (hx' : x' < 18446744073709551616) (hy' : y' < 18446744073709551616) (hn' : y' + 18446744073709551616 * x' = n') (hv : xL ((n + n') % 340282366920938463463374607431768211456) = (u, v)) :
  IntKind.u64.wrap ((y : Int) + (y' : Int)) = (v : Int) ∧ (if (v : Int) < (y : Int) then IntKind.u64.wrap (IntKind.u64.wrap ((x : Int) + (x' : Int)) + 1) else IntKind.u64.wrap ((x : Int) + (x' : Int))) = (u : Int) := by
 unfold xL at hv
 injection hv with h1 h2
 simp only [IntKind.wrap_u64]
 refine ⟨by omega, ?_⟩
 split <;> omega
theorem kplus_is (x y x' y' n n' u v : Nat) (hx : x < 18446744073709551616) (hy : y < 18446744073709551616) (hn : y + 18446744073709551616 * x = n) (hx' : x' < 18446744073709551616) (hy' : y' < 18446744073709551616) (hn' : y' + 18446744073709551616 * x' = n') (hv : xL ((n + n') % 340282366920938463463374607431768211456) = (u, v)) (w : World) : Calls Tryz.prog 182 #[.agg #[.int .u64 x, .int .u64 y], .agg #[.int .u64 (x' : Nat), .int .u64 (y' : Nat)]] w fun r w' => r = .returned (.agg #[.int .u64 u, .int .u64 v]) ∧ Below w.heap.size w w' := by
 obtain ⟨h1, h2⟩ := plus_num x y x' y' n n' u v hx hy hn hx' hy' hn' hv
 exact k_plus _ _ _ _ _ _ _ rfl h1 h2 w
def plG (u pl : Nat) : Nat := if pl < 64 then u * 2 ^ pl % 18446744073709551616 else (u * 2 ^ (pl - 64) % 18446744073709551616) * 18446744073709551616
theorem kplaced_is (x pl u v : Nat) (hx : x < 18446744073709551616) (hp : pl < 128) (hv : xL (plG x pl) = (u, v)) (w : World) : Calls Tryz.prog 185 #[.int .u64 x, .int .u64 pl] w fun r w' => r = .returned (.agg #[.int .u64 u, .int .u64 v]) ∧ Below w.heap.size w w' := by
 unfold xL plG at hv
 injection hv with h1 h2
 have e64 : ((2 : Int) ^ 64) = 18446744073709551616 := by decide
 refine k_placed x pl _ _ ?_ ?_ w
 ·
  rw [IntKind.wrap_u64, IntKind.wrap_u64]
  by_cases h : pl < 64
  ·
   rw [if_pos h] at h1
   rw [show min (((pl : Int) - 64) % 18446744073709551616).toNat 64 = 64 by omega, e64]
   have := Nat.mod_lt (x * 2 ^ pl) (show 18446744073709551616 > 0 by decide)
   omega
  ·
   rw [if_neg h] at h1
   rw [show min (((pl : Int) - 64) % 18446744073709551616).toNat 64 = pl - 64 by omega, pow64, ← Int.natCast_mul]
   omega
 ·
  rw [IntKind.wrap_u64]
  by_cases h : pl < 64
  ·
   rw [if_pos h] at h2
   rw [show min pl 64 = pl by omega, pow64, ← Int.natCast_mul]
   omega
  ·
   rw [if_neg h] at h2
   rw [show min pl 64 = 64 by omega, e64]
   omega
theorem plG_is {f : Int} (h : yT f) (u : Nat) : plG u (pV f) = plN f u := by
 unfold plG plN
 rcases h with rfl | rfl | rfl | rfl
 ·
  rw [show pV 0 = 23 by decide, if_pos (by decide), if_neg (by decide)]
 ·
  rw [show pV 1 = 52 by decide, if_pos (by decide), if_neg (by decide)]
 ·
  rw [show pV 2 = 10 by decide, if_pos (by decide), if_neg (by decide)]
 ·
  rw [show pV 3 = 112 by decide, if_neg (by decide), if_pos rfl]
  simp only [Nat.reducePow, Nat.reduceSub]
  omega
theorem einf_k {f : Int} (h : yT f) : kE f (eInf f false) = oV f ∧ eInf f false < 340282366920938463463374607431768211456 := by
 have := x7 h false (e := oV f) (t := 0) (Nat.le_refl _) (Nat.two_pow_pos _)
 refine ⟨this.2.2.1, ?_⟩
 have h2 := this.1
 unfold Fit at h2
 have := (fm h).2.2.2.2.2.2
 unfold eInf; omega
theorem sb_of {w W : World} {x y : Value} (b : Below w.heap.size w W) (r : W.heap[w.heap.size]? = some (.cells #[x, y] 25)) : Below w.heap.size w W ∧ W.heap[w.heap.size]? = some (.cells #[x, y] 25) ∧ W.cell? ⟨w.heap.size, 0, none⟩ = some x ∧ W.cell? ⟨w.heap.size, 1, none⟩ = some y := ⟨b, r, zC r 0 _ rfl, zC r 1 _ rfl⟩
theorem sb_call {w W W' : World} {x y : Value} (h : Below w.heap.size w W ∧ W.heap[w.heap.size]? = some (.cells #[x, y] 25) ∧ W.cell? ⟨w.heap.size, 0, none⟩ = some x ∧ W.cell? ⟨w.heap.size, 1, none⟩ = some y) (b : Below W.heap.size W W') : Below w.heap.size w W' ∧ W'.heap[w.heap.size]? = some (.cells #[x, y] 25) ∧ W'.cell? ⟨w.heap.size, 0, none⟩ = some x ∧ W'.cell? ⟨w.heap.size, 1, none⟩ = some y := sb_of (zL h.1 b) (zA b _ _ _ h.2.1)
theorem sb_al {w W : World} {x y : Value} (h : Below w.heap.size w W ∧ W.heap[w.heap.size]? = some (.cells #[x, y] 25) ∧ W.cell? ⟨w.heap.size, 0, none⟩ = some x ∧ W.cell? ⟨w.heap.size, 1, none⟩ = some y) (o : Obj) : Below w.heap.size w (W.alloc o) ∧ (W.alloc o).heap[w.heap.size]? = some (.cells #[x, y] 25) ∧ (W.alloc o).cell? ⟨w.heap.size, 0, none⟩ = some x ∧ (W.alloc o).cell? ⟨w.heap.size, 1, none⟩ = some y := sb_call h (zQ _ _)
theorem sb_dr {w W : World} {x y : Value} (h : Below w.heap.size w W ∧ W.heap[w.heap.size]? = some (.cells #[x, y] 25) ∧ W.cell? ⟨w.heap.size, 0, none⟩ = some x ∧ W.cell? ⟨w.heap.size, 1, none⟩ = some y) : Below w.heap.size w W.drew ∧ W.drew.heap[w.heap.size]? = some (.cells #[x, y] 25) ∧ W.drew.cell? ⟨w.heap.size, 0, none⟩ = some x ∧ W.drew.cell? ⟨w.heap.size, 1, none⟩ = some y := ⟨h.1.drew, h.2⟩
theorem x8 (W : World) : W.drew.heap.size = W.heap.size := rfl
theorem sb_lt {w W : World} {x y : Value} (h : Below w.heap.size w W ∧ W.heap[w.heap.size]? = some (.cells #[x, y] 25) ∧ W.cell? ⟨w.heap.size, 0, none⟩ = some x ∧ W.cell? ⟨w.heap.size, 1, none⟩ = some y) : w.heap.size < W.heap.size := World.block_lt_of_cell? W _ h.2.2.1
theorem sb_set {w W : World} {x y v : Value} {g k : Nat} (h : Below w.heap.size w W ∧ W.heap[w.heap.size]? = some (.cells #[x, y] 25) ∧ W.cell? ⟨w.heap.size, 0, none⟩ = some x ∧ W.cell? ⟨w.heap.size, 1, none⟩ = some y) (hg : w.heap.size < g) : Below w.heap.size w (W.setCell ⟨g, k, none⟩ v) ∧ (W.setCell ⟨g, k, none⟩ v).heap[w.heap.size]? = some (.cells #[x, y] 25) ∧ (W.setCell ⟨g, k, none⟩ v).cell? ⟨w.heap.size, 0, none⟩ = some x ∧ (W.setCell ⟨g, k, none⟩ v).cell? ⟨w.heap.size, 1, none⟩ = some y :=
 sb_of (h.1.setCell (by show w.heap.size ≤ g; omega) _) (by rw [zB (by omega)]; exact h.2.1)
theorem sb_fat {w W : World} {x y : Value} (t : yF w) (h : Below w.heap.size w W ∧ W.heap[w.heap.size]? = some (.cells #[x, y] 25) ∧ W.cell? ⟨w.heap.size, 0, none⟩ = some x ∧ W.cell? ⟨w.heap.size, 1, none⟩ = some y) : yF W := zY t h.1
def RC (w : World) (x y u v : Nat) (W : World) (g : Nat) : Prop := Below w.heap.size w W ∧ W.heap[w.heap.size]? = some (.cells #[.int .u64 x, .int .u64 y] 25) ∧ W.heap[g]? = some (.cells #[.int .u64 u, .int .u64 v] 25) ∧ w.heap.size < g
theorem rc_al {w W : World} {x' y' u v : Nat} (h : Below w.heap.size w W ∧ W.heap[w.heap.size]? = some (.cells #[.int .u64 (x' : Nat), .int .u64 (y' : Nat)] 25) ∧ W.cell? ⟨w.heap.size, 0, none⟩ = some (.int .u64 (x' : Nat)) ∧ W.cell? ⟨w.heap.size, 1, none⟩ = some (.int .u64 (y' : Nat))) : RC w x' y' u v (W.alloc (.cells #[.int .u64 u, .int .u64 v] 25)) W.heap.size :=
 ⟨(sb_al h _).1, (sb_al h _).2.1, heap_alloc_last _ _, sb_lt h⟩
theorem rc_set {w W : World} {x' y' u v g : Nat} {a b : Value} (h : Below w.heap.size w W ∧ W.heap[w.heap.size]? = some (.cells #[.int .u64 (x' : Nat), .int .u64 (y' : Nat)] 25) ∧ W.cell? ⟨w.heap.size, 0, none⟩ = some (.int .u64 (x' : Nat)) ∧ W.cell? ⟨w.heap.size, 1, none⟩ = some (.int .u64 (y' : Nat))) (hr : W.heap[g]? = some (.cells #[a, b] 25)) (hg : w.heap.size < g) : RC w x' y' u v ((W.setCell ⟨g, 0, none⟩ (.int .u64 u)).setCell ⟨g, 1, none⟩ (.int .u64 v)) g :=
 ⟨(sb_set (sb_set h hg) hg).1, (sb_set (sb_set h hg) hg).2.1, yE hr _ _, hg⟩
theorem gen70 {X : Act → World → Prop} {R : World → Nat → Prop} {t0 t1 t2 t3 t4 t5 t7 t8 t9 t10 t11 t12 t13 t14 t15 t16 t17 t18 t19 t20 t21 t22 t23 t24 t25 t26 t27 t28 t29 t30 t31 t32 t33 t34 t35 t36 t37 t38 t39 t40 t41 t42 t43 t44 t45 t46 t47 t48 t49 t50 t51 t52 t53 t54 t55 t56 t57 t58 t59 t60 t61 t62 t63 t64 t65 t66 t67 t68 t69 : Value} {d : List Deferred} {W : World} {G : Nat}
  (key : ∀ w5 g, R w5 g → X ⟨#[t0, t1, t2, t3, t4, t5, .pointer (some ⟨g, 0, none⟩), t7, t8, t9, t10, t11, t12, t13, t14, t15, t16, t17, t18, t19, t20, t21, t22, t23, t24, t25, t26, t27, t28, t29, t30, t31, t32, t33, t34, t35, t36, t37, t38, t39, t40, t41, t42, t43, t44, t45, t46, t47, t48, t49, t50, t51, t52, t53, t54, t55, t56, t57, t58, t59, t60, t61, t62, t63, t64, t65, t66, t67, t68, t69], d⟩ w5) (r : R W G) : X ⟨#[t0, t1, t2, t3, t4, t5, .pointer (some ⟨G, 0, none⟩), t7, t8, t9, t10, t11, t12, t13, t14, t15, t16, t17, t18, t19, t20, t21, t22, t23, t24, t25, t26, t27, t28, t29, t30, t31, t32, t33, t34, t35, t36, t37, t38, t39, t40, t41, t42, t43, t44, t45, t46, t47, t48, t49, t50, t51, t52, t53, t54, t55, t56, t57, t58, t59, t60, t61, t62, t63, t64, t65, t66, t67, t68, t69], d⟩ W := key W G r
theorem kclass_walk (f : Int) (x y e o p u v i j : Nat) (qb neg : Bool) (c : Int) (w : World)
  (KE : zP (∀ w, yF w → Calls Tryz.prog 126 #[.int .u8 f, .agg #[.int .u64 x, .int .u64 y]] w fun r w' => r = .returned (.int .u64 e) ∧ Below w.heap.size w w'))
  (KF : zP (∀ w, yF w → Calls Tryz.prog 127 #[.int .u8 f, .agg #[.int .u64 x, .int .u64 y]] w fun r w' => r = .returned (.agg #[.int .u64 u, .int .u64 v]) ∧ Below w.heap.size w w'))
  (KI : zP (∀ w, yF w → Calls Tryz.prog 96 #[.int .u8 f, .bool false] w fun r w' => r = .returned (.agg #[.int .u64 i, .int .u64 j]) ∧ Below w.heap.size w w'))
  (KO : zP (∀ w, yF w → Calls Tryz.prog 126 #[.int .u8 f, .agg #[.int .u64 i, .int .u64 j]] w fun r w' => r = .returned (.int .u64 o) ∧ Below w.heap.size w w'))
  (KW : zP (∀ w, yF w → Calls Tryz.prog 128 #[.int .u8 f] w fun r w' => r = .returned (.int .u64 p) ∧ Below w.heap.size w w'))
  (KB : zP (∀ w, yF w → Calls Tryz.prog 78 #[.agg #[.int .u64 u, .int .u64 v], .int .u64 ((p - 1 : Nat) : Int)] w fun r w' => r = .returned (.bool qb) ∧ Below w.heap.size w w'))
  (KS : zP (∀ w, yF w → Calls Tryz.prog 30 #[.int .u8 f, .agg #[.int .u64 x, .int .u64 y]] w fun r w' => r = .returned (.bool neg) ∧ Below w.heap.size w w'))
  (hp : IntKind.u64.wrap ((p : Int) - 1) = ((p - 1 : Nat) : Int))
  (hc : (((e : Int) == (o : Int)) = true ∧ qb = true ∧ c = 9)
   ∨ (((e : Int) == (o : Int)) = true ∧ qb = false ∧ (((u : Int) == 0) = false ∨ (u = 0 ∧ ((v : Int) == 0) = false)) ∧ c = 8)
   ∨ (((e : Int) == (o : Int)) = true ∧ qb = false ∧ u = 0 ∧ v = 0 ∧ c = if neg then 0 else 7)
   ∨ (((e : Int) == (o : Int)) = false ∧ ((e : Int) != 0) = true ∧ c = if neg then 1 else 6)
   ∨ (((e : Int) == (o : Int)) = false ∧ ((e : Int) != 0) = false ∧ (((u : Int) == 0) = false ∨ (u = 0 ∧ ((v : Int) == 0) = false)) ∧ c = if neg then 2 else 5)
   ∨ (((e : Int) == (o : Int)) = false ∧ ((e : Int) != 0) = false ∧ u = 0 ∧ v = 0 ∧ c = if neg then 3 else 4))
  (hT : yF w) : Calls Tryz.prog 53 #[.int .u8 f, .agg #[.int .u64 x, .int .u64 y]] w fun r w' => r = .returned (.int .u8 c) ∧ Below w.heap.size w w' := by
 have TT := zK hT
 clear hT
 obtain ⟨Aw, B0⟩ := x9 w (Obj.cells #[.int .u64 x, .int .u64 y] 25)
 go_enter Tryz.func53, Tryz.ntmps53
 have S0 := sb_of B0 Aw
 go_wp2_with fail
 apply cut7
 ·
  intro key0
  have key := zK key0
  clear key0
  go_region_held3 (fun W => Below w.heap.size w W ∧ W.heap[w.heap.size]? = some (.cells #[.int .u64 x, .int .u64 y] 25) ∧ W.cell? ⟨w.heap.size, 0, none⟩ = some (.int .u64 x) ∧ W.cell? ⟨w.heap.size, 1, none⟩ = some (.int .u64 y)) (first | exact sb_dr S0 | assumption | exact sb_al (by assumption) _ | exact sb_al (sb_dr S0) _ | exact sb_set (sb_set (by assumption) (sb_lt (by assumption))) (sb_lt (by assumption)) | exact sb_set (sb_set (by assumption) (Nat.lt_succ_self _)) (Nat.lt_succ_self _))
   (first
   | (go_at_call_of 126 (Value.int IntKind.u64 (x : Int)); refine (KE.out _ (sb_fat TT.out (by assumption))).mono ?_; rintro r w1 ⟨rfl, b1⟩; have s1 := sb_call (by assumption) b1; (first | have hg := zA b1 _ _ _ (heap_alloc_last _ _) | have hg := zA b1 _ _ _ hg | skip); (try simp only [x8, zT] at hg); (first | (have As := fz (k := 0) hg; have At := fz (k := 1) hg; have Au := zC hg 0 _ rfl; have Av := zC hg 1 _ rfl) | skip); clear b1)
   | (go_at_call 127; refine (KF.out _ (sb_fat TT.out (by assumption))).mono ?_; rintro r w2 ⟨rfl, b1⟩; have s1 := sb_call (by assumption) b1; (first | have hg := zA b1 _ _ _ (heap_alloc_last _ _) | have hg := zA b1 _ _ _ hg | skip); (try simp only [x8, zT] at hg); (first | (have As := fz (k := 0) hg; have At := fz (k := 1) hg; have Au := zC hg 0 _ rfl; have Av := zC hg 1 _ rfl) | skip); clear b1)
   | (go_at_call 96; refine (KI.out _ (sb_fat TT.out (by assumption))).mono ?_; rintro r w3 ⟨rfl, b1⟩; have s1 := sb_call (by assumption) b1; (first | have hg := zA b1 _ _ _ (heap_alloc_last _ _) | have hg := zA b1 _ _ _ hg | skip); (try simp only [x8, zT] at hg); (first | (have As := fz (k := 0) hg; have At := fz (k := 1) hg; have Au := zC hg 0 _ rfl; have Av := zC hg 1 _ rfl) | skip); clear b1)
   | (go_at_call_of 126 (Value.int IntKind.u64 (i : Int)); refine (KO.out _ (sb_fat TT.out (by assumption))).mono ?_; rintro r w4 ⟨rfl, b1⟩; have s1 := sb_call (by assumption) b1; (first | have hg := zA b1 _ _ _ (heap_alloc_last _ _) | have hg := zA b1 _ _ _ hg | skip); (try simp only [x8, zT] at hg); (first | (have As := fz (k := 0) hg; have At := fz (k := 1) hg; have Au := zC hg 0 _ rfl; have Av := zC hg 1 _ rfl) | skip); clear b1))
  all_goals
   refine gen70 (R := RC w x y u v) key.out ?_
   first
    | exact rc_al s1
    | exact rc_set s1 hg (sb_lt (by assumption))
    | exact rc_set s1 hg (Nat.lt_succ_self _)
 rintro w5 t ⟨B5, Aa, Ab, ht⟩
 clear B0 Aw S0
 obtain ⟨Ak, Al⟩ := zF Aa
 obtain ⟨Am, An⟩ := zF Ab
 rcases hc with ⟨h1, rfl, rfl⟩ | ⟨h1, rfl, hz | ⟨rfl, hz⟩, rfl⟩ | ⟨h1, rfl, rfl, rfl, hc⟩ | ⟨h1, h2, hc⟩ | ⟨h1, h2, hz | ⟨rfl, hz⟩, hc⟩ | ⟨h1, h2, rfl, rfl, hc⟩
 ·
  go_wp2_with fail
  obtain ⟨F, hF1, hF2⟩ := zS w5
  have fb_0 := fun u => zC (zA (hF1 u) _ _ _ Aa) 0 _ rfl
  have fb_1 := fun u => zC (zA (hF1 u) _ _ _ Aa) 1 _ rfl
  have ft_0 := fun u => zC (zA (hF1 u) _ _ _ Ab) 0 _ rfl
  have ft_1 := fun u => zC (zA (hF1 u) _ _ _ Ab) 1 _ rfl
  have TF : zP (∀ u, yF (F u)) := zK (fun u => zY TT.out (zL B5 (hF1 u)))
  refine zJ F hF2 (by kernel_rfl) (by kernel_rfl) ?_
  repeat first | go_big_quiet_step (first | (go_at_call 128; exact zN hF1 hF2 (KW.out _ (TF.out _))) | (go_at_call 78; exact zN hF1 hF2 (KB.out _ (TF.out _))) | fail) | quiet_step (first | (go_at_call 128; exact zN hF1 hF2 (KW.out _ (TF.out _))) | (go_at_call 78; exact zN hF1 hF2 (KB.out _ (TF.out _))) | fail)
  refine wpQuiet_nil ?_
  rintro _ ⟨uW, rfl⟩
  have B6 := zL B5 (hF1 uW)
  obtain ⟨Ac, Ad⟩ := zV (hF1 uW) Aa Ab
  obtain ⟨w6, hw⟩ : ∃ V, F uW = V := ⟨_, rfl⟩
  rw [hw] at B6 Ac Ad
  try rw [hw]
  clear hw hF1 hF2 B5 fb_0 fb_1 ft_0 ft_1 Aa Ak Al Ab Am An
  clear TF
  clear F
  obtain ⟨Ae, Af⟩ := zF Ac
  obtain ⟨Ag, Ah⟩ := zF Ad
  go_wp2
  go_ret
  exact ⟨rfl, B6⟩
 ·
  go_wp2_with fail
  obtain ⟨F, hF1, hF2⟩ := zS w5
  have fb_0 := fun u => zC (zA (hF1 u) _ _ _ Aa) 0 _ rfl
  have fb_1 := fun u => zC (zA (hF1 u) _ _ _ Aa) 1 _ rfl
  have ft_0 := fun u => zC (zA (hF1 u) _ _ _ Ab) 0 _ rfl
  have ft_1 := fun u => zC (zA (hF1 u) _ _ _ Ab) 1 _ rfl
  have TF : zP (∀ u, yF (F u)) := zK (fun u => zY TT.out (zL B5 (hF1 u)))
  refine zJ F hF2 (by kernel_rfl) (by kernel_rfl) ?_
  repeat first | go_big_quiet_step (first | (go_at_call 128; exact zN hF1 hF2 (KW.out _ (TF.out _))) | (go_at_call 78; exact zN hF1 hF2 (KB.out _ (TF.out _))) | fail) | quiet_step (first | (go_at_call 128; exact zN hF1 hF2 (KW.out _ (TF.out _))) | (go_at_call 78; exact zN hF1 hF2 (KB.out _ (TF.out _))) | fail)
  refine wpQuiet_nil ?_
  rintro _ ⟨uW, rfl⟩
  have B6 := zL B5 (hF1 uW)
  obtain ⟨Ac, Ad⟩ := zV (hF1 uW) Aa Ab
  obtain ⟨w6, hw⟩ : ∃ V, F uW = V := ⟨_, rfl⟩
  rw [hw] at B6 Ac Ad
  try rw [hw]
  clear hw hF1 hF2 B5 fb_0 fb_1 ft_0 ft_1 Aa Ak Al Ab Am An
  clear TF
  clear F
  obtain ⟨Ae, Af⟩ := zF Ac
  obtain ⟨Ag, Ah⟩ := zF Ad
  go_wp2
  go_ret
  exact ⟨rfl, B6⟩
 ·
  go_wp2_with fail
  obtain ⟨F, hF1, hF2⟩ := zS w5
  have fb_0 := fun u => zC (zA (hF1 u) _ _ _ Aa) 0 _ rfl
  have fb_1 := fun u => zC (zA (hF1 u) _ _ _ Aa) 1 _ rfl
  have ft_0 := fun u => zC (zA (hF1 u) _ _ _ Ab) 0 _ rfl
  have ft_1 := fun u => zC (zA (hF1 u) _ _ _ Ab) 1 _ rfl
  have TF : zP (∀ u, yF (F u)) := zK (fun u => zY TT.out (zL B5 (hF1 u)))
  refine zJ F hF2 (by kernel_rfl) (by kernel_rfl) ?_
  repeat first | go_big_quiet_step (first | (go_at_call 128; exact zN hF1 hF2 (KW.out _ (TF.out _))) | (go_at_call 78; exact zN hF1 hF2 (KB.out _ (TF.out _))) | fail) | quiet_step (first | (go_at_call 128; exact zN hF1 hF2 (KW.out _ (TF.out _))) | (go_at_call 78; exact zN hF1 hF2 (KB.out _ (TF.out _))) | fail)
  refine wpQuiet_nil ?_
  rintro _ ⟨uW, rfl⟩
  have B6 := zL B5 (hF1 uW)
  obtain ⟨Ac, Ad⟩ := zV (hF1 uW) Aa Ab
  obtain ⟨w6, hw⟩ : ∃ V, F uW = V := ⟨_, rfl⟩
  rw [hw] at B6 Ac Ad
  try rw [hw]
  clear hw hF1 hF2 B5 fb_0 fb_1 ft_0 ft_1 Aa Ak Al Ab Am An
  clear TF
  clear F
  obtain ⟨Ae, Af⟩ := zF Ac
  obtain ⟨Ag, Ah⟩ := zF Ad
  go_wp2
  go_ret
  exact ⟨rfl, B6⟩
 ·
  go_wp2_with fail
  obtain ⟨F, hF1, hF2⟩ := zS w5
  have fb_0 := fun u => zC (zA (hF1 u) _ _ _ Aa) 0 _ rfl
  have fb_1 := fun u => zC (zA (hF1 u) _ _ _ Aa) 1 _ rfl
  have ft_0 := fun u => zC (zA (hF1 u) _ _ _ Ab) 0 _ rfl
  have ft_1 := fun u => zC (zA (hF1 u) _ _ _ Ab) 1 _ rfl
  have TF : zP (∀ u, yF (F u)) := zK (fun u => zY TT.out (zL B5 (hF1 u)))
  refine zJ F hF2 (by kernel_rfl) (by kernel_rfl) ?_
  repeat first | go_big_quiet_step (first | (go_at_call 128; exact zN hF1 hF2 (KW.out _ (TF.out _))) | (go_at_call 78; exact zN hF1 hF2 (KB.out _ (TF.out _))) | fail) | quiet_step (first | (go_at_call 128; exact zN hF1 hF2 (KW.out _ (TF.out _))) | (go_at_call 78; exact zN hF1 hF2 (KB.out _ (TF.out _))) | fail)
  refine wpQuiet_nil ?_
  rintro _ ⟨uW, rfl⟩
  have B6 := zL B5 (hF1 uW)
  obtain ⟨Ac, Ad⟩ := zV (hF1 uW) Aa Ab
  obtain ⟨w6, hw⟩ : ∃ V, F uW = V := ⟨_, rfl⟩
  rw [hw] at B6 Ac Ad
  try rw [hw]
  clear hw hF1 hF2 B5 fb_0 fb_1 ft_0 ft_1 Aa Ak Al Ab Am An
  clear TF
  clear F
  obtain ⟨Ae, Af⟩ := zF Ac
  obtain ⟨Ag, Ah⟩ := zF Ad
  go_wp2_with fail
  refine (KS.out _ (zY TT.out B6)).mono ?_
  rintro r w7 ⟨rfl, b7⟩
  have B7 : Below w.heap.size w w7 := zL B6 b7
  obtain ⟨Ai, Aj⟩ := zV b7 Ac Ad
  clear b7 B6 Ac Ae Af Ad Ag Ah
  obtain ⟨Ao, Ap⟩ := zF Ai
  obtain ⟨Aq, Ar⟩ := zF Aj
  cases neg
  ·
   subst hc
   go_wp2
   go_ret
   exact ⟨rfl, B7⟩
  ·
   subst hc
   go_wp2
   go_ret
   exact ⟨rfl, B7⟩
 ·
  go_wp2_with fail
  obtain ⟨F, hF1, hF2⟩ := zS w5
  have fb_0 := fun u => zC (zA (hF1 u) _ _ _ Aa) 0 _ rfl
  have fb_1 := fun u => zC (zA (hF1 u) _ _ _ Aa) 1 _ rfl
  have ft_0 := fun u => zC (zA (hF1 u) _ _ _ Ab) 0 _ rfl
  have ft_1 := fun u => zC (zA (hF1 u) _ _ _ Ab) 1 _ rfl
  have TF : zP (∀ u, yF (F u)) := zK (fun u => zY TT.out (zL B5 (hF1 u)))
  refine zJ F hF2 (by kernel_rfl) (by kernel_rfl) ?_
  repeat first | go_big_quiet_step (first | (go_at_call 128; exact zN hF1 hF2 (KW.out _ (TF.out _))) | (go_at_call 78; exact zN hF1 hF2 (KB.out _ (TF.out _))) | fail) | quiet_step (first | (go_at_call 128; exact zN hF1 hF2 (KW.out _ (TF.out _))) | (go_at_call 78; exact zN hF1 hF2 (KB.out _ (TF.out _))) | fail)
  refine wpQuiet_nil ?_
  rintro _ ⟨uW, rfl⟩
  have B6 := zL B5 (hF1 uW)
  obtain ⟨Ac, Ad⟩ := zV (hF1 uW) Aa Ab
  obtain ⟨w6, hw⟩ : ∃ V, F uW = V := ⟨_, rfl⟩
  rw [hw] at B6 Ac Ad
  try rw [hw]
  clear hw hF1 hF2 B5 fb_0 fb_1 ft_0 ft_1 Aa Ak Al Ab Am An
  clear TF
  clear F
  obtain ⟨Ae, Af⟩ := zF Ac
  obtain ⟨Ag, Ah⟩ := zF Ad
  go_wp2_with fail
  refine (KS.out _ (zY TT.out B6)).mono ?_
  rintro r w7 ⟨rfl, b7⟩
  have B7 : Below w.heap.size w w7 := zL B6 b7
  obtain ⟨Ai, Aj⟩ := zV b7 Ac Ad
  clear b7 B6 Ac Ae Af Ad Ag Ah
  obtain ⟨Ao, Ap⟩ := zF Ai
  obtain ⟨Aq, Ar⟩ := zF Aj
  cases neg
  ·
   subst hc
   go_wp2
   go_ret
   exact ⟨rfl, B7⟩
  ·
   subst hc
   go_wp2
   go_ret
   exact ⟨rfl, B7⟩
 ·
  go_wp2_with fail
  obtain ⟨F, hF1, hF2⟩ := zS w5
  have fb_0 := fun u => zC (zA (hF1 u) _ _ _ Aa) 0 _ rfl
  have fb_1 := fun u => zC (zA (hF1 u) _ _ _ Aa) 1 _ rfl
  have ft_0 := fun u => zC (zA (hF1 u) _ _ _ Ab) 0 _ rfl
  have ft_1 := fun u => zC (zA (hF1 u) _ _ _ Ab) 1 _ rfl
  have TF : zP (∀ u, yF (F u)) := zK (fun u => zY TT.out (zL B5 (hF1 u)))
  refine zJ F hF2 (by kernel_rfl) (by kernel_rfl) ?_
  repeat first | go_big_quiet_step (first | (go_at_call 128; exact zN hF1 hF2 (KW.out _ (TF.out _))) | (go_at_call 78; exact zN hF1 hF2 (KB.out _ (TF.out _))) | fail) | quiet_step (first | (go_at_call 128; exact zN hF1 hF2 (KW.out _ (TF.out _))) | (go_at_call 78; exact zN hF1 hF2 (KB.out _ (TF.out _))) | fail)
  refine wpQuiet_nil ?_
  rintro _ ⟨uW, rfl⟩
  have B6 := zL B5 (hF1 uW)
  obtain ⟨Ac, Ad⟩ := zV (hF1 uW) Aa Ab
  obtain ⟨w6, hw⟩ : ∃ V, F uW = V := ⟨_, rfl⟩
  rw [hw] at B6 Ac Ad
  try rw [hw]
  clear hw hF1 hF2 B5 fb_0 fb_1 ft_0 ft_1 Aa Ak Al Ab Am An
  clear TF
  clear F
  obtain ⟨Ae, Af⟩ := zF Ac
  obtain ⟨Ag, Ah⟩ := zF Ad
  go_wp2_with fail
  refine (KS.out _ (zY TT.out B6)).mono ?_
  rintro r w7 ⟨rfl, b7⟩
  have B7 : Below w.heap.size w w7 := zL B6 b7
  obtain ⟨Ai, Aj⟩ := zV b7 Ac Ad
  clear b7 B6 Ac Ae Af Ad Ag Ah
  obtain ⟨Ao, Ap⟩ := zF Ai
  obtain ⟨Aq, Ar⟩ := zF Aj
  cases neg
  ·
   subst hc
   go_wp2
   go_ret
   exact ⟨rfl, B7⟩
  ·
   subst hc
   go_wp2
   go_ret
   exact ⟨rfl, B7⟩
 ·
  go_wp2_with fail
  obtain ⟨F, hF1, hF2⟩ := zS w5
  have fb_0 := fun u => zC (zA (hF1 u) _ _ _ Aa) 0 _ rfl
  have fb_1 := fun u => zC (zA (hF1 u) _ _ _ Aa) 1 _ rfl
  have ft_0 := fun u => zC (zA (hF1 u) _ _ _ Ab) 0 _ rfl
  have ft_1 := fun u => zC (zA (hF1 u) _ _ _ Ab) 1 _ rfl
  have TF : zP (∀ u, yF (F u)) := zK (fun u => zY TT.out (zL B5 (hF1 u)))
  refine zJ F hF2 (by kernel_rfl) (by kernel_rfl) ?_
  repeat first | go_big_quiet_step (first | (go_at_call 128; exact zN hF1 hF2 (KW.out _ (TF.out _))) | (go_at_call 78; exact zN hF1 hF2 (KB.out _ (TF.out _))) | fail) | quiet_step (first | (go_at_call 128; exact zN hF1 hF2 (KW.out _ (TF.out _))) | (go_at_call 78; exact zN hF1 hF2 (KB.out _ (TF.out _))) | fail)
  refine wpQuiet_nil ?_
  rintro _ ⟨uW, rfl⟩
  have B6 := zL B5 (hF1 uW)
  obtain ⟨Ac, Ad⟩ := zV (hF1 uW) Aa Ab
  obtain ⟨w6, hw⟩ : ∃ V, F uW = V := ⟨_, rfl⟩
  rw [hw] at B6 Ac Ad
  try rw [hw]
  clear hw hF1 hF2 B5 fb_0 fb_1 ft_0 ft_1 Aa Ak Al Ab Am An
  clear TF
  clear F
  obtain ⟨Ae, Af⟩ := zF Ac
  obtain ⟨Ag, Ah⟩ := zF Ad
  go_wp2_with fail
  refine (KS.out _ (zY TT.out B6)).mono ?_
  rintro r w7 ⟨rfl, b7⟩
  have B7 : Below w.heap.size w w7 := zL B6 b7
  obtain ⟨Ai, Aj⟩ := zV b7 Ac Ad
  clear b7 B6 Ac Ae Af Ad Ag Ah
  obtain ⟨Ao, Ap⟩ := zF Ai
  obtain ⟨Aq, Ar⟩ := zF Aj
  cases neg
  ·
   subst hc
   go_wp2
   go_ret
   exact ⟨rfl, B7⟩
  ·
   subst hc
   go_wp2
   go_ret
   exact ⟨rfl, B7⟩
 ·
  go_wp2_with fail
  obtain ⟨F, hF1, hF2⟩ := zS w5
  have fb_0 := fun u => zC (zA (hF1 u) _ _ _ Aa) 0 _ rfl
  have fb_1 := fun u => zC (zA (hF1 u) _ _ _ Aa) 1 _ rfl
  have ft_0 := fun u => zC (zA (hF1 u) _ _ _ Ab) 0 _ rfl
  have ft_1 := fun u => zC (zA (hF1 u) _ _ _ Ab) 1 _ rfl
  have TF : zP (∀ u, yF (F u)) := zK (fun u => zY TT.out (zL B5 (hF1 u)))
  refine zJ F hF2 (by kernel_rfl) (by kernel_rfl) ?_
  repeat first | go_big_quiet_step (first | (go_at_call 128; exact zN hF1 hF2 (KW.out _ (TF.out _))) | (go_at_call 78; exact zN hF1 hF2 (KB.out _ (TF.out _))) | fail) | quiet_step (first | (go_at_call 128; exact zN hF1 hF2 (KW.out _ (TF.out _))) | (go_at_call 78; exact zN hF1 hF2 (KB.out _ (TF.out _))) | fail)
  refine wpQuiet_nil ?_
  rintro _ ⟨uW, rfl⟩
  have B6 := zL B5 (hF1 uW)
  obtain ⟨Ac, Ad⟩ := zV (hF1 uW) Aa Ab
  obtain ⟨w6, hw⟩ : ∃ V, F uW = V := ⟨_, rfl⟩
  rw [hw] at B6 Ac Ad
  try rw [hw]
  clear hw hF1 hF2 B5 fb_0 fb_1 ft_0 ft_1 Aa Ak Al Ab Am An
  clear TF
  clear F
  obtain ⟨Ae, Af⟩ := zF Ac
  obtain ⟨Ag, Ah⟩ := zF Ad
  go_wp2_with fail
  refine (KS.out _ (zY TT.out B6)).mono ?_
  rintro r w7 ⟨rfl, b7⟩
  have B7 : Below w.heap.size w w7 := zL B6 b7
  obtain ⟨Ai, Aj⟩ := zV b7 Ac Ad
  clear b7 B6 Ac Ae Af Ad Ag Ah
  obtain ⟨Ao, Ap⟩ := zF Ai
  obtain ⟨Aq, Ar⟩ := zF Aj
  cases neg
  ·
   subst hc
   go_wp2
   go_ret
   exact ⟨rfl, B7⟩
  ·
   subst hc
   go_wp2
   go_ret
   exact ⟨rfl, B7⟩
end Go.Proofs.YtkblmpmkchkpjaaGreatDoor
