/-
  What the functions that the statement reaches return: part 4 (K1, K2, K3, K4, K5, K6, K7, KA).
-/
import Derived.Lib.MinMax
import Derived.Deep.RegionHeld3
import Derived.Test.YtpdehipeakcaiaaDoorFb03
namespace Go.Proofs.YtpdehipeakcaiaaDoor
set_option maxRecDepth 100000
set_option maxHeartbeats 40000000
set_option maxRecDepth 100000
open Go.RowKit WMath
def kN (f : Int) (n : Nat) : Bool := decide (n / 2 ^ wV f % 2 = 1)
def kE (f : Int) (n : Nat) : Nat := n / 2 ^ pV f % (oV f + 1)
def kT (f : Int) (n : Nat) : Nat := n % 2 ^ pV f
def kC (f : Int) (n : Nat) : Nat :=
  if kE f n = oV f then (if kT f n = 0 then (if kN f n then 0 else 7) else if 2 ^ (pV f - 1) ≤ kT f n then 9 else 8)
  else if kE f n ≠ 0 then (if kN f n then 1 else 6)
  else if kT f n ≠ 0 then (if kN f n then 2 else 5) else (if kN f n then 3 else 4)
def lx (f : Int) : Int := 1 - fE f - pV f
def kS (f : Int) (n : Nat) : Nat := if kC f n = 2 ∨ kC f n = 5 then kT f n else if kC f n = 1 ∨ kC f n = 6 then 2 ^ pV f + kT f n else 0
def kX (f : Int) (n : Nat) : Int := if kC f n = 2 ∨ kC f n = 5 then lx f else if kC f n = 1 ∨ kC f n = 6 then lx f + (kE f n : Int) - 1 else 0
def kF (f : Int) (n : Nat) : Nat := if kC f n = 8 ∨ kC f n = 9 then kT f n else 0
def Fit (f : Int) (n : Nat) : Prop := n < 2 * 2 ^ wV f
theorem fm {f : Int} (h : Is4 f) : 2 ^ wV f = (oV f + 1) * 2 ^ pV f ∧ 2 ≤ pV f ∧ 2 ^ pV f = 2 * 2 ^ (pV f - 1) ∧ 2 ^ (pV f - 1) ≥ 2 ∧ 3 ≤ oV f ∧ oV f < 32768 ∧ 2 * 2 ^ wV f ≤ 340282366920938463463374607431768211456 := by
  rcases h with rfl | rfl | rfl | rfl <;> decide +kernel
theorem kT_lt {f : Int} (n : Nat) : kT f n < 2 ^ pV f := Nat.mod_lt _ (Nat.two_pow_pos _)
theorem kE_le {f : Int} (n : Nat) : kE f n ≤ oV f := Nat.le_of_lt_succ (Nat.mod_lt _ (Nat.succ_pos _))
theorem kC_lt (f : Int) (n : Nat) : kC f n < 10 := by unfold kC; repeat' split <;> first | decide | skip
theorem enc_k {f : Int} (h : Is4 f) (neg : Bool) {e t : Nat} (he : e ≤ oV f) (ht : t < 2 ^ pV f) : Fit f (enc7 f neg e t) ∧ kN f (enc7 f neg e t) = neg ∧ kE f (enc7 f neg e t) = e ∧ kT f (enc7 f neg e t) = t := by
  unfold Fit enc7 kN kE kT
  rcases h with rfl | rfl | rfl | rfl
  all_goals
    simp only [show pV 0 = 23 by decide, show wV 0 = 31 by decide, show oV 0 = 255 by decide, show pV 1 = 52 by decide, show wV 1 = 63 by decide, show oV 1 = 2047 by decide, show pV 2 = 10 by decide, show wV 2 = 15 by decide, show oV 2 = 31 by decide, show pV 3 = 112 by decide, show wV 3 = 127 by decide, show oV 3 = 32767 by decide] at he ht ⊢
    simp only [Nat.reducePow, Nat.reduceAdd] at ht ⊢
    cases neg
    · simp only [Bool.false_eq_true, if_false, decide_eq_false_iff_not]
      omega
    · simp only [if_true, decide_eq_true_eq]
      omega
theorem kC_cases {f : Int} (h : Is4 f) (neg : Bool) (e t : Nat) (he : e ≤ oV f) (ht : t < 2 ^ pV f) : kC f (enc7 f neg e t) = 
  (if e = oV f then (if t = 0 then (if neg then 0 else 7) else if 2 ^ (pV f - 1) ≤ t then 9 else 8)
  else if e ≠ 0 then (if neg then 1 else 6)
  else if t ≠ 0 then (if neg then 2 else 5) else (if neg then 3 else 4)) := by
  obtain ⟨_, a, b, c⟩ := enc_k h neg he ht
  unfold kC
  rw [a, b, c]
def kp (f : Int) (n : Nat) : Nat × Nat × Int × Nat := (kC f n, kS f n, kX f n, kF f n)
theorem xor_two (a b : Nat) : (a ^^^ b) % 2 = (a + b) % 2 := by
  have := @Nat.xor_mod_two_eq_one a b
  omega
theorem xor_bit : ∀ (k a : Nat), a ^^^ 2 ^ k = if a / 2 ^ k % 2 = 1 then a - 2 ^ k else a + 2 ^ k
  | 0, a => by
    have h1 : (a ^^^ 1) / 2 = a / 2 := by rw [Nat.xor_div_two]; simp
    have h2 : (a ^^^ 1) % 2 = (a + 1) % 2 := by rw [xor_two]
    rw [Nat.pow_zero, Nat.div_one]
    split <;> omega
  | k + 1, a => by
    have ih := xor_bit k (a / 2)
    have h1 : (a ^^^ 2 ^ (k + 1)) / 2 = a / 2 ^^^ 2 ^ k := by rw [Nat.xor_div_two, Nat.pow_succ, Nat.mul_div_cancel _ (by decide)]
    have h2 : (a ^^^ 2 ^ (k + 1)) % 2 = a % 2 := by rw [xor_two, Nat.pow_succ]; omega
    have h3 : a / 2 / 2 ^ k = a / 2 ^ (k + 1) := by rw [Nat.div_div_eq_div_mul, Nat.pow_succ, Nat.mul_comm]
    rw [ih, h3] at h1
    have h4 : a / 2 ^ (k + 1) % 2 = 1 → 2 ^ k ≤ a / 2 := fun h => by
      rw [← h3] at h
      by_cases c : 2 ^ k ≤ a / 2
      · exact c
      · rw [Nat.div_eq_of_lt (by omega)] at h; exact absurd h (by decide)
    rw [Nat.pow_succ] at h1 h2 h4 ⊢
    split at h1
    · rename_i c
      have := h4 c
      rw [if_pos c]; omega
    · rename_i c
      rw [if_neg c]; omega
def sgB (f : Int) (n : Nat) (neg : Bool) : Nat := if neg then n ^^^ 2 ^ wV f else n
theorem sgB_low {f : Int} {n : Nat} (hn : n < 2 ^ wV f) (neg : Bool) : sgB f n neg = n + (if neg then 2 ^ wV f else 0) := by
  unfold sgB
  cases neg
  · rfl
  · rw [if_pos rfl, xor_bit, Nat.div_eq_of_lt hn, if_neg (by decide), if_pos rfl]
def toB (s : Nat) : Nat := if s < 340282366920938463463374607431768211456 then s else 0
def plN (f : Int) (u : Nat) : Nat := u * 2 ^ pV f % (if f = 3 then 340282366920938463463374607431768211456 else 18446744073709551616)
def u64w (x : Int) : Nat := (x % 18446744073709551616).toNat
def fb (f : Int) (s : Nat) (x : Int) : Nat := (plN f (u64w (x - lx f)) + toB s) % 340282366920938463463374607431768211456
def eb (f : Int) (r : Nat) : Nat := (eInf f false + toB r) % 340282366920938463463374607431768211456
def mg (f : Int) (c s : Nat) (x : Int) (r : Nat) : Nat := if c = 3 ∨ c = 4 then 0 else if c = 1 ∨ c = 2 ∨ c = 5 ∨ c = 6 then fb f s x else eb f r
def gP (f : Int) (p : Nat × Nat × Int × Nat) : Nat := sgB f (mg f p.1 p.2.1 p.2.2.1 p.2.2.2) (decide (p.1 ≤ 3))
theorem fb_is {f : Int} (h : Is4 f) (k s : Nat) (hk : k ≤ oV f) (hs : k * 2 ^ pV f + s < 2 ^ wV f) : fb f s (lx f + k) = k * 2 ^ pV f + s := by
  obtain ⟨f1, f2, f3, f4, f5, f6, f7⟩ := fm h
  have e1 : u64w (lx f + k - lx f) = k := by
    unfold u64w
    rw [show lx f + (k : Int) - lx f = k by omega]
    omega
  have e2 : toB s = s := by unfold toB; rw [if_pos (by omega)]
  have e3 : plN f k = k * 2 ^ pV f := by
    unfold plN
    refine Nat.mod_eq_of_lt ?_
    have h2 : k * 2 ^ pV f < 2 ^ wV f := by omega
    have h3 : 2 ^ wV f ≤ (if f = 3 then 340282366920938463463374607431768211456 else 18446744073709551616) := by
      rcases h with rfl | rfl | rfl | rfl <;> decide +kernel
    omega
  unfold fb
  rw [e1, e2, e3, Nat.mod_eq_of_lt (by omega)]
def pk (f : Int) (p : Nat × Nat × Int × Nat) : Nat × Int := if kp f (gP f p) = p then (gP f p, 0) else (0, 80)
theorem cell7t {w : World} {g : Nat} {T : TypeId} {a b : Value} (R : w.heap[g]? = some (.cells #[a, b] T)) : w.cell? ⟨g, 0, none⟩ = some a ∧ w.cell? ⟨g, 1, none⟩ = some b := ⟨cell7 R 0 _ rfl, cell7 R 1 _ rfl⟩
theorem kopn1 (w : World) (o : Obj) : (w.alloc o).heap[w.heap.size]? = some o ∧ Below w.heap.size w (w.alloc o) := ⟨heap_alloc_last _ _, (Below.refl _ _).alloc (Nat.le_refl _) _⟩
theorem kopn2 (w : World) (o1 o2 : Obj) : ((w.alloc o1).alloc o2).heap[w.heap.size]? = some o1 ∧ ((w.alloc o1).alloc o2).heap[w.heap.size + 1]? = some o2 ∧ Below w.heap.size w ((w.alloc o1).alloc o2) := by
  obtain ⟨r0, b⟩ := kopn1 w o1
  have z : (w.alloc o1).heap.size = w.heap.size + 1 := by simp only [size_al]
  exact ⟨by rw [heap_below _ _ _ (by omega)]; exact r0, by rw [← z]; exact heap_alloc_last _ _, b.alloc (by omega) _⟩
theorem k_from (x y pl : Nat) (v : Int) (hv : bits .or .u64 ((y : Int) / 2 ^ min pl 64) ((x : Int) / 2 ^ min (IntKind.u64.wrap ((pl : Int) - 64)).toNat 64) = v) (w : World) :
    Calls Tryd.prog 92 #[.agg #[.int .u64 (x : Nat), .int .u64 (y : Nat)], .int .u64 (pl : Nat)] w fun e w' => e = .returned (.int .u64 v) ∧ Below w.heap.size w w' := by
  subst hv
  go_enter Tryd.func92, Tryd.ntmps92
  go_wp2
  go_ret
  exact ⟨rfl, bal7 _ _⟩

theorem kb_width (f v : Int) (h0 : 0 ≤ f) (h1 : f ≤ 255) (hv : fW f = v) (w : World) (hT : FAt w) :
    Calls Tryd.prog 77 #[.int .u8 f] w fun e w' => e = .returned (.int .i64 v) ∧ Below w.heap.size w w' :=
  (s_width f v h0 h1 hv w hT).mono fun _ _ h => ⟨h.1, by rw [h.2]; exact bal7 _ _⟩
theorem kb_precision (f v : Int) (h0 : 0 ≤ f) (h1 : f ≤ 255) (hv : fP f = v) (w : World) (hT : FAt w) :
    Calls Tryd.prog 50 #[.int .u8 f] w fun e w' => e = .returned (.int .i64 v) ∧ Below w.heap.size w w' :=
  (s_precision f v h0 h1 hv w hT).mono fun _ _ h => ⟨h.1, by rw [h.2]; exact bal7 _ _⟩
end Go.Proofs.YtpdehipeakcaiaaDoor
namespace Go.Proofs.YtpdehipeakcaiaaDoor
set_option maxRecDepth 100000
set_option maxHeartbeats 40000000
set_option maxRecDepth 100000
open Go.RowKit WMath
set_option linter.unusedSimpArgs false
set_option linter.unusedVariables false
def frm (n pl : Nat) : Nat := if pl < 64 then n % 18446744073709551616 / 2 ^ pl else n / 2 ^ pl
theorem or0 (a : Nat) (h : a < 18446744073709551616) : bits .or .u64 (a : Int) 0 = (a : Int) := by
  have := bits_or_u64_nat a 0 h (by decide)
  simpa using this
theorem or1 (a : Nat) (h : a < 18446744073709551616) : bits .or .u64 0 (a : Int) = (a : Int) := by
  have := bits_or_u64_nat 0 a (by decide) h
  simpa using this
theorem pow64 (k : Nat) : ((2 : Int) ^ k) = ((2 ^ k : Nat) : Int) := by norm_cast
theorem from_is (x y n pl : Nat) (hx : x < 18446744073709551616) (hy : y < 18446744073709551616) (hn : y + 18446744073709551616 * x = n) (hp : pl < 128) :
    bits .or .u64 ((y : Int) / 2 ^ min pl 64) ((x : Int) / 2 ^ min (IntKind.u64.wrap ((pl : Int) - 64)).toNat 64) = (frm n pl : Int) := by
  unfold frm
  rw [IntKind.wrap_u64]
  by_cases h : pl < 64
  · have e1 : min (((pl : Int) - 64) % 18446744073709551616).toNat 64 = 64 := by omega
    have e2 : min pl 64 = pl := by omega
    have e3 : ((x : Int) / 2 ^ 64) = 0 := by
      rw [show ((2 : Int) ^ 64) = 18446744073709551616 by decide]; omega
    have e4 : n % 18446744073709551616 = y := by omega
    rw [e1, e2, e3, if_pos h, e4, pow64, ← Int.natCast_ediv]
    exact or0 _ (Nat.lt_of_le_of_lt (Nat.div_le_self _ _) hy)
  · have e1 : min (((pl : Int) - 64) % 18446744073709551616).toNat 64 = pl - 64 := by omega
    have e2 : min pl 64 = 64 := by omega
    have e3 : ((y : Int) / 2 ^ 64) = 0 := by
      rw [show ((2 : Int) ^ 64) = 18446744073709551616 by decide]; omega
    have e4 : n / 2 ^ pl = x / 2 ^ (pl - 64) := by
      rw [show (2 : Nat) ^ pl = 18446744073709551616 * 2 ^ (pl - 64) by rw [show (18446744073709551616 : Nat) = 2 ^ 64 by decide, ← Nat.pow_add]; congr 1; omega, ← Nat.div_div_eq_div_mul]
      congr 1; omega
    rw [e1, e2, e3, if_neg h, e4, pow64, ← Int.natCast_ediv]
    exact or1 _ (Nat.lt_of_le_of_lt (Nat.div_le_self _ _) hx)
theorem kfrom_is (x y n pl v : Nat) (hx : x < 18446744073709551616) (hy : y < 18446744073709551616) (hn : y + 18446744073709551616 * x = n) (hp : pl < 128) (hv : frm n pl = v) (w : World) : Calls Tryd.prog 92 #[.agg #[.int .u64 (x : Nat), .int .u64 (y : Nat)], .int .u64 (pl : Nat)] w fun r w' => r = .returned (.int .u64 (v : Nat)) ∧ Below w.heap.size w w' := by
  subst hv
  exact k_from x y pl _ (from_is x y n pl hx hy hn hp) w

theorem and_one (a : Nat) (h : a < 18446744073709551616) : bits .and .u64 (a : Int) 1 = ((a % 2 : Nat) : Int) := and_mask a 1 h (by decide)
theorem frm_lt (n pl : Nat) (hn : n < 340282366920938463463374607431768211456) : frm n pl < 18446744073709551616 := by
  unfold frm
  split
  · exact Nat.lt_of_le_of_lt (Nat.div_le_self _ _) (Nat.mod_lt _ (by decide))
  · rename_i h
    have : (2 : Nat) ^ 64 ≤ 2 ^ pl := Nat.pow_le_pow_right (by decide) (by omega)
    rw [Nat.div_lt_iff_lt_mul (Nat.two_pow_pos _)]
    rw [show (2 : Nat) ^ 64 = 18446744073709551616 by decide] at this
    have h2 := Nat.mul_le_mul_left 18446744073709551616 this
    omega
theorem kbit_is (x y n pl : Nat) (o : Bool) (hx : x < 18446744073709551616) (hy : y < 18446744073709551616) (hn : y + 18446744073709551616 * x = n) (hp : pl < 128) (ho : decide (frm n pl % 2 = 1) = o) (w : World) : Calls Tryd.prog 85 #[.agg #[.int .u64 (x : Nat), .int .u64 (y : Nat)], .int .u64 (pl : Nat)] w fun r w' => r = .returned (.bool o) ∧ Below w.heap.size w w' := by
  obtain ⟨v, hv⟩ : ∃ v, frm n pl = v := ⟨_, rfl⟩
  rw [hv] at ho
  have KF := box (kfrom_is x y n pl v hx hy hn hp hv)
  have vl := frm_lt n pl (by omega)
  rw [hv] at vl
  have ha := and_one v vl
  have hd : (((v % 2 : Nat) : Int) == 1) = o := by rw [← ho]; by_cases h : v % 2 = 1 <;> simp [h] <;> omega
  obtain ⟨u, hu⟩ : ∃ u, v % 2 = u := ⟨_, rfl⟩
  rw [hu] at ha hd
  clear ho hv hn hx hy hp hu vl
  obtain ⟨Rb_0, B0⟩ := kopn1 w (Obj.cells #[.int .u64 (x : Nat), .int .u64 (y : Nat)] 27)
  go_enter Tryd.func85, Tryd.ntmps85
  go_wp2_with fail
  refine (KF.out _).mono ?_
  rintro r w1 ⟨rfl, b1⟩
  have B1 : Below w.heap.size w w1 := btr7 B0 b1
  have Rb_1 := heap_of b1 _ _ _ Rb_0
  clear b1 B0 Rb_0
  obtain ⟨cb_1_0, cb_1_1⟩ := cell7t Rb_1
  go_wp2
  go_ret
  exact ⟨rfl, B1⟩

theorem pV_lim {f : Int} (h : Is4 f) : fP f - 1 = (pV f : Int) ∧ IntKind.i64.wrap (fP f - 1) = (pV f : Int) ∧ IntKind.u64.wrap ((pV f : Nat) : Int) = (pV f : Int) ∧ pV f < 128 ∧ wV f < 128 ∧ fW f - 1 = (wV f : Int) ∧ IntKind.i64.wrap (fW f - 1) = (wV f : Int) ∧ IntKind.u64.wrap ((wV f : Nat) : Int) = (wV f : Int) := by
  rcases h with rfl | rfl | rfl | rfl <;> decide +kernel

theorem kfw (f : Int) (hf : Is4 f) (p : Nat) (hp : pV f = p) (w : World) (hT : FAt w) : Calls Tryd.prog 90 #[.int .u8 f] w fun r w' => r = .returned (.int .u64 (p : Nat)) ∧ Below w.heap.size w w' := by
  subst hp
  have f4 := is4_ok hf
  obtain ⟨_, a2, a3, _⟩ := pV_lim hf
  obtain ⟨P, hP⟩ : ∃ P, fP f = P := ⟨_, rfl⟩
  rw [hP] at a2
  obtain ⟨p, hp⟩ : ∃ p, pV f = p := ⟨_, rfl⟩
  rw [hp] at a2 a3 ⊢
  have TT := box hT
  have HP := box hP
  clear hT hf hp hP
  have B0 : Below w.heap.size w w := (Below.refl _ _)
  go_enter Tryd.func90, Tryd.ntmps90
  go_wp2_with fail
  refine ((kb_precision f P f4.1 f4.2.1 HP.out _ (fatB TT.out B0))).mono ?_
  rintro r w1 ⟨rfl, b1⟩
  have B1 : Below w.heap.size w w1 := btr7 B0 b1
  clear b1 B0 
  go_wp2
  go_ret
  exact ⟨rfl, B1⟩

theorem field_of {f : Int} (h : Is4 f) (n : Nat) : frm n (pV f) % (oV f + 1) = kE f n := by
  unfold frm kE
  rcases h with rfl | rfl | rfl | rfl
  all_goals
    simp only [show pV 0 = 23 by decide, show wV 0 = 31 by decide, show oV 0 = 255 by decide, show pV 1 = 52 by decide, show wV 1 = 63 by decide, show oV 1 = 2047 by decide, show pV 2 = 10 by decide, show wV 2 = 15 by decide, show oV 2 = 31 by decide, show pV 3 = 112 by decide, show wV 3 = 127 by decide, show oV 3 = 32767 by decide]
    simp only [Nat.reducePow, Nat.reduceAdd, Nat.reduceLT, if_true, if_false]
    try omega
theorem sign_of {f : Int} (h : Is4 f) (n : Nat) : decide (frm n (wV f) % 2 = 1) = kN f n := by
  unfold frm kN
  rcases h with rfl | rfl | rfl | rfl
  all_goals
    simp only [show wV 0 = 31 by decide, show wV 1 = 63 by decide, show wV 2 = 15 by decide, show wV 3 = 127 by decide]
    simp only [Nat.reducePow, Nat.reduceAdd, Nat.reduceLT, if_true, if_false, decide_eq_decide]
    try omega
theorem quiet_of {f : Int} (h : Is4 f) (t : Nat) (ht : t < 2 ^ pV f) : decide (frm t (pV f - 1) % 2 = 1) = decide (2 ^ (pV f - 1) ≤ t) := by
  unfold frm
  rcases h with rfl | rfl | rfl | rfl
  all_goals
    simp only [show pV 0 = 23 by decide, show pV 1 = 52 by decide, show pV 2 = 10 by decide, show pV 3 = 112 by decide] at ht ⊢
    simp only [Nat.reducePow, Nat.reduceAdd, Nat.reduceSub, Nat.reduceLT, if_true, if_false, decide_eq_decide] at ht ⊢
    omega
theorem top_mask {f : Int} (h : Is4 f) : IntKind.i64.wrap (fW f - fP f) = fW f - fP f ∧ 0 ≤ fW f - fP f ∧ IntKind.u64.wrap (IntKind.u64.wrap (2 ^ min (fW f - fP f).toNat 64) - 1) = (oV f : Int) ∧ oV f = 2 ^ (fW f - fP f).toNat - 1 ∧ (fW f - fP f).toNat ≤ 64 := by
  rcases h with rfl | rfl | rfl | rfl <;> decide +kernel
set_option maxHeartbeats 1000000 in
theorem kfield_is (f : Int) (hf : Is4 f) (x y n e : Nat) (hx : x < 18446744073709551616) (hy : y < 18446744073709551616) (hn : y + 18446744073709551616 * x = n) (he : kE f n = e) (w : World) (hT : FAt w) : Calls Tryd.prog 82 #[.int .u8 f, .agg #[.int .u64 (x : Nat), .int .u64 (y : Nat)]] w fun r w' => r = .returned (.int .u64 (e : Nat)) ∧ Below w.heap.size w w' := by
  have f4 := is4_ok hf
  obtain ⟨_, _, _, a4, _⟩ := pV_lim hf
  obtain ⟨t1, t2, t3, t4, t5⟩ := top_mask hf
  obtain ⟨v, hv⟩ : ∃ v, frm n (pV f) = v := ⟨_, rfl⟩
  have KF := box (kfrom_is x y n (pV f) v hx hy hn a4 hv)
  have vl := frm_lt n (pV f) (by omega)
  rw [hv] at vl
  have ha : bits .and .u64 (v : Int) (oV f : Int) = (e : Int) := by
    have := and_mask v (fW f - fP f).toNat vl t5
    rw [← t4] at this
    rw [this, ← he, ← field_of hf, hv, t4]
    have := Nat.two_pow_pos (fW f - fP f).toNat
    rw [Nat.sub_add_cancel this]
  obtain ⟨q, hq⟩ : ∃ q, fW f = q := ⟨_, rfl⟩
  obtain ⟨p, hp⟩ : ∃ q, fP f = q := ⟨_, rfl⟩
  obtain ⟨k, hk⟩ : ∃ q, pV f = q := ⟨_, rfl⟩
  obtain ⟨o, ho⟩ : ∃ q, oV f = q := ⟨_, rfl⟩
  rw [hq, hp] at t1 t2 t3
  rw [ho] at t3 ha
  rw [hk] at KF
  obtain ⟨d, hd⟩ : ∃ d, q - p = d := ⟨_, rfl⟩
  rw [hd] at t2 t3
  have t1' : IntKind.i64.wrap (q - p) = d := t1.trans hd
  obtain ⟨m, rfl⟩ := Int.eq_ofNat_of_zero_le t2
  rw [Int.toNat_natCast] at t3
  have TT := box hT
  have HQ := box hq
  have HP := box hp
  have HK := box hk
  have HF := box hf
  clear hT hf hq hp hk ho hv hn hx hy he vl t1 t2 t4 t5 a4 hd
  obtain ⟨Rb_0, B0⟩ := kopn1 w (Obj.cells #[.int .u64 (x : Nat), .int .u64 (y : Nat)] 27)
  go_enter Tryd.func82, Tryd.ntmps82
  go_wp2_with fail
  refine (kb_width f q f4.1 f4.2.1 HQ.out _ (fatB TT.out B0)).mono ?_
  rintro r w1 ⟨rfl, b1⟩
  have B1 : Below w.heap.size w w1 := btr7 B0 b1
  have Rb_1 := heap_of b1 _ _ _ Rb_0
  clear b1 B0 Rb_0
  obtain ⟨cb_1_0, cb_1_1⟩ := cell7t Rb_1
  go_wp2_with fail
  refine (kb_precision f p f4.1 f4.2.1 HP.out _ (fatB TT.out B1)).mono ?_
  rintro r w2 ⟨rfl, b2⟩
  have B2 : Below w.heap.size w w2 := btr7 B1 b2
  have Rb_2 := heap_of b2 _ _ _ Rb_1
  clear b2 B1 Rb_1 cb_1_0 cb_1_1
  obtain ⟨cb_2_0, cb_2_1⟩ := cell7t Rb_2
  go_wp2_with fail
  obtain ⟨F, hF1, hF2⟩ := below_fun w2
  have fb_0 := fun u => cell7 (heap_of (hF1 u) _ _ _ Rb_2) 0 _ rfl
  have fb_1 := fun u => cell7 (heap_of (hF1 u) _ _ _ Rb_2) 1 _ rfl
  have TF : Box (∀ u, FAt (F u)) := box (fun u => fatB TT.out (btr7 B2 (hF1 u)))
  refine wp_region_below F hF2 (by kernel_rfl) (by kernel_rfl) ?_
  repeat first | go_big_quiet_step (first | (go_at_call 90; exact quietF hF1 hF2 (kfw f HF.out k HK.out _ (TF.out _))) | (go_at_call 92; exact quietF hF1 hF2 (KF.out _)) | fail) | quiet_step (first | (go_at_call 90; exact quietF hF1 hF2 (kfw f HF.out k HK.out _ (TF.out _))) | (go_at_call 92; exact quietF hF1 hF2 (KF.out _)) | fail)
  refine wpQuiet_nil ?_
  rintro _ ⟨uW, rfl⟩
  have B3 := btr7 B2 (hF1 uW)
  have Rb_3 := heap_of (hF1 uW) _ _ _ Rb_2
  obtain ⟨w3, hw⟩ : ∃ V, F uW = V := ⟨_, rfl⟩
  rw [hw] at B3 Rb_3
  try rw [hw]
  clear hw hF1 hF2 B2 fb_0 fb_1 Rb_2 cb_2_0 cb_2_1
  clear TF
  clear F
  obtain ⟨cb_3_0, cb_3_1⟩ := cell7t Rb_3
  go_wp2
  go_ret
  exact ⟨rfl, B3⟩
theorem and_zero (a : Nat) (h : a < 18446744073709551616) : bits .and .u64 (a : Int) 0 = 0 := by
  have := and_mask a 0 h (by decide)
  simpa [Nat.mod_one] using this
theorem and_at (a k : Nat) (m : Int) (v : Nat) (h : a < 18446744073709551616) (hk : k ≤ 64) (hm : ((2 ^ k - 1 : Nat) : Int) = m) (hv : a % 2 ^ k = v) : bits .and .u64 (a : Int) m = (v : Int) := by
  subst hm hv
  exact and_mask a k h hk
set_option maxHeartbeats 1000000 in
theorem kfraction_is (f : Int) (hf : Is4 f) (x y n u v : Nat) (hx : x < 18446744073709551616) (hy : y < 18446744073709551616) (hn : y + 18446744073709551616 * x = n) (hv : bv7 (kT f n) = (u, v)) (w : World) (hT : FAt w) : Calls Tryd.prog 80 #[.int .u8 f, .agg #[.int .u64 (x : Nat), .int .u64 (y : Nat)]] w fun r w' => r = .returned (.agg #[.int .u64 (u : Nat), .int .u64 (v : Nat)]) ∧ Below w.heap.size w w' := by
  unfold bv7 kT at hv
  injection hv with h1 h2
  have TT := box hT
  rcases hf with rfl | rfl | rfl | rfl
  · rw [show pV 0 = 23 by decide] at h1 h2
    have hm : max (23 : Int) 64 = 64 := by decide
    have a1 := and_zero x hx
    have a2 := and_at y 23 8388607 v hy (by decide) (by decide) (by rw [← h2, ← hn]; simp only [Nat.reducePow]; omega)
    have u0 : u = 0 := by rw [← h1]; simp only [Nat.reducePow]; omega
    subst u0
    clear hT h1 h2 hn hx hy
    obtain ⟨Rb_0, Rz_0, B0⟩ := kopn2 w (Obj.cells #[.int .u64 (x : Nat), .int .u64 (y : Nat)] 27) (Obj.cells #[.int .u64 0, .int .u64 0] 27)
    go_enter Tryd.func80, Tryd.ntmps80
    go_wp2_with fail
    refine (kfw 0 (Or.inl rfl) 23 (by decide) _ (fatB TT.out B0)).mono ?_
    rintro r w1 ⟨rfl, b1⟩
    have B1 : Below w.heap.size w w1 := btr7 B0 b1
    have Rb_1 := heap_of b1 _ _ _ Rb_0
    have Rz_1 := heap_of b1 _ _ _ Rz_0
    clear b1 B0 Rb_0 Rz_0
    obtain ⟨cb_1_0, cb_1_1⟩ := cell7t Rb_1
    obtain ⟨cz_1_0, cz_1_1⟩ := cell7t Rz_1
    have q0 := fz (k := 0) Rz_1
    have q1 := fz (k := 1) Rz_1
    obtain ⟨E0, E1⟩ := set2_cells Rz_1 (.int .u64 0) (.int .u64 (v : Nat))
    go_wp2
    exact bodyPost_ret (v := .agg #[.int .u64 0, .int .u64 (v : Nat)]) (by simp [results, Tryd.results80, go_sem, E0, E1]) rfl ⟨rfl, set2_below B1 (by first | exact Nat.le_refl _ | omega | (skip; omega)) _ _⟩
  · rw [show pV 1 = 52 by decide] at h1 h2
    have hm : max (52 : Int) 64 = 64 := by decide
    have a1 := and_zero x hx
    have a2 := and_at y 52 4503599627370495 v hy (by decide) (by decide) (by rw [← h2, ← hn]; simp only [Nat.reducePow]; omega)
    have u0 : u = 0 := by rw [← h1]; simp only [Nat.reducePow]; omega
    subst u0
    clear hT h1 h2 hn hx hy
    obtain ⟨Rb_0, Rz_0, B0⟩ := kopn2 w (Obj.cells #[.int .u64 (x : Nat), .int .u64 (y : Nat)] 27) (Obj.cells #[.int .u64 0, .int .u64 0] 27)
    go_enter Tryd.func80, Tryd.ntmps80
    go_wp2_with fail
    refine (kfw 1 (Or.inr (Or.inl rfl)) 52 (by decide) _ (fatB TT.out B0)).mono ?_
    rintro r w1 ⟨rfl, b1⟩
    have B1 : Below w.heap.size w w1 := btr7 B0 b1
    have Rb_1 := heap_of b1 _ _ _ Rb_0
    have Rz_1 := heap_of b1 _ _ _ Rz_0
    clear b1 B0 Rb_0 Rz_0
    obtain ⟨cb_1_0, cb_1_1⟩ := cell7t Rb_1
    obtain ⟨cz_1_0, cz_1_1⟩ := cell7t Rz_1
    have q0 := fz (k := 0) Rz_1
    have q1 := fz (k := 1) Rz_1
    obtain ⟨E0, E1⟩ := set2_cells Rz_1 (.int .u64 0) (.int .u64 (v : Nat))
    go_wp2
    exact bodyPost_ret (v := .agg #[.int .u64 0, .int .u64 (v : Nat)]) (by simp [results, Tryd.results80, go_sem, E0, E1]) rfl ⟨rfl, set2_below B1 (by first | exact Nat.le_refl _ | omega | (skip; omega)) _ _⟩
  · rw [show pV 2 = 10 by decide] at h1 h2
    have hm : max (10 : Int) 64 = 64 := by decide
    have a1 := and_zero x hx
    have a2 := and_at y 10 1023 v hy (by decide) (by decide) (by rw [← h2, ← hn]; simp only [Nat.reducePow]; omega)
    have u0 : u = 0 := by rw [← h1]; simp only [Nat.reducePow]; omega
    subst u0
    clear hT h1 h2 hn hx hy
    obtain ⟨Rb_0, Rz_0, B0⟩ := kopn2 w (Obj.cells #[.int .u64 (x : Nat), .int .u64 (y : Nat)] 27) (Obj.cells #[.int .u64 0, .int .u64 0] 27)
    go_enter Tryd.func80, Tryd.ntmps80
    go_wp2_with fail
    refine (kfw 2 (Or.inr (Or.inr (Or.inl rfl))) 10 (by decide) _ (fatB TT.out B0)).mono ?_
    rintro r w1 ⟨rfl, b1⟩
    have B1 : Below w.heap.size w w1 := btr7 B0 b1
    have Rb_1 := heap_of b1 _ _ _ Rb_0
    have Rz_1 := heap_of b1 _ _ _ Rz_0
    clear b1 B0 Rb_0 Rz_0
    obtain ⟨cb_1_0, cb_1_1⟩ := cell7t Rb_1
    obtain ⟨cz_1_0, cz_1_1⟩ := cell7t Rz_1
    have q0 := fz (k := 0) Rz_1
    have q1 := fz (k := 1) Rz_1
    obtain ⟨E0, E1⟩ := set2_cells Rz_1 (.int .u64 0) (.int .u64 (v : Nat))
    go_wp2
    exact bodyPost_ret (v := .agg #[.int .u64 0, .int .u64 (v : Nat)]) (by simp [results, Tryd.results80, go_sem, E0, E1]) rfl ⟨rfl, set2_below B1 (by first | exact Nat.le_refl _ | omega | (skip; omega)) _ _⟩
  · rw [show pV 3 = 112 by decide] at h1 h2
    have hm : max (112 : Int) 64 = 112 := by decide
    have hm2 : IntKind.u64.wrap (IntKind.u64.wrap 18446744073709551616 - 1) = 18446744073709551615 := by decide
    have a1 := and_at x 48 281474976710655 u hx (by decide) (by decide) (by rw [← h1, ← hn]; simp only [Nat.reducePow]; omega)
    have a2 := and_at y 64 18446744073709551615 v hy (by decide) (by decide) (by rw [← h2, ← hn]; simp only [Nat.reducePow]; omega)
    clear hT h1 h2 hn hx hy
    obtain ⟨Rb_0, Rz_0, B0⟩ := kopn2 w (Obj.cells #[.int .u64 (x : Nat), .int .u64 (y : Nat)] 27) (Obj.cells #[.int .u64 0, .int .u64 0] 27)
    go_enter Tryd.func80, Tryd.ntmps80
    go_wp2_with fail
    refine (kfw 3 (Or.inr (Or.inr (Or.inr rfl))) 112 (by decide) _ (fatB TT.out B0)).mono ?_
    rintro r w1 ⟨rfl, b1⟩
    have B1 : Below w.heap.size w w1 := btr7 B0 b1
    have Rb_1 := heap_of b1 _ _ _ Rb_0
    have Rz_1 := heap_of b1 _ _ _ Rz_0
    clear b1 B0 Rb_0 Rz_0
    obtain ⟨cb_1_0, cb_1_1⟩ := cell7t Rb_1
    obtain ⟨cz_1_0, cz_1_1⟩ := cell7t Rz_1
    have q0 := fz (k := 0) Rz_1
    have q1 := fz (k := 1) Rz_1
    obtain ⟨E0, E1⟩ := set2_cells Rz_1 (.int .u64 (u : Nat)) (.int .u64 (v : Nat))
    go_wp2
    exact bodyPost_ret (v := .agg #[.int .u64 (u : Nat), .int .u64 (v : Nat)]) (by simp [results, Tryd.results80, go_sem, E0, E1]) rfl ⟨rfl, set2_below B1 (by first | exact Nat.le_refl _ | omega | (skip; omega)) _ _⟩

theorem ksign_is (f : Int) (hf : Is4 f) (x y n : Nat) (o : Bool) (hx : x < 18446744073709551616) (hy : y < 18446744073709551616) (hn : y + 18446744073709551616 * x = n) (ho : kN f n = o) (w : World) (hT : FAt w) : Calls Tryd.prog 63 #[.int .u8 f, .agg #[.int .u64 (x : Nat), .int .u64 (y : Nat)]] w fun r w' => r = .returned (.bool o) ∧ Below w.heap.size w w' := by
  have f4 := is4_ok hf
  obtain ⟨_, _, _, _, a5, a6, a7, a8⟩ := pV_lim hf
  have KB := box (kbit_is x y n (wV f) o hx hy hn a5 (by rw [sign_of hf, ho]))
  obtain ⟨q, hq⟩ : ∃ q, fW f = q := ⟨_, rfl⟩
  obtain ⟨k, hk⟩ : ∃ q, wV f = q := ⟨_, rfl⟩
  rw [hq, hk] at a7
  rw [hk] at KB a8
  have TT := box hT
  have HQ := box hq
  clear hT hf hq hk hn hx hy ho a5 a6
  obtain ⟨Rb_0, B0⟩ := kopn1 w (Obj.cells #[.int .u64 (x : Nat), .int .u64 (y : Nat)] 27)
  go_enter Tryd.func63, Tryd.ntmps63
  go_wp2_with fail
  obtain ⟨F, hF1, hF2⟩ := below_fun (w.alloc (Obj.cells #[.int .u64 (x : Nat), .int .u64 (y : Nat)] 27))
  have fb_0 := fun u => cell7 (heap_of (hF1 u) _ _ _ Rb_0) 0 _ rfl
  have fb_1 := fun u => cell7 (heap_of (hF1 u) _ _ _ Rb_0) 1 _ rfl
  have TF : Box (∀ u, FAt (F u)) := box (fun u => fatB TT.out (btr7 B0 (hF1 u)))
  refine wp_region_below F hF2 (by kernel_rfl) (by kernel_rfl) ?_
  repeat first | go_big_quiet_step (first | (go_at_call 77; exact quietF hF1 hF2 (kb_width f q f4.1 f4.2.1 HQ.out _ (TF.out _))) | (go_at_call 85; exact quietF hF1 hF2 (KB.out _)) | fail) | quiet_step (first | (go_at_call 77; exact quietF hF1 hF2 (kb_width f q f4.1 f4.2.1 HQ.out _ (TF.out _))) | (go_at_call 85; exact quietF hF1 hF2 (KB.out _)) | fail)
  refine wpQuiet_nil ?_
  rintro _ ⟨uW, rfl⟩
  have B1 := btr7 B0 (hF1 uW)
  have Rb_1 := heap_of (hF1 uW) _ _ _ Rb_0
  obtain ⟨w1, hw⟩ : ∃ V, F uW = V := ⟨_, rfl⟩
  rw [hw] at B1 Rb_1
  try rw [hw]
  clear hw hF1 hF2 B0 fb_0 fb_1 Rb_0
  clear TF
  clear F
  obtain ⟨cb_1_0, cb_1_1⟩ := cell7t Rb_1
  go_wp2
  go_ret
  exact ⟨rfl, B1⟩

theorem lx_lim {f : Int} (h : Is4 f) : IntKind.i64.wrap (1 - fE f - fP f) = 1 - fE f - fP f ∧ IntKind.i64.wrap (1 - fE f - fP f + 1) = lx f ∧ lx f ≤ 0 ∧ -16494 ≤ lx f ∧ lx f = 1 - fE f - fP f + 1 := by
  rcases h with rfl | rfl | rfl | rfl <;> decide +kernel
theorem kleast_is (f : Int) (hf : Is4 f) (v : Int) (hv : lx f = v) (w : World) (hT : FAt w) : Calls Tryd.prog 81 #[.int .u8 f] w fun r w' => r = .returned (.int .i64 v) ∧ Below w.heap.size w w' := by
  have f4 := is4_ok hf
  obtain ⟨a1, a2, _⟩ := lx_lim hf
  rw [hv] at a2
  obtain ⟨p, hp⟩ : ∃ q, fP f = q := ⟨_, rfl⟩
  obtain ⟨m, hm⟩ : ∃ q, 1 - fE f = q := ⟨_, rfl⟩
  rw [hm, hp] at a1 a2
  have TT := box hT
  have HP := box hp
  have HM := box hm
  clear hT hf hv hp hm
  have B0 : Below w.heap.size w w := (Below.refl _ _)
  go_enter Tryd.func81, Tryd.ntmps81
  go_wp2_with fail
  refine (s_emin f _ m f4.1 f4.2.1 rfl (by rw [if_pos f4.2.2.1]; exact HM.out) _ (fatB TT.out B0)).mono ?_
  rintro r w1 ⟨rfl, b1⟩
  have B1 : Below w.heap.size w w1 := btr7 B0 b1
  clear b1 B0 
  go_wp2_with fail
  refine (kb_precision f p f4.1 f4.2.1 HP.out _ (fatB TT.out B1)).mono ?_
  rintro r w2 ⟨rfl, b2⟩
  have B2 : Below w.heap.size w w2 := btr7 B1 b2
  clear b2 B1 
  go_wp2
  go_ret
  exact ⟨rfl, B2⟩
theorem sk_zero (f : Int) (neg : Bool) (hf : Is4 f) (u v : Nat) (hv : bv7 (eZero f neg) = (u, v)) (w : World) (hT : FAt w) : Calls Tryd.prog 22 #[.int .u8 f, .bool neg] w fun r w' => r = .returned (.agg #[.int .u64 (u : Nat), .int .u64 (v : Nat)]) ∧ Below w.heap.size w w' := by
  have := s_zero f neg hf _ rfl w hT
  rw [hv] at this
  exact this
theorem sk_inf (f : Int) (neg : Bool) (hf : Is4 f) (u v : Nat) (hv : bv7 (eInf f neg) = (u, v)) (w : World) (hT : FAt w) : Calls Tryd.prog 54 #[.int .u8 f, .bool neg] w fun r w' => r = .returned (.agg #[.int .u64 (u : Nat), .int .u64 (v : Nat)]) ∧ Below w.heap.size w w' := by
  have := s_inf f neg hf _ rfl w hT
  rw [hv] at this
  exact this
theorem einf_k {f : Int} (h : Is4 f) : kE f (eInf f false) = oV f ∧ eInf f false < 340282366920938463463374607431768211456 := by
  have := enc_k h false (e := oV f) (t := 0) (Nat.le_refl _) (Nat.two_pow_pos _)
  refine ⟨this.2.2.1, ?_⟩
  have h2 := this.1
  unfold Fit at h2
  have := (fm h).2.2.2.2.2.2
  unfold eInf; omega
theorem sb_of {w W : World} {x y : Value} (b : Below w.heap.size w W) (r : W.heap[w.heap.size]? = some (.cells #[x, y] 27)) : Below w.heap.size w W ∧ W.heap[w.heap.size]? = some (.cells #[x, y] 27) ∧ W.cell? ⟨w.heap.size, 0, none⟩ = some x ∧ W.cell? ⟨w.heap.size, 1, none⟩ = some y := ⟨b, r, cell7 r 0 _ rfl, cell7 r 1 _ rfl⟩
theorem sb_call {w W W' : World} {x y : Value} (h : Below w.heap.size w W ∧ W.heap[w.heap.size]? = some (.cells #[x, y] 27) ∧ W.cell? ⟨w.heap.size, 0, none⟩ = some x ∧ W.cell? ⟨w.heap.size, 1, none⟩ = some y) (b : Below W.heap.size W W') : Below w.heap.size w W' ∧ W'.heap[w.heap.size]? = some (.cells #[x, y] 27) ∧ W'.cell? ⟨w.heap.size, 0, none⟩ = some x ∧ W'.cell? ⟨w.heap.size, 1, none⟩ = some y := sb_of (btr7 h.1 b) (heap_of b _ _ _ h.2.1)
theorem sb_al {w W : World} {x y : Value} (h : Below w.heap.size w W ∧ W.heap[w.heap.size]? = some (.cells #[x, y] 27) ∧ W.cell? ⟨w.heap.size, 0, none⟩ = some x ∧ W.cell? ⟨w.heap.size, 1, none⟩ = some y) (o : Obj) : Below w.heap.size w (W.alloc o) ∧ (W.alloc o).heap[w.heap.size]? = some (.cells #[x, y] 27) ∧ (W.alloc o).cell? ⟨w.heap.size, 0, none⟩ = some x ∧ (W.alloc o).cell? ⟨w.heap.size, 1, none⟩ = some y := sb_call h (bal7 _ _)
theorem sb_dr {w W : World} {x y : Value} (h : Below w.heap.size w W ∧ W.heap[w.heap.size]? = some (.cells #[x, y] 27) ∧ W.cell? ⟨w.heap.size, 0, none⟩ = some x ∧ W.cell? ⟨w.heap.size, 1, none⟩ = some y) : Below w.heap.size w W.drew ∧ W.drew.heap[w.heap.size]? = some (.cells #[x, y] 27) ∧ W.drew.cell? ⟨w.heap.size, 0, none⟩ = some x ∧ W.drew.cell? ⟨w.heap.size, 1, none⟩ = some y := ⟨h.1.drew, h.2⟩
theorem size_dr (W : World) : W.drew.heap.size = W.heap.size := rfl
theorem sb_lt {w W : World} {x y : Value} (h : Below w.heap.size w W ∧ W.heap[w.heap.size]? = some (.cells #[x, y] 27) ∧ W.cell? ⟨w.heap.size, 0, none⟩ = some x ∧ W.cell? ⟨w.heap.size, 1, none⟩ = some y) : w.heap.size < W.heap.size := World.block_lt_of_cell? W _ h.2.2.1
theorem sb_set {w W : World} {x y v : Value} {g k : Nat} (h : Below w.heap.size w W ∧ W.heap[w.heap.size]? = some (.cells #[x, y] 27) ∧ W.cell? ⟨w.heap.size, 0, none⟩ = some x ∧ W.cell? ⟨w.heap.size, 1, none⟩ = some y) (hg : w.heap.size < g) : Below w.heap.size w (W.setCell ⟨g, k, none⟩ v) ∧ (W.setCell ⟨g, k, none⟩ v).heap[w.heap.size]? = some (.cells #[x, y] 27) ∧ (W.setCell ⟨g, k, none⟩ v).cell? ⟨w.heap.size, 0, none⟩ = some x ∧ (W.setCell ⟨g, k, none⟩ v).cell? ⟨w.heap.size, 1, none⟩ = some y :=
  sb_of (h.1.setCell (by show w.heap.size ≤ g; omega) _) (by rw [setCell_other (by omega)]; exact h.2.1)
theorem sb_fat {w W : World} {x y : Value} (t : FAt w) (h : Below w.heap.size w W ∧ W.heap[w.heap.size]? = some (.cells #[x, y] 27) ∧ W.cell? ⟨w.heap.size, 0, none⟩ = some x ∧ W.cell? ⟨w.heap.size, 1, none⟩ = some y) : FAt W := fatB t h.1
def RC (w : World) (x y u v : Nat) (W : World) (g : Nat) : Prop := Below w.heap.size w W ∧ W.heap[w.heap.size]? = some (.cells #[.int .u64 (x : Nat), .int .u64 (y : Nat)] 27) ∧ W.heap[g]? = some (.cells #[.int .u64 (u : Nat), .int .u64 (v : Nat)] 27) ∧ w.heap.size < g
theorem rc_al {w W : World} {x' y' u v : Nat} (h : Below w.heap.size w W ∧ W.heap[w.heap.size]? = some (.cells #[.int .u64 (x' : Nat), .int .u64 (y' : Nat)] 27) ∧ W.cell? ⟨w.heap.size, 0, none⟩ = some (.int .u64 (x' : Nat)) ∧ W.cell? ⟨w.heap.size, 1, none⟩ = some (.int .u64 (y' : Nat))) : RC w x' y' u v (W.alloc (.cells #[.int .u64 (u : Nat), .int .u64 (v : Nat)] 27)) W.heap.size :=
  ⟨(sb_al h _).1, (sb_al h _).2.1, heap_alloc_last _ _, sb_lt h⟩
theorem rc_set {w W : World} {x' y' u v g : Nat} {a b : Value} (h : Below w.heap.size w W ∧ W.heap[w.heap.size]? = some (.cells #[.int .u64 (x' : Nat), .int .u64 (y' : Nat)] 27) ∧ W.cell? ⟨w.heap.size, 0, none⟩ = some (.int .u64 (x' : Nat)) ∧ W.cell? ⟨w.heap.size, 1, none⟩ = some (.int .u64 (y' : Nat))) (hr : W.heap[g]? = some (.cells #[a, b] 27)) (hg : w.heap.size < g) : RC w x' y' u v ((W.setCell ⟨g, 0, none⟩ (.int .u64 (u : Nat))).setCell ⟨g, 1, none⟩ (.int .u64 (v : Nat))) g :=
  ⟨(sb_set (sb_set h hg) hg).1, (sb_set (sb_set h hg) hg).2.1, set2_row hr _ _, hg⟩
theorem gen70 {X : Act → World → Prop} {R : World → Nat → Prop} {t0 t1 t2 t3 t4 t5 t7 t8 t9 t10 t11 t12 t13 t14 t15 t16 t17 t18 t19 t20 t21 t22 t23 t24 t25 t26 t27 t28 t29 t30 t31 t32 t33 t34 t35 t36 t37 t38 t39 t40 t41 t42 t43 t44 t45 t46 t47 t48 t49 t50 t51 t52 t53 t54 t55 t56 t57 t58 t59 t60 t61 t62 t63 t64 t65 t66 t67 t68 t69 : Value} {d : List Deferred} {W : World} {G : Nat}
    (key : ∀ w5 g, R w5 g → X ⟨#[t0, t1, t2, t3, t4, t5, .pointer (some ⟨g, 0, none⟩), t7, t8, t9, t10, t11, t12, t13, t14, t15, t16, t17, t18, t19, t20, t21, t22, t23, t24, t25, t26, t27, t28, t29, t30, t31, t32, t33, t34, t35, t36, t37, t38, t39, t40, t41, t42, t43, t44, t45, t46, t47, t48, t49, t50, t51, t52, t53, t54, t55, t56, t57, t58, t59, t60, t61, t62, t63, t64, t65, t66, t67, t68, t69], d⟩ w5) (r : R W G) : X ⟨#[t0, t1, t2, t3, t4, t5, .pointer (some ⟨G, 0, none⟩), t7, t8, t9, t10, t11, t12, t13, t14, t15, t16, t17, t18, t19, t20, t21, t22, t23, t24, t25, t26, t27, t28, t29, t30, t31, t32, t33, t34, t35, t36, t37, t38, t39, t40, t41, t42, t43, t44, t45, t46, t47, t48, t49, t50, t51, t52, t53, t54, t55, t56, t57, t58, t59, t60, t61, t62, t63, t64, t65, t66, t67, t68, t69], d⟩ W := key W G r
set_option maxRecDepth 100000 in
set_option maxHeartbeats 2000000 in
theorem kclass_walk (f : Int) (x y e o p u v i j : Nat) (qb neg : Bool) (c : Int) (w : World)
    (KE : Box (∀ w, FAt w → Calls Tryd.prog 82 #[.int .u8 f, .agg #[.int .u64 (x : Nat), .int .u64 (y : Nat)]] w fun r w' => r = .returned (.int .u64 (e : Nat)) ∧ Below w.heap.size w w'))
    (KF : Box (∀ w, FAt w → Calls Tryd.prog 80 #[.int .u8 f, .agg #[.int .u64 (x : Nat), .int .u64 (y : Nat)]] w fun r w' => r = .returned (.agg #[.int .u64 (u : Nat), .int .u64 (v : Nat)]) ∧ Below w.heap.size w w'))
    (KI : Box (∀ w, FAt w → Calls Tryd.prog 54 #[.int .u8 f, .bool false] w fun r w' => r = .returned (.agg #[.int .u64 (i : Nat), .int .u64 (j : Nat)]) ∧ Below w.heap.size w w'))
    (KO : Box (∀ w, FAt w → Calls Tryd.prog 82 #[.int .u8 f, .agg #[.int .u64 (i : Nat), .int .u64 (j : Nat)]] w fun r w' => r = .returned (.int .u64 (o : Nat)) ∧ Below w.heap.size w w'))
    (KW : Box (∀ w, FAt w → Calls Tryd.prog 90 #[.int .u8 f] w fun r w' => r = .returned (.int .u64 (p : Nat)) ∧ Below w.heap.size w w'))
    (KB : Box (∀ w, FAt w → Calls Tryd.prog 85 #[.agg #[.int .u64 (u : Nat), .int .u64 (v : Nat)], .int .u64 ((p - 1 : Nat) : Int)] w fun r w' => r = .returned (.bool qb) ∧ Below w.heap.size w w'))
    (KS : Box (∀ w, FAt w → Calls Tryd.prog 63 #[.int .u8 f, .agg #[.int .u64 (x : Nat), .int .u64 (y : Nat)]] w fun r w' => r = .returned (.bool neg) ∧ Below w.heap.size w w'))
    (hp : IntKind.u64.wrap ((p : Int) - 1) = ((p - 1 : Nat) : Int))
    (hc : (((e : Int) == (o : Int)) = true ∧ qb = true ∧ c = 9)
      ∨ (((e : Int) == (o : Int)) = true ∧ qb = false ∧ (((u : Int) == 0) = false ∨ (u = 0 ∧ ((v : Int) == 0) = false)) ∧ c = 8)
      ∨ (((e : Int) == (o : Int)) = true ∧ qb = false ∧ u = 0 ∧ v = 0 ∧ c = if neg then 0 else 7)
      ∨ (((e : Int) == (o : Int)) = false ∧ ((e : Int) != 0) = true ∧ c = if neg then 1 else 6)
      ∨ (((e : Int) == (o : Int)) = false ∧ ((e : Int) != 0) = false ∧ (((u : Int) == 0) = false ∨ (u = 0 ∧ ((v : Int) == 0) = false)) ∧ c = if neg then 2 else 5)
      ∨ (((e : Int) == (o : Int)) = false ∧ ((e : Int) != 0) = false ∧ u = 0 ∧ v = 0 ∧ c = if neg then 3 else 4))
    (hT : FAt w) : Calls Tryd.prog 72 #[.int .u8 f, .agg #[.int .u64 (x : Nat), .int .u64 (y : Nat)]] w fun r w' => r = .returned (.int .u8 c) ∧ Below w.heap.size w w' := by
  have TT := box hT
  clear hT
  obtain ⟨Rb_0, B0⟩ := kopn1 w (Obj.cells #[.int .u64 (x : Nat), .int .u64 (y : Nat)] 27)
  go_enter Tryd.func72, Tryd.ntmps72
  have S0 := sb_of B0 Rb_0
  go_wp2_with fail
  apply cut7
  · intro key0
    have key := box key0
    clear key0
    go_region_held3 (fun W => Below w.heap.size w W ∧ W.heap[w.heap.size]? = some (.cells #[.int .u64 (x : Nat), .int .u64 (y : Nat)] 27) ∧ W.cell? ⟨w.heap.size, 0, none⟩ = some (.int .u64 (x : Nat)) ∧ W.cell? ⟨w.heap.size, 1, none⟩ = some (.int .u64 (y : Nat))) (first | exact sb_dr S0 | assumption | exact sb_al (by assumption) _ | exact sb_al (sb_dr S0) _ | exact sb_set (sb_set (by assumption) (sb_lt (by assumption))) (sb_lt (by assumption)) | exact sb_set (sb_set (by assumption) (Nat.lt_succ_self _)) (Nat.lt_succ_self _))
      (first
      | (go_at_call_of 82 (Value.int IntKind.u64 (x : Int)); refine (KE.out _ (sb_fat TT.out (by assumption))).mono ?_; rintro r w1 ⟨rfl, b1⟩; have s1 := sb_call (by assumption) b1; (first | have hg := heap_of b1 _ _ _ (heap_alloc_last _ _) | have hg := heap_of b1 _ _ _ hg | skip); (try simp only [size_dr, size_al] at hg); (first | (have hq0 := fz (k := 0) hg; have hq1 := fz (k := 1) hg; have hc0 := cell7 hg 0 _ rfl; have hc1 := cell7 hg 1 _ rfl) | skip); clear b1)
      | (go_at_call 80; refine (KF.out _ (sb_fat TT.out (by assumption))).mono ?_; rintro r w2 ⟨rfl, b1⟩; have s1 := sb_call (by assumption) b1; (first | have hg := heap_of b1 _ _ _ (heap_alloc_last _ _) | have hg := heap_of b1 _ _ _ hg | skip); (try simp only [size_dr, size_al] at hg); (first | (have hq0 := fz (k := 0) hg; have hq1 := fz (k := 1) hg; have hc0 := cell7 hg 0 _ rfl; have hc1 := cell7 hg 1 _ rfl) | skip); clear b1)
      | (go_at_call 54; refine (KI.out _ (sb_fat TT.out (by assumption))).mono ?_; rintro r w3 ⟨rfl, b1⟩; have s1 := sb_call (by assumption) b1; (first | have hg := heap_of b1 _ _ _ (heap_alloc_last _ _) | have hg := heap_of b1 _ _ _ hg | skip); (try simp only [size_dr, size_al] at hg); (first | (have hq0 := fz (k := 0) hg; have hq1 := fz (k := 1) hg; have hc0 := cell7 hg 0 _ rfl; have hc1 := cell7 hg 1 _ rfl) | skip); clear b1)
      | (go_at_call_of 82 (Value.int IntKind.u64 (i : Int)); refine (KO.out _ (sb_fat TT.out (by assumption))).mono ?_; rintro r w4 ⟨rfl, b1⟩; have s1 := sb_call (by assumption) b1; (first | have hg := heap_of b1 _ _ _ (heap_alloc_last _ _) | have hg := heap_of b1 _ _ _ hg | skip); (try simp only [size_dr, size_al] at hg); (first | (have hq0 := fz (k := 0) hg; have hq1 := fz (k := 1) hg; have hc0 := cell7 hg 0 _ rfl; have hc1 := cell7 hg 1 _ rfl) | skip); clear b1))
    all_goals
      refine gen70 (R := RC w x y u v) key.out ?_
      first
        | exact rc_al s1
        | exact rc_set s1 hg (sb_lt (by assumption))
        | exact rc_set s1 hg (Nat.lt_succ_self _)
  rintro w5 t ⟨B5, Rb_5, Rt_5, ht⟩
  clear B0 Rb_0 S0
  obtain ⟨cb_5_0, cb_5_1⟩ := cell7t Rb_5
  obtain ⟨ct_5_0, ct_5_1⟩ := cell7t Rt_5
  rcases hc with ⟨h1, rfl, rfl⟩ | ⟨h1, rfl, hz | ⟨rfl, hz⟩, rfl⟩ | ⟨h1, rfl, rfl, rfl, hc⟩ | ⟨h1, h2, hc⟩ | ⟨h1, h2, hz | ⟨rfl, hz⟩, hc⟩ | ⟨h1, h2, rfl, rfl, hc⟩
  · go_wp2_with fail
    obtain ⟨F, hF1, hF2⟩ := below_fun w5
    have fb_0 := fun u => cell7 (heap_of (hF1 u) _ _ _ Rb_5) 0 _ rfl
    have fb_1 := fun u => cell7 (heap_of (hF1 u) _ _ _ Rb_5) 1 _ rfl
    have ft_0 := fun u => cell7 (heap_of (hF1 u) _ _ _ Rt_5) 0 _ rfl
    have ft_1 := fun u => cell7 (heap_of (hF1 u) _ _ _ Rt_5) 1 _ rfl
    have TF : Box (∀ u, FAt (F u)) := box (fun u => fatB TT.out (btr7 B5 (hF1 u)))
    refine wp_region_below F hF2 (by kernel_rfl) (by kernel_rfl) ?_
    repeat first | go_big_quiet_step (first | (go_at_call 90; exact quietF hF1 hF2 (KW.out _ (TF.out _))) | (go_at_call 85; exact quietF hF1 hF2 (KB.out _ (TF.out _))) | fail) | quiet_step (first | (go_at_call 90; exact quietF hF1 hF2 (KW.out _ (TF.out _))) | (go_at_call 85; exact quietF hF1 hF2 (KB.out _ (TF.out _))) | fail)
    refine wpQuiet_nil ?_
    rintro _ ⟨uW, rfl⟩
    have B6 := btr7 B5 (hF1 uW)
    have Rb_6 := heap_of (hF1 uW) _ _ _ Rb_5
    have Rt_6 := heap_of (hF1 uW) _ _ _ Rt_5
    obtain ⟨w6, hw⟩ : ∃ V, F uW = V := ⟨_, rfl⟩
    rw [hw] at B6 Rb_6 Rt_6
    try rw [hw]
    clear hw hF1 hF2 B5 fb_0 fb_1 ft_0 ft_1 Rb_5 cb_5_0 cb_5_1 Rt_5 ct_5_0 ct_5_1
    clear TF
    clear F
    obtain ⟨cb_6_0, cb_6_1⟩ := cell7t Rb_6
    obtain ⟨ct_6_0, ct_6_1⟩ := cell7t Rt_6
    go_wp2
    go_ret
    exact ⟨rfl, B6⟩
  · go_wp2_with fail
    obtain ⟨F, hF1, hF2⟩ := below_fun w5
    have fb_0 := fun u => cell7 (heap_of (hF1 u) _ _ _ Rb_5) 0 _ rfl
    have fb_1 := fun u => cell7 (heap_of (hF1 u) _ _ _ Rb_5) 1 _ rfl
    have ft_0 := fun u => cell7 (heap_of (hF1 u) _ _ _ Rt_5) 0 _ rfl
    have ft_1 := fun u => cell7 (heap_of (hF1 u) _ _ _ Rt_5) 1 _ rfl
    have TF : Box (∀ u, FAt (F u)) := box (fun u => fatB TT.out (btr7 B5 (hF1 u)))
    refine wp_region_below F hF2 (by kernel_rfl) (by kernel_rfl) ?_
    repeat first | go_big_quiet_step (first | (go_at_call 90; exact quietF hF1 hF2 (KW.out _ (TF.out _))) | (go_at_call 85; exact quietF hF1 hF2 (KB.out _ (TF.out _))) | fail) | quiet_step (first | (go_at_call 90; exact quietF hF1 hF2 (KW.out _ (TF.out _))) | (go_at_call 85; exact quietF hF1 hF2 (KB.out _ (TF.out _))) | fail)
    refine wpQuiet_nil ?_
    rintro _ ⟨uW, rfl⟩
    have B6 := btr7 B5 (hF1 uW)
    have Rb_6 := heap_of (hF1 uW) _ _ _ Rb_5
    have Rt_6 := heap_of (hF1 uW) _ _ _ Rt_5
    obtain ⟨w6, hw⟩ : ∃ V, F uW = V := ⟨_, rfl⟩
    rw [hw] at B6 Rb_6 Rt_6
    try rw [hw]
    clear hw hF1 hF2 B5 fb_0 fb_1 ft_0 ft_1 Rb_5 cb_5_0 cb_5_1 Rt_5 ct_5_0 ct_5_1
    clear TF
    clear F
    obtain ⟨cb_6_0, cb_6_1⟩ := cell7t Rb_6
    obtain ⟨ct_6_0, ct_6_1⟩ := cell7t Rt_6
    go_wp2
    go_ret
    exact ⟨rfl, B6⟩
  · go_wp2_with fail
    obtain ⟨F, hF1, hF2⟩ := below_fun w5
    have fb_0 := fun u => cell7 (heap_of (hF1 u) _ _ _ Rb_5) 0 _ rfl
    have fb_1 := fun u => cell7 (heap_of (hF1 u) _ _ _ Rb_5) 1 _ rfl
    have ft_0 := fun u => cell7 (heap_of (hF1 u) _ _ _ Rt_5) 0 _ rfl
    have ft_1 := fun u => cell7 (heap_of (hF1 u) _ _ _ Rt_5) 1 _ rfl
    have TF : Box (∀ u, FAt (F u)) := box (fun u => fatB TT.out (btr7 B5 (hF1 u)))
    refine wp_region_below F hF2 (by kernel_rfl) (by kernel_rfl) ?_
    repeat first | go_big_quiet_step (first | (go_at_call 90; exact quietF hF1 hF2 (KW.out _ (TF.out _))) | (go_at_call 85; exact quietF hF1 hF2 (KB.out _ (TF.out _))) | fail) | quiet_step (first | (go_at_call 90; exact quietF hF1 hF2 (KW.out _ (TF.out _))) | (go_at_call 85; exact quietF hF1 hF2 (KB.out _ (TF.out _))) | fail)
    refine wpQuiet_nil ?_
    rintro _ ⟨uW, rfl⟩
    have B6 := btr7 B5 (hF1 uW)
    have Rb_6 := heap_of (hF1 uW) _ _ _ Rb_5
    have Rt_6 := heap_of (hF1 uW) _ _ _ Rt_5
    obtain ⟨w6, hw⟩ : ∃ V, F uW = V := ⟨_, rfl⟩
    rw [hw] at B6 Rb_6 Rt_6
    try rw [hw]
    clear hw hF1 hF2 B5 fb_0 fb_1 ft_0 ft_1 Rb_5 cb_5_0 cb_5_1 Rt_5 ct_5_0 ct_5_1
    clear TF
    clear F
    obtain ⟨cb_6_0, cb_6_1⟩ := cell7t Rb_6
    obtain ⟨ct_6_0, ct_6_1⟩ := cell7t Rt_6
    go_wp2
    go_ret
    exact ⟨rfl, B6⟩
  · go_wp2_with fail
    obtain ⟨F, hF1, hF2⟩ := below_fun w5
    have fb_0 := fun u => cell7 (heap_of (hF1 u) _ _ _ Rb_5) 0 _ rfl
    have fb_1 := fun u => cell7 (heap_of (hF1 u) _ _ _ Rb_5) 1 _ rfl
    have ft_0 := fun u => cell7 (heap_of (hF1 u) _ _ _ Rt_5) 0 _ rfl
    have ft_1 := fun u => cell7 (heap_of (hF1 u) _ _ _ Rt_5) 1 _ rfl
    have TF : Box (∀ u, FAt (F u)) := box (fun u => fatB TT.out (btr7 B5 (hF1 u)))
    refine wp_region_below F hF2 (by kernel_rfl) (by kernel_rfl) ?_
    repeat first | go_big_quiet_step (first | (go_at_call 90; exact quietF hF1 hF2 (KW.out _ (TF.out _))) | (go_at_call 85; exact quietF hF1 hF2 (KB.out _ (TF.out _))) | fail) | quiet_step (first | (go_at_call 90; exact quietF hF1 hF2 (KW.out _ (TF.out _))) | (go_at_call 85; exact quietF hF1 hF2 (KB.out _ (TF.out _))) | fail)
    refine wpQuiet_nil ?_
    rintro _ ⟨uW, rfl⟩
    have B6 := btr7 B5 (hF1 uW)
    have Rb_6 := heap_of (hF1 uW) _ _ _ Rb_5
    have Rt_6 := heap_of (hF1 uW) _ _ _ Rt_5
    obtain ⟨w6, hw⟩ : ∃ V, F uW = V := ⟨_, rfl⟩
    rw [hw] at B6 Rb_6 Rt_6
    try rw [hw]
    clear hw hF1 hF2 B5 fb_0 fb_1 ft_0 ft_1 Rb_5 cb_5_0 cb_5_1 Rt_5 ct_5_0 ct_5_1
    clear TF
    clear F
    obtain ⟨cb_6_0, cb_6_1⟩ := cell7t Rb_6
    obtain ⟨ct_6_0, ct_6_1⟩ := cell7t Rt_6
    go_wp2_with fail
    refine (KS.out _ (fatB TT.out B6)).mono ?_
    rintro r w7 ⟨rfl, b7⟩
    have B7 : Below w.heap.size w w7 := btr7 B6 b7
    have Rb_7 := heap_of b7 _ _ _ Rb_6
    have Rt_7 := heap_of b7 _ _ _ Rt_6
    clear b7 B6 Rb_6 cb_6_0 cb_6_1 Rt_6 ct_6_0 ct_6_1
    obtain ⟨cb_7_0, cb_7_1⟩ := cell7t Rb_7
    obtain ⟨ct_7_0, ct_7_1⟩ := cell7t Rt_7
    cases neg
    · subst hc
      go_wp2
      go_ret
      exact ⟨rfl, B7⟩
    · subst hc
      go_wp2
      go_ret
      exact ⟨rfl, B7⟩
  · go_wp2_with fail
    obtain ⟨F, hF1, hF2⟩ := below_fun w5
    have fb_0 := fun u => cell7 (heap_of (hF1 u) _ _ _ Rb_5) 0 _ rfl
    have fb_1 := fun u => cell7 (heap_of (hF1 u) _ _ _ Rb_5) 1 _ rfl
    have ft_0 := fun u => cell7 (heap_of (hF1 u) _ _ _ Rt_5) 0 _ rfl
    have ft_1 := fun u => cell7 (heap_of (hF1 u) _ _ _ Rt_5) 1 _ rfl
    have TF : Box (∀ u, FAt (F u)) := box (fun u => fatB TT.out (btr7 B5 (hF1 u)))
    refine wp_region_below F hF2 (by kernel_rfl) (by kernel_rfl) ?_
    repeat first | go_big_quiet_step (first | (go_at_call 90; exact quietF hF1 hF2 (KW.out _ (TF.out _))) | (go_at_call 85; exact quietF hF1 hF2 (KB.out _ (TF.out _))) | fail) | quiet_step (first | (go_at_call 90; exact quietF hF1 hF2 (KW.out _ (TF.out _))) | (go_at_call 85; exact quietF hF1 hF2 (KB.out _ (TF.out _))) | fail)
    refine wpQuiet_nil ?_
    rintro _ ⟨uW, rfl⟩
    have B6 := btr7 B5 (hF1 uW)
    have Rb_6 := heap_of (hF1 uW) _ _ _ Rb_5
    have Rt_6 := heap_of (hF1 uW) _ _ _ Rt_5
    obtain ⟨w6, hw⟩ : ∃ V, F uW = V := ⟨_, rfl⟩
    rw [hw] at B6 Rb_6 Rt_6
    try rw [hw]
    clear hw hF1 hF2 B5 fb_0 fb_1 ft_0 ft_1 Rb_5 cb_5_0 cb_5_1 Rt_5 ct_5_0 ct_5_1
    clear TF
    clear F
    obtain ⟨cb_6_0, cb_6_1⟩ := cell7t Rb_6
    obtain ⟨ct_6_0, ct_6_1⟩ := cell7t Rt_6
    go_wp2_with fail
    refine (KS.out _ (fatB TT.out B6)).mono ?_
    rintro r w7 ⟨rfl, b7⟩
    have B7 : Below w.heap.size w w7 := btr7 B6 b7
    have Rb_7 := heap_of b7 _ _ _ Rb_6
    have Rt_7 := heap_of b7 _ _ _ Rt_6
    clear b7 B6 Rb_6 cb_6_0 cb_6_1 Rt_6 ct_6_0 ct_6_1
    obtain ⟨cb_7_0, cb_7_1⟩ := cell7t Rb_7
    obtain ⟨ct_7_0, ct_7_1⟩ := cell7t Rt_7
    cases neg
    · subst hc
      go_wp2
      go_ret
      exact ⟨rfl, B7⟩
    · subst hc
      go_wp2
      go_ret
      exact ⟨rfl, B7⟩
  · go_wp2_with fail
    obtain ⟨F, hF1, hF2⟩ := below_fun w5
    have fb_0 := fun u => cell7 (heap_of (hF1 u) _ _ _ Rb_5) 0 _ rfl
    have fb_1 := fun u => cell7 (heap_of (hF1 u) _ _ _ Rb_5) 1 _ rfl
    have ft_0 := fun u => cell7 (heap_of (hF1 u) _ _ _ Rt_5) 0 _ rfl
    have ft_1 := fun u => cell7 (heap_of (hF1 u) _ _ _ Rt_5) 1 _ rfl
    have TF : Box (∀ u, FAt (F u)) := box (fun u => fatB TT.out (btr7 B5 (hF1 u)))
    refine wp_region_below F hF2 (by kernel_rfl) (by kernel_rfl) ?_
    repeat first | go_big_quiet_step (first | (go_at_call 90; exact quietF hF1 hF2 (KW.out _ (TF.out _))) | (go_at_call 85; exact quietF hF1 hF2 (KB.out _ (TF.out _))) | fail) | quiet_step (first | (go_at_call 90; exact quietF hF1 hF2 (KW.out _ (TF.out _))) | (go_at_call 85; exact quietF hF1 hF2 (KB.out _ (TF.out _))) | fail)
    refine wpQuiet_nil ?_
    rintro _ ⟨uW, rfl⟩
    have B6 := btr7 B5 (hF1 uW)
    have Rb_6 := heap_of (hF1 uW) _ _ _ Rb_5
    have Rt_6 := heap_of (hF1 uW) _ _ _ Rt_5
    obtain ⟨w6, hw⟩ : ∃ V, F uW = V := ⟨_, rfl⟩
    rw [hw] at B6 Rb_6 Rt_6
    try rw [hw]
    clear hw hF1 hF2 B5 fb_0 fb_1 ft_0 ft_1 Rb_5 cb_5_0 cb_5_1 Rt_5 ct_5_0 ct_5_1
    clear TF
    clear F
    obtain ⟨cb_6_0, cb_6_1⟩ := cell7t Rb_6
    obtain ⟨ct_6_0, ct_6_1⟩ := cell7t Rt_6
    go_wp2_with fail
    refine (KS.out _ (fatB TT.out B6)).mono ?_
    rintro r w7 ⟨rfl, b7⟩
    have B7 : Below w.heap.size w w7 := btr7 B6 b7
    have Rb_7 := heap_of b7 _ _ _ Rb_6
    have Rt_7 := heap_of b7 _ _ _ Rt_6
    clear b7 B6 Rb_6 cb_6_0 cb_6_1 Rt_6 ct_6_0 ct_6_1
    obtain ⟨cb_7_0, cb_7_1⟩ := cell7t Rb_7
    obtain ⟨ct_7_0, ct_7_1⟩ := cell7t Rt_7
    cases neg
    · subst hc
      go_wp2
      go_ret
      exact ⟨rfl, B7⟩
    · subst hc
      go_wp2
      go_ret
      exact ⟨rfl, B7⟩
  · go_wp2_with fail
    obtain ⟨F, hF1, hF2⟩ := below_fun w5
    have fb_0 := fun u => cell7 (heap_of (hF1 u) _ _ _ Rb_5) 0 _ rfl
    have fb_1 := fun u => cell7 (heap_of (hF1 u) _ _ _ Rb_5) 1 _ rfl
    have ft_0 := fun u => cell7 (heap_of (hF1 u) _ _ _ Rt_5) 0 _ rfl
    have ft_1 := fun u => cell7 (heap_of (hF1 u) _ _ _ Rt_5) 1 _ rfl
    have TF : Box (∀ u, FAt (F u)) := box (fun u => fatB TT.out (btr7 B5 (hF1 u)))
    refine wp_region_below F hF2 (by kernel_rfl) (by kernel_rfl) ?_
    repeat first | go_big_quiet_step (first | (go_at_call 90; exact quietF hF1 hF2 (KW.out _ (TF.out _))) | (go_at_call 85; exact quietF hF1 hF2 (KB.out _ (TF.out _))) | fail) | quiet_step (first | (go_at_call 90; exact quietF hF1 hF2 (KW.out _ (TF.out _))) | (go_at_call 85; exact quietF hF1 hF2 (KB.out _ (TF.out _))) | fail)
    refine wpQuiet_nil ?_
    rintro _ ⟨uW, rfl⟩
    have B6 := btr7 B5 (hF1 uW)
    have Rb_6 := heap_of (hF1 uW) _ _ _ Rb_5
    have Rt_6 := heap_of (hF1 uW) _ _ _ Rt_5
    obtain ⟨w6, hw⟩ : ∃ V, F uW = V := ⟨_, rfl⟩
    rw [hw] at B6 Rb_6 Rt_6
    try rw [hw]
    clear hw hF1 hF2 B5 fb_0 fb_1 ft_0 ft_1 Rb_5 cb_5_0 cb_5_1 Rt_5 ct_5_0 ct_5_1
    clear TF
    clear F
    obtain ⟨cb_6_0, cb_6_1⟩ := cell7t Rb_6
    obtain ⟨ct_6_0, ct_6_1⟩ := cell7t Rt_6
    go_wp2_with fail
    refine (KS.out _ (fatB TT.out B6)).mono ?_
    rintro r w7 ⟨rfl, b7⟩
    have B7 : Below w.heap.size w w7 := btr7 B6 b7
    have Rb_7 := heap_of b7 _ _ _ Rb_6
    have Rt_7 := heap_of b7 _ _ _ Rt_6
    clear b7 B6 Rb_6 cb_6_0 cb_6_1 Rt_6 ct_6_0 ct_6_1
    obtain ⟨cb_7_0, cb_7_1⟩ := cell7t Rb_7
    obtain ⟨ct_7_0, ct_7_1⟩ := cell7t Rt_7
    cases neg
    · subst hc
      go_wp2
      go_ret
      exact ⟨rfl, B7⟩
    · subst hc
      go_wp2
      go_ret
      exact ⟨rfl, B7⟩
  · go_wp2_with fail
    obtain ⟨F, hF1, hF2⟩ := below_fun w5
    have fb_0 := fun u => cell7 (heap_of (hF1 u) _ _ _ Rb_5) 0 _ rfl
    have fb_1 := fun u => cell7 (heap_of (hF1 u) _ _ _ Rb_5) 1 _ rfl
    have ft_0 := fun u => cell7 (heap_of (hF1 u) _ _ _ Rt_5) 0 _ rfl
    have ft_1 := fun u => cell7 (heap_of (hF1 u) _ _ _ Rt_5) 1 _ rfl
    have TF : Box (∀ u, FAt (F u)) := box (fun u => fatB TT.out (btr7 B5 (hF1 u)))
    refine wp_region_below F hF2 (by kernel_rfl) (by kernel_rfl) ?_
    repeat first | go_big_quiet_step (first | (go_at_call 90; exact quietF hF1 hF2 (KW.out _ (TF.out _))) | (go_at_call 85; exact quietF hF1 hF2 (KB.out _ (TF.out _))) | fail) | quiet_step (first | (go_at_call 90; exact quietF hF1 hF2 (KW.out _ (TF.out _))) | (go_at_call 85; exact quietF hF1 hF2 (KB.out _ (TF.out _))) | fail)
    refine wpQuiet_nil ?_
    rintro _ ⟨uW, rfl⟩
    have B6 := btr7 B5 (hF1 uW)
    have Rb_6 := heap_of (hF1 uW) _ _ _ Rb_5
    have Rt_6 := heap_of (hF1 uW) _ _ _ Rt_5
    obtain ⟨w6, hw⟩ : ∃ V, F uW = V := ⟨_, rfl⟩
    rw [hw] at B6 Rb_6 Rt_6
    try rw [hw]
    clear hw hF1 hF2 B5 fb_0 fb_1 ft_0 ft_1 Rb_5 cb_5_0 cb_5_1 Rt_5 ct_5_0 ct_5_1
    clear TF
    clear F
    obtain ⟨cb_6_0, cb_6_1⟩ := cell7t Rb_6
    obtain ⟨ct_6_0, ct_6_1⟩ := cell7t Rt_6
    go_wp2_with fail
    refine (KS.out _ (fatB TT.out B6)).mono ?_
    rintro r w7 ⟨rfl, b7⟩
    have B7 : Below w.heap.size w w7 := btr7 B6 b7
    have Rb_7 := heap_of b7 _ _ _ Rb_6
    have Rt_7 := heap_of b7 _ _ _ Rt_6
    clear b7 B6 Rb_6 cb_6_0 cb_6_1 Rt_6 ct_6_0 ct_6_1
    obtain ⟨cb_7_0, cb_7_1⟩ := cell7t Rb_7
    obtain ⟨ct_7_0, ct_7_1⟩ := cell7t Rt_7
    cases neg
    · subst hc
      go_wp2
      go_ret
      exact ⟨rfl, B7⟩
    · subst hc
      go_wp2
      go_ret
      exact ⟨rfl, B7⟩
theorem bv_lt {n u v : Nat} (hn : n < 340282366920938463463374607431768211456) (h : bv7 n = (u, v)) : u < 18446744073709551616 ∧ v < 18446744073709551616 ∧ v + 18446744073709551616 * u = n := by
  unfold bv7 at h
  injection h with h1 h2
  omega
theorem kclass_is (f : Int) (hf : Is4 f) (x y n c : Nat) (hx : x < 18446744073709551616) (hy : y < 18446744073709551616) (hn : y + 18446744073709551616 * x = n) (hc : kC f n = c) (w : World) (hT : FAt w) : Calls Tryd.prog 72 #[.int .u8 f, .agg #[.int .u64 (x : Nat), .int .u64 (y : Nat)]] w fun r w' => r = .returned (.int .u8 (c : Nat)) ∧ Below w.heap.size w w' := by
  obtain ⟨u, v, huv⟩ : ∃ u v, bv7 (kT f n) = (u, v) := ⟨_, _, rfl⟩
  obtain ⟨i, j, hij⟩ : ∃ u v, bv7 (eInf f false) = (u, v) := ⟨_, _, rfl⟩
  obtain ⟨f1, f2, f3, f4, f5, f6, f7⟩ := fm hf
  have tl := kT_lt (f := f) n
  have tn : kT f n < 340282366920938463463374607431768211456 := by rw [f1, Nat.add_mul] at f7; omega
  obtain ⟨u1, v1, t1⟩ := bv_lt tn huv
  obtain ⟨i1, j1, e1⟩ := bv_lt (einf_k hf).2 hij
  obtain ⟨_, _, _, p4, _⟩ := pV_lim hf
  have p1 : IntKind.u64.wrap ((pV f : Int) - 1) = ((pV f - 1 : Nat) : Int) := by rcases hf with rfl | rfl | rfl | rfl <;> decide +kernel
  refine kclass_walk f x y (kE f n) (oV f) (pV f) u v i j (decide (2 ^ (pV f - 1) ≤ kT f n)) (kN f n) _ w
    (box (fun w hT => kfield_is f hf x y n _ hx hy hn rfl w hT)) (box (fun w hT => kfraction_is f hf x y n u v hx hy hn huv w hT)) (box (fun w hT => sk_inf f false hf i j hij w hT))
    (box (fun w hT => kfield_is f hf i j _ _ i1 j1 e1 (einf_k hf).1 w hT)) (box (fun w hT => kfw f hf _ rfl w hT)) (box (fun w _ => kbit_is u v _ (pV f - 1) _ u1 v1 t1 (by omega) (quiet_of hf _ tl) w))
    (box (fun w hT => ksign_is f hf x y n _ hx hy hn rfl w hT)) p1 ?_ hT
  have z1 : (kT f n = 0 → u = 0 ∧ v = 0) ∧ (kT f n ≠ 0 → (((u : Int) == 0) = false ∨ (u = 0 ∧ ((v : Int) == 0) = false))) := by
    refine ⟨fun h => by omega, fun h => ?_⟩
    by_cases hu : u = 0
    · refine Or.inr ⟨hu, ?_⟩; simp; omega
    · refine Or.inl ?_; simp; omega
  subst hc
  unfold kC
  by_cases c1 : kE f n = oV f
  · have b1 : ((kE f n : Int) == (oV f : Int)) = true := by rw [c1]; simp
    rw [if_pos c1]
    by_cases c2 : kT f n = 0
    · rw [if_pos c2]
      refine Or.inr (Or.inr (Or.inl ⟨b1, ?_, (z1.1 c2).1, (z1.1 c2).2, ?_⟩))
      · rw [c2]; exact decide_eq_false (by omega)
      · cases kN f n <;> rfl
    · rw [if_neg c2]
      by_cases c3 : 2 ^ (pV f - 1) ≤ kT f n
      · rw [if_pos c3]
        exact Or.inl ⟨b1, decide_eq_true c3, rfl⟩
      · rw [if_neg c3]
        exact Or.inr (Or.inl ⟨b1, decide_eq_false c3, z1.2 c2, rfl⟩)
  · have b1 : ((kE f n : Int) == (oV f : Int)) = false := by simp; omega
    rw [if_neg c1]
    by_cases c2 : kE f n = 0
    · have b2 : ((kE f n : Int) != 0) = false := by rw [c2]; rfl
      rw [if_neg (by simpa using c2)]
      by_cases c3 : kT f n = 0
      · rw [if_neg (by simpa using c3)]
        refine Or.inr (Or.inr (Or.inr (Or.inr (Or.inr ⟨b1, b2, (z1.1 c3).1, (z1.1 c3).2, ?_⟩))))
        cases kN f n <;> rfl
      · rw [if_pos (by simpa using c3)]
        refine Or.inr (Or.inr (Or.inr (Or.inr (Or.inl ⟨b1, b2, z1.2 c3, ?_⟩))))
        cases kN f n <;> rfl
    · have b2 : ((kE f n : Int) != 0) = true := by simp; omega
      rw [if_pos (by simpa using c2)]
      refine Or.inr (Or.inr (Or.inr (Or.inl ⟨b1, b2, ?_⟩)))
      cases kN f n <;> rfl

theorem fit_iff {f : Int} (hf : Is4 f) (n : Nat) : ((blen n : Nat) : Int) ≤ fW f ↔ Fit f n := by
  have h := blen_iff n (wV f + 1)
  have e : fW f = ((wV f + 1 : Nat) : Int) := by rcases hf with rfl | rfl | rfl | rfl <;> decide +kernel
  unfold Fit
  rw [e, Nat.pow_succ, Nat.mul_comm] at *
  omega
def okB (f : Int) (n : Nat) : Bool := decide (f ≤ 3 ∧ n < 2 * 2 ^ wV f)
theorem okB_fits (f : Int) (h0 : 0 ≤ f) (x y n : Nat) (hn : y + 18446744073709551616 * x = n) : fitsB f (x, y) = okB f n := by
  unfold fitsB okB
  simp only []
  rw [hn]
  by_cases h : f ≤ 3
  · have k := fit_iff (is4_of h0 h) n
    by_cases h2 : Fit f n
    · rw [decide_eq_true h, decide_eq_true (k.2 h2), decide_eq_true ⟨h, h2⟩]; rfl
    · rw [decide_eq_false (fun a => h2 (k.1 a)), Bool.and_false]
      exact (decide_eq_false (fun a : f ≤ 3 ∧ n < 2 * 2 ^ wV f => h2 a.2)).symm
  · rw [decide_eq_false h, Bool.false_and]
    exact (decide_eq_false (fun a : f ≤ 3 ∧ n < 2 * 2 ^ wV f => h a.1)).symm
theorem sk_fits (f : Int) (x y n : Nat) (o : Bool) (h0 : 0 ≤ f) (h1 : f ≤ 255) (hx : x < 18446744073709551616) (hy : y < 18446744073709551616) (hn : y + 18446744073709551616 * x = n) (ho : okB f n = o) (w : World) (hT : FAt w) : Calls Tryd.prog 58 #[.int .u8 f, .agg #[.int .u64 (x : Nat), .int .u64 (y : Nat)]] w fun r w' => r = .returned (.bool o) ∧ Below w.heap.size w w' :=
  s_fits_is f (x, y) o h0 h1 hx hy (by rw [okB_fits f h0 x y n hn, ho]) w hT
theorem kClass_yes (f : Int) (hf : Is4 f) (x y n c : Nat) (hx : x < 18446744073709551616) (hy : y < 18446744073709551616) (hn : y + 18446744073709551616 * x = n) (ho : okB f n = true) (hc : kC f n = c) (w : World) (hT : FAt w) : Calls Tryd.prog 42 #[.int .u8 f, .agg #[.int .u64 (x : Nat), .int .u64 (y : Nat)]] w fun r w' => r = .returned (.tuple #[.int .u8 (c : Nat), .int .i64 0]) ∧ Below w.heap.size w w' := by
  have f4 := is4_ok hf
  have K1 := box (sk_fits f x y n true f4.1 f4.2.1 hx hy hn ho)
  have K2 := box (kclass_is f hf x y n c hx hy hn hc)
  have TT := box hT
  clear hT hf hx hy hn ho hc
  obtain ⟨Rb_0, B0⟩ := kopn1 w (Obj.cells #[.int .u64 (x : Nat), .int .u64 (y : Nat)] 27)
  go_enter Tryd.func42, Tryd.ntmps42
  go_wp2_with fail
  refine (K1.out _ (fatB TT.out B0)).mono ?_
  rintro r w1 ⟨rfl, b1⟩
  have B1 : Below w.heap.size w w1 := btr7 B0 b1
  have Rb_1 := heap_of b1 _ _ _ Rb_0
  clear b1 B0 Rb_0
  obtain ⟨cb_1_0, cb_1_1⟩ := cell7t Rb_1
  go_wp2_with fail
  refine (K2.out _ (fatB TT.out B1)).mono ?_
  rintro r w2 ⟨rfl, b2⟩
  have B2 : Below w.heap.size w w2 := btr7 B1 b2
  have Rb_2 := heap_of b2 _ _ _ Rb_1
  clear b2 B1 Rb_1 cb_1_0 cb_1_1
  obtain ⟨cb_2_0, cb_2_1⟩ := cell7t Rb_2
  go_wp2
  go_ret2
  exact ⟨rfl, B2⟩
theorem kClass_no (f : Int) (h0 : 0 ≤ f) (h1 : f ≤ 255) (x y n : Nat) (hx : x < 18446744073709551616) (hy : y < 18446744073709551616) (hn : y + 18446744073709551616 * x = n) (ho : okB f n = false) (w : World) (hT : FAt w) : Calls Tryd.prog 42 #[.int .u8 f, .agg #[.int .u64 (x : Nat), .int .u64 (y : Nat)]] w fun r w' => r = .returned (.tuple #[.int .u8 0, .int .i64 2]) ∧ Below w.heap.size w w' := by
  have K1 := box (sk_fits f x y n false h0 h1 hx hy hn ho)
  have TT := box hT
  clear hT hx hy hn ho
  obtain ⟨Rb_0, B0⟩ := kopn1 w (Obj.cells #[.int .u64 (x : Nat), .int .u64 (y : Nat)] 27)
  go_enter Tryd.func42, Tryd.ntmps42
  go_wp2_with fail
  refine (K1.out _ (fatB TT.out B0)).mono ?_
  rintro r w1 ⟨rfl, b1⟩
  have B1 : Below w.heap.size w w1 := btr7 B0 b1
  have Rb_1 := heap_of b1 _ _ _ Rb_0
  clear b1 B0 Rb_0
  obtain ⟨cb_1_0, cb_1_1⟩ := cell7t Rb_1
  go_wp2
  go_ret2
  exact ⟨rfl, B1⟩

theorem kSign_yes (f : Int) (hf : Is4 f) (x y n : Nat) (o : Bool) (hx : x < 18446744073709551616) (hy : y < 18446744073709551616) (hn : y + 18446744073709551616 * x = n) (ho : okB f n = true) (hc : kN f n = o) (w : World) (hT : FAt w) : Calls Tryd.prog 36 #[.int .u8 f, .agg #[.int .u64 (x : Nat), .int .u64 (y : Nat)]] w fun r w' => r = .returned (.bool o) ∧ Below w.heap.size w w' := by
  have f4 := is4_ok hf
  have K1 := box (sk_fits f x y n true f4.1 f4.2.1 hx hy hn ho)
  have K2 := box (ksign_is f hf x y n o hx hy hn hc)
  have TT := box hT
  clear hT hf hx hy hn ho hc
  obtain ⟨Rb_0, B0⟩ := kopn1 w (Obj.cells #[.int .u64 (x : Nat), .int .u64 (y : Nat)] 27)
  go_enter Tryd.func36, Tryd.ntmps36
  go_wp2_with fail
  refine (K1.out _ (fatB TT.out B0)).mono ?_
  rintro r w1 ⟨rfl, b1⟩
  have B1 : Below w.heap.size w w1 := btr7 B0 b1
  have Rb_1 := heap_of b1 _ _ _ Rb_0
  clear b1 B0 Rb_0
  obtain ⟨cb_1_0, cb_1_1⟩ := cell7t Rb_1
  go_wp2_with fail
  refine (K2.out _ (fatB TT.out B1)).mono ?_
  rintro r w2 ⟨rfl, b2⟩
  have B2 : Below w.heap.size w w2 := btr7 B1 b2
  have Rb_2 := heap_of b2 _ _ _ Rb_1
  clear b2 B1 Rb_1 cb_1_0 cb_1_1
  obtain ⟨cb_2_0, cb_2_1⟩ := cell7t Rb_2
  go_wp2
  go_ret
  exact ⟨rfl, B2⟩
def qt (f : Int) (n : Nat) : Nat := if kC f n = 8 then n + 2 ^ (pV f - 1) else n
end Go.Proofs.YtpdehipeakcaiaaDoor
