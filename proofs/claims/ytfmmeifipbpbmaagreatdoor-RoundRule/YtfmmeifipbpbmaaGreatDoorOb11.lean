/-
  What the functions that the statement reaches return: part 11 (K1, K2, K3, K4, K5, K6, K7, KA, KF, KU, V1, V2, V4).
-/
import Derived.Lib.MinMax
import Derived.Deep.RegionHeld3
import Derived.Laws.CopyRow
import Derived.Test.YtfmmeifipbpbmaaGreatDoorOb10
namespace Go.Proofs.YtfmmeifipbpbmaaGreatDoor
set_option maxRecDepth 100000
open Go.RowKit WMath

/-- The sign bit, the exponent field and the fraction of a number of bits. -/
def kN (f : Int) (n : Nat) : Bool := decide (n / 2 ^ wV f % 2 = 1)
def kE (f : Int) (n : Nat) : Nat := n / 2 ^ pV f % (oV f + 1)
def kT (f : Int) (n : Nat) : Nat := n % 2 ^ pV f
def kC (f : Int) (n : Nat) : Nat :=
  if kE f n = oV f then (if kT f n = 0 then (if kN f n then 0 else 7) else if 2 ^ (pV f - 1) ≤ kT f n then 9 else 8)
  else if kE f n ≠ 0 then (if kN f n then 1 else 6)
  else if kT f n ≠ 0 then (if kN f n then 2 else 5) else (if kN f n then 3 else 4)
def lx (f : Int) : Int := 1 - fE f - pV f
def kS (f : Int) (n : Nat) : Nat := if kC f n = 2 ∨ kC f n = 5 then kT f n else if kC f n = 1 ∨ kC f n = 6 then 2 ^ pV f + kT f n else 0
def kX (f : Int) (n : Nat) : Int := if kC f n = 2 ∨ kC f n = 5 then lx f else if kC f n = 1 ∨ kC f n = 6 then lx f + (kE f n : Int) - 1 else 0
def kF (f : Int) (n : Nat) : Nat := if kC f n = 8 ∨ kC f n = 9 then kT f n else 0
def Fit (f : Int) (n : Nat) : Prop := n < 2 * 2 ^ wV f
/-- What the numbers of a format are to each other. -/
theorem fm {f : Int} (h : Is4 f) : 2 ^ wV f = (oV f + 1) * 2 ^ pV f ∧ 2 ≤ pV f ∧ 2 ^ pV f = 2 * 2 ^ (pV f - 1) ∧ 2 ^ (pV f - 1) ≥ 2 ∧ 3 ≤ oV f ∧ oV f < 32768 ∧ 2 * 2 ^ wV f ≤ 340282366920938463463374607431768211456 := by
  rcases h with rfl | rfl | rfl | rfl <;> decide +kernel
def kp (f : Int) (n : Nat) : Nat × Nat × Int × Nat := (kC f n, kS f n, kX f n, kF f n)
theorem xor_two (a b : Nat) : (a ^^^ b) % 2 = (a + b) % 2 := by
  have := @Nat.xor_mod_two_eq_one a b
  omega
/-- One bit turned. -/
theorem xor_bit : ∀ (k a : Nat), a ^^^ 2 ^ k = if a / 2 ^ k % 2 = 1 then a - 2 ^ k else a + 2 ^ k
  | 0, a => by
    have h1 : (a ^^^ 1) / 2 = a / 2 := by rw [Nat.xor_div_two]; simp
    have h2 : (a ^^^ 1) % 2 = (a + 1) % 2 := by rw [xor_two]
    rw [Nat.pow_zero, Nat.div_one]
    split <;> omega
  | k + 1, a => by
    have ih := xor_bit k (a / 2)
    have h1 : (a ^^^ 2 ^ (k + 1)) / 2 = a / 2 ^^^ 2 ^ k := by rw [Nat.xor_div_two, Nat.pow_succ, Nat.mul_div_cancel _ (by decide)]
    have h2 : (a ^^^ 2 ^ (k + 1)) % 2 = a % 2 := by rw [xor_two, Nat.pow_succ]; omega
    have h3 : a / 2 / 2 ^ k = a / 2 ^ (k + 1) := by rw [Nat.div_div_eq_div_mul, Nat.pow_succ, Nat.mul_comm]
    rw [ih, h3] at h1
    have h4 : a / 2 ^ (k + 1) % 2 = 1 → 2 ^ k ≤ a / 2 := fun h => by
      rw [← h3] at h
      by_cases c : 2 ^ k ≤ a / 2
      · exact c
      · rw [Nat.div_eq_of_lt (by omega)] at h; exact absurd h (by decide)
    rw [Nat.pow_succ] at h1 h2 h4 ⊢
    split at h1
    · rename_i c
      have := h4 c
      rw [if_pos c]; omega
    · rename_i c
      rw [if_neg c]; omega
/-- The sign bit turned. -/
def sgB (f : Int) (n : Nat) (neg : Bool) : Nat := if neg then n ^^^ 2 ^ wV f else n
theorem sgB_low {f : Int} {n : Nat} (hn : n < 2 ^ wV f) (neg : Bool) : sgB f n neg = n + (if neg then 2 ^ wV f else 0) := by
  unfold sgB
  cases neg
  · rfl
  · rw [if_pos rfl, xor_bit, Nat.div_eq_of_lt hn, if_neg (by decide), if_pos rfl]
/-- What Pack puts together: the program's way. -/
def toB (s : Nat) : Nat := if s < 340282366920938463463374607431768211456 then s else 0
def plN (f : Int) (u : Nat) : Nat := u * 2 ^ pV f % (if f = 3 then 340282366920938463463374607431768211456 else 18446744073709551616)
def u64w (x : Int) : Nat := (x % 18446744073709551616).toNat
def fb (f : Int) (s : Nat) (x : Int) : Nat := (plN f (u64w (x - lx f)) + toB s) % 340282366920938463463374607431768211456
def eb (f : Int) (r : Nat) : Nat := (eInf f false + toB r) % 340282366920938463463374607431768211456
def mg (f : Int) (c s : Nat) (x : Int) (r : Nat) : Nat := if c = 3 ∨ c = 4 then 0 else if c = 1 ∨ c = 2 ∨ c = 5 ∨ c = 6 then fb f s x else eb f r
def gP (f : Int) (p : Nat × Nat × Int × Nat) : Nat := sgB f (mg f p.1 p.2.1 p.2.2.1 p.2.2.2) (decide (p.1 ≤ 3))
theorem fb_is {f : Int} (h : Is4 f) (k s : Nat) (hk : k ≤ oV f) (hs : k * 2 ^ pV f + s < 2 ^ wV f) : fb f s (lx f + k) = k * 2 ^ pV f + s := by
  obtain ⟨f1, f2, f3, f4, f5, f6, f7⟩ := fm h
  have e1 : u64w (lx f + k - lx f) = k := by
    unfold u64w
    rw [show lx f + (k : Int) - lx f = k by omega]
    omega
  have e2 : toB s = s := by unfold toB; rw [if_pos (by omega)]
  have e3 : plN f k = k * 2 ^ pV f := by
    unfold plN
    refine Nat.mod_eq_of_lt ?_
    have h2 : k * 2 ^ pV f < 2 ^ wV f := by omega
    have h3 : 2 ^ wV f ≤ (if f = 3 then 340282366920938463463374607431768211456 else 18446744073709551616) := by
      rcases h with rfl | rfl | rfl | rfl <;> decide +kernel
    omega
  unfold fb
  rw [e1, e2, e3, Nat.mod_eq_of_lt (by omega)]
/-- What Pack answers. -/
def pk (f : Int) (p : Nat × Nat × Int × Nat) : Nat × Int := if kp f (gP f p) = p then (gP f p, 0) else (0, 80)
end Go.Proofs.YtfmmeifipbpbmaaGreatDoor
namespace Go.Proofs.YtfmmeifipbpbmaaGreatDoor
set_option maxRecDepth 100000
open Go.RowKit WMath

theorem cell7t {w : World} {g : Nat} {T : TypeId} {a b : Value} (R : w.heap[g]? = some (.cells #[a, b] T)) : w.cell? ⟨g, 0, none⟩ = some a ∧ w.cell? ⟨g, 1, none⟩ = some b := ⟨cell7 R 0 _ rfl, cell7 R 1 _ rfl⟩
theorem kopn1 (w : World) (o : Obj) : (w.alloc o).heap[w.heap.size]? = some o ∧ Below w.heap.size w (w.alloc o) := ⟨heap_alloc_last _ _, (Below.refl _ _).alloc (Nat.le_refl _) _⟩
theorem kopn2 (w : World) (o1 o2 : Obj) : ((w.alloc o1).alloc o2).heap[w.heap.size]? = some o1 ∧ ((w.alloc o1).alloc o2).heap[w.heap.size + 1]? = some o2 ∧ Below w.heap.size w ((w.alloc o1).alloc o2) := by
  obtain ⟨r0, b⟩ := kopn1 w o1
  have z : (w.alloc o1).heap.size = w.heap.size + 1 := by simp only [size_al]
  exact ⟨by rw [heap_below _ _ _ (by omega)]; exact r0, by rw [← z]; exact heap_alloc_last _ _, b.alloc (by omega) _⟩
theorem k_placed (x pl : Nat) (H L : Int) (hH : IntKind.u64.wrap ((x : Int) * 2 ^ min (IntKind.u64.wrap ((pl : Int) - 64)).toNat 64) = H) (hL : IntKind.u64.wrap ((x : Int) * 2 ^ min pl 64) = L) (w : World) :
    Calls Tryz.prog 219 #[.int .u64 (x : Nat), .int .u64 (pl : Nat)] w fun e w' => e = .returned (.agg #[.int .u64 H, .int .u64 L]) ∧ Below w.heap.size w w' := by
  subst hH hL
  go_enter Tryz.func219, Tryz.ntmps219
  go_wp2
  exact bodyPost_ret (v := .agg #[.int .u64 _, .int .u64 _]) (by simp [results, Tryz.results219, go_sem]; exact ⟨rfl, rfl⟩) rfl ⟨by simp, bal7 _ _⟩

theorem k_plus (a b c d H L K : Int) (hH : IntKind.u64.wrap (a + c) = H) (hL : IntKind.u64.wrap (b + d) = L) (hK : (if L < b then IntKind.u64.wrap (H + 1) else H) = K) (w : World) :
    Calls Tryz.prog 216 #[.agg #[.int .u64 a, .int .u64 b], .agg #[.int .u64 c, .int .u64 d]] w fun e w' => e = .returned (.agg #[.int .u64 K, .int .u64 L]) ∧ Below w.heap.size w w' := by
  by_cases h : L < b
  · rw [if_pos h] at hK
    have hd : decide (L < b) = true := decide_eq_true h
    go_enter Tryz.func216, Tryz.ntmps216
    go_wp2
    exact bodyPost_ret (v := .agg #[.int .u64 K, .int .u64 L]) (by simp [results, Tryz.results216, go_sem]) rfl ⟨rfl, btr7 (bal7 _ _) (btr7 (bal7 _ _) (btr7 (bal7 _ _) (bal7 _ _)))⟩
  · rw [if_neg h] at hK
    subst hK
    have hd : decide (L < b) = false := decide_eq_false h
    go_enter Tryz.func216, Tryz.ntmps216
    go_wp2
    exact bodyPost_ret (v := .agg #[.int .u64 H, .int .u64 L]) (by simp [results, Tryz.results216, go_sem]) rfl ⟨rfl, btr7 (bal7 _ _) (btr7 (bal7 _ _) (btr7 (bal7 _ _) (bal7 _ _)))⟩
theorem kb_precision (f v : Int) (h0 : 0 ≤ f) (h1 : f ≤ 255) (hv : fP f = v) (w : World) (hT : FAt w) :
    Calls Tryz.prog 172 #[.int .u8 f] w fun e w' => e = .returned (.int .i64 v) ∧ Below w.heap.size w w' :=
  (s_precision f v h0 h1 hv w hT).mono fun _ _ h => ⟨h.1, by rw [h.2]; exact bal7 _ _⟩
theorem kb_emax (f v : Int) (h0 : 0 ≤ f) (h1 : f ≤ 255) (hv : fE f = v) (w : World) (hT : FAt w) :
    Calls Tryz.prog 86 #[.int .u8 f] w fun e w' => e = .returned (.int .i64 v) ∧ Below w.heap.size w w' :=
  (s_emax f v h0 h1 hv w hT).mono fun _ _ h => ⟨h.1, by rw [h.2]; exact bal7 _ _⟩
end Go.Proofs.YtfmmeifipbpbmaaGreatDoor
namespace Go.Proofs.YtfmmeifipbpbmaaGreatDoor
set_option maxRecDepth 100000
open Go.RowKit WMath
set_option linter.unusedSimpArgs false
set_option linter.unusedVariables false

theorem pow64 (k : Nat) : ((2 : Int) ^ k) = ((2 ^ k : Nat) : Int) := by norm_cast
theorem pV_lim {f : Int} (h : Is4 f) : fP f - 1 = (pV f : Int) ∧ IntKind.i64.wrap (fP f - 1) = (pV f : Int) ∧ IntKind.u64.wrap ((pV f : Nat) : Int) = (pV f : Int) ∧ pV f < 128 ∧ wV f < 128 ∧ fW f - 1 = (wV f : Int) ∧ IntKind.i64.wrap (fW f - 1) = (wV f : Int) ∧ IntKind.u64.wrap ((wV f : Nat) : Int) = (wV f : Int) := by
  rcases h with rfl | rfl | rfl | rfl <;> decide +kernel

theorem kfw (f : Int) (hf : Is4 f) (p : Nat) (hp : pV f = p) (w : World) (hT : FAt w) : Calls Tryz.prog 160 #[.int .u8 f] w fun r w' => r = .returned (.int .u64 (p : Nat)) ∧ Below w.heap.size w w' := by
  subst hp
  have f4 := is4_ok hf
  obtain ⟨_, a2, a3, _⟩ := pV_lim hf
  obtain ⟨P, hP⟩ : ∃ P, fP f = P := ⟨_, rfl⟩
  rw [hP] at a2
  obtain ⟨p, hp⟩ : ∃ p, pV f = p := ⟨_, rfl⟩
  rw [hp] at a2 a3 ⊢
  have TT := box hT
  have HP := box hP
  clear hT hf hp hP
  have B0 : Below w.heap.size w w := (Below.refl _ _)
  go_enter Tryz.func160, Tryz.ntmps160
  go_wp2_with fail
  refine ((kb_precision f P f4.1 f4.2.1 HP.out _ (fatB TT.out B0))).mono ?_
  rintro r w1 ⟨rfl, b1⟩
  have B1 : Below w.heap.size w w1 := btr7 B0 b1
  clear b1 B0 
  go_wp2
  go_ret
  exact ⟨rfl, B1⟩

end Go.Proofs.YtfmmeifipbpbmaaGreatDoor
namespace Go.Proofs.YtfmmeifipbpbmaaGreatDoor
set_option maxRecDepth 100000
open Go.RowKit WMath
set_option linter.unusedSimpArgs false
set_option linter.unusedVariables false

theorem lx_lim {f : Int} (h : Is4 f) : IntKind.i64.wrap (1 - fE f - fP f) = 1 - fE f - fP f ∧ IntKind.i64.wrap (1 - fE f - fP f + 1) = lx f ∧ lx f ≤ 0 ∧ -16494 ≤ lx f ∧ lx f = 1 - fE f - fP f + 1 := by
  rcases h with rfl | rfl | rfl | rfl <;> decide +kernel
theorem kleast_is (f : Int) (hf : Is4 f) (v : Int) (hv : lx f = v) (w : World) (hT : FAt w) : Calls Tryz.prog 202 #[.int .u8 f] w fun r w' => r = .returned (.int .i64 v) ∧ Below w.heap.size w w' := by
  have f4 := is4_ok hf
  obtain ⟨a1, a2, _⟩ := lx_lim hf
  rw [hv] at a2
  obtain ⟨p, hp⟩ : ∃ q, fP f = q := ⟨_, rfl⟩
  obtain ⟨m, hm⟩ : ∃ q, 1 - fE f = q := ⟨_, rfl⟩
  rw [hm, hp] at a1 a2
  have TT := box hT
  have HP := box hp
  have HM := box hm
  clear hT hf hv hp hm
  have B0 : Below w.heap.size w w := (Below.refl _ _)
  go_enter Tryz.func202, Tryz.ntmps202
  go_wp2_with fail
  refine (s_emin f _ m f4.1 f4.2.1 rfl (by rw [if_pos f4.2.2.1]; exact HM.out) _ (fatB TT.out B0)).mono ?_
  rintro r w1 ⟨rfl, b1⟩
  have B1 : Below w.heap.size w w1 := btr7 B0 b1
  clear b1 B0 
  go_wp2_with fail
  refine (kb_precision f p f4.1 f4.2.1 HP.out _ (fatB TT.out B1)).mono ?_
  rintro r w2 ⟨rfl, b2⟩
  have B2 : Below w.heap.size w w2 := btr7 B1 b2
  clear b2 B1 
  go_wp2
  go_ret
  exact ⟨rfl, B2⟩
end Go.Proofs.YtfmmeifipbpbmaaGreatDoor
namespace Go.Proofs.YtfmmeifipbpbmaaGreatDoor
set_option maxRecDepth 100000
open Go.RowKit WMath
set_option linter.unusedSimpArgs false
set_option linter.unusedVariables false

theorem xor_words (n m : Nat) : bv7 (n ^^^ m) = (n / 18446744073709551616 ^^^ m / 18446744073709551616, n % 18446744073709551616 ^^^ m % 18446744073709551616) := by
  unfold bv7
  rw [show (18446744073709551616 : Nat) = 2 ^ 64 by decide, Nat.xor_div_two_pow, Nat.xor_mod_two_pow]
theorem words_of {x y n : Nat} (hy : y < 18446744073709551616) (hn : y + 18446744073709551616 * x = n) : n / 18446744073709551616 = x ∧ n % 18446744073709551616 = y := by omega
theorem sk_zero (f : Int) (neg : Bool) (hf : Is4 f) (u v : Nat) (hv : bv7 (eZero f neg) = (u, v)) (w : World) (hT : FAt w) : Calls Tryz.prog 71 #[.int .u8 f, .bool neg] w fun r w' => r = .returned (.agg #[.int .u64 (u : Nat), .int .u64 (v : Nat)]) ∧ Below w.heap.size w w' := by
  have := s_zero f neg hf _ rfl w hT
  rw [hv] at this
  exact this
theorem sk_inf (f : Int) (neg : Bool) (hf : Is4 f) (u v : Nat) (hv : bv7 (eInf f neg) = (u, v)) (w : World) (hT : FAt w) : Calls Tryz.prog 132 #[.int .u8 f, .bool neg] w fun r w' => r = .returned (.agg #[.int .u64 (u : Nat), .int .u64 (v : Nat)]) ∧ Below w.heap.size w w' := by
  have := s_inf f neg hf _ rfl w hT
  rw [hv] at this
  exact this
theorem ezero_is (f : Int) : eZero f true = 2 ^ wV f := by unfold eZero enc7; rw [if_pos rfl]; simp
theorem ksigned_is (f : Int) (hf : Is4 f) (x y n u v : Nat) (neg : Bool) (hx : x < 18446744073709551616) (hy : y < 18446744073709551616) (hn : y + 18446744073709551616 * x = n) (hv : bv7 (sgB f n neg) = (u, v)) (w : World) (hT : FAt w) : Calls Tryz.prog 59 #[.int .u8 f, .agg #[.int .u64 (x : Nat), .int .u64 (y : Nat)], .bool neg] w fun r w' => r = .returned (.agg #[.int .u64 (u : Nat), .int .u64 (v : Nat)]) ∧ Below w.heap.size w w' := by
  obtain ⟨n1, n2⟩ := words_of hy hn
  unfold sgB at hv
  cases neg
  · simp only [Bool.false_eq_true, if_false] at hv
    unfold bv7 at hv
    rw [n1, n2] at hv
    injection hv with h1 h2
    subst h1 h2
    clear hn hT hf hx hy n1 n2
    obtain ⟨Rb_0, Rz_0, B0⟩ := kopn2 w (Obj.cells #[.int .u64 (x : Nat), .int .u64 (y : Nat)] 25) (Obj.cells #[.int .u64 0, .int .u64 0] 25)
    go_enter Tryz.func59, Tryz.ntmps59
    clear B0 Rb_0 Rz_0
    go_wp2
    exact bodyPost_ret (v := .agg #[.int .u64 (x : Nat), .int .u64 (y : Nat)]) (by simp [results, Tryz.results59, go_sem]) rfl ⟨rfl, (((Below.refl _ _).alloc (by first | omega | (simp only [size_al]; omega)) _).alloc (by first | omega | (simp only [size_al]; omega)) _)⟩
  · rw [if_pos rfl, xor_words, n1, n2] at hv
    injection hv with h1 h2
    obtain ⟨s, t, hst⟩ : ∃ s t, bv7 (eZero f true) = (s, t) := ⟨_, _, rfl⟩
    have KZ := box (sk_zero f true hf s t hst)
    rw [ezero_is] at hst
    unfold bv7 at hst
    injection hst with s1 s2
    rw [s1] at h1
    rw [s2] at h2
    have hs : s < 18446744073709551616 ∧ t < 18446744073709551616 := by
      have := (fm hf).2.2.2.2.2.2
      omega
    have a1 : bits .xor .u64 (x : Int) (s : Int) = (u : Int) := by rw [← h1]; exact bits_xor_u64_nat x s hx hs.1
    have a2 : bits .xor .u64 (y : Int) (t : Int) = (v : Int) := by rw [← h2]; exact bits_xor_u64_nat y t hy hs.2
    have TT := box hT
    clear hn hT hf hx hy n1 n2 s1 s2 h1 h2 hs
    obtain ⟨Rb_0, Rz_0, B0⟩ := kopn2 w (Obj.cells #[.int .u64 (x : Nat), .int .u64 (y : Nat)] 25) (Obj.cells #[.int .u64 0, .int .u64 0] 25)
    go_enter Tryz.func59, Tryz.ntmps59
    go_wp2_with fail
    refine (KZ.out _ (fatB TT.out B0)).mono ?_
    rintro r w1 ⟨rfl, b1⟩
    have B1 : Below w.heap.size w w1 := btr7 B0 b1
    have Rb_1 := heap_of b1 _ _ _ Rb_0
    have Rz_1 := heap_of b1 _ _ _ Rz_0
    clear b1 B0 Rb_0 Rz_0
    obtain ⟨cb_1_0, cb_1_1⟩ := cell7t Rb_1
    obtain ⟨cz_1_0, cz_1_1⟩ := cell7t Rz_1
    have S2 := box B1.size
    have Lb_2 : Box (w.heap.size < w1.heap.size) := box (Array.getElem?_eq_some_iff.1 Rb_1).1
    have Lz_2 : Box (w.heap.size + 1 < w1.heap.size) := box (Array.getElem?_eq_some_iff.1 Rz_1).1
    have Rs_2 := heap_alloc_last w1 (Obj.cells #[.int .u64 (s : Nat), .int .u64 (t : Nat)] 25)
    have B2 := btr7 B1 (bal7 w1 (Obj.cells #[.int .u64 (s : Nat), .int .u64 (t : Nat)] 25))
    have Rb_2 := heap_of (bal7 w1 (Obj.cells #[.int .u64 (s : Nat), .int .u64 (t : Nat)] 25)) _ _ _ Rb_1
    have Rz_2 := heap_of (bal7 w1 (Obj.cells #[.int .u64 (s : Nat), .int .u64 (t : Nat)] 25)) _ _ _ Rz_1
    clear B1 Rb_1 cb_1_0 cb_1_1 Rz_1 cz_1_0 cz_1_1
    obtain ⟨cb_2_0, cb_2_1⟩ := cell7t Rb_2
    obtain ⟨cz_2_0, cz_2_1⟩ := cell7t Rz_2
    obtain ⟨cs_2_0, cs_2_1⟩ := cell7t Rs_2
    have q0 := fz (k := 0) Rz_2
    have q1 := fz (k := 1) Rz_2
    obtain ⟨E0, E1⟩ := set2_cells Rz_2 (.int .u64 (u : Nat)) (.int .u64 (v : Nat))
    go_wp2
    exact bodyPost_ret (v := .agg #[.int .u64 (u : Nat), .int .u64 (v : Nat)]) (by simp [results, Tryz.results59, go_sem, E0, E1]) rfl ⟨rfl, set2_below B2 (by first | exact Nat.le_refl _ | omega | (have := S2.out; have := Lb_2.out; have := Lz_2.out; omega)) _ _⟩

theorem plus_num (x y x' y' n n' u v : Nat) (hx : x < 18446744073709551616) (hy : y < 18446744073709551616) (hn : y + 18446744073709551616 * x = n) (hx' : x' < 18446744073709551616) (hy' : y' < 18446744073709551616) (hn' : y' + 18446744073709551616 * x' = n') (hv : bv7 ((n + n') % 340282366920938463463374607431768211456) = (u, v)) :
    IntKind.u64.wrap ((y : Int) + (y' : Int)) = (v : Int) ∧ (if (v : Int) < (y : Int) then IntKind.u64.wrap (IntKind.u64.wrap ((x : Int) + (x' : Int)) + 1) else IntKind.u64.wrap ((x : Int) + (x' : Int))) = (u : Int) := by
  unfold bv7 at hv
  injection hv with h1 h2
  simp only [IntKind.wrap_u64]
  refine ⟨by omega, ?_⟩
  split <;> omega
theorem kplus_is (x y x' y' n n' u v : Nat) (hx : x < 18446744073709551616) (hy : y < 18446744073709551616) (hn : y + 18446744073709551616 * x = n) (hx' : x' < 18446744073709551616) (hy' : y' < 18446744073709551616) (hn' : y' + 18446744073709551616 * x' = n') (hv : bv7 ((n + n') % 340282366920938463463374607431768211456) = (u, v)) (w : World) : Calls Tryz.prog 216 #[.agg #[.int .u64 (x : Nat), .int .u64 (y : Nat)], .agg #[.int .u64 (x' : Nat), .int .u64 (y' : Nat)]] w fun r w' => r = .returned (.agg #[.int .u64 (u : Nat), .int .u64 (v : Nat)]) ∧ Below w.heap.size w w' := by
  obtain ⟨h1, h2⟩ := plus_num x y x' y' n n' u v hx hy hn hx' hy' hn' hv
  exact k_plus _ _ _ _ _ _ _ rfl h1 h2 w
def plG (u pl : Nat) : Nat := if pl < 64 then u * 2 ^ pl % 18446744073709551616 else (u * 2 ^ (pl - 64) % 18446744073709551616) * 18446744073709551616
theorem kplaced_is (x pl u v : Nat) (hx : x < 18446744073709551616) (hp : pl < 128) (hv : bv7 (plG x pl) = (u, v)) (w : World) : Calls Tryz.prog 219 #[.int .u64 (x : Nat), .int .u64 (pl : Nat)] w fun r w' => r = .returned (.agg #[.int .u64 (u : Nat), .int .u64 (v : Nat)]) ∧ Below w.heap.size w w' := by
  unfold bv7 plG at hv
  injection hv with h1 h2
  have e64 : ((2 : Int) ^ 64) = 18446744073709551616 := by decide
  refine k_placed x pl _ _ ?_ ?_ w
  · rw [IntKind.wrap_u64, IntKind.wrap_u64]
    by_cases h : pl < 64
    · rw [if_pos h] at h1
      rw [show min (((pl : Int) - 64) % 18446744073709551616).toNat 64 = 64 by omega, e64]
      have := Nat.mod_lt (x * 2 ^ pl) (show 18446744073709551616 > 0 by decide)
      omega
    · rw [if_neg h] at h1
      rw [show min (((pl : Int) - 64) % 18446744073709551616).toNat 64 = pl - 64 by omega, pow64, ← Int.natCast_mul]
      omega
  · rw [IntKind.wrap_u64]
    by_cases h : pl < 64
    · rw [if_pos h] at h2
      rw [show min pl 64 = pl by omega, pow64, ← Int.natCast_mul]
      omega
    · rw [if_neg h] at h2
      rw [show min pl 64 = 64 by omega, e64]
      omega
theorem plG_is {f : Int} (h : Is4 f) (u : Nat) : plG u (pV f) = plN f u := by
  unfold plG plN
  rcases h with rfl | rfl | rfl | rfl
  · rw [show pV 0 = 23 by decide, if_pos (by decide), if_neg (by decide)]
  · rw [show pV 1 = 52 by decide, if_pos (by decide), if_neg (by decide)]
  · rw [show pV 2 = 10 by decide, if_pos (by decide), if_neg (by decide)]
  · rw [show pV 3 = 112 by decide, if_neg (by decide), if_pos rfl]
    simp only [Nat.reducePow, Nat.reduceSub]
    omega
end Go.Proofs.YtfmmeifipbpbmaaGreatDoor
namespace Go.Proofs.YtfmmeifipbpbmaaGreatDoor
set_option maxRecDepth 100000
open Go.RowKit WMath
set_option linter.unusedSimpArgs false
set_option linter.unusedVariables false

theorem size_dr (W : World) : W.drew.heap.size = W.heap.size := rfl
end Go.Proofs.YtfmmeifipbpbmaaGreatDoor
namespace Go.Proofs.YtfmmeifipbpbmaaGreatDoor
set_option maxRecDepth 100000
open Go.RowKit WMath
set_option linter.unusedSimpArgs false
set_option linter.unusedVariables false

theorem bv_lt {n u v : Nat} (hn : n < 340282366920938463463374607431768211456) (h : bv7 n = (u, v)) : u < 18446744073709551616 ∧ v < 18446744073709551616 ∧ v + 18446744073709551616 * u = n := by
  unfold bv7 at h
  injection h with h1 h2
  omega
theorem fit_iff {f : Int} (hf : Is4 f) (n : Nat) : ((blen n : Nat) : Int) ≤ fW f ↔ Fit f n := by
  have h := blen_iff n (wV f + 1)
  have e : fW f = ((wV f + 1 : Nat) : Int) := by rcases hf with rfl | rfl | rfl | rfl <;> decide +kernel
  unfold Fit
  rw [e, Nat.pow_succ, Nat.mul_comm] at *
  omega
def okB (f : Int) (n : Nat) : Bool := decide (f ≤ 3 ∧ n < 2 * 2 ^ wV f)
theorem okB_fits (f : Int) (h0 : 0 ≤ f) (x y n : Nat) (hn : y + 18446744073709551616 * x = n) : fitsB f (x, y) = okB f n := by
  unfold fitsB okB
  simp only []
  rw [hn]
  by_cases h : f ≤ 3
  · have k := fit_iff (is4_of h0 h) n
    by_cases h2 : Fit f n
    · rw [decide_eq_true h, decide_eq_true (k.2 h2), decide_eq_true ⟨h, h2⟩]; rfl
    · rw [decide_eq_false (fun a => h2 (k.1 a)), Bool.and_false]
      exact (decide_eq_false (fun a : f ≤ 3 ∧ n < 2 * 2 ^ wV f => h2 a.2)).symm
  · rw [decide_eq_false h, Bool.false_and]
    exact (decide_eq_false (fun a : f ≤ 3 ∧ n < 2 * 2 ^ wV f => h a.1)).symm
theorem sk_fits (f : Int) (x y n : Nat) (o : Bool) (h0 : 0 ≤ f) (h1 : f ≤ 255) (hx : x < 18446744073709551616) (hy : y < 18446744073709551616) (hn : y + 18446744073709551616 * x = n) (ho : okB f n = o) (w : World) (hT : FAt w) : Calls Tryz.prog 72 #[.int .u8 f, .agg #[.int .u64 (x : Nat), .int .u64 (y : Nat)]] w fun r w' => r = .returned (.bool o) ∧ Below w.heap.size w w' :=
  s_fits_is f (x, y) o h0 h1 hx hy (by rw [okB_fits f h0 x y n hn, ho]) w hT
theorem kFlip_yes (f : Int) (hf : Is4 f) (x y n u v : Nat) (hx : x < 18446744073709551616) (hy : y < 18446744073709551616) (hn : y + 18446744073709551616 * x = n) (ho : okB f n = true) (hc : bv7 (sgB f n true) = (u, v)) (w : World) (hT : FAt w) : Calls Tryz.prog 113 #[.int .u8 f, .agg #[.int .u64 (x : Nat), .int .u64 (y : Nat)]] w fun r w' => r = .returned (.agg #[.int .u64 (u : Nat), .int .u64 (v : Nat)]) ∧ Below w.heap.size w w' := by
  have f4 := is4_ok hf
  have K1 := box (sk_fits f x y n true f4.1 f4.2.1 hx hy hn ho)
  have K2 := box (ksigned_is f hf x y n u v true hx hy hn hc)
  have TT := box hT
  clear hT hf hx hy hn ho hc
  obtain ⟨Rb_0, Rz_0, B0⟩ := kopn2 w (Obj.cells #[.int .u64 (x : Nat), .int .u64 (y : Nat)] 25) (Obj.cells #[.int .u64 0, .int .u64 0] 25)
  go_enter Tryz.func113, Tryz.ntmps113
  go_wp2_with fail
  refine (K1.out _ (fatB TT.out B0)).mono ?_
  rintro r w1 ⟨rfl, b1⟩
  have B1 : Below w.heap.size w w1 := btr7 B0 b1
  have Rb_1 := heap_of b1 _ _ _ Rb_0
  have Rz_1 := heap_of b1 _ _ _ Rz_0
  clear b1 B0 Rb_0 Rz_0
  obtain ⟨cb_1_0, cb_1_1⟩ := cell7t Rb_1
  obtain ⟨cz_1_0, cz_1_1⟩ := cell7t Rz_1
  go_wp2_with fail
  refine (K2.out _ (fatB TT.out B1)).mono ?_
  rintro r w2 ⟨rfl, b2⟩
  have B2 : Below w.heap.size w w2 := btr7 B1 b2
  have Rb_2 := heap_of b2 _ _ _ Rb_1
  have Rz_2 := heap_of b2 _ _ _ Rz_1
  clear b2 B1 Rb_1 cb_1_0 cb_1_1 Rz_1 cz_1_0 cz_1_1
  obtain ⟨cb_2_0, cb_2_1⟩ := cell7t Rb_2
  obtain ⟨cz_2_0, cz_2_1⟩ := cell7t Rz_2
  have q0 := fz (k := 0) Rz_2
  have q1 := fz (k := 1) Rz_2
  obtain ⟨E0, E1⟩ := set2_cells Rz_2 (.int .u64 (u : Nat)) (.int .u64 (v : Nat))
  go_wp2
  exact bodyPost_ret (v := .agg #[.int .u64 (u : Nat), .int .u64 (v : Nat)]) (by simp [results, Tryz.results113, go_sem, E0, E1]) rfl ⟨rfl, set2_below B2 (by first | exact Nat.le_refl _ | omega | (skip; omega)) _ _⟩
end Go.Proofs.YtfmmeifipbpbmaaGreatDoor
namespace Go.Proofs.YtfmmeifipbpbmaaGreatDoor
set_option maxRecDepth 100000
open Go.RowKit WMath
set_option linter.unusedSimpArgs false
set_option linter.unusedVariables false

/-- What a NaN is, made quiet. -/
def qt (f : Int) (n : Nat) : Nat := if kC f n = 8 then n + 2 ^ (pV f - 1) else n
end Go.Proofs.YtfmmeifipbpbmaaGreatDoor
namespace Go.Proofs.YtfmmeifipbpbmaaGreatDoor
set_option maxRecDepth 100000
open Go.RowKit WMath
set_option linter.unusedSimpArgs false
set_option linter.unusedVariables false

theorem lt_128 {s : Nat} (hs : s < Q) : (wd s 0 + 18446744073709551616 * wd s 1 = s) ↔ s < 340282366920938463463374607431768211456 := by
  constructor
  · intro h
    have := wd_lt s 0
    have := wd_lt s 1
    omega
  · intro h
    rw [(wd01 h).1, (wd01 h).2]; omega
theorem ktobits_one (s u v : Nat) (hs : s < Q) (huv : bv7 (toB s) = (u, v)) : ∃ o, ∀ w, Calls Tryz.prog 181 #[.agg (cw 6 s)] w fun r w' => r = .returned (.tuple #[.agg #[.int .u64 (u : Nat), .int .u64 (v : Nat)], .bool o]) ∧ Below w.heap.size w w' := by
  unfold toB bv7 at huv
  by_cases h : s < 340282366920938463463374607431768211456
  · rw [if_pos h] at huv
    injection huv with h1 h2
    refine ⟨true, fun w => ?_⟩
    have k := wtobits_yes s hs ((lt_128 hs).2 h) w
    rw [(wd01 h).1, (wd01 h).2, h1, h2] at k
    exact k
  · rw [if_neg h] at huv
    injection huv with h1 h2
    refine ⟨false, fun w => ?_⟩
    have k := wtobits_no s hs (fun e => h ((lt_128 hs).1 e)) w
    rw [← h1, ← h2]
    exact k
theorem toB_lt (s : Nat) : toB s < 340282366920938463463374607431768211456 := by unfold toB; split <;> omega
theorem plN_lt (f : Int) (u : Nat) : plN f u < 340282366920938463463374607431768211456 := by
  unfold plN
  split
  · exact Nat.mod_lt _ (by decide)
  · exact Nat.lt_trans (Nat.mod_lt _ (by decide)) (by decide)
set_option maxHeartbeats 1000000 in
theorem kfinite_is (f : Int) (hf : Is4 f) (s a b : Nat) (X : Int) (hs : s < Q) (x1 : -9223372036854775808 ≤ X) (x2 : X ≤ 9223372036854775807) (hv : bv7 (fb f s X) = (a, b)) (w : World) (hT : FAt w) :
    Calls Tryz.prog 137 #[.int .u8 f, .agg (cw 6 s), .int .i64 X] w fun r w' => r = .returned (.agg #[.int .u64 (a : Nat), .int .u64 (b : Nat)]) ∧ Below w.heap.size w w' := by
  have hat := cw_at 6
  have hz := cw6z
  have hff := cw6f
  have hs0 := st0
  have hcs : ∀ x, ((cw 6 x).size = 6) = True := fun x => eq_true (cw_size 6 x)
  obtain ⟨u, v, huv⟩ : ∃ u v, bv7 (toB s) = (u, v) := ⟨_, _, rfl⟩
  obtain ⟨o, ho⟩ := ktobits_one s u v hs huv
  have K1 := box ho
  obtain ⟨u1, v1, uv⟩ := bv_lt (toB_lt s) huv
  have K2 := box (fun w hT => kleast_is f hf (lx f) rfl w hT)
  obtain ⟨_, _, _, p4, _⟩ := pV_lim hf
  obtain ⟨_, _, l3, l4, _⟩ := lx_lim hf
  have K3 := box (fun w hT => kfw f hf (pV f) rfl w hT)
  obtain ⟨c, d, hcd⟩ : ∃ u v, bv7 (plN f (u64w (X - lx f))) = (u, v) := ⟨_, _, rfl⟩
  have ul : u64w (X - lx f) < 18446744073709551616 := by unfold u64w; omega
  have K4 := box (kplaced_is (u64w (X - lx f)) (pV f) c d ul p4 (by rw [plG_is hf]; exact hcd))
  obtain ⟨c1, d1, cd⟩ := bv_lt (plN_lt f _) hcd
  have K5 := box (kplus_is c d u v _ _ a b c1 d1 cd u1 v1 uv hv)
  have e1 : IntKind.u64.wrap (IntKind.i64.wrap (X - lx f)) = (u64w (X - lx f) : Int) := by
    unfold u64w
    rw [IntKind.wrap_u64, IntKind.wrap_i64]
    omega
  obtain ⟨L, hL⟩ : ∃ q, lx f = q := ⟨_, rfl⟩
  rw [hL] at K2 K4 e1
  obtain ⟨U, hU⟩ : ∃ q, u64w (X - L) = q := ⟨_, rfl⟩
  rw [hU] at K4 e1
  obtain ⟨P, hP⟩ : ∃ q, pV f = q := ⟨_, rfl⟩
  rw [hP] at K3 K4
  have TT := box hT
  clear hT hf hs x1 x2 hv huv ho u1 v1 uv p4 l3 l4 hcd ul c1 d1 cd hL hU hP
  obtain ⟨Rs_0, Rz_0, B0⟩ := kopn2 w (Obj.cells (cw 6 s) 62) (Obj.cells #[.int .u64 0, .int .u64 0] 25)
  go_enter Tryz.func137, Tryz.ntmps137
  go_wp2_with fail
  refine (K1.out _).mono ?_
  rintro r w1 ⟨rfl, b1⟩
  have B1 : Below w.heap.size w w1 := btr7 B0 b1
  have Rs_1 := heap_of b1 _ _ _ Rs_0
  have Rz_1 := heap_of b1 _ _ _ Rz_0
  clear b1 B0 Rs_0 Rz_0
  have cs_1_0 := row_cell Rs_1
  obtain ⟨cz_1_0, cz_1_1⟩ := cell7t Rz_1
  have S2 := box B1.size
  have Ls_2 : Box (w.heap.size < w1.heap.size) := box (Array.getElem?_eq_some_iff.1 Rs_1).1
  have Lz_2 : Box (w.heap.size + 1 < w1.heap.size) := box (Array.getElem?_eq_some_iff.1 Rz_1).1
  have Rlow_2 := heap_alloc_last w1 (Obj.cells #[.int .u64 (u : Nat), .int .u64 (v : Nat)] 25)
  have B2 := btr7 B1 (bal7 w1 (Obj.cells #[.int .u64 (u : Nat), .int .u64 (v : Nat)] 25))
  have Rs_2 := heap_of (bal7 w1 (Obj.cells #[.int .u64 (u : Nat), .int .u64 (v : Nat)] 25)) _ _ _ Rs_1
  have Rz_2 := heap_of (bal7 w1 (Obj.cells #[.int .u64 (u : Nat), .int .u64 (v : Nat)] 25)) _ _ _ Rz_1
  clear B1 Rs_1 cs_1_0 Rz_1 cz_1_0 cz_1_1
  have cs_2_0 := row_cell Rs_2
  obtain ⟨cz_2_0, cz_2_1⟩ := cell7t Rz_2
  obtain ⟨clow_2_0, clow_2_1⟩ := cell7t Rlow_2
  have sS : Box (∀ W W1 : World, (Below w.heap.size w W ∧ W.heap[w.heap.size]? = some (Obj.cells (cw 6 s) 62) ∧ W.heap[w1.heap.size]? = some (Obj.cells #[.int .u64 (u : Nat), .int .u64 (v : Nat)] 25) ∧ W.cell? ⟨w.heap.size, 0, none⟩ = some (.int .u64 ((wd s 0 : Nat) : Int)) ∧ W.cell? ⟨w.heap.size, 1, none⟩ = some (.int .u64 ((wd s 1 : Nat) : Int)) ∧ W.cell? ⟨w.heap.size, 2, none⟩ = some (.int .u64 ((wd s 2 : Nat) : Int)) ∧ W.cell? ⟨w.heap.size, 3, none⟩ = some (.int .u64 ((wd s 3 : Nat) : Int)) ∧ W.cell? ⟨w.heap.size, 4, none⟩ = some (.int .u64 ((wd s 4 : Nat) : Int)) ∧ W.cell? ⟨w.heap.size, 5, none⟩ = some (.int .u64 ((wd s 5 : Nat) : Int)) ∧ W.cell? ⟨w1.heap.size, 0, none⟩ = some (.int .u64 (u : Nat)) ∧ W.cell? ⟨w1.heap.size, 1, none⟩ = some (.int .u64 (v : Nat))) → Below W.heap.size W W1 → (Below w.heap.size w W1 ∧ W1.heap[w.heap.size]? = some (Obj.cells (cw 6 s) 62) ∧ W1.heap[w1.heap.size]? = some (Obj.cells #[.int .u64 (u : Nat), .int .u64 (v : Nat)] 25) ∧ W1.cell? ⟨w.heap.size, 0, none⟩ = some (.int .u64 ((wd s 0 : Nat) : Int)) ∧ W1.cell? ⟨w.heap.size, 1, none⟩ = some (.int .u64 ((wd s 1 : Nat) : Int)) ∧ W1.cell? ⟨w.heap.size, 2, none⟩ = some (.int .u64 ((wd s 2 : Nat) : Int)) ∧ W1.cell? ⟨w.heap.size, 3, none⟩ = some (.int .u64 ((wd s 3 : Nat) : Int)) ∧ W1.cell? ⟨w.heap.size, 4, none⟩ = some (.int .u64 ((wd s 4 : Nat) : Int)) ∧ W1.cell? ⟨w.heap.size, 5, none⟩ = some (.int .u64 ((wd s 5 : Nat) : Int)) ∧ W1.cell? ⟨w1.heap.size, 0, none⟩ = some (.int .u64 (u : Nat)) ∧ W1.cell? ⟨w1.heap.size, 1, none⟩ = some (.int .u64 (v : Nat)))) := box (fun W W1 h b => ⟨btr7 h.1 b, heap_of b _ _ _ h.2.1, heap_of b _ _ _ h.2.2.1, row_cell (heap_of b _ _ _ h.2.1) 0 (by decide), row_cell (heap_of b _ _ _ h.2.1) 1 (by decide), row_cell (heap_of b _ _ _ h.2.1) 2 (by decide), row_cell (heap_of b _ _ _ h.2.1) 3 (by decide), row_cell (heap_of b _ _ _ h.2.1) 4 (by decide), row_cell (heap_of b _ _ _ h.2.1) 5 (by decide), cell7 (heap_of b _ _ _ h.2.2.1) 0 _ rfl, cell7 (heap_of b _ _ _ h.2.2.1) 1 _ rfl⟩)
  have sT : Box (∀ (W : World) (xA xB : Value), (Below w.heap.size w W ∧ W.heap[w.heap.size]? = some (Obj.cells (cw 6 s) 62) ∧ W.heap[w1.heap.size]? = some (Obj.cells #[.int .u64 (u : Nat), .int .u64 (v : Nat)] 25) ∧ W.cell? ⟨w.heap.size, 0, none⟩ = some (.int .u64 ((wd s 0 : Nat) : Int)) ∧ W.cell? ⟨w.heap.size, 1, none⟩ = some (.int .u64 ((wd s 1 : Nat) : Int)) ∧ W.cell? ⟨w.heap.size, 2, none⟩ = some (.int .u64 ((wd s 2 : Nat) : Int)) ∧ W.cell? ⟨w.heap.size, 3, none⟩ = some (.int .u64 ((wd s 3 : Nat) : Int)) ∧ W.cell? ⟨w.heap.size, 4, none⟩ = some (.int .u64 ((wd s 4 : Nat) : Int)) ∧ W.cell? ⟨w.heap.size, 5, none⟩ = some (.int .u64 ((wd s 5 : Nat) : Int)) ∧ W.cell? ⟨w1.heap.size, 0, none⟩ = some (.int .u64 (u : Nat)) ∧ W.cell? ⟨w1.heap.size, 1, none⟩ = some (.int .u64 (v : Nat))) → (Below w.heap.size w ((W.setCell ⟨w.heap.size + 1, 0, none⟩ xA).setCell ⟨w.heap.size + 1, 1, none⟩ xB) ∧ ((W.setCell ⟨w.heap.size + 1, 0, none⟩ xA).setCell ⟨w.heap.size + 1, 1, none⟩ xB).heap[w.heap.size]? = some (Obj.cells (cw 6 s) 62) ∧ ((W.setCell ⟨w.heap.size + 1, 0, none⟩ xA).setCell ⟨w.heap.size + 1, 1, none⟩ xB).heap[w1.heap.size]? = some (Obj.cells #[.int .u64 (u : Nat), .int .u64 (v : Nat)] 25) ∧ ((W.setCell ⟨w.heap.size + 1, 0, none⟩ xA).setCell ⟨w.heap.size + 1, 1, none⟩ xB).cell? ⟨w.heap.size, 0, none⟩ = some (.int .u64 ((wd s 0 : Nat) : Int)) ∧ ((W.setCell ⟨w.heap.size + 1, 0, none⟩ xA).setCell ⟨w.heap.size + 1, 1, none⟩ xB).cell? ⟨w.heap.size, 1, none⟩ = some (.int .u64 ((wd s 1 : Nat) : Int)) ∧ ((W.setCell ⟨w.heap.size + 1, 0, none⟩ xA).setCell ⟨w.heap.size + 1, 1, none⟩ xB).cell? ⟨w.heap.size, 2, none⟩ = some (.int .u64 ((wd s 2 : Nat) : Int)) ∧ ((W.setCell ⟨w.heap.size + 1, 0, none⟩ xA).setCell ⟨w.heap.size + 1, 1, none⟩ xB).cell? ⟨w.heap.size, 3, none⟩ = some (.int .u64 ((wd s 3 : Nat) : Int)) ∧ ((W.setCell ⟨w.heap.size + 1, 0, none⟩ xA).setCell ⟨w.heap.size + 1, 1, none⟩ xB).cell? ⟨w.heap.size, 4, none⟩ = some (.int .u64 ((wd s 4 : Nat) : Int)) ∧ ((W.setCell ⟨w.heap.size + 1, 0, none⟩ xA).setCell ⟨w.heap.size + 1, 1, none⟩ xB).cell? ⟨w.heap.size, 5, none⟩ = some (.int .u64 ((wd s 5 : Nat) : Int)) ∧ ((W.setCell ⟨w.heap.size + 1, 0, none⟩ xA).setCell ⟨w.heap.size + 1, 1, none⟩ xB).cell? ⟨w1.heap.size, 0, none⟩ = some (.int .u64 (u : Nat)) ∧ ((W.setCell ⟨w.heap.size + 1, 0, none⟩ xA).setCell ⟨w.heap.size + 1, 1, none⟩ xB).cell? ⟨w1.heap.size, 1, none⟩ = some (.int .u64 (v : Nat)))) := box (fun W xA xB h => ⟨set2_below h.1 (by first | exact Nat.le_refl _ | omega | (have := S2.out; have := Ls_2.out; have := Lz_2.out; omega)) xA xB, (setCell_other (by first | omega | (have := S2.out; have := Ls_2.out; have := Lz_2.out; omega))).trans ((setCell_other (by first | omega | (have := S2.out; have := Ls_2.out; have := Lz_2.out; omega))).trans h.2.1), (setCell_other (by first | omega | (have := S2.out; have := Ls_2.out; have := Lz_2.out; omega))).trans ((setCell_other (by first | omega | (have := S2.out; have := Ls_2.out; have := Lz_2.out; omega))).trans h.2.2.1), row_cell ((setCell_other (by first | omega | (have := S2.out; have := Ls_2.out; have := Lz_2.out; omega))).trans ((setCell_other (by first | omega | (have := S2.out; have := Ls_2.out; have := Lz_2.out; omega))).trans h.2.1)) 0 (by decide), row_cell ((setCell_other (by first | omega | (have := S2.out; have := Ls_2.out; have := Lz_2.out; omega))).trans ((setCell_other (by first | omega | (have := S2.out; have := Ls_2.out; have := Lz_2.out; omega))).trans h.2.1)) 1 (by decide), row_cell ((setCell_other (by first | omega | (have := S2.out; have := Ls_2.out; have := Lz_2.out; omega))).trans ((setCell_other (by first | omega | (have := S2.out; have := Ls_2.out; have := Lz_2.out; omega))).trans h.2.1)) 2 (by decide), row_cell ((setCell_other (by first | omega | (have := S2.out; have := Ls_2.out; have := Lz_2.out; omega))).trans ((setCell_other (by first | omega | (have := S2.out; have := Ls_2.out; have := Lz_2.out; omega))).trans h.2.1)) 3 (by decide), row_cell ((setCell_other (by first | omega | (have := S2.out; have := Ls_2.out; have := Lz_2.out; omega))).trans ((setCell_other (by first | omega | (have := S2.out; have := Ls_2.out; have := Lz_2.out; omega))).trans h.2.1)) 4 (by decide), row_cell ((setCell_other (by first | omega | (have := S2.out; have := Ls_2.out; have := Lz_2.out; omega))).trans ((setCell_other (by first | omega | (have := S2.out; have := Ls_2.out; have := Lz_2.out; omega))).trans h.2.1)) 5 (by decide), cell7 ((setCell_other (by first | omega | (have := S2.out; have := Ls_2.out; have := Lz_2.out; omega))).trans ((setCell_other (by first | omega | (have := S2.out; have := Ls_2.out; have := Lz_2.out; omega))).trans h.2.2.1)) 0 _ rfl, cell7 ((setCell_other (by first | omega | (have := S2.out; have := Ls_2.out; have := Lz_2.out; omega))).trans ((setCell_other (by first | omega | (have := S2.out; have := Ls_2.out; have := Lz_2.out; omega))).trans h.2.2.1)) 1 _ rfl⟩)
  have s0 : Below w.heap.size w ((w1.alloc (Obj.cells #[.int .u64 (u : Nat), .int .u64 (v : Nat)] 25))).drew ∧ ((w1.alloc (Obj.cells #[.int .u64 (u : Nat), .int .u64 (v : Nat)] 25))).drew.heap[w.heap.size]? = some (Obj.cells (cw 6 s) 62) ∧ ((w1.alloc (Obj.cells #[.int .u64 (u : Nat), .int .u64 (v : Nat)] 25))).drew.heap[w1.heap.size]? = some (Obj.cells #[.int .u64 (u : Nat), .int .u64 (v : Nat)] 25) ∧ ((w1.alloc (Obj.cells #[.int .u64 (u : Nat), .int .u64 (v : Nat)] 25))).drew.cell? ⟨w.heap.size, 0, none⟩ = some (.int .u64 ((wd s 0 : Nat) : Int)) ∧ ((w1.alloc (Obj.cells #[.int .u64 (u : Nat), .int .u64 (v : Nat)] 25))).drew.cell? ⟨w.heap.size, 1, none⟩ = some (.int .u64 ((wd s 1 : Nat) : Int)) ∧ ((w1.alloc (Obj.cells #[.int .u64 (u : Nat), .int .u64 (v : Nat)] 25))).drew.cell? ⟨w.heap.size, 2, none⟩ = some (.int .u64 ((wd s 2 : Nat) : Int)) ∧ ((w1.alloc (Obj.cells #[.int .u64 (u : Nat), .int .u64 (v : Nat)] 25))).drew.cell? ⟨w.heap.size, 3, none⟩ = some (.int .u64 ((wd s 3 : Nat) : Int)) ∧ ((w1.alloc (Obj.cells #[.int .u64 (u : Nat), .int .u64 (v : Nat)] 25))).drew.cell? ⟨w.heap.size, 4, none⟩ = some (.int .u64 ((wd s 4 : Nat) : Int)) ∧ ((w1.alloc (Obj.cells #[.int .u64 (u : Nat), .int .u64 (v : Nat)] 25))).drew.cell? ⟨w.heap.size, 5, none⟩ = some (.int .u64 ((wd s 5 : Nat) : Int)) ∧ ((w1.alloc (Obj.cells #[.int .u64 (u : Nat), .int .u64 (v : Nat)] 25))).drew.cell? ⟨w1.heap.size, 0, none⟩ = some (.int .u64 (u : Nat)) ∧ ((w1.alloc (Obj.cells #[.int .u64 (u : Nat), .int .u64 (v : Nat)] 25))).drew.cell? ⟨w1.heap.size, 1, none⟩ = some (.int .u64 (v : Nat)) := ⟨B2.drew, Rs_2, Rlow_2, row_cell (Rs_2) 0 (by decide), row_cell (Rs_2) 1 (by decide), row_cell (Rs_2) 2 (by decide), row_cell (Rs_2) 3 (by decide), row_cell (Rs_2) 4 (by decide), row_cell (Rs_2) 5 (by decide), cell7 (Rlow_2) 0 _ rfl, cell7 (Rlow_2) 1 _ rfl⟩
  have rz : ((w1.alloc (Obj.cells #[.int .u64 (u : Nat), .int .u64 (v : Nat)] 25))).drew.heap[w.heap.size + 1]? = some (Obj.cells #[.int .u64 0, .int .u64 0] 25) := Rz_2
  have hq0 := fz (k := 0) rz
  have hq1 := fz (k := 1) rz
  have hc0 := cell7 rz 0 _ rfl
  have hc1 := cell7 rz 1 _ rfl
  go_wp2_with fail
  go_region_held3 (fun W => Below w.heap.size w W ∧ W.heap[w.heap.size]? = some (Obj.cells (cw 6 s) 62) ∧ W.heap[w1.heap.size]? = some (Obj.cells #[.int .u64 (u : Nat), .int .u64 (v : Nat)] 25) ∧ W.cell? ⟨w.heap.size, 0, none⟩ = some (.int .u64 ((wd s 0 : Nat) : Int)) ∧ W.cell? ⟨w.heap.size, 1, none⟩ = some (.int .u64 ((wd s 1 : Nat) : Int)) ∧ W.cell? ⟨w.heap.size, 2, none⟩ = some (.int .u64 ((wd s 2 : Nat) : Int)) ∧ W.cell? ⟨w.heap.size, 3, none⟩ = some (.int .u64 ((wd s 3 : Nat) : Int)) ∧ W.cell? ⟨w.heap.size, 4, none⟩ = some (.int .u64 ((wd s 4 : Nat) : Int)) ∧ W.cell? ⟨w.heap.size, 5, none⟩ = some (.int .u64 ((wd s 5 : Nat) : Int)) ∧ W.cell? ⟨w1.heap.size, 0, none⟩ = some (.int .u64 (u : Nat)) ∧ W.cell? ⟨w1.heap.size, 1, none⟩ = some (.int .u64 (v : Nat))) (first | exact s1 | exact s0 | exact sT.out _ _ _ s1 | exact sT.out _ _ _ s0)
    (first | (go_at_call 202; (first | refine (K2.out _ (fatB TT.out (And.left s1))).mono ?_ | refine (K2.out _ (fatB TT.out (And.left s0))).mono ?_); rintro r wq ⟨rfl, bq⟩; have s1 := (by first | exact sS.out _ _ s1 bq | exact sS.out _ _ s0 bq); have rz := heap_of bq _ _ _ rz; have hq0 := fz (k := 0) rz; have hq1 := fz (k := 1) rz; have hc0 := cell7 rz 0 _ rfl; have hc1 := cell7 rz 1 _ rfl; clear bq) | (go_at_call 160; (first | refine (K3.out _ (fatB TT.out (And.left s1))).mono ?_ | refine (K3.out _ (fatB TT.out (And.left s0))).mono ?_); rintro r wq ⟨rfl, bq⟩; have s1 := (by first | exact sS.out _ _ s1 bq | exact sS.out _ _ s0 bq); have rz := heap_of bq _ _ _ rz; have hq0 := fz (k := 0) rz; have hq1 := fz (k := 1) rz; have hc0 := cell7 rz 0 _ rfl; have hc1 := cell7 rz 1 _ rfl; clear bq) | (go_at_call 219; (first | refine (K4.out _).mono ?_ | refine (K4.out _).mono ?_); rintro r wq ⟨rfl, bq⟩; have s1 := (by first | exact sS.out _ _ s1 bq | exact sS.out _ _ s0 bq); have rz := heap_of bq _ _ _ rz; have hq0 := fz (k := 0) rz; have hq1 := fz (k := 1) rz; have hc0 := cell7 rz 0 _ rfl; have hc1 := cell7 rz 1 _ rfl; clear bq) | (go_at_call 216; (first | refine (K5.out _).mono ?_ | refine (K5.out _).mono ?_); rintro r wq ⟨rfl, bq⟩; have s1 := (by first | exact sS.out _ _ s1 bq | exact sS.out _ _ s0 bq); have rz := heap_of bq _ _ _ rz; have hq0 := fz (k := 0) rz; have hq1 := fz (k := 1) rz; have hc0 := cell7 rz 0 _ rfl; have hc1 := cell7 rz 1 _ rfl; clear bq) | fail)
  obtain ⟨E0, E1⟩ := set2_cells rz (.int .u64 (a : Nat)) (.int .u64 (b : Nat))
  have BZ := (by first | exact And.left s1 | exact And.left s0 : Below w.heap.size w _)
  go_wp2
  exact bodyPost_ret (v := .agg #[.int .u64 (a : Nat), .int .u64 (b : Nat)]) (by simp [results, Tryz.results137, go_sem, E0, E1]) rfl ⟨rfl, set2_below BZ (by first | exact Nat.le_refl _ | omega | (have := S2.out; have := Ls_2.out; have := Lz_2.out; omega)) _ _⟩
end Go.Proofs.YtfmmeifipbpbmaaGreatDoor
namespace Go.Proofs.YtfmmeifipbpbmaaGreatDoor
set_option maxRecDepth 100000
open Go.RowKit WMath
set_option linter.unusedSimpArgs false
set_option linter.unusedVariables false

theorem em_lim {f : Int} (hf : Is4 f) : IntKind.i64.wrap (1 - fE f - fP f) = 1 - fE f - fP f ∧ IntKind.i64.wrap (1 - fE f - fP f + 1) = lx f ∧ IntKind.i64.wrap (fE f - fP f) = fE f - fP f ∧ IntKind.i64.wrap (fE f - fP f + 1) = fE f - (pV f : Int) ∧ (if fC f = 0 then 1 - fE f else 0) = 1 - fE f ∧ 2 * fE f + 1 = (oV f : Int) ∧ 0 ≤ fE f ∧ fE f ≤ 16383 ∧ fP f = (pV f : Int) + 1 ∧ lx f = 1 - fE f - fP f + 1 ∧ pV f < 128 ∧ -16494 ≤ lx f ∧ lx f ≤ 0 := by
  rcases hf with rfl | rfl | rfl | rfl <;> decide +kernel
end Go.Proofs.YtfmmeifipbpbmaaGreatDoor
namespace Go.Proofs.YtfmmeifipbpbmaaGreatDoor
set_option maxRecDepth 100000
open Go.RowKit WMath XMath
set_option linter.unusedSimpArgs false
set_option linter.unusedVariables false

theorem blen_low (n : Nat) (h : n ≠ 0) : 1 ≤ blen n ∧ 2 ^ (blen n - 1) ≤ n ∧ n < 2 ^ blen n := by
  have h1 := blen_iff n (blen n - 1)
  have h2 := (blen_iff n (blen n)).1 (Nat.le_refl _)
  have h3 := blen_iff n 0
  have h4 : 1 ≤ blen n := by
    rcases Nat.eq_zero_or_pos (blen n) with e | e
    · have := h3.1 (by omega)
      rw [Nat.pow_zero] at this
      omega
    · exact e
  exact ⟨h4, by omega, h2⟩
theorem blen_one : blen 1 = 1 := by decide
theorem top_whole (b : Bool) (n : Nat) (e : Int) (h : n ≠ 0) : topX ⟨b, n, 1, e⟩ = (blen n : Int) - 1 + e := by
  obtain ⟨h1, h2, h3⟩ := blen_low n h
  unfold topX tA tB lenD
  simp only [blen_one]
  have e1 : (max (-((blen n : Int) - ((1 : Nat) : Int))) 0).toNat = 0 := by omega
  have e2 : (max ((blen n : Int) - ((1 : Nat) : Int)) 0).toNat = blen n - 1 := by omega
  rw [e1, e2, Nat.pow_zero, Nat.mul_one, Nat.one_mul, if_neg (by omega)]
  omega
/-- What the program's Of answers. -/
def ofA (f : Int) (x : XN) : Int := max (topX x) (1 - fE f) - (pV f : Int)
def ofX (f : Int) (x : XN) : Nat × Bool :=
  if x.n = 0 then (0, true)
  else if fE f < topX x then (0, false)
  else if (flX x (ofA f x)).1.2 = true then (sgB f (fb f (flX x (ofA f x)).1.1 (ofA f x)) x.b, true) else (0, false)
/-- A number is whole at a place just if it has no denominator and its exponent is no lesser. -/
theorem fl_no (x : XN) (a : Int) (hx : x.can) (n0 : x.n ≠ 0) (h : x.d ≠ 1 ∨ x.e < a) : (flX x a).1.2 = false := by
  have ho := hx.odd n0
  unfold flX
  split
  · rfl
  try rw [if_neg n0]
  split
  · rename_i hae
    have hd : x.d ≠ 1 := by omega
    split
    · simp only [decide_eq_false_iff_not]
      intro hm
      have h1 : x.d ∣ x.n * 2 ^ (x.e - a).toNat := Nat.dvd_of_mod_eq_zero hm
      have h2 : Nat.Coprime x.d (2 ^ (x.e - a).toNat) := by
        apply Nat.Coprime.pow_right
        have : Nat.Coprime 2 x.d := by
          rw [Nat.coprime_iff_gcd_eq_one, Nat.gcd_comm]
          have := Nat.gcd_rec 2 x.d
          rw [Nat.gcd_comm, Nat.gcd_rec, ho.2.1]
          rfl
        exact this.symm
      have h3 : x.d ∣ x.n := h2.dvd_of_dvd_mul_right h1
      have h4 : x.d ∣ Nat.gcd x.n x.d := Nat.dvd_gcd h3 (Nat.dvd_refl _)
      rw [ho.2.2] at h4
      exact hd (Nat.dvd_one.1 h4)
    · rfl
  · split <;> rfl
theorem fl_yes (x : XN) (a : Int) (n0 : x.n ≠ 0) (hd : x.d = 1) (h : a ≤ x.e) (h1 : -2097152 ≤ a) (h2 : a ≤ 2097152) (hl : nl (x.n * 2 ^ (x.e - a).toNat) ≤ 16384) : flX x a = ((x.n * 2 ^ (x.e - a).toNat, true), 0) := by
  unfold flX
  rw [if_neg (by omega), if_neg n0, if_pos h, if_pos hl, hd, Nat.div_one, Nat.mod_one]
  rfl
theorem nm8 {f : Int} (hf : Is4 f) : fE f - (pV f : Int) - lx f + 1 = ((oV f - 1 : Nat) : Int) ∧ 1 ≤ oV f ∧ lx f = 1 - fE f - (pV f : Int) ∧ pV f < 128 ∧ fE f ≤ 16383 ∧ 0 ≤ fE f := by
  rcases hf with rfl | rfl | rfl | rfl <;> decide +kernel
/-- What is of the format: its significand, and the encoding. -/
theorem of_yes {f : Int} (hf : Is4 f) (b : Bool) (n : Nat) (e : Int) (n0 : n ≠ 0) (ht : topX ⟨b, n, 1, e⟩ ≤ fE f) (ha : ofA f ⟨b, n, 1, e⟩ ≤ e) :
    ∃ m k t, m = n * 2 ^ (e - ofA f ⟨b, n, 1, e⟩).toNat ∧ k < oV f ∧ t < 2 ^ pV f ∧ ofX f ⟨b, n, 1, e⟩ = (enc7 f b k t, true) ∧ ((k = 0 ∧ m = t ∧ ofA f ⟨b, n, 1, e⟩ = lx f) ∨ (1 ≤ k ∧ m = 2 ^ pV f + t ∧ ofA f ⟨b, n, 1, e⟩ = lx f + (k : Int) - 1)) := by
  obtain ⟨g1, g2, g3, g4, g5, g6, g7⟩ := fm hf
  obtain ⟨n1, n2, n3, n4, n5, n6⟩ := nm8 hf
  obtain ⟨l1, l2, l3⟩ := blen_low n n0
  have tw := top_whole b n e n0
  obtain ⟨a, hA⟩ : ∃ a, ofA f ⟨b, n, 1, e⟩ = a := ⟨_, rfl⟩
  have hA2 := hA
  unfold ofA at hA2
  rw [hA] at ha ⊢
  rw [tw] at ht hA2
  obtain ⟨j, hj⟩ : ∃ j : Nat, (e - a).toNat = j := ⟨_, rfl⟩
  have hje : e = a + (j : Int) := by omega
  obtain ⟨m, hm⟩ : ∃ m, n * 2 ^ j = m := ⟨_, rfl⟩
  have m1 : 2 ^ (blen n - 1 + j) ≤ m := by rw [← hm, Nat.pow_add]; exact Nat.mul_le_mul_right _ l2
  have m2 : m < 2 ^ (blen n + j) := by rw [← hm, Nat.pow_add]; exact Nat.mul_lt_mul_of_pos_right l3 (Nat.two_pow_pos _)
  have lj : blen n + j ≤ pV f + 1 := by omega
  have m3 : m < 2 * 2 ^ pV f := by
    have := Nat.pow_le_pow_right (show 0 < 2 by decide) lj
    rw [Nat.pow_succ] at this
    omega
  have hl : nl m ≤ 16384 := nl_pow m (pV f + 1) (by rw [Nat.pow_succ]; omega) (by omega)
  obtain ⟨k, hk⟩ : ∃ k : Nat, a = lx f + (k : Int) := ⟨(a - lx f).toNat, by omega⟩
  have hk2 : k + 2 ≤ oV f := by omega
  have hb0 : (k + 2) * 2 ^ pV f ≤ oV f * 2 ^ pV f := Nat.mul_le_mul_right _ hk2
  have hb1 : k * 2 ^ pV f + m < 2 ^ wV f := by
    rw [g1, Nat.add_mul, Nat.one_mul]
    rw [Nat.add_mul] at hb0
    omega
  have hfb : fb f m a = k * 2 ^ pV f + m := by rw [hk]; exact fb_is hf k m (by omega) hb1
  have hof : ofX f ⟨b, n, 1, e⟩ = (sgB f (k * 2 ^ pV f + m) b, true) := by
    unfold ofX
    rw [hA, fl_yes ⟨b, n, 1, e⟩ a n0 rfl ha (by omega) (by omega) (by show nl (n * 2 ^ (e - a).toNat) ≤ 16384; rw [hj, hm]; exact hl)]
    simp only []
    rw [if_neg n0, if_neg (by rw [tw]; omega), if_pos trivial, hj, hm, hfb]
  rw [hj, hm]
  by_cases hs : m < 2 ^ pV f
  · have hk0 : k = 0 := by
      have : blen n - 1 + j < pV f := by
        rcases Nat.lt_or_ge (blen n - 1 + j) (pV f) with q | q
        · exact q
        · have := Nat.pow_le_pow_right (show 0 < 2 by decide) q
          omega
      omega
    subst hk0
    refine ⟨m, 0, m, rfl, by omega, hs, ?_, Or.inl ⟨rfl, rfl, by omega⟩⟩
    rw [hof, sgB_low hb1]
    unfold enc7
    rfl
  · have e1 : k * 2 ^ pV f + m = (k + 1) * 2 ^ pV f + (m - 2 ^ pV f) := by rw [Nat.add_mul]; omega
    refine ⟨m, k + 1, m - 2 ^ pV f, rfl, by omega, by omega, ?_, Or.inr ⟨by omega, by omega, by omega⟩⟩
    rw [hof, sgB_low hb1, e1]
    unfold enc7
    rfl
end Go.Proofs.YtfmmeifipbpbmaaGreatDoor
namespace Go.Proofs.YtfmmeifipbpbmaaGreatDoor
set_option maxRecDepth 100000
open Go.RowKit WMath XMath
set_option linter.unusedSimpArgs false
set_option linter.unusedVariables false

theorem blen_is (n k : Nat) (h1 : 2 ^ k ≤ n) (h2 : n < 2 ^ (k + 1)) : blen n = k + 1 := by
  have a := (blen_iff n (k + 1)).2 h2
  have b := blen_iff n k
  omega
theorem blen_shift (n k : Nat) (h : n ≠ 0) : blen (n * 2 ^ k) = blen n + k := by
  obtain ⟨l1, l2, l3⟩ := blen_low n h
  have := blen_is (n * 2 ^ k) (blen n - 1 + k) (by rw [Nat.pow_add]; exact Nat.mul_le_mul_right _ l2) (by
    rw [show blen n - 1 + k + 1 = blen n + k by omega, Nat.pow_add]
    exact Nat.mul_lt_mul_of_pos_right l3 (Nat.two_pow_pos _))
  omega
theorem mk_whole (neg : Bool) (s : Nat) (x : Int) (s0 : s ≠ 0) (h1 : -1048576 ≤ x) (h2 : x + (tz s : Int) ≤ 1048576) : mk neg s 1 x = (⟨neg, od s, 1, x + (tz s : Int)⟩, 0) := by
  have o1 : od 1 = 1 := od_odd 1 rfl
  have t1 : tz 1 = 0 := tz_odd 1 rfl
  unfold mk
  rw [if_neg s0, o1, t1, Nat.gcd_one_right, Nat.div_one, Nat.div_one]
  rw [if_pos (by omega)]
  congr 2
  omega
/-- The significand and the exponent of a finite encoding that is not 0. -/
def sV (f : Int) (e t : Nat) : Nat := if e = 0 then t else 2 ^ pV f + t
def xV (f : Int) (e : Nat) : Int := if e = 0 then lx f else lx f + (e : Int) - 1
theorem val_of {f : Int} (hf : Is4 f) (neg : Bool) (e t : Nat) (he : e < oV f) (ht : t < 2 ^ pV f) (nz : sV f e t ≠ 0) :
    mk neg (sV f e t) 1 (xV f e) = (⟨neg, od (sV f e t), 1, xV f e + (tz (sV f e t) : Int)⟩, 0) ∧ ofX f ⟨neg, od (sV f e t), 1, xV f e + (tz (sV f e t) : Int)⟩ = (enc7 f neg e t, true) ∧ ofA f ⟨neg, od (sV f e t), 1, xV f e + (tz (sV f e t) : Int)⟩ = xV f e := by
  obtain ⟨n1, n2, n3, n4, n5, n6⟩ := nm8 hf
  have oe : (oV f : Int) = 2 * fE f + 1 := by unfold oV; omega
  obtain ⟨s, hs⟩ : ∃ s, sV f e t = s := ⟨_, rfl⟩
  obtain ⟨x, hx⟩ : ∃ x, xV f e = x := ⟨_, rfl⟩
  rw [hs] at nz
  rw [hs, hx]
  obtain ⟨o1, o2⟩ := od_is s nz
  have od0 : od s ≠ 0 := by omega
  have bs : blen s = blen (od s) + tz s := by
    have := blen_shift (od s) (tz s) od0
    rw [← o1] at this
    exact this
  have tw := top_whole neg (od s) (x + (tz s : Int)) od0
  have tz1 := tz_blen s
  unfold sV at hs
  unfold xV at hx
  have sl : s < 2 * 2 ^ pV f := by split at hs <;> omega
  have bl : blen s ≤ pV f + 1 := (blen_iff s _).2 (by rw [Nat.pow_succ]; omega)
  have A : ofA f ⟨neg, od s, 1, x + (tz s : Int)⟩ = x ∧ topX ⟨neg, od s, 1, x + (tz s : Int)⟩ ≤ fE f := by
    unfold ofA
    rw [tw]
    by_cases e0 : e = 0
    · rw [if_pos e0] at hs hx
      have : blen s ≤ pV f := (blen_iff s _).2 (by omega)
      omega
    · rw [if_neg e0] at hs hx
      have : blen s = pV f + 1 := blen_is s (pV f) (by omega) (by rw [Nat.pow_succ]; omega)
      omega
  have xl : -20000 ≤ x ∧ x ≤ 20000 := by split at hx <;> omega
  refine ⟨mk_whole neg s x nz (by omega) (by omega), ?_, A.1⟩
  obtain ⟨m, k, t', h1, h2, h3, h4, h5⟩ := of_yes hf neg (od s) (x + (tz s : Int)) od0 A.2 (by rw [A.1]; omega)
  rw [A.1, show (x + (tz s : Int) - x).toNat = tz s by omega, ← o1] at h1
  rw [A.1] at h5
  rw [h4]
  by_cases e0 : e = 0
  · rw [if_pos e0] at hs hx
    rcases h5 with ⟨q1, q2, q3⟩ | ⟨q1, q2, q3⟩
    · rw [q1, e0, show t' = t by omega]
    · omega
  · rw [if_neg e0] at hs hx
    rcases h5 with ⟨q1, q2, q3⟩ | ⟨q1, q2, q3⟩
    · omega
    · rw [show k = e by omega, show t' = t by omega]
end Go.Proofs.YtfmmeifipbpbmaaGreatDoor
namespace Go.Proofs.YtfmmeifipbpbmaaGreatDoor
set_option maxRecDepth 100000
open Go.RowKit WMath
set_option linter.unusedSimpArgs false
set_option linter.unusedVariables false

set_option maxRecDepth 100000 in
set_option maxHeartbeats 2000000 in
theorem kwideOf_is (n : Nat) (s : ByteArray) (hs : nbA n = s) (h : nl n ≤ 48) (w : World) : Calls Tryz.prog 282 #[.string s] w fun r w' => r = .returned (.agg (cw 6 n)) ∧ Below w.heap.size w w' := by
  have hat := cw_at 6
  have hz := cw6z
  have hff := cw6f
  have hs0 := st0
  have hcs : ∀ x, ((cw 6 x).size = 6) = True := fun x => eq_true (cw_size 6 x)
  have hs1 := st1
  obtain ⟨L, hL⟩ : ∃ L, nl n = L := ⟨_, rfl⟩
  have hsz : s.size = L := by rw [← hs, nbA_size, hL]
  have ln := nl_lt n
  rw [hL] at h ln
  have HS := box hs
  have HN := box ln
  have HL := box hL
  clear hs hL ln
  have R0 := trows2 w
  go_enter Tryz.func282, Tryz.ntmps282
  go_wp2
  go_loopw [7] (fun iv wr => ∃ i : Nat, i ≤ L ∧ iv = .int .i64 i ∧ RowsL w wr [0, n % 2 ^ (8 * i)]) (fun iv _ => L - (intOf iv).toNat)
  case atStart => exact ⟨0, by omega, rfl, by rw [Nat.mul_zero, Nat.pow_zero, Nat.mod_one]; exact R0⟩
  case round =>
    clear R0
    obtain ⟨i, hi, rfl, R⟩ := hrel
    by_cases hlt : i < L
    · obtain ⟨q, hq⟩ : ∃ q, q = i / 8 := ⟨_, rfl⟩
      obtain ⟨r, hr⟩ : ∃ r, r = 8 * (i % 8) := ⟨_, rfl⟩
      obtain ⟨x, hx⟩ : ∃ x, d8 n i = x := ⟨_, rfl⟩
      obtain ⟨k, hk⟩ : ∃ k, L - 1 - i = k := ⟨_, rfl⟩
      have x256 : x < 256 := by rw [← hx]; exact d8_lt n i
      have hk2 : k < s.size := by omega
      have hxd : (s[k]'hk2).toNat = x := by
        have e := HS.out
        subst e
        rw [nbA_get, HL.out, ← hk, show L - 1 - (L - 1 - i) = i by omega, hx]
      have hxr := idx_runN s k (k : Int) x rfl hk2 hxd
      have n1 : IntKind.i64.wrap ((L : Int) - 1) = (L : Int) - 1 := wrap_i64_is _ (by omega) (by omega)
      have n2 : IntKind.i64.wrap ((L : Int) - 1 - (i : Int)) = (k : Int) := by rw [wrap_i64_is _ (by omega) (by omega)]; omega
      have n2' : (L : Int) - 1 - (i : Int) = (k : Int) := by omega
      have q1 : (i : Int) / 8 = (q : Int) := by omega
      obtain ⟨r0, hr0⟩ : ∃ r0, i % 8 = r0 := ⟨_, rfl⟩
      have tm : (i : Int).tmod 8 = (r0 : Int) := by rw [Int.tmod_eq_emod_of_nonneg (by omega)]; omega
      have tm2 : (i : Int) % 8 = (r0 : Int) := by omega
      have w1 : IntKind.i64.wrap (q : Int) = (q : Int) := wrap_i64_is _ (by omega) (by omega)
      have w2 : IntKind.i64.wrap ((r0 : Int) * 8) = (r : Int) := by rw [wrap_i64_is _ (by omega) (by omega)]; omega
      have w2' : (r0 : Int) * 8 = (r : Int) := by omega
      have w4 : IntKind.i64.wrap (r : Int) = (r : Int) := wrap_i64_is _ (by omega) (by omega)
      have q6 : q < 6 := by omega
      have r64 : r < 64 := by omega
      have qi6 : (q : Int) < 6 := by omega
      have HST := box (toWide_step n i q r x hq hr hx)
      obtain ⟨y, hy⟩ : ∃ y, x * 2 ^ r = y := ⟨_, rfl⟩
      have y64 : y < 18446744073709551616 := by rw [← hy, hr]; exact byte_sh x (i % 8) x256 (by omega)
      have n4 : IntKind.u64.wrap (x : Int) = (x : Int) := by rw [IntKind.wrap_u64]; omega
      have n5 : IntKind.u64.wrap ((x : Int) * 2 ^ r) = (y : Int) := by
        rw [pow_cast, ← Int.natCast_mul, hy]
        exact wrap_nat y y64
      rw [hy] at HST
      obtain ⟨X, hX⟩ : ∃ X, n % 2 ^ (8 * i) = X := ⟨_, rfl⟩
      obtain ⟨Y, hY⟩ : ∃ Y, n % 2 ^ (8 * (i + 1)) = Y := ⟨_, rfl⟩
      rw [hX] at R
      rw [hX, hY] at HST
      have x3 := bor X q y y64
      have x4 := cw_or 6 X q y Y q6 y64 HST.out.symm
      have R2 : RowsL w (wr.setCell ⟨w.heap.size + 1, q, none⟩ (.int .u64 ((wd X q ||| y : Nat) : Int))) [0, Y] := rowsL_setCell R 1 X Y _ q _ rfl rfl x4 rfl
      have HY := box hY
      have c1 := row_cell (rows1 R) q q6
      have f0 := fz (k := q) (rows1 R)
      have dl : decide (i < L) = true := decide_eq_true hlt
      have dz : decide ((r : Int) < 0) = false := by rw [decide_eq_false_iff_not]; omega
      clear hr hx hq hy hX hY HST x4 hr0 hk hxd
      go_wp2
      go_region
      all_goals go_wp2
      all_goals go_roundw
      all_goals first | (show (_ : Nat) < _; simp [intOf]; omega) | exact ⟨i + 1, by omega, by go_num, by rw [HY.out]; exact rowsL_drew R2 1⟩
    · obtain rfl : i = L := by omega
      have dl : decide (i < i) = false := by rw [decide_eq_false_iff_not]; omega
      rw [Nat.mod_eq_of_lt HN.out] at R
      have hst := st_any wr w.heap.size n 0 (rows0 R)
      have c1 := row_cell (rows1 R)
      have R2 : RowsL w (wr.setRow w.heap.size (cw 6 n)) [n, n] := rowsL_set R 0 n _ (by simp) rfl rfl
      have c2 := row_cell (rows0 R2)
      go_wp2
      exact bodyPost_ret (v := .agg (cw 6 n)) (by simp [results, Tryz.results282, go_sem, c2, hff]) rfl ⟨rfl, R2.2⟩
end Go.Proofs.YtfmmeifipbpbmaaGreatDoor
