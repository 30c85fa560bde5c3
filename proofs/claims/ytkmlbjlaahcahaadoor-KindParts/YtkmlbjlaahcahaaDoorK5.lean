/-
  Package kind: the sign turned, sums, what stands at a place.
-/
import Derived.Test.YtkmlbjlaahcahaaDoorK4
import Derived.Test.YtkmlbjlaahcahaaDoorS6
namespace Go.Proofs.YtkmlbjlaahcahaaDoor
open Go.RowKit WMath
set_option linter.unusedSimpArgs false
set_option linter.unusedVariables false

theorem xor_words (n m : Nat) : bv7 (n ^^^ m) = (n / 18446744073709551616 ^^^ m / 18446744073709551616, n % 18446744073709551616 ^^^ m % 18446744073709551616) := by
  unfold bv7
  rw [show (18446744073709551616 : Nat) = 2 ^ 64 by decide, Nat.xor_div_two_pow, Nat.xor_mod_two_pow]
theorem words_of {x y n : Nat} (hy : y < 18446744073709551616) (hn : y + 18446744073709551616 * x = n) : n / 18446744073709551616 = x ∧ n % 18446744073709551616 = y := by omega
theorem sk_zero (f : Int) (neg : Bool) (hf : Is4 f) (u v : Nat) (hv : bv7 (eZero f neg) = (u, v)) (w : World) (hT : FAt w) : Calls Tryd.prog 55 #[.int .u8 f, .bool neg] w fun r w' => r = .returned (.agg #[.int .u64 (u : Nat), .int .u64 (v : Nat)]) ∧ Below w.heap.size w w' := by
  have := s_zero f neg hf _ rfl w hT
  rw [hv] at this
  exact this
theorem sk_inf (f : Int) (neg : Bool) (hf : Is4 f) (u v : Nat) (hv : bv7 (eInf f neg) = (u, v)) (w : World) (hT : FAt w) : Calls Tryd.prog 39 #[.int .u8 f, .bool neg] w fun r w' => r = .returned (.agg #[.int .u64 (u : Nat), .int .u64 (v : Nat)]) ∧ Below w.heap.size w w' := by
  have := s_inf f neg hf _ rfl w hT
  rw [hv] at this
  exact this
theorem ezero_is (f : Int) : eZero f true = 2 ^ wV f := by unfold eZero enc7; rw [if_pos rfl]; simp
theorem ksigned_is (f : Int) (hf : Is4 f) (x y n u v : Nat) (neg : Bool) (hx : x < 18446744073709551616) (hy : y < 18446744073709551616) (hn : y + 18446744073709551616 * x = n) (hv : bv7 (sgB f n neg) = (u, v)) (w : World) (hT : FAt w) : Calls Tryd.prog 27 #[.int .u8 f, .agg #[.int .u64 (x : Nat), .int .u64 (y : Nat)], .bool neg] w fun r w' => r = .returned (.agg #[.int .u64 (u : Nat), .int .u64 (v : Nat)]) ∧ Below w.heap.size w w' := by
  obtain ⟨n1, n2⟩ := words_of hy hn
  unfold sgB at hv
  cases neg
  · simp only [Bool.false_eq_true, if_false] at hv
    unfold bv7 at hv
    rw [n1, n2] at hv
    injection hv with h1 h2
    subst h1 h2
    clear hn hT hf hx hy n1 n2
    obtain ⟨Rb_0, Rz_0, B0⟩ := kopn2 w (Obj.cells #[.int .u64 (x : Nat), .int .u64 (y : Nat)] 25) (Obj.cells #[.int .u64 0, .int .u64 0] 25)
    go_enter Tryd.func27, Tryd.ntmps27
    clear B0 Rb_0 Rz_0
    go_wp2
    exact bodyPost_ret (v := .agg #[.int .u64 (x : Nat), .int .u64 (y : Nat)]) (by simp [results, Tryd.results27, go_sem]) rfl ⟨rfl, (((Below.refl _ _).alloc (by first | omega | (simp only [size_al]; omega)) _).alloc (by first | omega | (simp only [size_al]; omega)) _)⟩
  · rw [if_pos rfl, xor_words, n1, n2] at hv
    injection hv with h1 h2
    obtain ⟨s, t, hst⟩ : ∃ s t, bv7 (eZero f true) = (s, t) := ⟨_, _, rfl⟩
    have KZ := box (sk_zero f true hf s t hst)
    rw [ezero_is] at hst
    unfold bv7 at hst
    injection hst with s1 s2
    rw [s1] at h1
    rw [s2] at h2
    have hs : s < 18446744073709551616 ∧ t < 18446744073709551616 := by
      have := (fm hf).2.2.2.2.2.2
      omega
    have a1 : bits .xor .u64 (x : Int) (s : Int) = (u : Int) := by rw [← h1]; exact bits_xor_u64_nat x s hx hs.1
    have a2 : bits .xor .u64 (y : Int) (t : Int) = (v : Int) := by rw [← h2]; exact bits_xor_u64_nat y t hy hs.2
    have TT := box hT
    clear hn hT hf hx hy n1 n2 s1 s2 h1 h2 hs
    obtain ⟨Rb_0, Rz_0, B0⟩ := kopn2 w (Obj.cells #[.int .u64 (x : Nat), .int .u64 (y : Nat)] 25) (Obj.cells #[.int .u64 0, .int .u64 0] 25)
    go_enter Tryd.func27, Tryd.ntmps27
    go_wp2_with fail
    refine (KZ.out _ (fatB TT.out B0)).mono ?_
    rintro r w1 ⟨rfl, b1⟩
    have B1 : Below w.heap.size w w1 := btr7 B0 b1
    have Rb_1 := heap_of b1 _ _ _ Rb_0
    have Rz_1 := heap_of b1 _ _ _ Rz_0
    clear b1 B0 Rb_0 Rz_0
    obtain ⟨cb_1_0, cb_1_1⟩ := cell7t Rb_1
    obtain ⟨cz_1_0, cz_1_1⟩ := cell7t Rz_1
    have S2 := box B1.size
    have Lb_2 : Box (w.heap.size < w1.heap.size) := box (Array.getElem?_eq_some_iff.1 Rb_1).1
    have Lz_2 : Box (w.heap.size + 1 < w1.heap.size) := box (Array.getElem?_eq_some_iff.1 Rz_1).1
    have Rs_2 := heap_alloc_last w1 (Obj.cells #[.int .u64 (s : Nat), .int .u64 (t : Nat)] 25)
    have B2 := btr7 B1 (bal7 w1 (Obj.cells #[.int .u64 (s : Nat), .int .u64 (t : Nat)] 25))
    have Rb_2 := heap_of (bal7 w1 (Obj.cells #[.int .u64 (s : Nat), .int .u64 (t : Nat)] 25)) _ _ _ Rb_1
    have Rz_2 := heap_of (bal7 w1 (Obj.cells #[.int .u64 (s : Nat), .int .u64 (t : Nat)] 25)) _ _ _ Rz_1
    clear B1 Rb_1 cb_1_0 cb_1_1 Rz_1 cz_1_0 cz_1_1
    obtain ⟨cb_2_0, cb_2_1⟩ := cell7t Rb_2
    obtain ⟨cz_2_0, cz_2_1⟩ := cell7t Rz_2
    obtain ⟨cs_2_0, cs_2_1⟩ := cell7t Rs_2
    have q0 := fz (k := 0) Rz_2
    have q1 := fz (k := 1) Rz_2
    obtain ⟨E0, E1⟩ := set2_cells Rz_2 (.int .u64 (u : Nat)) (.int .u64 (v : Nat))
    go_wp2
    exact bodyPost_ret (v := .agg #[.int .u64 (u : Nat), .int .u64 (v : Nat)]) (by simp [results, Tryd.results27, go_sem, E0, E1]) rfl ⟨rfl, set2_below B2 (by first | exact Nat.le_refl _ | omega | (have := S2.out; have := Lb_2.out; have := Lz_2.out; omega)) _ _⟩

theorem plus_num (x y x' y' n n' u v : Nat) (hx : x < 18446744073709551616) (hy : y < 18446744073709551616) (hn : y + 18446744073709551616 * x = n) (hx' : x' < 18446744073709551616) (hy' : y' < 18446744073709551616) (hn' : y' + 18446744073709551616 * x' = n') (hv : bv7 ((n + n') % 340282366920938463463374607431768211456) = (u, v)) :
    IntKind.u64.wrap ((y : Int) + (y' : Int)) = (v : Int) ∧ (if (v : Int) < (y : Int) then IntKind.u64.wrap (IntKind.u64.wrap ((x : Int) + (x' : Int)) + 1) else IntKind.u64.wrap ((x : Int) + (x' : Int))) = (u : Int) := by
  unfold bv7 at hv
  injection hv with h1 h2
  simp only [IntKind.wrap_u64]
  refine ⟨by omega, ?_⟩
  split <;> omega
theorem kplus_is (x y x' y' n n' u v : Nat) (hx : x < 18446744073709551616) (hy : y < 18446744073709551616) (hn : y + 18446744073709551616 * x = n) (hx' : x' < 18446744073709551616) (hy' : y' < 18446744073709551616) (hn' : y' + 18446744073709551616 * x' = n') (hv : bv7 ((n + n') % 340282366920938463463374607431768211456) = (u, v)) (w : World) : Calls Tryd.prog 70 #[.agg #[.int .u64 (x : Nat), .int .u64 (y : Nat)], .agg #[.int .u64 (x' : Nat), .int .u64 (y' : Nat)]] w fun r w' => r = .returned (.agg #[.int .u64 (u : Nat), .int .u64 (v : Nat)]) ∧ Below w.heap.size w w' := by
  obtain ⟨h1, h2⟩ := plus_num x y x' y' n n' u v hx hy hn hx' hy' hn' hv
  exact k_plus _ _ _ _ _ _ _ rfl h1 h2 w
def plG (u pl : Nat) : Nat := if pl < 64 then u * 2 ^ pl % 18446744073709551616 else (u * 2 ^ (pl - 64) % 18446744073709551616) * 18446744073709551616
theorem kplaced_is (x pl u v : Nat) (hx : x < 18446744073709551616) (hp : pl < 128) (hv : bv7 (plG x pl) = (u, v)) (w : World) : Calls Tryd.prog 71 #[.int .u64 (x : Nat), .int .u64 (pl : Nat)] w fun r w' => r = .returned (.agg #[.int .u64 (u : Nat), .int .u64 (v : Nat)]) ∧ Below w.heap.size w w' := by
  unfold bv7 plG at hv
  injection hv with h1 h2
  have e64 : ((2 : Int) ^ 64) = 18446744073709551616 := by decide
  refine k_placed x pl _ _ ?_ ?_ w
  · rw [IntKind.wrap_u64, IntKind.wrap_u64]
    by_cases h : pl < 64
    · rw [if_pos h] at h1
      rw [show min (((pl : Int) - 64) % 18446744073709551616).toNat 64 = 64 by omega, e64]
      have := Nat.mod_lt (x * 2 ^ pl) (show 18446744073709551616 > 0 by decide)
      omega
    · rw [if_neg h] at h1
      rw [show min (((pl : Int) - 64) % 18446744073709551616).toNat 64 = pl - 64 by omega, pow64, ← Int.natCast_mul]
      omega
  · rw [IntKind.wrap_u64]
    by_cases h : pl < 64
    · rw [if_pos h] at h2
      rw [show min pl 64 = pl by omega, pow64, ← Int.natCast_mul]
      omega
    · rw [if_neg h] at h2
      rw [show min pl 64 = 64 by omega, e64]
      omega
theorem plG_is {f : Int} (h : Is4 f) (u : Nat) : plG u (pV f) = plN f u := by
  unfold plG plN
  rcases h with rfl | rfl | rfl | rfl
  · rw [show pV 0 = 23 by decide, if_pos (by decide), if_neg (by decide)]
  · rw [show pV 1 = 52 by decide, if_pos (by decide), if_neg (by decide)]
  · rw [show pV 2 = 10 by decide, if_pos (by decide), if_neg (by decide)]
  · rw [show pV 3 = 112 by decide, if_neg (by decide), if_pos rfl]
    simp only [Nat.reducePow, Nat.reduceSub]
    omega
end Go.Proofs.YtkmlbjlaahcahaaDoor
