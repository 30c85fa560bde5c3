/-
  What the functions compare and product of package nat return.
-/
import Derived.Test.YtknkkagapcigfaaDoorList3
import Derived.Test.YtknkkagapcigfaaDoorGx
namespace Go.Proofs.YtknkkagapcigfaaDoor
open Go.RowKit WMath

/-- Which of two numbers is the greater one. -/
def cmpi (x y : Int) : Int := if x < y then -1 else if y < x then 1 else 0
theorem cmpi_nat (a b : Nat) : cmpi a b = cmpv a b := by
  unfold cmpi cmpv
  by_cases h : a = b
  · subst h; simp
  · by_cases h2 : a < b
    · rw [if_pos (by omega), if_neg h, if_pos h2]
    · rw [if_neg (by omega), if_pos (by omega), if_neg h, if_neg h2]
theorem cmpi_case (x y : Int) (c : Int) (hc : cmpi x y = c) : (decide (x < y) = true ∧ c = -1) ∨ (decide (x < y) = false ∧ decide (y < x) = true ∧ c = 1) ∨ (decide (x < y) = false ∧ decide (y < x) = false ∧ c = 0) := by
  unfold cmpi at hc
  by_cases h : x < y
  · rw [if_pos h] at hc; exact Or.inl ⟨decide_eq_true h, hc.symm⟩
  · rw [if_neg h] at hc
    by_cases h2 : y < x
    · rw [if_pos h2] at hc; exact Or.inr (Or.inl ⟨decide_eq_false h, decide_eq_true h2, hc.symm⟩)
    · rw [if_neg h2] at hc; exact Or.inr (Or.inr ⟨decide_eq_false h, decide_eq_false h2, hc.symm⟩)

theorem nan_int (x : Int) (w : World) : Calls Tryd.prog 89 #[.int .i64 x] w fun r w' => r = .returned (.bool false) ∧ w' = w := by
  go_enter Tryd.func89, Tryd.ntmps89
  go_wp2
  go_ret
  exact ⟨rfl, rfl⟩
theorem cmp_int (x y : Int) (c : Int) (hc : cmpi x y = c) (w : World) : Calls Tryd.prog 81 #[.int .i64 x, .int .i64 y] w fun r w' => r = .returned (.int .i64 c) ∧ w' = w := by
  have hcase := cmpi_case x y c hc
  clear hc
  rcases hcase with ⟨h1, rfl⟩ | ⟨h1, h2, rfl⟩ | ⟨h1, h2, rfl⟩
  all_goals
    go_enter Tryd.func81, Tryd.ntmps81
    go_wp2_with fail
    refine (nan_int x _).mono ?_
    rintro e w' ⟨rfl, rfl⟩
    go_wp2_with fail
    refine (nan_int y _).mono ?_
    rintro e w' ⟨rfl, rfl⟩
    go_wp2
    go_ret
    exact ⟨rfl, rfl⟩
theorem nan_word (x : Int) (w : World) : Calls Tryd.prog 90 #[.int .u64 x] w fun r w' => r = .returned (.bool false) ∧ w' = w := by
  go_enter Tryd.func90, Tryd.ntmps90
  go_wp2
  go_ret
  exact ⟨rfl, rfl⟩
theorem cmp_word (x y : Int) (c : Int) (hc : cmpi x y = c) (w : World) : Calls Tryd.prog 82 #[.int .u64 x, .int .u64 y] w fun r w' => r = .returned (.int .i64 c) ∧ w' = w := by
  have hcase := cmpi_case x y c hc
  clear hc
  rcases hcase with ⟨h1, rfl⟩ | ⟨h1, h2, rfl⟩ | ⟨h1, h2, rfl⟩
  all_goals
    go_enter Tryd.func82, Tryd.ntmps82
    go_wp2_with fail
    refine (nan_word x _).mono ?_
    rintro e w' ⟨rfl, rfl⟩
    go_wp2_with fail
    refine (nan_word y _).mono ?_
    rintro e w' ⟨rfl, rfl⟩
    go_wp2
    go_ret
    exact ⟨rfl, rfl⟩

theorem div_wd (a i : Nat) : a / 2 ^ (64 * i) = 18446744073709551616 * (a / 2 ^ (64 * (i + 1))) + wd a i := by
  unfold wd
  rw [pow64, ← Nat.div_div_eq_div_mul]
  omega
theorem hi_lt (a b i : Nat) (h : a / 2 ^ (64 * (i + 1)) = b / 2 ^ (64 * (i + 1))) (hw : wd a i < wd b i) : a < b := by
  have h1 := div_wd a i
  have h2 := div_wd b i
  by_cases e : a < b
  · exact e
  · have := Nat.div_le_div_right (c := 2 ^ (64 * i)) (show b ≤ a by omega)
    omega
theorem cmpv_lt (a b : Nat) (h : a < b) : cmpv a b = -1 := by unfold cmpv; rw [if_neg (by omega), if_pos h]
theorem cmpv_gt (a b : Nat) (h : b < a) : cmpv a b = 1 := by unfold cmpv; rw [if_neg (by omega), if_neg (by omega)]
theorem cmpv_hi (a b i : Nat) (h : a / 2 ^ (64 * (i + 1)) = b / 2 ^ (64 * (i + 1))) (hw : wd a i ≠ wd b i) : cmpv (wd a i) (wd b i) = cmpv a b := by
  by_cases e : wd a i < wd b i
  · rw [cmpv_lt _ _ e, cmpv_lt a b (hi_lt a b i h e)]
  · rw [cmpv_gt _ _ (show wd b i < wd a i by omega), cmpv_gt a b (hi_lt b a i h.symm (by omega))]

set_option maxRecDepth 100000 in
set_option maxHeartbeats 1000000 in
theorem l_compare (w : World) (p q : Option Addr) (L c a M d b B B2 : Nat) (k : Int) (ha : SL B w p L c a) (hb : SL B2 w q M d b) (hL : L ≤ 50000) (hM : M ≤ 50000) (la : wl a = L) (lb : wl b = M) (hB : B ≤ w.heap.size) (hB2 : B2 ≤ w.heap.size) (hk : cmpv a b = k) :
    Calls Tryd.prog 70 #[.slice p L c, .slice q M d] w fun r w' => r = .returned (.int .i64 k) ∧ Below w.heap.size w w' := by
  by_cases h : L = M
  · subst h
    have K := box hk
    have AL := box ha.1
    have BL := box hb.1
    have dn : ((L : Int) != (L : Int)) = false := by simp
    clear hk la lb hM
    have n0 : IntKind.i64.wrap ((L : Int) - 1) = (L : Int) - 1 := wrap_i64_is _ (by omega) (by omega)
    go_enter Tryd.func70, Tryd.ntmps70
    go_wp2
    go_loopw [5] (fun iv wr => ∃ i : Nat, i ≤ L ∧ iv = .int .i64 ((i : Int) - 1) ∧ Below w.heap.size w wr ∧ Box (a / 2 ^ (64 * i) = b / 2 ^ (64 * i))) (fun iv _ => (intOf iv + 1).toNat)
    case atStart => exact ⟨L, Nat.le_refl _, rfl, Below.refl _ _, box (by rw [Nat.div_eq_of_lt AL.out, Nat.div_eq_of_lt BL.out])⟩
    case round =>
      obtain ⟨i, hi, rfl, hbw, HE⟩ := hrel
      by_cases h0 : i = 0
      · subst h0
        have e : a = b := by simpa using HE.out
        subst e
        have e2 : k = 0 := by rw [← K.out]; unfold cmpv; rw [if_pos rfl]
        subst e2
        go_wp2
        go_ret
        exact ⟨rfl, hbw⟩
      · obtain ⟨j, rfl⟩ : ∃ j, i = j + 1 := ⟨i - 1, by omega⟩
        obtain ⟨ba, oa, rfl, _⟩ := ha.ptr (by omega)
        obtain ⟨bb, ob, rfl, _⟩ := hb.ptr (by omega)
        obtain ⟨x, hx⟩ : ∃ x, wd a j = x := ⟨_, rfl⟩
        obtain ⟨y, hy⟩ : ∃ y, wd b j = y := ⟨_, rfl⟩
        have c1 := (ha.below hbw hB).cell j x (by omega) hx
        have c2 := (hb.below hbw hB2).cell j y (by omega) hy
        have ej : (((j + 1 : Nat) : Int) - 1) = (j : Int) := by omega
        rw [ej]
        have hjL : j < L := by omega
        have hji : (j : Int) < (L : Int) := by omega
        have n1 : IntKind.i64.wrap ((j : Int) - 1) = (j : Int) - 1 := wrap_i64_is _ (by omega) (by omega)
        have SA := box ha
        have SB := box hb
        by_cases hxy : x = y
        · have NE : Box (a / 2 ^ (64 * j) = b / 2 ^ (64 * j)) := box (by rw [div_wd, div_wd b, HE.out, hx, hy, hxy])
          subst hxy
          clear hx hy ha hb HE ej
          go_wp2
          go_quiet (fail)
          go_wp2
          go_roundw
          case rel => exact ⟨j, by omega, by first | rfl | go_num, below_drewN hbw _, NE⟩
          case measure => simp [intOf]
        · have E : Box (cmpi x y = k) := box (by rw [cmpi_nat, ← K.out, ← hx, ← hy]; exact cmpv_hi a b j HE.out (by rw [hx, hy]; exact hxy))
          have dn2 : ((x : Int) != (y : Int)) = true := by simp; omega
          have hxy2 : ¬ (x : Int) = (y : Int) := by omega
          clear hx hy ha hb HE ej
          go_wp2
          go_quiet (fail)
          go_wp2
          go_quiet ((go_at_call 82; exact (cmp_word _ _ k E.out _).mono (fun _ _ h => ⟨h.1, _, h.2⟩)))
          go_wp2
          go_ret
          exact ⟨rfl, below_drewN (below_drewN hbw _) _⟩
  · have hne : ((L : Int) != (M : Int)) = true := by simp; omega
    have e : cmpi (L : Int) (M : Int) = k := by
      rw [cmpi_nat, ← hk]
      by_cases h2 : L < M
      · rw [cmpv_lt _ _ h2, cmpv_lt a b (wl_lt_of a b (by omega))]
      · rw [cmpv_gt _ _ (show M < L by omega), cmpv_gt a b (wl_lt_of b a (by omega))]
    have E := box e
    clear e hk la lb ha hb
    go_enter Tryd.func70, Tryd.ntmps70
    go_wp2_with fail
    refine (cmp_int _ _ k E.out _).mono ?_
    rintro e w' ⟨rfl, rfl⟩
    go_wp2
    go_ret
    exact ⟨rfl, Below.refl _ _⟩
theorem prod_step (a b i M X x V : Nat) (hb : b < 2 ^ (64 * M)) (hX : X = (a % 2 ^ (64 * i)) * b) (hx : wd a i = x) (hV : vw X i (M + 1) = V) :
    X < 2 ^ (64 * (i + (M + 1))) ∧ (V + b * x) < 2 ^ (64 * (M + 1)) ∧ b * x < 2 ^ (64 * (M + 1)) ∧ putw X i (M + 1) (V + b * x) = (a % 2 ^ (64 * (i + 1))) * b := by
  have ha := Nat.mod_lt a (Nat.two_pow_pos (64 * i))
  have hx64 : x < 18446744073709551616 := by rw [← hx]; exact wd_lt _ _
  have hbx : b * x ≤ 2 ^ (64 * M) * 18446744073709551615 := Nat.mul_le_mul (Nat.le_of_lt hb) (by omega)
  have h1 : X < 2 ^ (64 * (i + M)) := by
    rw [hX, pow_oL]
    by_cases e : b = 0
    · rw [e, Nat.mul_zero]; exact Nat.mul_pos (Nat.two_pow_pos _) (Nat.two_pow_pos _)
    · exact Nat.mul_lt_mul_of_lt_of_le ha (Nat.le_of_lt hb) (Nat.two_pow_pos _)
  have h2 : X < 2 ^ (64 * (i + (M + 1))) := Nat.lt_of_lt_of_le h1 (pow64_le _ _ (by omega))
  have h3 : V = X / 2 ^ (64 * i) := by rw [← hV]; exact vw_top X i (M + 1) h2
  have h4 : V < 2 ^ (64 * M) := by rw [h3]; exact Nat.div_lt_of_lt_mul (by rw [← pow_oL]; exact h1)
  refine ⟨h2, by rw [pow64]; omega, by rw [pow64]; have := Nat.two_pow_pos (64 * M); omega, ?_⟩
  rw [putw_top X i (M + 1) _ h2, mod_wd, hx, Nat.add_mul, ← hX, h3, Nat.mul_add]
  have := Nat.div_add_mod X (2 ^ (64 * i))
  rw [Nat.mul_comm b x, Nat.mul_assoc]
  omega

end Go.Proofs.YtknkkagapcigfaaDoor
