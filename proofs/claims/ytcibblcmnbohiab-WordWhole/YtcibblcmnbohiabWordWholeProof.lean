/-
  WordWhole returns true for every three words: a quotient times its divisor and what is left is the number, a root's square and what is left too.
-/
import Derived.Test.YtcibblcmnbohiabRows
import Derived.WalkKit
import Derived.ProofKit
import Derived.OpenShut
import Derived.Test.YtcibblcmnbohiabWord4
import Derived.Test.YtcibblcmnbohiabWord5
import Derived.Test.YtcibblcmnbohiabSqrt
namespace Go.Proofs.Ytcibblcmnbohiab.wordWhole
open WMath
open Go.ChangeShapes Go.WideShapes Go.ChangeAt Go.RowKit
set_option linter.unusedVariables false

theorem own : ownKnob Try.prog.godebug = none := by kernel_rfl

theorem walk (a0 : Int) (a1 : Int) (a2 : Int) (w0 : (Lit.int .u64 a0).wf = true) (w1 : (Lit.int .u64 a1).wf = true) (w2 : (Lit.int .u64 a2).wf = true) (w : World) :
    Calls Try.prog 3 #[.int .u64 a0, .int .u64 a1, .int .u64 a2] w fun e w' => e = .returned (.bool true) ∧ Grown w w' := by
  obtain ⟨A, rfl⟩ := Int.eq_ofNat_of_zero_le (bounds_u64 w0).1
  obtain ⟨B, rfl⟩ := Int.eq_ofNat_of_zero_le (bounds_u64 w1).1
  obtain ⟨C, rfl⟩ := Int.eq_ofNat_of_zero_le (bounds_u64 w2).1
  have hB : B < 18446744073709551616 := by have := (bounds_u64 w1).2; omega
  have hC : C < 18446744073709551616 := by have := (bounds_u64 w2).2; omega
  clear w0 w1 w2
  have hsq : ∀ w, Calls Try.prog 5 #[.int .u64 B] w fun e w' => (∃ r s q : Int, r * r = q ∧ q + s ≤ B ∧ B ≤ q + s ∧ 0 ≤ r ∧ r ≤ 4294967295 ∧ 0 ≤ s ∧ s ≤ 2 * r ∧ 0 ≤ q ∧ decide ((4294967295 : Int) < r) = false ∧ decide (2 * r < s) = false ∧ (q + s != (B : Int)) = false ∧ e = .returned (.tuple #[.int .u64 r, .int .u64 s])) ∧ w' = w := by
    intro w
    refine (sqrt_any B hB w).mono fun e w' h => ⟨?_, h.2⟩
    obtain ⟨r, s, h1, h2, h3, h4⟩ := h.1
    refine ⟨r, s, ((r * r : Nat) : Int), (Int.natCast_mul r r).symm, by omega, by omega, by omega, by omega, by omega, by omega, by omega, by simp; omega, by simp; omega, by simp only [bne_eq_false_iff_eq]; omega, h4⟩
  by_cases h : A < C
  · have hd := div_any A B C h hB hC
    have hq := div_lt A B C hB h
    have hr : (A * 18446744073709551616 + B) % C < C := Nat.mod_lt _ (by omega)
    have hE := Nat.div_add_mod' (A * 18446744073709551616 + B) C
    generalize (A * 18446744073709551616 + B) / C = q at *
    generalize (A * 18446744073709551616 + B) % C = l at *
    have hm := mul_any q C hq hC
    have hh : q * C / 18446744073709551616 < 18446744073709551616 := by omega
    obtain ⟨P, hP⟩ : ∃ P, P = q * C := ⟨_, rfl⟩
    rw [← hP] at hm hE hh
    obtain ⟨X, hX⟩ : ∃ X, X = P / 18446744073709551616 := ⟨_, rfl⟩
    obtain ⟨Y, hY⟩ : ∃ Y, Y = P % 18446744073709551616 := ⟨_, rfl⟩
    obtain ⟨c, hc⟩ : ∃ c : Bool, c = decide (18446744073709551616 ≤ Y + l) := ⟨_, rfl⟩
    rw [← hX, ← hY] at hm
    have ha1 : ∀ w, Calls Try.prog 9 #[.int .u64 Y, .int .u64 l, .bool false] w fun e w' => e = .returned (.tuple #[.int .u64 B, .bool c]) ∧ w' = w := by
      intro w
      refine (add_any Y l false (by omega) (by omega) w).mono fun e w' h => ⟨?_, h.2⟩
      rw [h.1, Bool.toNat_false, hc]
      exact ret_ib (by omega) (dec_eq (by omega))
    have ha2 : ∀ w, Calls Try.prog 9 #[.int .u64 X, .int .u64 0, .bool c] w fun e w' => e = .returned (.tuple #[.int .u64 A, .bool (decide (18446744073709551616 ≤ X + 0 + c.toNat))]) ∧ w' = w := by
      intro w
      refine (add_any X 0 c (by omega) (by omega) w).mono fun e w' h => ⟨?_, h.2⟩
      rw [h.1]
      refine ret_ib ?_ rfl
      have : c.toNat = if 18446744073709551616 ≤ Y + l then 1 else 0 := by rw [hc]; split <;> simp_all
      rw [this]
      split <;> omega
    have Hd := hide hd; have Hm := hide hm; have Ha1 := hide ha1; have Ha2 := hide ha2; have Hsq := hide hsq
    clear hd hm ha1 ha2 hsq hP hX hY hc hE hh
    go_enter Try.func3, Try.ntmps3
    go_wp2_with fail
    refine (Hsq.out _).mono ?_; rintro e w' ⟨⟨r, s, Q, eq1, q1, q2, q3, q4, q5, q6, q7, b1, b2, b3, rfl⟩, rfl⟩
    go_wp2_with fail
    refine (Hd.out _).mono ?_; rintro e w' ⟨rfl, rfl⟩
    go_wp2_with fail
    refine (Hm.out _).mono ?_; rintro e w' ⟨rfl, rfl⟩
    go_wp2_with fail
    refine (Ha1.out _).mono ?_; rintro e w' ⟨rfl, rfl⟩
    go_wp2_with fail
    refine (Ha2.out _).mono ?_; rintro e w' ⟨rfl, rfl⟩
    go_wp2_with (go_at_call 7; refine (alive_any _).mono ?_; rintro e w' ⟨rfl, rfl⟩)
    go_ret
    exact ⟨rfl, Grown.refl _⟩
  · have h' : C ≤ A := by omega
    have Hd := hide (div_no A B C h'); have Hsq := hide hsq
    clear hsq
    go_enter Try.func3, Try.ntmps3
    go_wp2_with fail
    refine (Hsq.out _).mono ?_; rintro e w' ⟨⟨r, s, Q, eq1, q1, q2, q3, q4, q5, q6, q7, b1, b2, b3, rfl⟩, rfl⟩
    go_wp2_with fail
    refine (Hd.out _).mono ?_; rintro e w' ⟨rfl, rfl⟩
    go_wp2_with (go_at_call 7; refine (alive_any _).mono ?_; rintro e w' ⟨rfl, rfl⟩)
    go_ret
    exact ⟨rfl, Grown.refl _⟩

set_option maxRecDepth 100000 in
theorem lifted (os : Os) (started : os.Started) (H : Type) (enc : TypeId × Value → H) :
    ReturnsInHanded {} Try.checked os 3 .any (Rows.wordWholeSpec.pre6 enc Try.prog Try.f3 Rows.wordWholeRow.domain false) (Rows.wordWholeSpec.post enc Try.prog Try.f3 false true false false) := by
  refine returnsInHanded_of_change (C := Try.checked) own started (by kernel_rfl) Try.func3
    (ChangeSpec.witness6 (enc := enc) (C := Try.checked) false ⟨#[], #[.int .u64 0, .int .u64 0, .int .u64 0], []⟩ 8 (by kernel_rfl) (by kernel_rfl) (by kernel_rfl) (by kernel_rfl)) ?_
  intro W base args ds gs before hval0 hW hcnd _
  have hval : ∀ (j : Nat) t v, Try.f3.params[j]? = some t → args[j]? = some v → Value.okWide Try.prog W .any base t v := hval0
  have hW' := hW
  obtain ⟨p, q, hA0, hV, rfl, hfz, hnd⟩ := hW
  have hA : DataW.TrodAll enc Try.prog W 0 (fun _ => true) true Try.f3.params.toList args.toList ds p := hA0
  rw [Try.params3] at hA hval
  obtain ⟨v0, vs0, d0, ds0, p0, q0, hargs, rfl, rfl, h0, r0⟩ := trodAll_cons hA
  obtain ⟨v1, vs1, d1, ds1, p1, q1, rfl, rfl, rfl, h1, r1⟩ := trodAll_cons r0
  obtain ⟨v2, vs2, d2, ds2, p2, q2, rfl, rfl, rfl, h2, r2⟩ := trodAll_cons r1
  obtain ⟨rfl, rfl, rfl⟩ := trodAll_nil r2
  obtain rfl : args = #[v0, v1, v2] := by cases args; simp_all
  obtain ⟨rfl, rfl⟩ := trodVars_none hV
  obtain ⟨a0, rfl, rfl, rfl, w0⟩ := open_int Try.underlying22 (hval 0 22 v0 rfl rfl) h0
  obtain ⟨a1, rfl, rfl, rfl, w1⟩ := open_int Try.underlying22 (hval 1 22 v1 rfl rfl) h1
  obtain ⟨a2, rfl, rfl, rfl, w2⟩ := open_int Try.underlying22 (hval 2 22 v2 rfl rfl) h2
  clear hA0 hval0
  simp only [List.append_nil] at hW'
  refine (walk a0 a1 a2 w0 w1 w2 W).mono fun e W' ⟨he, hg⟩ => ?_
  subst he
  exact ⟨_, rfl, post_of_same (pa := []) (pv := []) hW' (fun _ _ _ => (trodAll_cons_mk (shut_bool Try.underlying4 _) trodAll_mk0)) (fun sp _ => (trodAll_cons_mk (shut_int Try.underlying22 w0) (trodAll_cons_mk (shut_int Try.underlying22 w1) (trodAll_cons_mk (shut_int Try.underlying22 w2) trodAll_mk0)))) (fun _ _ => rfl) rfl
    (hg.frame _) hg.2.1 (ok_one (by kernel_rfl) rfl (okWide_bool_mk Try.underlying4 _))⟩

theorem over : Rows.wordWholeRow.holds Try.pinned (OpenSpec.ofChange Rows.wordWholeSpec) :=
  OpenClaim.holds_of_wide 3 Try.f3 rfl rfl rfl rfl rfl rfl rfl ⟨rfl, rfl, rfl, rfl, rfl⟩ rfl rfl rfl rfl rfl (by kernel_rfl) Try.func3 (by kernel_rfl)
    (of_decide_eq_true (by kernel_rfl)) (by unfold Func.isWrapper; first | (rw [if_pos (by decide +kernel)]; kernel_rfl) | (rw [if_neg (by decide +kernel)]; exact ⟨rfl, rfl⟩))
    (fun os started H enc _ => lifted os started H enc)

theorem proved : Rows.WordWholeSaid :=
  over
#print axioms proved
end Go.Proofs.Ytcibblcmnbohiab.wordWhole
