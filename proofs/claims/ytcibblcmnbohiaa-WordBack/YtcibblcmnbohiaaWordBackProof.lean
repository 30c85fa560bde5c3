/-
  WordBack returns true for every two words, each carry and every count: a difference takes back a sum, signs spread twice are spread once, shifts there and back.
-/
import Derived.Test.YtcibblcmnbohiaaRows
import Derived.WalkKit
import Derived.ProofKit
import Derived.OpenShut
import Derived.Test.YtcibblcmnbohiaaWord5
namespace Go.Proofs.Ytcibblcmnbohiaa.wordBack
open WMath
open Go.ChangeShapes Go.WideShapes Go.ChangeAt Go.RowKit
set_option linter.unusedVariables false

theorem own : ownKnob Try.prog.godebug = none := by kernel_rfl

theorem walk (a0 : Int) (a1 : Int) (a2 : Bool) (a3 : Int) (w0 : (Lit.int .u64 a0).wf = true) (w1 : (Lit.int .u64 a1).wf = true) (w3 : (Lit.int .i64 a3).wf = true) (w : World) :
    Calls Try.prog 7 #[.int .u64 a0, .int .u64 a1, .bool a2, .int .i64 a3] w fun e w' => e = .returned (.bool true) ∧ Grown w w' := by
  obtain ⟨A, rfl⟩ := Int.eq_ofNat_of_zero_le (bounds_u64 w0).1
  obtain ⟨B, rfl⟩ := Int.eq_ofNat_of_zero_le (bounds_u64 w1).1
  have hA : A < 18446744073709551616 := by have := (bounds_u64 w0).2; omega
  have hB : B < 18446744073709551616 := by have := (bounds_u64 w1).2; omega
  clear w0 w1 w3
  obtain ⟨S, hS⟩ : ∃ S, S = (A + B + a2.toNat) % 18446744073709551616 := ⟨_, rfl⟩
  obtain ⟨k, hk, hkk⟩ := and63 a3
  have hadd : ∀ w, Calls Try.prog 8 #[.int .u64 A, .int .u64 B, .bool a2] w fun e w' => e = .returned (.tuple #[.int .u64 (S : Nat), .bool (decide (18446744073709551616 ≤ A + B + a2.toNat))]) ∧ w' = w := by
    intro w; rw [hS]; exact add_any A B a2 hA hB w
  have hsub : ∀ w, Calls Try.prog 10 #[.int .u64 S, .int .u64 B, .bool a2] w fun e w' => e = .returned (.tuple #[.int .u64 (A : Nat), .bool (decide (18446744073709551616 ≤ A + B + a2.toNat))]) ∧ w' = w := by
    intro w
    refine (sub_any S B a2 (by omega) hB w).mono fun e w' h => ⟨?_, h.2⟩
    have hc : a2.toNat ≤ 1 := by cases a2 <;> decide
    rw [h.1]
    exact ret_ib (by omega) (dec_eq (by omega))
  have hx64 : ∀ w, Calls Try.prog 25 #[.int .u64 A, .int .i64 64] w fun e w' => e = .returned (.int .u64 (A : Nat)) ∧ w' = w := by
    intro w
    refine (extend_any A 64 hA w).mono fun e w' h => ⟨?_, h.2⟩
    rw [h.1, show ext 64 = 64 by decide, sx64 A hA]
  have hxn : ∀ w, Calls Try.prog 25 #[.int .u64 A, .int .i64 a3] w fun e w' => e = .returned (.int .u64 (sx A (ext a3) : Nat)) ∧ w' = w := extend_any A a3 hA
  have hxx : ∀ w, Calls Try.prog 25 #[.int .u64 (sx A (ext a3) : Nat), .int .i64 a3] w fun e w' => e = .returned (.int .u64 (sx A (ext a3) : Nat)) ∧ w' = w := by
    intro w
    have h := extend_any (sx A (ext a3)) a3 (sx_lt _ _ (ext_le a3)) w
    rw [sx_sx _ _ (ext_pos a3) (ext_le a3)] at h
    exact h
  have hr1 : ∀ w, Calls Try.prog 19 #[.int .u64 A, .int .i64 k] w fun e w' => e = .returned (.int .u64 (A / 2 ^ k : Nat)) ∧ w' = w := by
    intro w
    have h := right_any A k w
    rw [cnt_small k hk] at h
    exact h
  have hle : A / 2 ^ k * 2 ^ k < 18446744073709551616 := Nat.lt_of_le_of_lt (Nat.div_mul_le_self A (2 ^ k)) hA
  obtain ⟨m, hm⟩ : ∃ m, m = A / 2 ^ k := ⟨_, rfl⟩
  rw [← hm] at hr1 hle
  have hl : ∀ w, Calls Try.prog 17 #[.int .u64 m, .int .i64 k] w fun e w' => e = .returned (.int .u64 (m * 2 ^ k : Nat)) ∧ w' = w := by
    intro w
    have h := left_any m k w
    rw [cnt_small k hk, Nat.mod_eq_of_lt hle] at h
    exact h
  have hr2 : ∀ w, Calls Try.prog 19 #[.int .u64 (m * 2 ^ k : Nat), .int .i64 k] w fun e w' => e = .returned (.int .u64 m) ∧ w' = w := by
    intro w
    have h := right_any (m * 2 ^ k) k w
    rw [cnt_small k hk, Nat.mul_div_cancel _ (Nat.two_pow_pos k)] at h
    exact h
  obtain ⟨X, hX⟩ : ∃ X, X = sx A (ext a3) := ⟨_, rfl⟩
  rw [← hX] at hxn hxx
  obtain ⟨m2, hm2⟩ : ∃ m2, m2 = m * 2 ^ k := ⟨_, rfl⟩
  rw [← hm2] at hl hr2
  have Hadd := hide hadd; have Hsub := hide hsub; have Hx64 := hide hx64; have Hxn := hide hxn; have Hxx := hide hxx; have Hr1 := hide hr1; have Hl := hide hl; have Hr2 := hide hr2
  clear hadd hsub hx64 hxn hxx hr1 hl hr2 hm hm2 hX hS hle
  go_enter Try.func7, Try.ntmps7
  go_wp2_with fail
  refine (Hadd.out _).mono ?_; rintro e w' ⟨rfl, rfl⟩
  go_wp2_with fail
  refine (Hsub.out _).mono ?_; rintro e w' ⟨rfl, rfl⟩
  go_wp2_with fail
  refine (Hx64.out _).mono ?_; rintro e w' ⟨rfl, rfl⟩
  go_wp2_with fail
  refine (Hxn.out _).mono ?_; rintro e w' ⟨rfl, rfl⟩
  go_wp2_with fail
  refine (Hxx.out _).mono ?_; rintro e w' ⟨rfl, rfl⟩
  go_wp2_with fail
  refine (Hxn.out _).mono ?_; rintro e w' ⟨rfl, rfl⟩
  go_wp2_with fail
  refine (Hr1.out _).mono ?_; rintro e w' ⟨rfl, rfl⟩
  go_wp2_with fail
  refine (Hl.out _).mono ?_; rintro e w' ⟨rfl, rfl⟩
  go_wp2_with fail
  refine (Hr2.out _).mono ?_; rintro e w' ⟨rfl, rfl⟩
  go_wp2_with (go_at_call 12; refine (alive_any _).mono ?_; rintro e w' ⟨rfl, rfl⟩)
  go_ret
  exact ⟨rfl, Grown.refl _⟩

set_option maxRecDepth 100000 in
theorem lifted (os : Os) (started : os.Started) (H : Type) (enc : TypeId × Value → H) :
    ReturnsInHanded {} Try.checked os 7 .any (Rows.wordBackSpec.pre6 enc Try.prog Try.f7 Rows.wordBackRow.domain false) (Rows.wordBackSpec.post enc Try.prog Try.f7 false true false false) := by
  refine returnsInHanded_of_change (C := Try.checked) own started (by kernel_rfl) Try.func7
    (ChangeSpec.witness6 (enc := enc) (C := Try.checked) false ⟨#[], #[.int .u64 0, .int .u64 0, .bool false, .int .i64 0], []⟩ 8 (by kernel_rfl) (by kernel_rfl) (by kernel_rfl) (by kernel_rfl)) ?_
  intro W base args ds gs before hval0 hW hcnd _
  have hval : ∀ (j : Nat) t v, Try.f7.params[j]? = some t → args[j]? = some v → Value.okWide Try.prog W .any base t v := hval0
  have hW' := hW
  obtain ⟨p, q, hA0, hV, rfl, hfz, hnd⟩ := hW
  have hA : DataW.TrodAll enc Try.prog W 0 (fun _ => true) true Try.f7.params.toList args.toList ds p := hA0
  rw [Try.params7] at hA hval
  obtain ⟨v0, vs0, d0, ds0, p0, q0, hargs, rfl, rfl, h0, r0⟩ := trodAll_cons hA
  obtain ⟨v1, vs1, d1, ds1, p1, q1, rfl, rfl, rfl, h1, r1⟩ := trodAll_cons r0
  obtain ⟨v2, vs2, d2, ds2, p2, q2, rfl, rfl, rfl, h2, r2⟩ := trodAll_cons r1
  obtain ⟨v3, vs3, d3, ds3, p3, q3, rfl, rfl, rfl, h3, r3⟩ := trodAll_cons r2
  obtain ⟨rfl, rfl, rfl⟩ := trodAll_nil r3
  obtain rfl : args = #[v0, v1, v2, v3] := by cases args; simp_all
  obtain ⟨rfl, rfl⟩ := trodVars_none hV
  obtain ⟨a0, rfl, rfl, rfl, w0⟩ := open_int Try.underlying22 (hval 0 22 v0 rfl rfl) h0
  obtain ⟨a1, rfl, rfl, rfl, w1⟩ := open_int Try.underlying22 (hval 1 22 v1 rfl rfl) h1
  obtain ⟨a2, rfl, rfl, rfl⟩ := open_bool Try.underlying4 (hval 2 4 v2 rfl rfl) h2
  obtain ⟨a3, rfl, rfl, rfl, w3⟩ := open_int Try.underlying3 (hval 3 3 v3 rfl rfl) h3
  clear hA0 hval0
  simp only [List.append_nil] at hW'
  refine (walk a0 a1 a2 a3 w0 w1 w3 W).mono fun e W' ⟨he, hg⟩ => ?_
  subst he
  exact ⟨_, rfl, post_of_same (pa := []) (pv := []) hW' (fun _ _ _ => (trodAll_cons_mk (shut_bool Try.underlying4 _) trodAll_mk0)) (fun sp _ => (trodAll_cons_mk (shut_int Try.underlying22 w0) (trodAll_cons_mk (shut_int Try.underlying22 w1) (trodAll_cons_mk (shut_bool Try.underlying4 _) (trodAll_cons_mk (shut_int Try.underlying3 w3) trodAll_mk0))))) (fun _ _ => rfl) rfl
    (hg.frame _) hg.2.1 (ok_one (by kernel_rfl) rfl (okWide_bool_mk Try.underlying4 _))⟩

theorem over : Rows.wordBackRow.holds Try.pinned (OpenSpec.ofChange Rows.wordBackSpec) :=
  OpenClaim.holds_of_wide 7 Try.f7 rfl rfl rfl rfl rfl rfl rfl ⟨rfl, rfl, rfl, rfl, rfl⟩ rfl rfl rfl rfl rfl (by kernel_rfl) Try.func7 (by kernel_rfl)
    (of_decide_eq_true (by kernel_rfl)) (by unfold Func.isWrapper; first | (rw [if_pos (by decide +kernel)]; kernel_rfl) | (rw [if_neg (by decide +kernel)]; exact ⟨rfl, rfl⟩))
    (fun os started H enc _ => lifted os started H enc)

theorem proved : Rows.WordBackSaid :=
  over
#print axioms proved
end Go.Proofs.Ytcibblcmnbohiaa.wordBack
