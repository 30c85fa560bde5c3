/-
  WordGo returns true for every two words: sums, differences and products of package word are what Go's own words say of them.
-/
import Derived.Test.YtcibblcmnbohiabRows
import Derived.WalkKit
import Derived.ProofKit
import Derived.OpenShut
import Derived.Test.YtcibblcmnbohiabWord5
namespace Go.Proofs.Ytcibblcmnbohiab.wordGo
open WMath
open Go.ChangeShapes Go.WideShapes Go.ChangeAt Go.RowKit
set_option linter.unusedVariables false

theorem own : ownKnob Try.prog.godebug = none := by kernel_rfl

theorem walk (a0 : Int) (a1 : Int) (w0 : (Lit.int .u64 a0).wf = true) (w1 : (Lit.int .u64 a1).wf = true) (w : World) :
    Calls Try.prog 4 #[.int .u64 a0, .int .u64 a1] w fun e w' => e = .returned (.bool true) ∧ Grown w w' := by
  obtain ⟨A, rfl⟩ := Int.eq_ofNat_of_zero_le (bounds_u64 w0).1
  obtain ⟨B, rfl⟩ := Int.eq_ofNat_of_zero_le (bounds_u64 w1).1
  have hA : A < 18446744073709551616 := by have := (bounds_u64 w0).2; omega
  have hB : B < 18446744073709551616 := by have := (bounds_u64 w1).2; omega
  clear w0 w1
  obtain ⟨S, hS⟩ : ∃ S : Nat, (S : Int) = IntKind.u64.wrap ((A : Int) + B) := ⟨(A + B) % 18446744073709551616, by rw [IntKind.wrap_u64]; omega⟩
  obtain ⟨D, hD⟩ : ∃ D : Nat, (D : Int) = IntKind.u64.wrap ((A : Int) - B) := ⟨(A + 18446744073709551616 - B) % 18446744073709551616, by rw [IntKind.wrap_u64]; omega⟩
  obtain ⟨L, hL⟩ : ∃ L : Nat, (L : Int) = IntKind.u64.wrap ((A : Int) * B) := ⟨A * B % 18446744073709551616, by rw [IntKind.wrap_u64]; simp⟩
  obtain ⟨H, hH⟩ : ∃ H : Nat, H = A * B / 18446744073709551616 := ⟨_, rfl⟩
  have hadd : ∀ w, Calls Try.prog 9 #[.int .u64 A, .int .u64 B, .bool false] w fun e w' => e = .returned (.tuple #[.int .u64 S, .bool (decide ((S : Int) < A))]) ∧ w' = w := by
    intro w
    refine (add_any A B false hA hB w).mono fun e w' h => ⟨?_, h.2⟩
    rw [IntKind.wrap_u64] at hS
    rw [h.1, Bool.toNat_false]
    exact ret_ib (by omega) (dec_eq (by omega))
  have hsub : ∀ w, Calls Try.prog 10 #[.int .u64 A, .int .u64 B, .bool false] w fun e w' => e = .returned (.tuple #[.int .u64 D, .bool (decide ((A : Int) < B))]) ∧ w' = w := by
    intro w
    refine (sub_any A B false hA hB w).mono fun e w' h => ⟨?_, h.2⟩
    rw [IntKind.wrap_u64] at hD
    rw [h.1, Bool.toNat_false]
    exact ret_ib (by omega) (dec_eq (by omega))
  have hmul : ∀ w, Calls Try.prog 8 #[.int .u64 A, .int .u64 B] w fun e w' => e = .returned (.tuple #[.int .u64 H, .int .u64 L]) ∧ w' = w := by
    intro w
    refine (mul_any A B hA hB w).mono fun e w' h => ⟨?_, h.2⟩
    rw [IntKind.wrap_u64] at hL
    rw [h.1]
    exact ret_ii (by rw [hH]) (by rw [hL]; simp)
  have eS : IntKind.u64.wrap ((A : Int) + B) = S := hS.symm
  have eD : IntKind.u64.wrap ((A : Int) - B) = D := hD.symm
  have eL : IntKind.u64.wrap ((A : Int) * B) = L := hL.symm
  clear hS hD hL hH
  go_enter Try.func4, Try.ntmps4
  go_wp2_with (first | (go_at_call 9; refine (hadd _).mono ?_; rintro e w' ⟨rfl, rfl⟩) | (go_at_call 10; refine (hsub _).mono ?_; rintro e w' ⟨rfl, rfl⟩) | (go_at_call 8; refine (hmul _).mono ?_; rintro e w' ⟨rfl, rfl⟩) | (go_at_call 7; refine (alive_any _).mono ?_; rintro e w' ⟨rfl, rfl⟩))
  go_ret
  exact ⟨rfl, Grown.refl _⟩

set_option maxRecDepth 100000 in
theorem lifted (os : Os) (started : os.Started) (H : Type) (enc : TypeId × Value → H) :
    ReturnsInHanded {} Try.checked os 4 .any (Rows.wordGoSpec.pre6 enc Try.prog Try.f4 Rows.wordGoRow.domain false) (Rows.wordGoSpec.post enc Try.prog Try.f4 false true false false) := by
  refine returnsInHanded_of_change (C := Try.checked) own started (by kernel_rfl) Try.func4
    (ChangeSpec.witness6 (enc := enc) (C := Try.checked) false ⟨#[], #[.int .u64 0, .int .u64 0], []⟩ 8 (by kernel_rfl) (by kernel_rfl) (by kernel_rfl) (by kernel_rfl)) ?_
  intro W base args ds gs before hval0 hW hcnd _
  have hval : ∀ (j : Nat) t v, Try.f4.params[j]? = some t → args[j]? = some v → Value.okWide Try.prog W .any base t v := hval0
  have hW' := hW
  obtain ⟨p, q, hA0, hV, rfl, hfz, hnd⟩ := hW
  have hA : DataW.TrodAll enc Try.prog W 0 (fun _ => true) true Try.f4.params.toList args.toList ds p := hA0
  rw [Try.params4] at hA hval
  obtain ⟨v0, vs0, d0, ds0, p0, q0, hargs, rfl, rfl, h0, r0⟩ := trodAll_cons hA
  obtain ⟨v1, vs1, d1, ds1, p1, q1, rfl, rfl, rfl, h1, r1⟩ := trodAll_cons r0
  obtain ⟨rfl, rfl, rfl⟩ := trodAll_nil r1
  obtain rfl : args = #[v0, v1] := by cases args; simp_all
  obtain ⟨rfl, rfl⟩ := trodVars_none hV
  obtain ⟨a0, rfl, rfl, rfl, w0⟩ := open_int Try.underlying22 (hval 0 22 v0 rfl rfl) h0
  obtain ⟨a1, rfl, rfl, rfl, w1⟩ := open_int Try.underlying22 (hval 1 22 v1 rfl rfl) h1
  clear hA0 hval0
  simp only [List.append_nil] at hW'
  refine (walk a0 a1 w0 w1 W).mono fun e W' ⟨he, hg⟩ => ?_
  subst he
  exact ⟨_, rfl, post_of_same (pa := []) (pv := []) hW' (fun _ _ _ => (trodAll_cons_mk (shut_bool Try.underlying4 _) trodAll_mk0)) (fun sp _ => (trodAll_cons_mk (shut_int Try.underlying22 w0) (trodAll_cons_mk (shut_int Try.underlying22 w1) trodAll_mk0))) (fun _ _ => rfl) rfl
    (hg.frame _) hg.2.1 (ok_one (by kernel_rfl) rfl (okWide_bool_mk Try.underlying4 _))⟩

theorem over : Rows.wordGoRow.holds Try.pinned (OpenSpec.ofChange Rows.wordGoSpec) :=
  OpenClaim.holds_of_wide 4 Try.f4 rfl rfl rfl rfl rfl rfl rfl ⟨rfl, rfl, rfl, rfl, rfl⟩ rfl rfl rfl rfl rfl (by kernel_rfl) Try.func4 (by kernel_rfl)
    (of_decide_eq_true (by kernel_rfl)) (by unfold Func.isWrapper; first | (rw [if_pos (by decide +kernel)]; kernel_rfl) | (rw [if_neg (by decide +kernel)]; exact ⟨rfl, rfl⟩))
    (fun os started H enc _ => lifted os started H enc)

theorem proved : Rows.WordGoSaid :=
  over
#print axioms proved
end Go.Proofs.Ytcibblcmnbohiab.wordGo
