/-
  JamTwice returns true for every number of 384 bits and every two counts: one shift and another one are both together.
-/
import Derived.Test.YtgiehfecljampaaRows
import Derived.WalkKit
import Derived.ProofKit
import Derived.OpenShut
import Derived.Test.YtgiehfecljampaaFrame6
import Derived.Test.YtgiehfecljampaaJam3
namespace Go.Proofs.Ytgiehfecljampaa.jamTwice
open WMath
open Go.ChangeShapes Go.WideShapes Go.ChangeAt Go.RowKit
set_option linter.unusedVariables false

theorem own : ownKnob Try.prog.godebug = none := by kernel_rfl

theorem and511_any (a : Int) : ∃ k : Nat, k < 512 ∧ bits .and .i64 a 511 = (k : Int) := by
  refine ⟨(BitVec.ofInt 64 a).toNat % 512, Nat.mod_lt _ (by decide), ?_⟩
  show IntKind.i64.wrap ((BitVec.ofInt 64 a &&& BitVec.ofInt 64 511).toNat : Int) = _
  have h1 : (BitVec.ofInt 64 511).toNat = 2 ^ 9 - 1 := by decide
  rw [BitVec.toNat_and, h1, Nat.and_two_pow_sub_one_eq_mod]
  exact wrap_i64_is _ (by omega) (by omega)

set_option maxRecDepth 100000 in
set_option maxHeartbeats 4000000 in
theorem walk (a0 : Nat) (a1 : Int) (a2 : Int) (h0 : a0 < Q) (h1 : (Lit.int .i64 a1).wf = true) (h2 : (Lit.int .i64 a2).wf = true) (w : World) :
    Calls Try.prog 6 #[.agg (cw 6 a0), .int .i64 a1, .int .i64 a2] w fun e w' => e = .returned (.bool true) ∧ Below w.heap.size w w' := by
  obtain ⟨n, n5, HN⟩ := and511_any a1
  obtain ⟨k, k5, HK⟩ := and511_any a2
  obtain ⟨x, hx⟩ : ∃ x, jr a0 n = x := ⟨_, rfl⟩
  obtain ⟨y, hy⟩ : ∃ y, jr x k = y := ⟨_, rfl⟩
  obtain ⟨t, ht⟩ : ∃ t : Nat, n + k = t := ⟨_, rfl⟩
  have xQ : x < Q := by rw [← hx]; exact jr_ltQ _ _ h0
  have yQ : y < Q := by rw [← hy]; exact jr_ltQ _ _ xQ
  have HX : Box (jr a0 (cnt6 (n : Int)) = x) := box (by rw [jr_cnt6 _ _ h0]; exact hx)
  have HY : Box (jr x (cnt6 (k : Int)) = y) := box (by rw [jr_cnt6 _ _ xQ]; exact hy)
  have HT : Box (jr a0 (cnt6 (t : Int)) = y) := box (by rw [jr_cnt6 _ _ h0, ← hy, ← hx, jr_twice, ht]; rfl)
  have n1 : IntKind.i64.wrap ((n : Int) + (k : Int)) = (t : Int) := by rw [wrap_i64_is _ (by omega) (by omega)]; omega
  clear hx hy ht n5 k5
  have hat := cw_at 6
  have hz := cw6z
  have hf := cw6f
  have hs0 := st0
  have hs1 := st1
  have hcs : ∀ x, ((cw 6 x).size = 6) = True := fun x => eq_true (cw_size 6 x)
  have heq := eq6
  have hg := eqg6
  go_enter Try.func6, Try.ntmps6
  have R0_0 : (w.alloc (Obj.cells (cw 6 a0) 24)).heap[w.heap.size]? = some (Obj.cells (cw 6 a0) 24) := by have := heap_alloc_last w (Obj.cells (cw 6 a0) 24); simpa only [size_al] using this
  have B0 : Below w.heap.size w (w.alloc (Obj.cells (cw 6 a0) 24)) := ((Below.refl _ _).alloc (by first | omega | (simp only [size_al]; omega)) _)
  have c0_0 := row_cell R0_0
  obtain ⟨V, hV⟩ : ∃ V, (w.alloc (Obj.cells (cw 6 a0) 24)) = V := ⟨_, rfl⟩
  rw [hV] at B0 R0_0
  go_wp2
  clear hV
  obtain ⟨F, hF1, hF2⟩ := below_fun V
  have f0 : ∀ u o, o < 6 → (F u).cell? ⟨w.heap.size, o, none⟩ = some (.int .u64 (wd a0 o : Nat)) := fun u => row_cell (heap_of (hF1 u) _ _ _ R0_0)
  refine wp_region_below F hF2 (by kernel_rfl) (by kernel_rfl) ?_
  repeat quiet_step (fail)
  quiet_step ((go_at_call 11; exact quietF hF1 hF2 (jright_is a0 x (n : Int) h0 HX.out _)))
  repeat quiet_step (fail)
  quiet_step ((go_at_call 11; exact quietF hF1 hF2 (jright_is x y (k : Int) xQ HY.out _)))
  repeat quiet_step (fail)
  quiet_step ((go_at_call 11; exact quietF hF1 hF2 (jright_is a0 y (t : Int) h0 HT.out _)))
  repeat quiet_step ((go_at_call 13; exact quietF hF1 hF2 (jalive_any _)))
  refine wpQuiet_nil ?_
  rintro _ ⟨u, rfl⟩
  go_wp2
  go_ret
  exact ⟨rfl, B0.trans ((hF1 u).mono B0.size)⟩

set_option maxRecDepth 100000 in
theorem lifted (os : Os) (started : os.Started) (H : Type) (enc : TypeId × Value → H) :
    ReturnsInHanded {} Try.checked os 6 .any (Rows.jamTwiceSpec.pre6 enc Try.prog Try.f6 Rows.jamTwiceRow.domain false) (Rows.jamTwiceSpec.post enc Try.prog Try.f6 false true false false) := by
  refine returnsInHanded_of_change (C := Try.checked) own started (by kernel_rfl) Try.func6
    (ChangeSpec.witness6 (enc := enc) (C := Try.checked) false ⟨#[], #[.agg #[.int .u64 0, .int .u64 0, .int .u64 0, .int .u64 0, .int .u64 0, .int .u64 0], .int .i64 0, .int .i64 0], []⟩ 8 (by kernel_rfl) (by kernel_rfl) (by kernel_rfl) (by kernel_rfl)) ?_
  intro W base args ds gs before hval0 hW hcnd _
  have hval : ∀ (j : Nat) t v, Try.f6.params[j]? = some t → args[j]? = some v → Value.okWide Try.prog W .any base t v := hval0
  have hW' := hW
  obtain ⟨p, q, hA0, hV, rfl, hfz, hnd⟩ := hW
  have hA : DataW.TrodAll enc Try.prog W 0 (fun _ => true) true Try.f6.params.toList args.toList ds p := hA0
  rw [Try.params6] at hA hval
  obtain ⟨v0, vs0, d0, ds0, p0, q0, hargs, rfl, rfl, k0, r0⟩ := trodAll_cons hA
  obtain ⟨v1, vs1, d1, ds1, p1, q1, rfl, rfl, rfl, k1, r1⟩ := trodAll_cons r0
  obtain ⟨v2, vs2, d2, ds2, p2, q2, rfl, rfl, rfl, k2, r2⟩ := trodAll_cons r1
  obtain ⟨rfl, rfl, rfl⟩ := trodAll_nil r2
  obtain rfl : args = #[v0, v1, v2] := by cases args; simp_all
  obtain ⟨rfl, rfl⟩ := trodVars_none hV
  obtain ⟨a0, h0, rfl, rfl, rfl⟩ := open_w6 (hval 0 24 v0 rfl rfl) k0
  obtain ⟨a1, rfl, rfl, rfl, h1⟩ := open_int Try.underlying3 (hval 1 3 v1 rfl rfl) k1
  obtain ⟨a2, rfl, rfl, rfl, h2⟩ := open_int Try.underlying3 (hval 2 3 v2 rfl rfl) k2
  clear hA0 hval0
  simp only [List.append_nil] at hW'
  refine (walk a0 a1 a2 h0 h1 h2 W).mono fun e W' ⟨he, hg⟩ => ?_
  subst he
  exact ⟨_, rfl, post_plain hW' (fun _ _ _ => (trodAll_cons_mk (shut_bool Try.underlying4 _) trodAll_mk0)) (fun sp => (trodAll_cons_mk (shut_w6 a0) (trodAll_cons_mk (shut_int Try.underlying3 h1) (trodAll_cons_mk (shut_int Try.underlying3 h2) trodAll_mk0)))) (fun _ => rfl) hg (ok_one (by kernel_rfl) rfl (okWide_bool_mk Try.underlying4 _))⟩

theorem over : Rows.jamTwiceRow.holds Try.pinned (OpenSpec.ofChange Rows.jamTwiceSpec) :=
  OpenClaim.holds_of_wide 6 Try.f6 rfl rfl rfl rfl rfl rfl rfl ⟨rfl, rfl, rfl, rfl, rfl⟩ rfl rfl rfl rfl rfl (by kernel_rfl) Try.func6 (by kernel_rfl)
    (of_decide_eq_true (by kernel_rfl)) (by unfold Func.isWrapper; first | (rw [if_pos (by decide +kernel)]; kernel_rfl) | (rw [if_neg (by decide +kernel)]; exact ⟨rfl, rfl⟩))
    (fun os started H enc _ => lifted os started H enc)

theorem proved : Rows.JamTwiceSaid :=
  over
#print axioms proved
end Go.Proofs.Ytgiehfecljampaa.jamTwice
