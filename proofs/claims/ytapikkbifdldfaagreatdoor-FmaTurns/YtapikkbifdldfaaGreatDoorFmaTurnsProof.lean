/-
  FmaTurns returns true for every format and every mode, whether they are one or not, and all bits, whether they are encodings or not: what the three with turned signs deliver, the flags and the errors are the document's.
-/
import Derived.Test.YtapikkbifdldfaaGreatDoorRows
import Derived.Test.YtapikkbifdldfaaGreatDoorTie
import Derived.Test.YtapikkbifdldfaaGreatDoorCards
import Derived.WalkKit
import Derived.ProofKit
import Derived.OpenShut
import Derived.LaidMore
import Derived.Stop.Joined
import Derived.Lib.LaidTab
import Derived.SevenTiedAt
import Derived.Test.YtapikkbifdldfaaGreatDoorFt29
namespace Go.Proofs.YtapikkbifdldfaaGreatDoor.fmaTurns
open WMath
open Go.ChangeShapes Go.WideShapes Go.ChangeAt Go.RowKit
set_option linter.unusedVariables false

theorem own : ownKnob Tryz.prog.godebug = none := by kernel_rfl

set_option maxRecDepth 100000 in
set_option maxHeartbeats 4000000 in
theorem walk (a0 : Int) (a1 : Int) (a2 : Nat × Nat) (a3 : Nat × Nat) (a4 : Nat × Nat) (h0 : (Lit.int .u8 a0).wf = true) (h1 : (Lit.int .u8 a1).wf = true) (h2 : a2.1 < 18446744073709551616 ∧ a2.2 < 18446744073709551616) (h3 : a3.1 < 18446744073709551616 ∧ a3.2 < 18446744073709551616) (h4 : a4.1 < 18446744073709551616 ∧ a4.2 < 18446744073709551616) (w : World) (hT : xG w) :
    Calls Tryz.prog 5 #[.int .u8 a0, .int .u8 a1, xL a2, xL a3, xL a4] w fun e w' => e = .returned (.bool true) ∧ Below w.heap.size w w' := by
  have FF := zJ hT
  clear hT
  have b0 := bounds_u8 h0
  have b1 := bounds_u8 h1
  obtain ⟨x1, y1⟩ := a2
  obtain ⟨hx1, hy1⟩ := h2
  obtain ⟨x2, y2⟩ := a3
  obtain ⟨hx2, hy2⟩ := h3
  obtain ⟨x3, y3⟩ := a4
  obtain ⟨hx3, hy3⟩ := h4
  simp only at hx1 hy1 hx2 hy2 hx3 hy3
  show Calls Tryz.prog 5 #[.int .u8 a0, .int .u8 a1, .agg #[.int .u64 (x1 : Nat), .int .u64 (y1 : Nat)], .agg #[.int .u64 (x2 : Nat), .int .u64 (y2 : Nat)], .agg #[.int .u64 (x3 : Nat), .int .u64 (y3 : Nat)]] w fun r w' => r = .returned (.bool true) ∧ Below w.heap.size w w'
  obtain ⟨u1, v1, f1, e1, K1, R1, w1⟩ := both_MulSub a0 a1 b0.1 b0.2 b1.1 x1 y1 x2 y2 x3 y3 hx1 hy1 hx2 hy2 hx3 hy3
  obtain ⟨u2, v2, f2, e2, K2, R2, w2⟩ := both_NegMulSub a0 a1 b0.1 b0.2 b1.1 x1 y1 x2 y2 x3 y3 hx1 hy1 hx2 hy2 hx3 hy3
  obtain ⟨u3, v3, f3, e3, K3, R3, w3⟩ := both_NegMulAdd a0 a1 b0.1 b0.2 b1.1 x1 y1 x2 y2 x3 y3 hx1 hy1 hx2 hy2 hx3 hy3
  exact ft_law a0 a1 x1 y1 x2 y2 x3 y3 u1 v1 f1 e1 w1 u2 v2 f2 e2 w2 u3 v3 f3 e3 w3 w K1 R1 K2 R2 K3 R3 (zJ r15alive) FF.out

set_option maxRecDepth 100000 in
theorem lifted (os : Os) (started : os.Started) (H : Type) (enc : TypeId × Value → H) :
    ReturnsInHanded {} Tryz.checked os 5 .any (fun w args => (Rows.fmaTurnsSpec.pre enc Tryz.prog Tryz.f5 [] false w args ∧ laidMetH Tryz.prog laid7 w) ∧ sizedMet enc Tryz.prog Tryz.f5 (OpenSpec.ofChange Rows.fmaTurnsSpec) false w args)
      (Rows.fmaTurnsSpec.post enc Tryz.prog Tryz.f5 false true false false) := by
  refine returnsInHanded_of_change_and (C := Tryz.checked) (X := fun w _ => laidMetH Tryz.prog laid7 w) (fun _ _ _ hh h => h.of_heap hh) own started (by kernel_rfl) Tryz.func5
    (ChangeSpec.witness_shaped (enc := enc) (C := Tryz.checked) (os := os) (X := fun w _ => laidMetH Tryz.prog laid7 w) false (World.doorLaid Tryz.prog 400 os) #[.int .u8 0, .int .u8 0, .agg #[.int .u64 0, .int .u64 0], .agg #[.int .u64 0, .int .u64 0], .agg #[.int .u64 0, .int .u64 0]] 8 rfl (World.shaped_of_RefB (by kernel_rfl) (by kernel_rfl)) (by kernel_rfl) (by kernel_rfl) (by kernel_rfl) (door_met7 os _)) ?_
  intro W base args ds gs before hval0 hW _ _ hL _
  have hval : ∀ (j : Nat) t v, Tryz.f5.params[j]? = some t → args[j]? = some v → Value.okWide Tryz.prog W .any base t v := hval0
  have hW' := hW
  obtain ⟨p, q, hA0, hV, rfl, hfz, hnd⟩ := hW
  have hA : DataW.TrodAll enc Tryz.prog W 0 (fun _ => true) true Tryz.f5.params.toList args.toList ds p := hA0
  rw [Tryz.params5] at hA hval
  obtain ⟨v0, vs0, d0, ds0, p0, q0, hargs, rfl, rfl, k0, r0⟩ := trodAll_cons hA
  obtain ⟨v1, vs1, d1, ds1, p1, q1, rfl, rfl, rfl, k1, r1⟩ := trodAll_cons r0
  obtain ⟨v2, vs2, d2, ds2, p2, q2, rfl, rfl, rfl, k2, r2⟩ := trodAll_cons r1
  obtain ⟨v3, vs3, d3, ds3, p3, q3, rfl, rfl, rfl, k3, r3⟩ := trodAll_cons r2
  obtain ⟨v4, vs4, d4, ds4, p4, q4, rfl, rfl, rfl, k4, r4⟩ := trodAll_cons r3
  obtain ⟨rfl, rfl, rfl⟩ := trodAll_nil r4
  obtain rfl : args = #[v0, v1, v2, v3, v4] := by cases args; simp_all
  obtain ⟨rfl, rfl⟩ := trodVars_none hV
  obtain ⟨a0, rfl, rfl, rfl, h0⟩ := open_int Tryz.underlying22 (hval 0 22 v0 rfl rfl) k0
  obtain ⟨a1, rfl, rfl, rfl, h1⟩ := open_int Tryz.underlying23 (hval 1 23 v1 rfl rfl) k1
  obtain ⟨a2, h2, rfl, rfl, rfl⟩ := open_bits (hval 2 26 v2 rfl rfl) k2
  obtain ⟨a3, h3, rfl, rfl, rfl⟩ := open_bits (hval 3 26 v3 rfl rfl) k3
  obtain ⟨a4, h4, rfl, rfl, rfl⟩ := open_bits (hval 4 26 v4 rfl rfl) k4
  clear hA0 hval0
  simp only [List.append_nil] at hW'
  refine (walk a0 a1 a2 a3 a4 h0 h1 h2 h3 h4 W (of_laid7 hL)).mono fun e W' ⟨he, hg⟩ => ?_
  subst he
  exact ⟨_, rfl, post_plain hW' (fun _ _ _ => trodAll_mk1 (shut_bool Tryz.underlying4 _)) (fun sp => (trodAll_cons_mk (shut_int Tryz.underlying22 h0) (trodAll_cons_mk (shut_int Tryz.underlying23 h1) (trodAll_cons_mk (shut_bits a2 h2) (trodAll_cons_mk (shut_bits a3 h3) (trodAll_cons_mk (shut_bits a4 h4) trodAll_mk0)))))) (fun _ => rfl) hg (ok_one (by kernel_rfl) rfl (okWide_bool_mk Tryz.underlying4 _))⟩

theorem and2 {a b : Bool} (h : a = true) (k : b = true) : (a && b) = true := by rw [h, k]; rfl
set_option maxRecDepth 100000 in
set_option maxHeartbeats 4000000 in
theorem closed : joinedFacts Tryz.prog 5 Tryz.f5 Rows.fmaTurnsSpec Rows.fmaTurnsRow = true := by
  unfold joinedFacts
  refine (and2 (and2 (and2 (and2 (and2 (and2 (and2 (and2 (and2 (and2 (and2 (and2 (and2 (and2 (and2 (and2 (and2 (and2 (and2 (and2 (and2 (and2 (and2 (and2 (and2 (and2 (and2 (and2 (and2 (and2 (and2 ?_ ?_) ?_) ?_) ?_) ?_) ?_) ?_) ?_) ?_) ?_) ?_) ?_) ?_) ?_) ?_) ?_) ?_) ?_) ?_) ?_) ?_) ?_) ?_) ?_) ?_) ?_) ?_) ?_) ?_) ?_) ?_)
  all_goals as_aux_lemma => kernel_rfl
theorem over : Rows.FmaTurnsSaid :=
  OpenClaim.holds_of_wide 5 Tryz.f5 rfl rfl rfl rfl rfl rfl rfl ⟨rfl, rfl, rfl, rfl, rfl⟩ rfl rfl rfl rfl rfl (by as_aux_lemma => kernel_rfl) Tryz.func5 closed
    (of_decide_eq_true (by kernel_rfl)) (by unfold Func.isWrapper; first | (rw [if_pos (by decide +kernel)]; kernel_rfl) | (rw [if_neg (by decide +kernel)]; exact ⟨rfl, rfl⟩))
    (fun os started H enc _ => lifted os started H enc)

theorem proved : Rows.FmaTurnsCardSaid :=
  Claim7.holds_tied_plain_at .later [] [.data] true (true, "23555940d19f8c80287f22facda927c85f8ade03e96f23874064bed5637a4e45") false
    over (fun _ h => by cases h) (by as_aux_lemma => kernel_rfl) (fun _ h => by cases h) fmaTurns_row_tie rfl ⟨rfl, rfl⟩ (by as_aux_lemma => kernel_rfl) rfl
    (fun f fn hf hfn => by
      obtain rfl : f = 5 := Option.some.inj ((show Tryz.prog.funcNamed "abacus/abacuslaw15.FmaTurns" = some 5 by as_aux_lemma => kernel_rfl).symm.trans hf) |>.symm
      obtain rfl : fn = Tryz.f5 := (Option.some.inj (Tryz.func5.symm.trans hfn)).symm
      exact ⟨by as_aux_lemma => kernel_rfl, fun j t ht => by
        rw [Tryz.params5] at ht
        have h3 : t = 22 ∨ t = 23 ∨ t = 26 := by
          rcases j with _ | _ | _ | _ | _ | j
          · exact (Or.inl (by simpa using ht.symm))
          · exact (Or.inr (Or.inl (by simpa using ht.symm)))
          · exact (Or.inr (Or.inr (by simpa using ht.symm)))
          · exact (Or.inr (Or.inr (by simpa using ht.symm)))
          · exact (Or.inr (Or.inr (by simpa using ht.symm)))
          · simp at ht
        rcases h3 with rfl | rfl | rfl
        · exact (show Tryz.prog.wantsStandIn 22 = false by kernel_rfl)
        · exact (show Tryz.prog.wantsStandIn 23 = false by kernel_rfl)
        · exact (show Tryz.prog.wantsStandIn 26 = false by kernel_rfl)⟩)
    (by as_aux_lemma => kernel_rfl)
#print axioms proved
end Go.Proofs.YtapikkbifdldfaaGreatDoor.fmaTurns
