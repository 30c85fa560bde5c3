/-
  DivOne returns true for every format and every mode, whether they are one or not, and all bits, whether they are an encoding or not: a finite number by 1 is it, without flags; by itself it is 1, without flags, and a zero by itself the canonical NaN, with Invalid.
-/
import Derived.Test.YtapikkbifdldfaaDoorRows
import Derived.Test.YtapikkbifdldfaaDoorTie
import Derived.Test.YtapikkbifdldfaaDoorCards
import Derived.WalkKit
import Derived.ProofKit
import Derived.OpenShut
import Derived.LaidMore
import Derived.Stop.Joined
import Derived.Lib.LaidTab
import Derived.SevenTiedAt
import Derived.Test.YtapikkbifdldfaaDoorDo15
namespace Go.Proofs.YtapikkbifdldfaaDoor.divOne
open WMath
open Go.ChangeShapes Go.WideShapes Go.ChangeAt Go.RowKit
set_option linter.unusedVariables false

theorem own : ownKnob Tryd.prog.godebug = none := by kernel_rfl

set_option maxRecDepth 100000 in
set_option maxHeartbeats 4000000 in
theorem walk (a0 : Int) (a1 : Int) (a2 : Nat × Nat) (h0 : (Lit.int .u8 a0).wf = true) (h1 : (Lit.int .u8 a1).wf = true) (h2 : a2.1 < 18446744073709551616 ∧ a2.2 < 18446744073709551616) (w : World) (hT : FAt w) :
    Calls Tryd.prog 3 #[.int .u8 a0, .int .u8 a1, bitsV a2] w fun e w' => e = .returned (.bool true) ∧ Below w.heap.size w w' := by
  have FF := box hT
  clear hT
  have b0 := bounds_u8 h0
  have b1 := bounds_u8 h1
  obtain ⟨x1, y1⟩ := a2
  obtain ⟨hx1, hy1⟩ := h2
  simp only at hx1 hy1
  show Calls Tryd.prog 3 #[.int .u8 a0, .int .u8 a1, .agg #[.int .u64 (x1 : Nat), .int .u64 (y1 : Nat)]] w fun r w' => r = .returned (.bool true) ∧ Below w.heap.size w w'
  have KA := box r13alive
  obtain ⟨a, ha⟩ : ∃ a, y1 + 18446744073709551616 * x1 = a := ⟨_, rfl⟩
  cases oa : okB a0 a
  · exact do_err a0 a1 x1 y1 0 w (box (fun w hT => kClass_no a0 b0.1 b0.2 x1 y1 a hx1 hy1 ha oa w hT)) KA FF.out
  obtain ⟨hf, fa⟩ := okB_yes b0.1 oa
  have KC := box (fun w hT => kClass_yes a0 hf x1 y1 a _ hx1 hy1 ha oa rfl w hT)
  have lc := kC_lt a0 a
  by_cases c8 : 8 ≤ kC a0 a
  · exact do_nan a0 a1 x1 y1 _ (decide_eq_true (by omega)) w KC KA FF.out
  have h8 : decide ((8 : Int) ≤ ((kC a0 a : Nat) : Int)) = false := decide_eq_false (by omega)
  by_cases c0 : kC a0 a = 0
  · exact do_ninf a0 a1 x1 y1 _ h8 (ieq (by omega)) w KC KA FF.out
  by_cases c7 : kC a0 a = 7
  · exact do_pinf a0 a1 x1 y1 _ h8 (ine (by omega)) (ieq (by omega)) w KC KA FF.out
  have q0 : (((kC a0 a : Nat) : Int) == 0) = false := ine (by omega)
  have q7 : (((kC a0 a : Nat) : Int) == 7) = false := ine (by omega)
  by_cases cm : a1 ≤ 4
  case neg => exact do_mode a0 a1 x1 y1 _ h8 q0 q7 w KC (box (fun w => by have := s_checkMode a1 w; rw [if_neg cm] at this; exact bel_same this)) KA FF.out
  have KM : Box (∀ w, Calls Tryd.prog 5 #[.int .u8 a1] w fun r w' => r = .returned (.int .i64 0) ∧ Below w.heap.size w w') := box (fun w => by have := s_checkMode a1 w; rw [if_pos cm] at this; exact bel_same this)
  have hm : 0 ≤ a1 ∧ a1 ≤ 4 := ⟨b1.1, cm⟩
  have lim : ∀ n, Fit a0 n → okB a0 n = true ∧ n < 340282366920938463463374607431768211456 := fun n hn => by
    have := (fm hf).2.2.2.2.2.2
    have hn2 : n < 2 * 2 ^ wV a0 := hn
    refine ⟨?_, by omega⟩
    unfold okB
    rw [decide_eq_true_iff]
    exact ⟨is4_le hf, hn⟩
  obtain ⟨o1, o2⟩ := lim _ (one_parts hf false).1
  obtain ⟨p, q, hp⟩ : ∃ p q, bv7 (eOne a0 false) = (p, q) := ⟨_, _, rfl⟩
  obtain ⟨p1, p2, p3⟩ := bv_lt o2 hp
  have e1 : bv7 a = (x1, y1) := by unfold bv7; rw [← ha]; congr 1 <;> omega
  have K1 : Box (∀ w, FAt w → Calls Tryd.prog 8 #[.int .u8 a0, .bool false] w fun r w' => r = .returned (.agg #[.int .u64 (p : Nat), .int .u64 (q : Nat)]) ∧ Below w.heap.size w w') := box (fun w hT => by
    have := s_one a0 false hf _ rfl w hT
    rw [hp] at this
    exact this)
  have K3 := box (fun w hT => kDiv_is a0 a1 hf hm x1 y1 a p q _ hx1 hy1 ha p1 p2 p3 oa o1 a 0 (divR_one hf a1 a fa (by omega)) x1 y1 e1 w hT)
  by_cases z : kC a0 a = 3 ∨ kC a0 a = 4
  · obtain ⟨i, j, hi⟩ : ∃ i j, bv7 (eNaN a0) = (i, j) := ⟨_, _, rfl⟩
    have KN : Box (∀ w, FAt w → Calls Tryd.prog 9 #[.int .u8 a0] w fun r w' => r = .returned (.agg #[.int .u64 (i : Nat), .int .u64 (j : Nat)]) ∧ Below w.heap.size w w') := box (fun w hT => by
      have := s_nan a0 hf _ rfl w hT
      rw [hi] at this
      exact this)
    have K4 := box (fun w hT => kDiv_is a0 a1 hf hm x1 y1 a x1 y1 a hx1 hy1 ha hx1 hy1 ha oa oa _ 16 (divR_zero a0 a1 a z) i j hi w hT)
    by_cases z3 : kC a0 a = 3
    · exact do_z3 a0 a1 x1 y1 _ p q i j h8 q0 q7 (ieq (by omega)) w KC KM K1 K3 K4 KN KA FF.out
    · exact do_z4 a0 a1 x1 y1 _ p q i j h8 q0 q7 (ine (by omega)) (ieq (by omega)) w KC KM K1 K3 K4 KN KA FF.out
  · have K4 := box (fun w hT => kDiv_is a0 a1 hf hm x1 y1 a x1 y1 a hx1 hy1 ha hx1 hy1 ha oa oa _ 0 (divR_self hf a1 a (by omega)) p q hp w hT)
    exact do_num a0 a1 x1 y1 _ p q p q h8 q0 q7 (ine (by omega)) (ine (by omega)) w KC KM K1 K3 K4 K1 KA FF.out

set_option maxRecDepth 100000 in
theorem lifted (os : Os) (started : os.Started) (H : Type) (enc : TypeId × Value → H) :
    ReturnsInHanded {} Tryd.checked os 3 .any (fun w args => (Rows.divOneSpec.pre enc Tryd.prog Tryd.f3 [] false w args ∧ laidMetH Tryd.prog laid7 w) ∧ sizedMet enc Tryd.prog Tryd.f3 (OpenSpec.ofChange Rows.divOneSpec) false w args)
      (Rows.divOneSpec.post enc Tryd.prog Tryd.f3 false true false false) := by
  refine returnsInHanded_of_change_and (C := Tryd.checked) (X := fun w _ => laidMetH Tryd.prog laid7 w) (fun _ _ _ hh h => h.of_heap hh) own started (by kernel_rfl) Tryd.func3
    (ChangeSpec.witness_shaped (enc := enc) (C := Tryd.checked) (os := os) (X := fun w _ => laidMetH Tryd.prog laid7 w) false (World.doorLaid Tryd.prog 400 os) #[.int .u8 0, .int .u8 0, .agg #[.int .u64 0, .int .u64 0]] 8 rfl (World.shaped_of_RefB (by kernel_rfl) (by kernel_rfl)) (by kernel_rfl) (by kernel_rfl) (by kernel_rfl) (door_met7 os _)) ?_
  intro W base args ds gs before hval0 hW _ _ hL _
  have hval : ∀ (j : Nat) t v, Tryd.f3.params[j]? = some t → args[j]? = some v → Value.okWide Tryd.prog W .any base t v := hval0
  have hW' := hW
  obtain ⟨p, q, hA0, hV, rfl, hfz, hnd⟩ := hW
  have hA : DataW.TrodAll enc Tryd.prog W 0 (fun _ => true) true Tryd.f3.params.toList args.toList ds p := hA0
  rw [Tryd.params3] at hA hval
  obtain ⟨v0, vs0, d0, ds0, p0, q0, hargs, rfl, rfl, k0, r0⟩ := trodAll_cons hA
  obtain ⟨v1, vs1, d1, ds1, p1, q1, rfl, rfl, rfl, k1, r1⟩ := trodAll_cons r0
  obtain ⟨v2, vs2, d2, ds2, p2, q2, rfl, rfl, rfl, k2, r2⟩ := trodAll_cons r1
  obtain ⟨rfl, rfl, rfl⟩ := trodAll_nil r2
  obtain rfl : args = #[v0, v1, v2] := by cases args; simp_all
  obtain ⟨rfl, rfl⟩ := trodVars_none hV
  obtain ⟨a0, rfl, rfl, rfl, h0⟩ := open_int Tryd.underlying22 (hval 0 22 v0 rfl rfl) k0
  obtain ⟨a1, rfl, rfl, rfl, h1⟩ := open_int Tryd.underlying23 (hval 1 23 v1 rfl rfl) k1
  obtain ⟨a2, h2, rfl, rfl, rfl⟩ := open_bits (hval 2 26 v2 rfl rfl) k2
  clear hA0 hval0
  simp only [List.append_nil] at hW'
  refine (walk a0 a1 a2 h0 h1 h2 W (of_laid7 hL)).mono fun e W' ⟨he, hg⟩ => ?_
  subst he
  exact ⟨_, rfl, post_plain hW' (fun _ _ _ => trodAll_mk1 (shut_bool Tryd.underlying4 _)) (fun sp => (trodAll_cons_mk (shut_int Tryd.underlying22 h0) (trodAll_cons_mk (shut_int Tryd.underlying23 h1) (trodAll_cons_mk (shut_bits a2 h2) trodAll_mk0)))) (fun _ => rfl) hg (ok_one (by kernel_rfl) rfl (okWide_bool_mk Tryd.underlying4 _))⟩

theorem and2 {a b : Bool} (h : a = true) (k : b = true) : (a && b) = true := by rw [h, k]; rfl
set_option maxRecDepth 100000 in
set_option maxHeartbeats 4000000 in
theorem closed : joinedFacts Tryd.prog 3 Tryd.f3 Rows.divOneSpec Rows.divOneRow = true := by
  unfold joinedFacts
  refine (and2 (and2 (and2 (and2 (and2 (and2 (and2 (and2 (and2 (and2 (and2 (and2 (and2 (and2 (and2 (and2 (and2 (and2 (and2 (and2 (and2 (and2 (and2 (and2 (and2 (and2 (and2 (and2 (and2 (and2 (and2 ?_ ?_) ?_) ?_) ?_) ?_) ?_) ?_) ?_) ?_) ?_) ?_) ?_) ?_) ?_) ?_) ?_) ?_) ?_) ?_) ?_) ?_) ?_) ?_) ?_) ?_) ?_) ?_) ?_) ?_) ?_) ?_)
  all_goals as_aux_lemma => kernel_rfl
theorem over : Rows.DivOneSaid :=
  OpenClaim.holds_of_wide 3 Tryd.f3 rfl rfl rfl rfl rfl rfl rfl ⟨rfl, rfl, rfl, rfl, rfl⟩ rfl rfl rfl rfl rfl (by as_aux_lemma => kernel_rfl) Tryd.func3 closed
    (of_decide_eq_true (by kernel_rfl)) (by unfold Func.isWrapper; first | (rw [if_pos (by decide +kernel)]; kernel_rfl) | (rw [if_neg (by decide +kernel)]; exact ⟨rfl, rfl⟩))
    (fun os started H enc _ => lifted os started H enc)

theorem proved : Rows.DivOneCardSaid :=
  Claim7.holds_tied_plain_at .later [] [.data] true (true, "1674982dde5bf6282b606ba915401220ed345712460d25651c8bd342ddf711db") false
    over (fun _ h => by cases h) (by as_aux_lemma => kernel_rfl) (fun _ h => by cases h) divOne_row_tie rfl ⟨rfl, rfl⟩ (by as_aux_lemma => kernel_rfl) rfl
    (fun f fn hf hfn => by
      obtain rfl : f = 3 := Option.some.inj ((show Tryd.prog.funcNamed "abacus/abacuslaw13.DivOne" = some 3 by as_aux_lemma => kernel_rfl).symm.trans hf) |>.symm
      obtain rfl : fn = Tryd.f3 := (Option.some.inj (Tryd.func3.symm.trans hfn)).symm
      exact ⟨by as_aux_lemma => kernel_rfl, fun j t ht => by
        rw [Tryd.params3] at ht
        have h3 : t = 22 ∨ t = 23 ∨ t = 26 := by
          rcases j with _ | _ | _ | j
          · exact (Or.inl (by simpa using ht.symm))
          · exact (Or.inr (Or.inl (by simpa using ht.symm)))
          · exact (Or.inr (Or.inr (by simpa using ht.symm)))
          · simp at ht
        rcases h3 with rfl | rfl | rfl
        · exact (show Tryd.prog.wantsStandIn 22 = false by kernel_rfl)
        · exact (show Tryd.prog.wantsStandIn 23 = false by kernel_rfl)
        · exact (show Tryd.prog.wantsStandIn 26 = false by kernel_rfl)⟩)
    (by as_aux_lemma => kernel_rfl)
#print axioms proved
end Go.Proofs.YtapikkbifdldfaaDoor.divOne
