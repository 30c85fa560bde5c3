/-
  SqrtSquares returns true for every format and every mode, whether they are one or not, and all bits, whether they are an encoding or not: where a product of bits with themselves is made without flags and is not the canonical NaN, its root is their magnitude, without flags.
-/
import Derived.Test.YtpgiabmmmpdobaaDoorRows
import Derived.Test.YtpgiabmmmpdobaaDoorTie
import Derived.Test.YtpgiabmmmpdobaaDoorCards
import Derived.WalkKit
import Derived.ProofKit
import Derived.OpenShut
import Derived.LaidMore
import Derived.Stop.Joined
import Derived.Lib.LaidTab
import Derived.SevenTiedAt
import Derived.Test.YtpgiabmmmpdobaaDoorSq16
namespace Go.Proofs.YtpgiabmmmpdobaaDoor.sqrtSquares
open WMath
open Go.ChangeShapes Go.WideShapes Go.ChangeAt Go.RowKit
set_option linter.unusedVariables false

theorem own : ownKnob Tryd.prog.godebug = none := by kernel_rfl

set_option maxRecDepth 100000 in
set_option maxHeartbeats 4000000 in
theorem walk (a0 : Int) (a1 : Int) (a2 : Nat × Nat) (h0 : (Lit.int .u8 a0).wf = true) (h1 : (Lit.int .u8 a1).wf = true) (h2 : a2.1 < 18446744073709551616 ∧ a2.2 < 18446744073709551616) (w : World) (hT : FAt w) :
    Calls Tryd.prog 4 #[.int .u8 a0, .int .u8 a1, bitsV a2] w fun e w' => e = .returned (.bool true) ∧ Below w.heap.size w w' := by
  have FF := box hT
  clear hT
  have b0 := bounds_u8 h0
  have b1 := bounds_u8 h1
  obtain ⟨x1, y1⟩ := a2
  obtain ⟨hx1, hy1⟩ := h2
  simp only at hx1 hy1
  show Calls Tryd.prog 4 #[.int .u8 a0, .int .u8 a1, .agg #[.int .u64 (x1 : Nat), .int .u64 (y1 : Nat)]] w fun r w' => r = .returned (.bool true) ∧ Below w.heap.size w w'
  have KA := box r14alive
  obtain ⟨a, ha⟩ : ∃ a, y1 + 18446744073709551616 * x1 = a := ⟨_, rfl⟩
  by_cases h : (a0 ≤ 3 ∧ a1 ≤ 4) ∧ okB a0 a = true
  case neg =>
    have n1 : (decide (a0 ≤ 3 ∧ a1 ≤ 4) && okB a0 a && okB a0 a) = false := by
      rw [Bool.eq_false_iff]
      intro q
      rw [Bool.and_eq_true, Bool.and_eq_true, decide_eq_true_iff] at q
      exact h ⟨q.1.1, q.2⟩
    exact ss_err a0 a1 x1 y1 0 0 w (box (fun w hT => mul_mul_no a0 a1 x1 y1 x1 y1 0 0 0 0 0 0 w (kmay2 a0 a1 b0.1 b0.2 b1.1 x1 y1 a x1 y1 a hx1 hy1 ha hx1 hy1 ha false n1) hT)) KA FF.out
  obtain ⟨⟨c1, c2⟩, oa⟩ := h
  have hf := is4_of b0.1 c1
  have hm : 0 ≤ a1 ∧ a1 ≤ 4 := ⟨b1.1, c2⟩
  have fa := (okB_yes b0.1 oa).2
  obtain ⟨S, fl, hr⟩ : ∃ M fl, mulR a0 a1 a a = (M, fl) := ⟨_, _, rfl⟩
  obtain ⟨u, v, hv⟩ : ∃ u v, bv7 S = (u, v) := ⟨_, _, rfl⟩
  have KR := box (fun w hT => mulQ_yes a0 a1 hf hm x1 y1 a x1 y1 a hx1 hy1 ha hx1 hy1 ha oa oa S fl hr u v hv w hT)
  by_cases hfl : fl = 0
  case neg => exact ss_flag a0 a1 x1 y1 u v fl (bne_iff_ne.2 hfl) w KR KA FF.out
  subst hfl
  obtain ⟨i, j, hi⟩ : ∃ i j, bv7 (eNaN a0) = (i, j) := ⟨_, _, rfl⟩
  have KN : Box (∀ w, FAt w → Calls Tryd.prog 10 #[.int .u8 a0] w fun r w' => r = .returned (.agg #[.int .u64 (i : Nat), .int .u64 (j : Nat)]) ∧ Below w.heap.size w w') := box (fun w hT => by
    have := s_nan a0 hf _ rfl w hT
    rw [hi] at this
    exact this)
  cases he : ebb (u : Nat) (v : Nat) (i : Nat) (j : Nat)
  case true => exact ss_nan a0 a1 x1 y1 u v i j he w KR KN KA FF.out
  have hn : S ≠ eNaN a0 := fun e => by
    rw [e, hi] at hv
    injection hv with e1 e2
    rw [e1, e2] at he
    unfold ebb at he
    rw [beq_self_eq_true, beq_self_eq_true] at he
    exact Bool.noConfusion he
  obtain ⟨fS, sq⟩ := sq_all hf a1 a S fa hr hn
  have lim : ∀ n, Fit a0 n → okB a0 n = true ∧ n < 340282366920938463463374607431768211456 := fun n hn => by
    have := (fm hf).2.2.2.2.2.2
    have hn2 : n < 2 * 2 ^ wV a0 := hn
    refine ⟨?_, by omega⟩
    unfold okB
    rw [decide_eq_true_iff]
    exact ⟨c1, hn⟩
  obtain ⟨o1, o2⟩ := lim S fS
  obtain ⟨s1, s2, s3⟩ := bv_lt o2 hv
  obtain ⟨p, q, hp⟩ : ∃ p q, bv7 (enc7 a0 false (kE a0 a) (kT a0 a)) = (p, q) := ⟨_, _, rfl⟩
  have KQ := box (fun w hT => kSqrt_is a0 a1 hf hm u v S s1 s2 s3 o1 _ 0 sq p q hp w hT)
  have e1 : bv7 a = (x1, y1) := by unfold bv7; rw [← ha]; congr 1 <;> omega
  cases sg : kN a0 a
  · have ke := k_enc hf fa
    rw [sg] at ke
    rw [ke, e1] at hp
    injection hp with p1 p2
    rw [← p1, ← p2] at KQ
    exact ss_pos a0 a1 x1 y1 u v i j he w KR KN KQ (box (fun w hT => kSign_yes a0 hf x1 y1 a false hx1 hy1 ha oa sg w hT)) KA FF.out
  · have fk := flip_k hf fa
    rw [sg] at fk
    exact ss_neg a0 a1 x1 y1 u v i j he p q w KR KN KQ (box (fun w hT => kSign_yes a0 hf x1 y1 a true hx1 hy1 ha oa sg w hT)) (box (fun w hT => kFlip_yes a0 hf x1 y1 a p q hx1 hy1 ha oa (by rw [fk]; exact hp) w hT)) KA FF.out

set_option maxRecDepth 100000 in
theorem lifted (os : Os) (started : os.Started) (H : Type) (enc : TypeId × Value → H) :
    ReturnsInHanded {} Tryd.checked os 4 .any (fun w args => (Rows.sqrtSquaresSpec.pre enc Tryd.prog Tryd.f4 [] false w args ∧ laidMetH Tryd.prog laid7 w) ∧ sizedMet enc Tryd.prog Tryd.f4 (OpenSpec.ofChange Rows.sqrtSquaresSpec) false w args)
      (Rows.sqrtSquaresSpec.post enc Tryd.prog Tryd.f4 false true false false) := by
  refine returnsInHanded_of_change_and (C := Tryd.checked) (X := fun w _ => laidMetH Tryd.prog laid7 w) (fun _ _ _ hh h => h.of_heap hh) own started (by kernel_rfl) Tryd.func4
    (ChangeSpec.witness_shaped (enc := enc) (C := Tryd.checked) (os := os) (X := fun w _ => laidMetH Tryd.prog laid7 w) false (World.doorLaid Tryd.prog 400 os) #[.int .u8 0, .int .u8 0, .agg #[.int .u64 0, .int .u64 0]] 8 rfl (World.shaped_of_RefB (by kernel_rfl) (by kernel_rfl)) (by kernel_rfl) (by kernel_rfl) (by kernel_rfl) (door_met7 os _)) ?_
  intro W base args ds gs before hval0 hW _ _ hL _
  have hval : ∀ (j : Nat) t v, Tryd.f4.params[j]? = some t → args[j]? = some v → Value.okWide Tryd.prog W .any base t v := hval0
  have hW' := hW
  obtain ⟨p, q, hA0, hV, rfl, hfz, hnd⟩ := hW
  have hA : DataW.TrodAll enc Tryd.prog W 0 (fun _ => true) true Tryd.f4.params.toList args.toList ds p := hA0
  rw [Tryd.params4] at hA hval
  obtain ⟨v0, vs0, d0, ds0, p0, q0, hargs, rfl, rfl, k0, r0⟩ := trodAll_cons hA
  obtain ⟨v1, vs1, d1, ds1, p1, q1, rfl, rfl, rfl, k1, r1⟩ := trodAll_cons r0
  obtain ⟨v2, vs2, d2, ds2, p2, q2, rfl, rfl, rfl, k2, r2⟩ := trodAll_cons r1
  obtain ⟨rfl, rfl, rfl⟩ := trodAll_nil r2
  obtain rfl : args = #[v0, v1, v2] := by cases args; simp_all
  obtain ⟨rfl, rfl⟩ := trodVars_none hV
  obtain ⟨a0, rfl, rfl, rfl, h0⟩ := open_int Tryd.underlying22 (hval 0 22 v0 rfl rfl) k0
  obtain ⟨a1, rfl, rfl, rfl, h1⟩ := open_int Tryd.underlying23 (hval 1 23 v1 rfl rfl) k1
  obtain ⟨a2, h2, rfl, rfl, rfl⟩ := open_bits (hval 2 26 v2 rfl rfl) k2
  clear hA0 hval0
  simp only [List.append_nil] at hW'
  refine (walk a0 a1 a2 h0 h1 h2 W (of_laid7 hL)).mono fun e W' ⟨he, hg⟩ => ?_
  subst he
  exact ⟨_, rfl, post_plain hW' (fun _ _ _ => trodAll_mk1 (shut_bool Tryd.underlying4 _)) (fun sp => (trodAll_cons_mk (shut_int Tryd.underlying22 h0) (trodAll_cons_mk (shut_int Tryd.underlying23 h1) (trodAll_cons_mk (shut_bits a2 h2) trodAll_mk0)))) (fun _ => rfl) hg (ok_one (by kernel_rfl) rfl (okWide_bool_mk Tryd.underlying4 _))⟩

theorem and2 {a b : Bool} (h : a = true) (k : b = true) : (a && b) = true := by rw [h, k]; rfl
set_option maxRecDepth 100000 in
set_option maxHeartbeats 4000000 in
theorem closed : joinedFacts Tryd.prog 4 Tryd.f4 Rows.sqrtSquaresSpec Rows.sqrtSquaresRow = true := by
  unfold joinedFacts
  refine (and2 (and2 (and2 (and2 (and2 (and2 (and2 (and2 (and2 (and2 (and2 (and2 (and2 (and2 (and2 (and2 (and2 (and2 (and2 (and2 (and2 (and2 (and2 (and2 (and2 (and2 (and2 (and2 (and2 (and2 (and2 ?_ ?_) ?_) ?_) ?_) ?_) ?_) ?_) ?_) ?_) ?_) ?_) ?_) ?_) ?_) ?_) ?_) ?_) ?_) ?_) ?_) ?_) ?_) ?_) ?_) ?_) ?_) ?_) ?_) ?_) ?_) ?_)
  all_goals as_aux_lemma => kernel_rfl
theorem over : Rows.SqrtSquaresSaid :=
  OpenClaim.holds_of_wide 4 Tryd.f4 rfl rfl rfl rfl rfl rfl rfl ⟨rfl, rfl, rfl, rfl, rfl⟩ rfl rfl rfl rfl rfl (by as_aux_lemma => kernel_rfl) Tryd.func4 closed
    (of_decide_eq_true (by kernel_rfl)) (by unfold Func.isWrapper; first | (rw [if_pos (by decide +kernel)]; kernel_rfl) | (rw [if_neg (by decide +kernel)]; exact ⟨rfl, rfl⟩))
    (fun os started H enc _ => lifted os started H enc)

theorem proved : Rows.SqrtSquaresCardSaid :=
  Claim7.holds_tied_plain_at .later [] [.data] true (true, "2d3df77ea83143fa0f00b96408c84b1399b61645fab5fe5b90ab850e070ace17") false
    over (fun _ h => by cases h) (by as_aux_lemma => kernel_rfl) (fun _ h => by cases h) sqrtSquares_row_tie rfl ⟨rfl, rfl⟩ (by as_aux_lemma => kernel_rfl) rfl
    (fun f fn hf hfn => by
      obtain rfl : f = 4 := Option.some.inj ((show Tryd.prog.funcNamed "abacus/abacuslaw14.SqrtSquares" = some 4 by as_aux_lemma => kernel_rfl).symm.trans hf) |>.symm
      obtain rfl : fn = Tryd.f4 := (Option.some.inj (Tryd.func4.symm.trans hfn)).symm
      exact ⟨by as_aux_lemma => kernel_rfl, fun j t ht => by
        rw [Tryd.params4] at ht
        have h3 : t = 22 ∨ t = 23 ∨ t = 26 := by
          rcases j with _ | _ | _ | j
          · exact (Or.inl (by simpa using ht.symm))
          · exact (Or.inr (Or.inl (by simpa using ht.symm)))
          · exact (Or.inr (Or.inr (by simpa using ht.symm)))
          · simp at ht
        rcases h3 with rfl | rfl | rfl
        · exact (show Tryd.prog.wantsStandIn 22 = false by kernel_rfl)
        · exact (show Tryd.prog.wantsStandIn 23 = false by kernel_rfl)
        · exact (show Tryd.prog.wantsStandIn 26 = false by kernel_rfl)⟩)
    (by as_aux_lemma => kernel_rfl)
#print axioms proved
end Go.Proofs.YtpgiabmmmpdobaaDoor.sqrtSquares
