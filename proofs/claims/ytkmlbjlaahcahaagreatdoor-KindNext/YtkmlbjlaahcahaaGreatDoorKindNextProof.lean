/-
  KindNext returns true for every format, whether it is one or not, and all bits: the next number is above, and no number of the format stands between.
-/
import Derived.Test.YtkmlbjlaahcahaaGreatDoorRows
import Derived.Test.YtkmlbjlaahcahaaGreatDoorTie
import Derived.Test.YtkmlbjlaahcahaaGreatDoorCards
import Derived.WalkKit
import Derived.ProofKit
import Derived.OpenShut
import Derived.LaidMore
import Derived.Stop.Joined
import Derived.Lib.LaidTab
import Derived.SevenTiedAt
import Derived.Test.YtkmlbjlaahcahaaGreatDoorNa19
namespace Go.Proofs.YtkmlbjlaahcahaaGreatDoor.kindNext
open WMath
open Go.ChangeShapes Go.WideShapes Go.ChangeAt Go.RowKit
open XMath
set_option linter.unusedVariables false

theorem own : ownKnob Tryz.prog.godebug = none := by kernel_rfl

set_option maxRecDepth 100000 in
set_option maxHeartbeats 4000000 in
theorem walk (a0 : Int) (a1 : Nat × Nat) (h0 : (Lit.int .u8 a0).wf = true) (h1 : a1.1 < 18446744073709551616 ∧ a1.2 < 18446744073709551616) (w : World) (hT : TabAt w ∧ FAt w) :
    Calls Tryz.prog 6 #[.int .u8 a0, bitsV a1] w fun e w' => e = .returned (.bool true) ∧ Below w.heap.size w w' := by
  have TT := box hT.1
  have FF := box hT.2
  clear hT
  have b0 := bounds_u8 h0
  obtain ⟨x, y⟩ := a1
  obtain ⟨hx, hy⟩ := h1
  simp only at hx hy
  show Calls Tryz.prog 6 #[.int .u8 a0, .agg #[.int .u64 (x : Nat), .int .u64 (y : Nat)]] w fun r w' => r = .returned (.bool true) ∧ Below w.heap.size w w'
  obtain ⟨n, hn⟩ : ∃ n, y + 18446744073709551616 * x = n := ⟨_, rfl⟩
  have KA := box kalive
  have Q1 : (∃ (u v : Nat) (e : Int), Box (∀ w, FAt w → Calls Tryz.prog 24 #[.int .u8 a0, .agg #[.int .u64 (x : Nat), .int .u64 (y : Nat)]] w fun r w' => r = .returned (.tuple #[.agg #[.int .u64 (u : Nat), .int .u64 (v : Nat)], .int .i64 e]) ∧ Below w.heap.size w w') ∧ (e != 0) = true) ∨ (∃ (u v : Nat), Box (∀ w, FAt w → Calls Tryz.prog 24 #[.int .u8 a0, .agg #[.int .u64 (x : Nat), .int .u64 (y : Nat)]] w fun r w' => r = .returned (.tuple #[.agg #[.int .u64 (u : Nat), .int .u64 (v : Nat)], .int .i64 0]) ∧ Below w.heap.size w w') ∧ Road a0 x y u v) := by
    cases ho : okB a0 n
    · exact Or.inl ⟨0, 0, 2, box (fun w hT => kNext_no a0 b0.1 b0.2 x y n hx hy hn ho w hT), by decide⟩
    · obtain ⟨hf, fit⟩ := okB_yes b0.1 ho
      obtain ⟨m, e, hme⟩ : ∃ m e, nx a0 n = (m, e) := ⟨_, _, rfl⟩
      obtain ⟨u, v, huv⟩ : ∃ u v, bv7 m = (u, v) := ⟨_, _, rfl⟩
      by_cases he : e = 0
      · subst he
        exact Or.inr ⟨u, v, box (fun w hT => kNext_yes a0 hf x y n u v 0 hx hy hn ho m hme huv w hT), roads a0 hf x y n u v m hx hy hn ho hme huv⟩
      · exact Or.inl ⟨u, v, e, box (fun w hT => kNext_yes a0 hf x y n u v e hx hy hn ho m hme huv w hT), by simpa using he⟩
  clear hx hy hn h0
  rcases Q1 with ⟨u, v, e, KN, he⟩ | ⟨u, v, KN, ⟨b1, s1, t1, e1, b2, s2, t2, e2, h, KV, KW, KI⟩ | ⟨b1, s1, t1, e1, b2, s2, t2, e2, i, j, KV, KW, KI, ne, KJ⟩ | ⟨b1, s1, t1, e1, b2, s2, t2, e2, c, KV, KW, KC, hc, ⟨KL, KZ⟩ | ⟨i, j, b3, s3, t3, e3, b4, s4, t4, e4, KL, ne, KD, KS, KO⟩⟩⟩
  · exact next_r0 a0 x y u v e w KN he FF.out TT.out
  · exact next_r1 a0 x y u v b1 s1 t1 e1 b2 s2 t2 e2 h w KN KV KW KI FF.out TT.out
  · exact next_r2 a0 x y u v b1 s1 t1 e1 b2 s2 t2 e2 i j w KN KV KW KI KJ ne FF.out TT.out
  · have hc2 : decide (0 ≤ c) = false := by rw [decide_eq_false_iff_not]; have := of_decide_eq_true hc; omega
    exact next_r3 a0 x y u v b1 s1 t1 e1 b2 s2 t2 e2 c w KN KV KW KC hc hc2 KL KZ FF.out TT.out
  · have hc2 : decide (0 ≤ c) = false := by rw [decide_eq_false_iff_not]; have := of_decide_eq_true hc; omega
    exact next_r4 a0 x y u v b1 s1 t1 e1 b2 s2 t2 e2 c i j b3 s3 t3 e3 b4 s4 t4 e4 w KN KV KW KC hc hc2 KL ne KD KS KO FF.out TT.out

set_option maxRecDepth 100000 in
theorem lifted (os : Os) (started : os.Started) (H : Type) (enc : TypeId × Value → H) :
    ReturnsInHanded {} Tryz.checked os 6 .any (fun w args => (Rows.kindNextSpec.pre enc Tryz.prog Tryz.f6 [] false w args ∧ laidMetH Tryz.prog laid8 w) ∧ sizedMet enc Tryz.prog Tryz.f6 (OpenSpec.ofChange Rows.kindNextSpec) false w args)
      (Rows.kindNextSpec.post enc Tryz.prog Tryz.f6 false true false false) := by
  refine returnsInHanded_of_change_and (C := Tryz.checked) (X := fun w _ => laidMetH Tryz.prog laid8 w) (fun _ _ _ hh h => h.of_heap hh) own started (by kernel_rfl) Tryz.func6
    (ChangeSpec.witness_shaped (enc := enc) (C := Tryz.checked) (os := os) (X := fun w _ => laidMetH Tryz.prog laid8 w) false (World.doorLaid Tryz.prog 400 os) #[.int .u8 0, .agg #[.int .u64 0, .int .u64 0]] 8 rfl (World.shaped_of_RefB (by kernel_rfl) (by kernel_rfl)) (by kernel_rfl) (by kernel_rfl) (by kernel_rfl) (door_met8 os _)) ?_
  intro W base args ds gs before hval0 hW _ _ hL _
  have hval : ∀ (j : Nat) t v, Tryz.f6.params[j]? = some t → args[j]? = some v → Value.okWide Tryz.prog W .any base t v := hval0
  have hW' := hW
  obtain ⟨p, q, hA0, hV, rfl, hfz, hnd⟩ := hW
  have hA : DataW.TrodAll enc Tryz.prog W 0 (fun _ => true) true Tryz.f6.params.toList args.toList ds p := hA0
  rw [Tryz.params6] at hA hval
  obtain ⟨v0, vs0, d0, ds0, p0, q0, hargs, rfl, rfl, k0, r0⟩ := trodAll_cons hA
  obtain ⟨v1, vs1, d1, ds1, p1, q1, rfl, rfl, rfl, k1, r1⟩ := trodAll_cons r0
  obtain ⟨rfl, rfl, rfl⟩ := trodAll_nil r1
  obtain rfl : args = #[v0, v1] := by cases args; simp_all
  obtain ⟨rfl, rfl⟩ := trodVars_none hV
  obtain ⟨a0, rfl, rfl, rfl, h0⟩ := open_int Tryz.underlying22 (hval 0 22 v0 rfl rfl) k0
  obtain ⟨a1, h1, rfl, rfl, rfl⟩ := open_bits (hval 1 25 v1 rfl rfl) k1
  clear hA0 hval0
  simp only [List.append_nil] at hW'
  refine (walk a0 a1 h0 h1 W (of_laid8 hL)).mono fun e W' ⟨he, hg⟩ => ?_
  subst he
  exact ⟨_, rfl, post_plain hW' (fun _ _ _ => trodAll_mk1 (shut_bool Tryz.underlying4 _)) (fun sp => (trodAll_cons_mk (shut_int Tryz.underlying22 h0) (trodAll_cons_mk (shut_bits a1 h1) trodAll_mk0))) (fun _ => rfl) hg (ok_one (by kernel_rfl) rfl (okWide_bool_mk Tryz.underlying4 _))⟩

theorem over : Rows.KindNextSaid :=
  OpenClaim.holds_of_wide 6 Tryz.f6 rfl rfl rfl rfl rfl rfl rfl ⟨rfl, rfl, rfl, rfl, rfl⟩ rfl rfl rfl rfl rfl (by kernel_rfl) Tryz.func6 (by kernel_rfl)
    (of_decide_eq_true (by kernel_rfl)) (by unfold Func.isWrapper; first | (rw [if_pos (by decide +kernel)]; kernel_rfl) | (rw [if_neg (by decide +kernel)]; exact ⟨rfl, rfl⟩))
    (fun os started H enc _ => lifted os started H enc)

theorem proved : Rows.KindNextCardSaid :=
  Claim7.holds_tied_plain_at .later [] [.data, .data] true (true, "3a95303dbe32332eeb2ec9339e887f36374356c9f27641a682c1a91f2858f569") true
    over (fun _ h => by cases h) (by kernel_rfl) (fun _ h => by cases h) kindNext_row_tie rfl ⟨rfl, rfl⟩ (by kernel_rfl) rfl
    (fun f fn hf hfn => by
      obtain rfl : f = 6 := Option.some.inj ((show Tryz.prog.funcNamed "abacus/abacuslaw08.KindNext" = some 6 by kernel_rfl).symm.trans hf) |>.symm
      obtain rfl : fn = Tryz.f6 := (Option.some.inj (Tryz.func6.symm.trans hfn)).symm
      exact ⟨by kernel_rfl, fun j t ht => by
        rw [Tryz.params6] at ht
        have h3 : t = 22 ∨ t = 25 := by
          rcases j with _ | _ | j
          · exact (Or.inl (by simpa using ht.symm))
          · exact (Or.inr (by simpa using ht.symm))
          · simp at ht
        rcases h3 with rfl | rfl
        · exact (show Tryz.prog.wantsStandIn 22 = false by kernel_rfl)
        · exact (show Tryz.prog.wantsStandIn 25 = false by kernel_rfl)⟩)
    (by kernel_rfl)
#print axioms proved
end Go.Proofs.YtkmlbjlaahcahaaGreatDoor.kindNext
