/-
  RuleNearest returns true for every format and every mode, whether they are one or not, and every exact number, whether it may be or not: what is delivered is one of the two neighbours, the one that the mode says, and of the nearest ones none is nearer.
-/
import Derived.Test.YtkblmpmkchkpjaaGreatDoorRows
import Derived.Test.YtkblmpmkchkpjaaGreatDoorTie
import Derived.Test.YtkblmpmkchkpjaaGreatDoorCards
import Derived.WalkKit
import Derived.ProofKit
import Derived.OpenShut
import Derived.LaidMore
import Derived.Stop.Joined
import Derived.Lib.LaidTab
import Derived.SevenTiedAt
import Derived.Test.YtkblmpmkchkpjaaGreatDoorNe24
namespace Go.Proofs.YtkblmpmkchkpjaaGreatDoor.ruleNearest
open WMath
open Go.ChangeShapes Go.WideShapes Go.ChangeAt Go.RowKit
open XMath
set_option linter.unusedVariables false

theorem own : ownKnob Tryz.prog.godebug = none := by kernel_rfl

set_option maxRecDepth 100000 in
set_option maxHeartbeats 4000000 in
theorem walk (a0 : Int) (a1 : Int) (vb2 : Bool) (vs2 vt2 : ByteArray) (ve2 : Int) (h0 : (Lit.int .u8 a0).wf = true) (h1 : (Lit.int .u8 a1).wf = true) (h2 : vs2.size ≤ maxLen ∧ vt2.size ≤ maxLen ∧ (Lit.int .i64 ve2).wf = true) (w : World) (hT : zN w ∧ yF w) :
    Calls Tryz.prog 4 #[.int .u8 a0, .int .u8 a1, .agg #[.bool vb2, .string vs2, .string vt2, .int .i64 ve2]] w fun e w' => e = .returned (.bool true) ∧ Below w.heap.size w w' := by
  have TT := zH hT.1
  have FF := zH hT.2
  clear hT
  have b0 := bounds_u8 h0
  have b1 := bounds_u8 h1
  have KA := zH r9alive
  obtain ⟨o1, ho1⟩ : ∃ o, (decide (vs2.size ≤ 60) && decide (vt2.size ≤ 60)) = o := ⟨_, rfl⟩
  have KS := zH (fun w => r9short vb2 vs2 vt2 ve2 o1 ho1 w)
  obtain ⟨o2, ho2⟩ := may_any vb2 vs2 vt2 ve2
  have KM := zH (fun w => xmayM vb2 vs2 vt2 ve2 o2 ho2 w)
  have KF := zH (fun w => bel_same (r_right a0 _ rfl w))
  have KO := zH (fun w => bel_same (r_mode a1 _ rfl w))
  cases o1
  case false => exact nst_s a0 a1 vb2 vs2 vt2 ve2 w KS KA FF.out TT.out
  cases o2
  case false => exact nst_m a0 a1 vb2 vs2 vt2 ve2 w KS KM KA FF.out TT.out
  by_cases c1 : a0 ≤ 3
  case neg => exact nst_f a0 a1 vb2 vs2 vt2 ve2 _ w KS KM KF (decide_eq_false c1) KA FF.out TT.out
  by_cases c2 : a1 ≤ 4
  case neg => exact nst_o a0 a1 vb2 vs2 vt2 ve2 _ _ w KS KM KF KO (decide_eq_true c1) (decide_eq_false c2) KA FF.out TT.out
  obtain ⟨n, d, hs, ht, hc⟩ := may_part ho2 rfl
  have sz : vs2.size = nl n := by rw [← hs, yE]
  have tz : vt2.size = nl d := by rw [← ht, yE]
  have s60 : vs2.size ≤ 60 ∧ vt2.size ≤ 60 := by simpa using ho1
  have hf := is4_of b0.1 c1
  have KG := zH (fun w hT => Signx_ok vb2 n d ve2 vs2 vt2 _ hs ht hc rfl w hT)
  by_cases n0 : n = 0
  · exact nst_z a0 a1 vb2 vs2 vt2 ve2 _ _ _ w KS KM KF KO KG (decide_eq_true c1) (decide_eq_true c2) (by rw [beq_iff_eq]; unfold sg; rw [if_pos n0]) KA FF.out TT.out
  have sgv : sg (XN.mk vb2 n d ve2) = if vb2 = true then -1 else 1 := by unfold sg; rw [if_neg n0]
  rw [sgv] at KG
  have hg : ((if vb2 = true then (-1 : Int) else 1) == 0) = false := by cases vb2 <;> rfl
  obtain ⟨M, fl, hM⟩ : ∃ M fl, rnd a0 a1 ⟨vb2, n, d, ve2⟩ = (M, fl) := ⟨_, _, rfl⟩
  obtain ⟨L, l2, hL⟩ : ∃ M fl, rnd a0 2 ⟨vb2, n, d, ve2⟩ = (M, fl) := ⟨_, _, rfl⟩
  obtain ⟨H, h2', hH⟩ : ∃ M fl, rnd a0 3 ⟨vb2, n, d, ve2⟩ = (M, fl) := ⟨_, _, rfl⟩
  obtain ⟨⟨fM, fL, fH, nL⟩, ⟨r1, r2, r3, r4, r5, r6⟩, zz, nz, kN1, inf, fl3, near⟩ := near_law hf a1 b1.1 c2 ⟨vb2, n, d, ve2⟩ hc n0 (show nl n ≤ 60 by omega) (show nl d ≤ 60 by omega) M L H fl l2 h2' hM hL hH
  have kN1 : kN a0 M = vb2 := kN1
  have r6 : a1 = 1 → (qJ a0 M = L ↔ (vb2 = false ∨ L = qJ a0 H)) := r6
  have lim : ∀ n, Fit a0 n → okB a0 n = true ∧ n < 340282366920938463463374607431768211456 := fun n hn => by
    have := (fm hf).2.2.2.2.2.2
    have hn2 : n < 2 * 2 ^ wV a0 := hn
    refine ⟨?_, by omega⟩
    unfold okB
    rw [decide_eq_true_iff]
    exact ⟨c1, hn⟩
  obtain ⟨oM, mM⟩ := lim _ fM
  obtain ⟨oL, mL⟩ := lim _ fL
  obtain ⟨oH, mH⟩ := lim _ fH
  obtain ⟨bu, bv, hb⟩ : ∃ u v, bv7 M = (u, v) := ⟨_, _, rfl⟩
  obtain ⟨lu, lv, hl⟩ : ∃ u v, bv7 L = (u, v) := ⟨_, _, rfl⟩
  obtain ⟨hu, hv, hh⟩ : ∃ u v, bv7 (qJ a0 H) = (u, v) := ⟨_, _, rfl⟩
  obtain ⟨p1, p2, p3⟩ := bv_lt mM hb
  obtain ⟨p4, p5, p6⟩ := bv_lt mL hl
  obtain ⟨p7, p8, p9⟩ := bv_lt mH hh
  have K1 := zH (fun w hT hT2 => kRound_is a0 a1 hf ⟨b1.1, c2⟩ vb2 n d vs2 vt2 ve2 hs ht hc (by omega) (by omega) M fl hM bu bv hb w hT hT2)
  have K2 := zH (fun w hT hT2 => kNear_is a0 hf vb2 n d vs2 vt2 ve2 hs ht hc n0 (by omega) (by omega) L H l2 h2' hL hH lu lv hu hv hl hh w hT hT2)
  have KC := zH (fun w hT => kClass_yes a0 hf bu bv M _ p1 p2 p3 oM rfl w hT)
  have KN : zS (∀ w, yF w → Calls Tryz.prog 21 #[.int .u8 a0, .agg #[.int .u64 (bu : Nat), .int .u64 (bv : Nat)]] w fun r w' => r = .returned (.bool (decide ((if vb2 = true then (-1 : Int) else 1) < 0))) ∧ Below w.heap.size w w') := zH (fun w hT => kSign_yes a0 hf bu bv M _ p1 p2 p3 oM (by rw [kN1]; cases vb2 <;> rfl) w hT)
  obtain ⟨g, hgv⟩ : ∃ g, (if vb2 = true then (-1 : Int) else 1) = g := ⟨_, rfl⟩
  rw [hgv] at KG hg KN
  have he0 : (fl == 0) = decide (L = qJ a0 H) := by rw [Bool.eq_iff_iff, beq_iff_eq, decide_eq_true_iff]; exact r2
  have hlh : yX (lu : Nat) (lv : Nat) (hu : Nat) (hv : Nat) = decide (L = qJ a0 H) := ebb_of p6 p9 p5 p8 _ rfl
  have zl0 : qJ a0 M = 0 → yX 0 0 (lu : Nat) (lv : Nat) = decide (qJ a0 M = L) ∧ yX 0 0 (hu : Nat) (hv : Nat) = decide (qJ a0 M = qJ a0 H) := fun z => ⟨ebb_of (x := 0) (y := 0) (n := 0) rfl p6 (by decide) p5 _ (by rw [z]), ebb_of (x := 0) (y := 0) (n := 0) rfl p9 (by decide) p8 _ (by rw [z])⟩
  have zlb : qJ a0 M = M → yX (bu : Nat) (bv : Nat) (lu : Nat) (lv : Nat) = decide (qJ a0 M = L) ∧ yX (bu : Nat) (bv : Nat) (hu : Nat) (hv : Nat) = decide (qJ a0 M = qJ a0 H) := fun z => ⟨ebb_of p3 p6 p2 p5 _ (by rw [z]), ebb_of p3 p9 p2 p8 _ (by rw [z])⟩
  have var : ((((kC a0 M : Nat) : Int) == 3) = true ∧ bits .and .u8 fl 6 = 2 ∧ bits .and .u8 fl 1 = 1 ∧ yX 0 0 (lu : Nat) (lv : Nat) = decide (qJ a0 M = L) ∧ yX 0 0 (hu : Nat) (hv : Nat) = decide (qJ a0 M = qJ a0 H)) ∨
    ((((kC a0 M : Nat) : Int) == 3) = false ∧ (((kC a0 M : Nat) : Int) == 4) = true ∧ bits .and .u8 fl 6 = 2 ∧ bits .and .u8 fl 1 = 1 ∧ yX 0 0 (lu : Nat) (lv : Nat) = decide (qJ a0 M = L) ∧ yX 0 0 (hu : Nat) (hv : Nat) = decide (qJ a0 M = qJ a0 H)) ∨
    ((((kC a0 M : Nat) : Int) == 3) = false ∧ (((kC a0 M : Nat) : Int) == 4) = false ∧ bits .and .u8 fl 6 = 0 ∧ yX (bu : Nat) (bv : Nat) (lu : Nat) (lv : Nat) = decide (qJ a0 M = L) ∧ yX (bu : Nat) (bv : Nat) (hu : Nat) (hv : Nat) = decide (qJ a0 M = qJ a0 H)) ∨
    ((((kC a0 M : Nat) : Int) == 3) = false ∧ (((kC a0 M : Nat) : Int) == 4) = false ∧ bits .and .u8 fl 6 = 2 ∧ bits .and .u8 fl 1 = 1 ∧ yX (bu : Nat) (bv : Nat) (lu : Nat) (lv : Nat) = decide (qJ a0 M = L) ∧ yX (bu : Nat) (bv : Nat) (hu : Nat) (hv : Nat) = decide (qJ a0 M = qJ a0 H)) ∨
    ((((kC a0 M : Nat) : Int) == 3) = false ∧ (((kC a0 M : Nat) : Int) == 4) = false ∧ bits .and .u8 fl 6 = 4 ∧ bits .and .u8 fl 1 = 1 ∧ yX (bu : Nat) (bv : Nat) (lu : Nat) (lv : Nat) = decide (qJ a0 M = L) ∧ yX (bu : Nat) (bv : Nat) (hu : Nat) (hv : Nat) = decide (qJ a0 M = qJ a0 H)) := by
    by_cases c3 : kC a0 M = 3
    · have f3 := fl3 (Or.inl c3)
      have z := zl0 (zz (Or.inl c3))
      exact Or.inl ⟨ieq9 (by omega), by rw [f3]; decide, by rw [f3]; decide, z⟩
    by_cases c4 : kC a0 M = 4
    · have f3 := fl3 (Or.inr c4)
      have z := zl0 (zz (Or.inr c4))
      exact Or.inr (Or.inl ⟨ine9 (by omega), ieq9 (by omega), by rw [f3]; decide, by rw [f3]; decide, z⟩)
    have z := zlb (nz (by omega))
    have q3 : (((kC a0 M : Nat) : Int) == 3) = false := ine9 (by omega)
    have q4 : (((kC a0 M : Nat) : Int) == 4) = false := ine9 (by omega)
    rcases r3 with w | w | w | w
    · exact Or.inr (Or.inr (Or.inl ⟨q3, q4, by rw [w]; decide, z⟩))
    · exact Or.inr (Or.inr (Or.inl ⟨q3, q4, by rw [w]; decide, z⟩))
    · exact Or.inr (Or.inr (Or.inr (Or.inl ⟨q3, q4, by rw [w]; decide, by rw [w]; decide, z⟩)))
    · exact Or.inr (Or.inr (Or.inr (Or.inr ⟨q3, q4, by rw [w]; decide, by rw [w]; decide, z⟩)))
  by_cases m2 : a1 = 2
  · have a := r4 m2
    rw [decide_eq_true a] at var
    rcases var with ⟨c3, n6e, n1e, zl, zh⟩ | ⟨c3, c4, n6e, n1e, zl, zh⟩ | ⟨c3, c4, n6e, zl, zh⟩ | ⟨c3, c4, n6e, n1e, zl, zh⟩ | ⟨c3, c4, n6e, n1e, zl, zh⟩
    · exact nst_down a0 a1 vb2 vs2 vt2 ve2 _ _ g _ _ _ _ _ _ fl _ _  w KS KM KF KO KG (decide_eq_true c1) (decide_eq_true c2) hg K1 K2 KC KN KA m2 he0 hlh (zH (Or.inl (Or.inl (⟨c3, n6e, n1e, zl⟩)))) FF.out TT.out
    · exact nst_down a0 a1 vb2 vs2 vt2 ve2 _ _ g _ _ _ _ _ _ fl _ _  w KS KM KF KO KG (decide_eq_true c1) (decide_eq_true c2) hg K1 K2 KC KN KA m2 he0 hlh (zH (Or.inl (Or.inr (⟨c3, c4, n6e, n1e, zl⟩)))) FF.out TT.out
    · exact nst_down a0 a1 vb2 vs2 vt2 ve2 _ _ g _ _ _ _ _ _ fl _ _  w KS KM KF KO KG (decide_eq_true c1) (decide_eq_true c2) hg K1 K2 KC KN KA m2 he0 hlh (zH (Or.inr (Or.inl (⟨c3, c4, n6e, zl⟩)))) FF.out TT.out
    · exact nst_down a0 a1 vb2 vs2 vt2 ve2 _ _ g _ _ _ _ _ _ fl _ _  w KS KM KF KO KG (decide_eq_true c1) (decide_eq_true c2) hg K1 K2 KC KN KA m2 he0 hlh (zH (Or.inr (Or.inr (Or.inl (⟨c3, c4, n6e, n1e, zl⟩))))) FF.out TT.out
    · exact nst_down a0 a1 vb2 vs2 vt2 ve2 _ _ g _ _ _ _ _ _ fl _ _  w KS KM KF KO KG (decide_eq_true c1) (decide_eq_true c2) hg K1 K2 KC KN KA m2 he0 hlh (zH (Or.inr (Or.inr (Or.inr (⟨c3, c4, n6e, n1e, zl⟩))))) FF.out TT.out
  by_cases m3 : a1 = 3
  · have a := r5 m3
    rw [decide_eq_true a] at var
    by_cases k : qJ a0 M = L
    · rw [decide_eq_true k] at var
      rcases var with ⟨c3, n6e, n1e, zl, zh⟩ | ⟨c3, c4, n6e, n1e, zl, zh⟩ | ⟨c3, c4, n6e, zl, zh⟩ | ⟨c3, c4, n6e, n1e, zl, zh⟩ | ⟨c3, c4, n6e, n1e, zl, zh⟩
      · exact nst_up a0 a1 vb2 vs2 vt2 ve2 _ _ g _ _ _ _ _ _ fl _ _  w KS KM KF KO KG (decide_eq_true c1) (decide_eq_true c2) hg K1 K2 KC KN KA m3 he0 hlh (zH (Or.inl (Or.inl (⟨c3, n6e, n1e, zl, zh⟩)))) FF.out TT.out
      · exact nst_up a0 a1 vb2 vs2 vt2 ve2 _ _ g _ _ _ _ _ _ fl _ _  w KS KM KF KO KG (decide_eq_true c1) (decide_eq_true c2) hg K1 K2 KC KN KA m3 he0 hlh (zH (Or.inl (Or.inr (Or.inr (Or.inl (⟨c3, c4, n6e, n1e, zl, zh⟩)))))) FF.out TT.out
      · exact nst_up a0 a1 vb2 vs2 vt2 ve2 _ _ g _ _ _ _ _ _ fl _ _  w KS KM KF KO KG (decide_eq_true c1) (decide_eq_true c2) hg K1 K2 KC KN KA m3 he0 hlh (zH (Or.inr (Or.inl (⟨c3, c4, n6e, zl, zh⟩)))) FF.out TT.out
      · exact nst_up a0 a1 vb2 vs2 vt2 ve2 _ _ g _ _ _ _ _ _ fl _ _  w KS KM KF KO KG (decide_eq_true c1) (decide_eq_true c2) hg K1 K2 KC KN KA m3 he0 hlh (zH (Or.inr (Or.inr (Or.inr (Or.inl (⟨c3, c4, n6e, n1e, zl, zh⟩)))))) FF.out TT.out
      · exact nst_up a0 a1 vb2 vs2 vt2 ve2 _ _ g _ _ _ _ _ _ fl _ _  w KS KM KF KO KG (decide_eq_true c1) (decide_eq_true c2) hg K1 K2 KC KN KA m3 he0 hlh (zH (Or.inr (Or.inr (Or.inr (Or.inr (Or.inr (Or.inl (⟨c3, c4, n6e, n1e, zl, zh⟩)))))))) FF.out TT.out
    · rw [decide_eq_false k] at var
      rcases var with ⟨c3, n6e, n1e, zl, zh⟩ | ⟨c3, c4, n6e, n1e, zl, zh⟩ | ⟨c3, c4, n6e, zl, zh⟩ | ⟨c3, c4, n6e, n1e, zl, zh⟩ | ⟨c3, c4, n6e, n1e, zl, zh⟩
      · exact nst_up a0 a1 vb2 vs2 vt2 ve2 _ _ g _ _ _ _ _ _ fl _ _  w KS KM KF KO KG (decide_eq_true c1) (decide_eq_true c2) hg K1 K2 KC KN KA m3 he0 hlh (zH (Or.inl (Or.inr (Or.inl (⟨c3, n6e, n1e, zl, zh⟩))))) FF.out TT.out
      · exact nst_up a0 a1 vb2 vs2 vt2 ve2 _ _ g _ _ _ _ _ _ fl _ _  w KS KM KF KO KG (decide_eq_true c1) (decide_eq_true c2) hg K1 K2 KC KN KA m3 he0 hlh (zH (Or.inl (Or.inr (Or.inr (Or.inr (⟨c3, c4, n6e, n1e, zl, zh⟩)))))) FF.out TT.out
      · exact nst_up a0 a1 vb2 vs2 vt2 ve2 _ _ g _ _ _ _ _ _ fl _ _  w KS KM KF KO KG (decide_eq_true c1) (decide_eq_true c2) hg K1 K2 KC KN KA m3 he0 hlh (zH (Or.inr (Or.inr (Or.inl (⟨c3, c4, n6e, zl, zh⟩))))) FF.out TT.out
      · exact nst_up a0 a1 vb2 vs2 vt2 ve2 _ _ g _ _ _ _ _ _ fl _ _  w KS KM KF KO KG (decide_eq_true c1) (decide_eq_true c2) hg K1 K2 KC KN KA m3 he0 hlh (zH (Or.inr (Or.inr (Or.inr (Or.inr (Or.inl (⟨c3, c4, n6e, n1e, zl, zh⟩))))))) FF.out TT.out
      · exact nst_up a0 a1 vb2 vs2 vt2 ve2 _ _ g _ _ _ _ _ _ fl _ _  w KS KM KF KO KG (decide_eq_true c1) (decide_eq_true c2) hg K1 K2 KC KN KA m3 he0 hlh (zH (Or.inr (Or.inr (Or.inr (Or.inr (Or.inr (Or.inr (⟨c3, c4, n6e, n1e, zl, zh⟩)))))))) FF.out TT.out
  by_cases m1 : a1 = 1
  · have a := r6 m1
    rcases Bool.eq_false_or_eq_true vb2 with vb | vb
    case inr =>
      have k : qJ a0 M = L := a.2 (Or.inl vb)
      have gv : g = 1 := by rw [← hgv, vb]; rfl
      rw [decide_eq_true k] at var
      rcases var with ⟨c3, n6e, n1e, zl, zh⟩ | ⟨c3, c4, n6e, n1e, zl, zh⟩ | ⟨c3, c4, n6e, zl, zh⟩ | ⟨c3, c4, n6e, n1e, zl, zh⟩ | ⟨c3, c4, n6e, n1e, zl, zh⟩
      · exact nst_zerop a0 a1 vb2 vs2 vt2 ve2 _ _ g _ _ _ _ _ _ fl _ _  w KS KM KF KO KG (decide_eq_true c1) (decide_eq_true c2) hg K1 K2 KC KN KA ⟨m1, gv⟩ he0 hlh (zH (Or.inl (Or.inl (⟨c3, n6e, n1e, zl⟩)))) FF.out TT.out
      · exact nst_zerop a0 a1 vb2 vs2 vt2 ve2 _ _ g _ _ _ _ _ _ fl _ _  w KS KM KF KO KG (decide_eq_true c1) (decide_eq_true c2) hg K1 K2 KC KN KA ⟨m1, gv⟩ he0 hlh (zH (Or.inl (Or.inr (⟨c3, c4, n6e, n1e, zl⟩)))) FF.out TT.out
      · exact nst_zerop a0 a1 vb2 vs2 vt2 ve2 _ _ g _ _ _ _ _ _ fl _ _  w KS KM KF KO KG (decide_eq_true c1) (decide_eq_true c2) hg K1 K2 KC KN KA ⟨m1, gv⟩ he0 hlh (zH (Or.inr (Or.inl (⟨c3, c4, n6e, zl⟩)))) FF.out TT.out
      · exact nst_zerop a0 a1 vb2 vs2 vt2 ve2 _ _ g _ _ _ _ _ _ fl _ _  w KS KM KF KO KG (decide_eq_true c1) (decide_eq_true c2) hg K1 K2 KC KN KA ⟨m1, gv⟩ he0 hlh (zH (Or.inr (Or.inr (Or.inl (⟨c3, c4, n6e, n1e, zl⟩))))) FF.out TT.out
      · exact nst_zerop a0 a1 vb2 vs2 vt2 ve2 _ _ g _ _ _ _ _ _ fl _ _  w KS KM KF KO KG (decide_eq_true c1) (decide_eq_true c2) hg K1 K2 KC KN KA ⟨m1, gv⟩ he0 hlh (zH (Or.inr (Or.inr (Or.inr (⟨c3, c4, n6e, n1e, zl⟩))))) FF.out TT.out
    case inl =>
      have gv : g = -1 := by rw [← hgv, vb]; rfl
      by_cases k : qJ a0 M = L
      · have e : L = qJ a0 H := by
          rcases a.1 k with w | w
          · rw [vb] at w
            exact absurd w (by decide)
          · exact w
        rw [decide_eq_true k] at var
        rcases var with ⟨c3, n6e, n1e, zl, zh⟩ | ⟨c3, c4, n6e, n1e, zl, zh⟩ | ⟨c3, c4, n6e, zl, zh⟩ | ⟨c3, c4, n6e, n1e, zl, zh⟩ | ⟨c3, c4, n6e, n1e, zl, zh⟩
        · exact xZ a0 a1 vb2 vs2 vt2 ve2 _ _ g _ _ _ _ _ _ fl _ _  w KS KM KF KO KG (decide_eq_true c1) (decide_eq_true c2) hg K1 K2 KC KN KA ⟨m1, gv⟩ he0 hlh (zH (Or.inl (Or.inl (⟨c3, n6e, n1e, zl, decide_eq_true e⟩)))) FF.out TT.out
        · exact xZ a0 a1 vb2 vs2 vt2 ve2 _ _ g _ _ _ _ _ _ fl _ _  w KS KM KF KO KG (decide_eq_true c1) (decide_eq_true c2) hg K1 K2 KC KN KA ⟨m1, gv⟩ he0 hlh (zH (Or.inl (Or.inr (Or.inr (Or.inl (⟨c3, c4, n6e, n1e, zl, decide_eq_true e⟩)))))) FF.out TT.out
        · exact xZ a0 a1 vb2 vs2 vt2 ve2 _ _ g _ _ _ _ _ _ fl _ _  w KS KM KF KO KG (decide_eq_true c1) (decide_eq_true c2) hg K1 K2 KC KN KA ⟨m1, gv⟩ he0 hlh (zH (Or.inr (Or.inl (⟨c3, c4, n6e, zl, decide_eq_true e⟩)))) FF.out TT.out
        · exact xZ a0 a1 vb2 vs2 vt2 ve2 _ _ g _ _ _ _ _ _ fl _ _  w KS KM KF KO KG (decide_eq_true c1) (decide_eq_true c2) hg K1 K2 KC KN KA ⟨m1, gv⟩ he0 hlh (zH (Or.inr (Or.inr (Or.inr (Or.inl (⟨c3, c4, n6e, n1e, zl, decide_eq_true e⟩)))))) FF.out TT.out
        · exact xZ a0 a1 vb2 vs2 vt2 ve2 _ _ g _ _ _ _ _ _ fl _ _  w KS KM KF KO KG (decide_eq_true c1) (decide_eq_true c2) hg K1 K2 KC KN KA ⟨m1, gv⟩ he0 hlh (zH (Or.inr (Or.inr (Or.inr (Or.inr (Or.inr (Or.inl (⟨c3, c4, n6e, n1e, zl, decide_eq_true e⟩)))))))) FF.out TT.out
      · have e : ¬ (L = qJ a0 H) := fun w => k (a.2 (Or.inr w))
        have kh := r1.resolve_left k
        rw [decide_eq_false k, decide_eq_true kh] at var
        rcases var with ⟨c3, n6e, n1e, zl, zh⟩ | ⟨c3, c4, n6e, n1e, zl, zh⟩ | ⟨c3, c4, n6e, zl, zh⟩ | ⟨c3, c4, n6e, n1e, zl, zh⟩ | ⟨c3, c4, n6e, n1e, zl, zh⟩
        · exact xZ a0 a1 vb2 vs2 vt2 ve2 _ _ g _ _ _ _ _ _ fl _ _  w KS KM KF KO KG (decide_eq_true c1) (decide_eq_true c2) hg K1 K2 KC KN KA ⟨m1, gv⟩ he0 hlh (zH (Or.inl (Or.inr (Or.inl (⟨c3, n6e, n1e, zl, zh, decide_eq_false e⟩))))) FF.out TT.out
        · exact xZ a0 a1 vb2 vs2 vt2 ve2 _ _ g _ _ _ _ _ _ fl _ _  w KS KM KF KO KG (decide_eq_true c1) (decide_eq_true c2) hg K1 K2 KC KN KA ⟨m1, gv⟩ he0 hlh (zH (Or.inl (Or.inr (Or.inr (Or.inr (⟨c3, c4, n6e, n1e, zl, zh, decide_eq_false e⟩)))))) FF.out TT.out
        · exact xZ a0 a1 vb2 vs2 vt2 ve2 _ _ g _ _ _ _ _ _ fl _ _  w KS KM KF KO KG (decide_eq_true c1) (decide_eq_true c2) hg K1 K2 KC KN KA ⟨m1, gv⟩ he0 hlh (zH (Or.inr (Or.inr (Or.inl (⟨c3, c4, n6e, zl, zh, decide_eq_false e⟩))))) FF.out TT.out
        · exact xZ a0 a1 vb2 vs2 vt2 ve2 _ _ g _ _ _ _ _ _ fl _ _  w KS KM KF KO KG (decide_eq_true c1) (decide_eq_true c2) hg K1 K2 KC KN KA ⟨m1, gv⟩ he0 hlh (zH (Or.inr (Or.inr (Or.inr (Or.inr (Or.inl (⟨c3, c4, n6e, n1e, zl, zh, decide_eq_false e⟩))))))) FF.out TT.out
        · exact xZ a0 a1 vb2 vs2 vt2 ve2 _ _ g _ _ _ _ _ _ fl _ _  w KS KM KF KO KG (decide_eq_true c1) (decide_eq_true c2) hg K1 K2 KC KN KA ⟨m1, gv⟩ he0 hlh (zH (Or.inr (Or.inr (Or.inr (Or.inr (Or.inr (Or.inr (⟨c3, c4, n6e, n1e, zl, zh, decide_eq_false e⟩)))))))) FF.out TT.out
  have m04 : a1 = 0 ∨ a1 = 4 := by omega
  have hm : (a1 == 2) = false ∧ (a1 == 3) = false ∧ (a1 == 1) = false := ⟨beq_eq_false_iff_ne.2 m2, beq_eq_false_iff_ne.2 m3, beq_eq_false_iff_ne.2 m1⟩
  have kd : (qJ a0 M = L ∨ (¬ qJ a0 M = L ∧ qJ a0 M = qJ a0 H)) := by
    by_cases k : qJ a0 M = L
    · exact Or.inl k
    · exact Or.inr ⟨k, r1.resolve_left k⟩
  by_cases fin : 0 < kC a0 M ∧ kC a0 M < 7
  case neg =>
    have f5 := inf fin m04
    have KV := zH (fun w hT hT2 => nst_val a0 bu bv false ⟨#[]⟩ ⟨#[]⟩ 0 80 false rfl w (zH (fun w hT hT2 => kValue_inf a0 hf bu bv M p1 p2 p3 oM fin w hT)) hT hT2)
    have z := zlb (nz (by omega))
    have q3 : (((kC a0 M : Nat) : Int) == 3) = false := ine9 (by omega)
    have q4 : (((kC a0 M : Nat) : Int) == 4) = false := ine9 (by omega)
    rcases kd with k | ⟨k, kh⟩
    · rw [decide_eq_true k] at z
      exact nst_inf a0 a1 vb2 vs2 vt2 ve2 _ _ g _ _ _ _ _ _ fl _ _ false ⟨#[]⟩ ⟨#[]⟩ 0 w KS KM KF KO KG (decide_eq_true c1) (decide_eq_true c2) hg K1 K2 KC KN KA KV (by rw [f5]; decide) hm he0 hlh (zH (Or.inl ⟨q3, q4, by rw [f5]; decide, by rw [f5]; decide, z.1⟩)) FF.out TT.out
    · rw [decide_eq_false k, decide_eq_true kh] at z
      exact nst_inf a0 a1 vb2 vs2 vt2 ve2 _ _ g _ _ _ _ _ _ fl _ _ false ⟨#[]⟩ ⟨#[]⟩ 0 w KS KM KF KO KG (decide_eq_true c1) (decide_eq_true c2) hg K1 K2 KC KN KA KV (by rw [f5]; decide) hm he0 hlh (zH (Or.inr ⟨q3, q4, by rw [f5]; decide, by rw [f5]; decide, z⟩)) FF.out TT.out
  obtain ⟨V, hV⟩ : ∃ V, vX a0 M = V := ⟨_, rfl⟩
  have KV := zH (fun w hT hT2 => nst_val a0 bu bv V.b (yG V.n) (yG V.d) V.e 0 true rfl w (zH (fun w hT hT2 => kValue_yes a0 hf bu bv M p1 p2 p3 oM fin V.b V.n V.d V.e _ _ hV rfl rfl w hT hT2)) hT hT2)
  by_cases g1 : 17000 < ve2
  · have gl := decide_eq_true g1
    rcases kd with k | ⟨k, kh⟩
    · rw [decide_eq_true k] at var
      rcases var with ⟨c3, n6e, n1e, zl, zh⟩ | ⟨c3, c4, n6e, n1e, zl, zh⟩ | ⟨c3, c4, n6e, zl, zh⟩ | ⟨c3, c4, n6e, n1e, zl, zh⟩ | ⟨c3, c4, n6e, n1e, zl, zh⟩
      · exact x8 a0 a1 vb2 vs2 vt2 ve2 _ _ g _ _ _ _ _ _ fl _ _ V.b _ _ V.e w KS KM KF KO KG (decide_eq_true c1) (decide_eq_true c2) hg K1 K2 KC KN KA KV gl hm he0 hlh (zH (Or.inl (Or.inl (⟨c3, n6e, n1e, zl⟩)))) FF.out TT.out
      · exact x8 a0 a1 vb2 vs2 vt2 ve2 _ _ g _ _ _ _ _ _ fl _ _ V.b _ _ V.e w KS KM KF KO KG (decide_eq_true c1) (decide_eq_true c2) hg K1 K2 KC KN KA KV gl hm he0 hlh (zH (Or.inl (Or.inr (Or.inr (Or.inl (⟨c3, c4, n6e, n1e, zl⟩)))))) FF.out TT.out
      · exact x8 a0 a1 vb2 vs2 vt2 ve2 _ _ g _ _ _ _ _ _ fl _ _ V.b _ _ V.e w KS KM KF KO KG (decide_eq_true c1) (decide_eq_true c2) hg K1 K2 KC KN KA KV gl hm he0 hlh (zH (Or.inr (Or.inl (⟨c3, c4, n6e, zl⟩)))) FF.out TT.out
      · exact x8 a0 a1 vb2 vs2 vt2 ve2 _ _ g _ _ _ _ _ _ fl _ _ V.b _ _ V.e w KS KM KF KO KG (decide_eq_true c1) (decide_eq_true c2) hg K1 K2 KC KN KA KV gl hm he0 hlh (zH (Or.inr (Or.inr (Or.inr (Or.inl (⟨c3, c4, n6e, n1e, zl⟩)))))) FF.out TT.out
      · exact x8 a0 a1 vb2 vs2 vt2 ve2 _ _ g _ _ _ _ _ _ fl _ _ V.b _ _ V.e w KS KM KF KO KG (decide_eq_true c1) (decide_eq_true c2) hg K1 K2 KC KN KA KV gl hm he0 hlh (zH (Or.inr (Or.inr (Or.inr (Or.inr (Or.inr (Or.inl (⟨c3, c4, n6e, n1e, zl⟩)))))))) FF.out TT.out
    · rw [decide_eq_false k, decide_eq_true kh] at var
      rcases var with ⟨c3, n6e, n1e, zl, zh⟩ | ⟨c3, c4, n6e, n1e, zl, zh⟩ | ⟨c3, c4, n6e, zl, zh⟩ | ⟨c3, c4, n6e, n1e, zl, zh⟩ | ⟨c3, c4, n6e, n1e, zl, zh⟩
      · exact x8 a0 a1 vb2 vs2 vt2 ve2 _ _ g _ _ _ _ _ _ fl _ _ V.b _ _ V.e w KS KM KF KO KG (decide_eq_true c1) (decide_eq_true c2) hg K1 K2 KC KN KA KV gl hm he0 hlh (zH (Or.inl (Or.inr (Or.inl (⟨c3, n6e, n1e, zl, zh⟩))))) FF.out TT.out
      · exact x8 a0 a1 vb2 vs2 vt2 ve2 _ _ g _ _ _ _ _ _ fl _ _ V.b _ _ V.e w KS KM KF KO KG (decide_eq_true c1) (decide_eq_true c2) hg K1 K2 KC KN KA KV gl hm he0 hlh (zH (Or.inl (Or.inr (Or.inr (Or.inr (⟨c3, c4, n6e, n1e, zl, zh⟩)))))) FF.out TT.out
      · exact x8 a0 a1 vb2 vs2 vt2 ve2 _ _ g _ _ _ _ _ _ fl _ _ V.b _ _ V.e w KS KM KF KO KG (decide_eq_true c1) (decide_eq_true c2) hg K1 K2 KC KN KA KV gl hm he0 hlh (zH (Or.inr (Or.inr (Or.inl (⟨c3, c4, n6e, zl, zh⟩))))) FF.out TT.out
      · exact x8 a0 a1 vb2 vs2 vt2 ve2 _ _ g _ _ _ _ _ _ fl _ _ V.b _ _ V.e w KS KM KF KO KG (decide_eq_true c1) (decide_eq_true c2) hg K1 K2 KC KN KA KV gl hm he0 hlh (zH (Or.inr (Or.inr (Or.inr (Or.inr (Or.inl (⟨c3, c4, n6e, n1e, zl, zh⟩))))))) FF.out TT.out
      · exact x8 a0 a1 vb2 vs2 vt2 ve2 _ _ g _ _ _ _ _ _ fl _ _ V.b _ _ V.e w KS KM KF KO KG (decide_eq_true c1) (decide_eq_true c2) hg K1 K2 KC KN KA KV gl hm he0 hlh (zH (Or.inr (Or.inr (Or.inr (Or.inr (Or.inr (Or.inr (⟨c3, c4, n6e, n1e, zl, zh⟩)))))))) FF.out TT.out
  by_cases g2 : ve2 < -17000
  · have gl := decide_eq_false g1
    have gl2 := decide_eq_true g2
    rcases kd with k | ⟨k, kh⟩
    · rw [decide_eq_true k] at var
      rcases var with ⟨c3, n6e, n1e, zl, zh⟩ | ⟨c3, c4, n6e, n1e, zl, zh⟩ | ⟨c3, c4, n6e, zl, zh⟩ | ⟨c3, c4, n6e, n1e, zl, zh⟩ | ⟨c3, c4, n6e, n1e, zl, zh⟩
      · exact x5 a0 a1 vb2 vs2 vt2 ve2 _ _ g _ _ _ _ _ _ fl _ _ V.b _ _ V.e w KS KM KF KO KG (decide_eq_true c1) (decide_eq_true c2) hg K1 K2 KC KN KA KV gl gl2 hm he0 hlh (zH (Or.inl (Or.inl (⟨c3, n6e, n1e, zl⟩)))) FF.out TT.out
      · exact x5 a0 a1 vb2 vs2 vt2 ve2 _ _ g _ _ _ _ _ _ fl _ _ V.b _ _ V.e w KS KM KF KO KG (decide_eq_true c1) (decide_eq_true c2) hg K1 K2 KC KN KA KV gl gl2 hm he0 hlh (zH (Or.inl (Or.inr (Or.inr (Or.inl (⟨c3, c4, n6e, n1e, zl⟩)))))) FF.out TT.out
      · exact x5 a0 a1 vb2 vs2 vt2 ve2 _ _ g _ _ _ _ _ _ fl _ _ V.b _ _ V.e w KS KM KF KO KG (decide_eq_true c1) (decide_eq_true c2) hg K1 K2 KC KN KA KV gl gl2 hm he0 hlh (zH (Or.inr (Or.inl (⟨c3, c4, n6e, zl⟩)))) FF.out TT.out
      · exact x5 a0 a1 vb2 vs2 vt2 ve2 _ _ g _ _ _ _ _ _ fl _ _ V.b _ _ V.e w KS KM KF KO KG (decide_eq_true c1) (decide_eq_true c2) hg K1 K2 KC KN KA KV gl gl2 hm he0 hlh (zH (Or.inr (Or.inr (Or.inr (Or.inl (⟨c3, c4, n6e, n1e, zl⟩)))))) FF.out TT.out
      · exact x5 a0 a1 vb2 vs2 vt2 ve2 _ _ g _ _ _ _ _ _ fl _ _ V.b _ _ V.e w KS KM KF KO KG (decide_eq_true c1) (decide_eq_true c2) hg K1 K2 KC KN KA KV gl gl2 hm he0 hlh (zH (Or.inr (Or.inr (Or.inr (Or.inr (Or.inr (Or.inl (⟨c3, c4, n6e, n1e, zl⟩)))))))) FF.out TT.out
    · rw [decide_eq_false k, decide_eq_true kh] at var
      rcases var with ⟨c3, n6e, n1e, zl, zh⟩ | ⟨c3, c4, n6e, n1e, zl, zh⟩ | ⟨c3, c4, n6e, zl, zh⟩ | ⟨c3, c4, n6e, n1e, zl, zh⟩ | ⟨c3, c4, n6e, n1e, zl, zh⟩
      · exact x5 a0 a1 vb2 vs2 vt2 ve2 _ _ g _ _ _ _ _ _ fl _ _ V.b _ _ V.e w KS KM KF KO KG (decide_eq_true c1) (decide_eq_true c2) hg K1 K2 KC KN KA KV gl gl2 hm he0 hlh (zH (Or.inl (Or.inr (Or.inl (⟨c3, n6e, n1e, zl, zh⟩))))) FF.out TT.out
      · exact x5 a0 a1 vb2 vs2 vt2 ve2 _ _ g _ _ _ _ _ _ fl _ _ V.b _ _ V.e w KS KM KF KO KG (decide_eq_true c1) (decide_eq_true c2) hg K1 K2 KC KN KA KV gl gl2 hm he0 hlh (zH (Or.inl (Or.inr (Or.inr (Or.inr (⟨c3, c4, n6e, n1e, zl, zh⟩)))))) FF.out TT.out
      · exact x5 a0 a1 vb2 vs2 vt2 ve2 _ _ g _ _ _ _ _ _ fl _ _ V.b _ _ V.e w KS KM KF KO KG (decide_eq_true c1) (decide_eq_true c2) hg K1 K2 KC KN KA KV gl gl2 hm he0 hlh (zH (Or.inr (Or.inr (Or.inl (⟨c3, c4, n6e, zl, zh⟩))))) FF.out TT.out
      · exact x5 a0 a1 vb2 vs2 vt2 ve2 _ _ g _ _ _ _ _ _ fl _ _ V.b _ _ V.e w KS KM KF KO KG (decide_eq_true c1) (decide_eq_true c2) hg K1 K2 KC KN KA KV gl gl2 hm he0 hlh (zH (Or.inr (Or.inr (Or.inr (Or.inr (Or.inl (⟨c3, c4, n6e, n1e, zl, zh⟩))))))) FF.out TT.out
      · exact x5 a0 a1 vb2 vs2 vt2 ve2 _ _ g _ _ _ _ _ _ fl _ _ V.b _ _ V.e w KS KM KF KO KG (decide_eq_true c1) (decide_eq_true c2) hg K1 K2 KC KN KA KV gl gl2 hm he0 hlh (zH (Or.inr (Or.inr (Or.inr (Or.inr (Or.inr (Or.inr (⟨c3, c4, n6e, n1e, zl, zh⟩)))))))) FF.out TT.out
  have gl := decide_eq_false g1
  have gl2 := decide_eq_false g2
  obtain ⟨D, d1, d2, d3, dn⟩ := near fin m04 (show -17000 ≤ ve2 by omega) (show ve2 ≤ 17000 by omega)
  rw [hV] at d1 d3
  have KD := zH (fun w hT => Subx_ok vb2 n d ve2 vs2 vt2 V.b V.n V.d V.e _ _ D.b D.n D.d D.e 0 _ _ hs ht rfl rfl hc d3 d1 rfl rfl w hT)
  have KAd := zH (fun w hT => Absx_ok D.b D.n D.d D.e _ _ rfl rfl d2 w hT)
  have side : ∀ (o u v : Nat), (o = L ∨ o = qJ a0 H) → u < 18446744073709551616 → v < 18446744073709551616 → v + 18446744073709551616 * u = o → okB a0 o = true →
      ∃ (b7 : Bool) (n7 d7 : ByteArray) (e7 : Int) (o7 tb7 : Bool) (tn7 td7 : ByteArray) (te7 tg7 cc7 ch7 : Int), zS (∀ w, yF w → zN w → Calls Tryz.prog 22 #[.int .u8 a0, .agg #[.int .u64 (u : Nat), .int .u64 (v : Nat)]] w fun r w' => r = .returned (.tuple #[.agg #[.bool b7, .string n7, .string d7, .int .i64 e7], .bool o7]) ∧ Below w.heap.size w w') ∧ zS (o7 = false ∨ (o7 = true ∧ zS (∀ w, zN w → Calls Tryz.prog 23 #[.agg #[.bool vb2, .string vs2, .string vt2, .int .i64 ve2], .agg #[.bool b7, .string n7, .string d7, .int .i64 e7]] w fun r w' => r = .returned (.tuple #[.agg #[.bool tb7, .string tn7, .string td7, .int .i64 te7], .int .i64 tg7]) ∧ Below w.heap.size w w') ∧ zS (∀ w, zN w → Calls Tryz.prog 25 #[.agg #[.bool tb7, .string tn7, .string td7, .int .i64 te7]] w fun r w' => r = .returned (.agg #[.bool false, .string tn7, .string td7, .int .i64 te7]) ∧ Below w.heap.size w w') ∧ zS (∀ w, zN w → Calls Tryz.prog 24 #[.agg #[.bool false, .string (yG D.n), .string (yG D.d), .int .i64 D.e], .agg #[.bool false, .string tn7, .string td7, .int .i64 te7]] w fun r w' => r = .returned (.tuple #[.int .i64 cc7, .int .i64 ch7]) ∧ Below w.heap.size w w') ∧ ((ch7 == 0) = false ∨ ((ch7 == 0) = true ∧ decide (0 < cc7) = false)))) := fun o u v ho hu hv huv ok => by
    by_cases fo : 0 < kC a0 o ∧ kC a0 o < 7
    · obtain ⟨E, e1, e2, e3, e4⟩ := dn o ho fo
      obtain ⟨Y, hY⟩ : ∃ Y, vX a0 o = Y := ⟨_, rfl⟩
      rw [hY] at e1 e3
      obtain ⟨cc, ch, hcc⟩ : ∃ c e, cmpX (absX D) (absX E) = (c, e) := ⟨_, _, rfl⟩
      refine ⟨Y.b, yG Y.n, yG Y.d, Y.e, true, E.b, yG E.n, yG E.d, E.e, 0, cc, ch, zH (fun w hT hT2 => nst_val a0 u v Y.b _ _ Y.e 0 true rfl w (zH (fun w hT hT2 => kValue_yes a0 hf u v o hu hv huv ok fo Y.b Y.n Y.d Y.e _ _ hY rfl rfl w hT hT2)) hT hT2), zH (Or.inr ⟨rfl, zH (fun w hT => Subx_ok vb2 n d ve2 vs2 vt2 Y.b Y.n Y.d Y.e _ _ E.b E.n E.d E.e 0 _ _ hs ht rfl rfl hc e3 e1 rfl rfl w hT), zH (fun w hT => Absx_ok E.b E.n E.d E.e _ _ rfl rfl e2 w hT), zH (fun w hT => Cmpx_ok false D.n D.d D.e _ _ false E.n E.d E.e _ _ cc ch rfl rfl rfl rfl (abs_good D d2).1 (abs_good E e2).1 hcc w hT), ?_⟩)⟩
      by_cases c0 : ch = 0
      · exact Or.inr ⟨by rw [c0]; rfl, decide_eq_false (by have := e4 cc ch hcc c0; omega)⟩
      · exact Or.inl (beq_eq_false_iff_ne.2 c0)
    · exact ⟨false, ⟨#[]⟩, ⟨#[]⟩, 0, false, false, ⟨#[]⟩, ⟨#[]⟩, 0, 0, 0, 0, zH (fun w hT hT2 => nst_val a0 u v false ⟨#[]⟩ ⟨#[]⟩ 0 80 false rfl w (zH (fun w hT hT2 => kValue_inf a0 hf u v o hu hv huv ok fo w hT)) hT hT2), zH (Or.inl rfl)⟩
  obtain ⟨b7, n7, d7, e7, o7, tb7, tn7, td7, te7, tg7, cc7, ch7, KL7, HL7⟩ := side L lu lv (Or.inl rfl) p4 p5 p6 oL
  obtain ⟨b8, n8, d8, e8, o8, tb8, tn8, td8, te8, tg8, cc8, ch8, KL8, HL8⟩ := side _ hu hv (Or.inr rfl) p7 p8 p9 oH
  rcases kd with k | ⟨k, kh⟩
  · rw [decide_eq_true k] at var
    rcases var with ⟨c3, n6e, n1e, zl, zh⟩ | ⟨c3, c4, n6e, n1e, zl, zh⟩ | ⟨c3, c4, n6e, zl, zh⟩ | ⟨c3, c4, n6e, n1e, zl, zh⟩ | ⟨c3, c4, n6e, n1e, zl, zh⟩
    · exact nst_loopz a0 a1 vb2 vs2 vt2 ve2 _ _ g _ _ _ _ _ _ fl _ _ V.b _ _ V.e D.b _ _ D.e 0 b7 n7 d7 e7 o7 tb7 tn7 td7 te7 tg7 cc7 ch7 b8 n8 d8 e8 o8 tb8 tn8 td8 te8 tg8 cc8 ch8 w KS KM KF KO KG (decide_eq_true c1) (decide_eq_true c2) hg K1 K2 KC KN KA KV gl gl2 KD KAd KL7 HL7 KL8 HL8 hm he0 hlh (zH (Or.inl (⟨c3, n6e, n1e, zl⟩))) FF.out TT.out
    · exact nst_loopz a0 a1 vb2 vs2 vt2 ve2 _ _ g _ _ _ _ _ _ fl _ _ V.b _ _ V.e D.b _ _ D.e 0 b7 n7 d7 e7 o7 tb7 tn7 td7 te7 tg7 cc7 ch7 b8 n8 d8 e8 o8 tb8 tn8 td8 te8 tg8 cc8 ch8 w KS KM KF KO KG (decide_eq_true c1) (decide_eq_true c2) hg K1 K2 KC KN KA KV gl gl2 KD KAd KL7 HL7 KL8 HL8 hm he0 hlh (zH (Or.inr (Or.inr (Or.inl (⟨c3, c4, n6e, n1e, zl⟩))))) FF.out TT.out
    · exact nst_loopn a0 a1 vb2 vs2 vt2 ve2 _ _ g _ _ _ _ _ _ fl _ _ V.b _ _ V.e D.b _ _ D.e 0 b7 n7 d7 e7 o7 tb7 tn7 td7 te7 tg7 cc7 ch7 b8 n8 d8 e8 o8 tb8 tn8 td8 te8 tg8 cc8 ch8 w KS KM KF KO KG (decide_eq_true c1) (decide_eq_true c2) hg K1 K2 KC KN KA KV gl gl2 KD KAd KL7 HL7 KL8 HL8 hm he0 hlh (zH (Or.inl (⟨c3, c4, n6e, zl⟩))) FF.out TT.out
    · exact nst_loopn a0 a1 vb2 vs2 vt2 ve2 _ _ g _ _ _ _ _ _ fl _ _ V.b _ _ V.e D.b _ _ D.e 0 b7 n7 d7 e7 o7 tb7 tn7 td7 te7 tg7 cc7 ch7 b8 n8 d8 e8 o8 tb8 tn8 td8 te8 tg8 cc8 ch8 w KS KM KF KO KG (decide_eq_true c1) (decide_eq_true c2) hg K1 K2 KC KN KA KV gl gl2 KD KAd KL7 HL7 KL8 HL8 hm he0 hlh (zH (Or.inr (Or.inr (Or.inl (⟨c3, c4, n6e, n1e, zl⟩))))) FF.out TT.out
    · exact nst_loopn a0 a1 vb2 vs2 vt2 ve2 _ _ g _ _ _ _ _ _ fl _ _ V.b _ _ V.e D.b _ _ D.e 0 b7 n7 d7 e7 o7 tb7 tn7 td7 te7 tg7 cc7 ch7 b8 n8 d8 e8 o8 tb8 tn8 td8 te8 tg8 cc8 ch8 w KS KM KF KO KG (decide_eq_true c1) (decide_eq_true c2) hg K1 K2 KC KN KA KV gl gl2 KD KAd KL7 HL7 KL8 HL8 hm he0 hlh (zH (Or.inr (Or.inr (Or.inr (Or.inr (Or.inl (⟨c3, c4, n6e, n1e, zl⟩))))))) FF.out TT.out
  · rw [decide_eq_false k, decide_eq_true kh] at var
    rcases var with ⟨c3, n6e, n1e, zl, zh⟩ | ⟨c3, c4, n6e, n1e, zl, zh⟩ | ⟨c3, c4, n6e, zl, zh⟩ | ⟨c3, c4, n6e, n1e, zl, zh⟩ | ⟨c3, c4, n6e, n1e, zl, zh⟩
    · exact nst_loopz a0 a1 vb2 vs2 vt2 ve2 _ _ g _ _ _ _ _ _ fl _ _ V.b _ _ V.e D.b _ _ D.e 0 b7 n7 d7 e7 o7 tb7 tn7 td7 te7 tg7 cc7 ch7 b8 n8 d8 e8 o8 tb8 tn8 td8 te8 tg8 cc8 ch8 w KS KM KF KO KG (decide_eq_true c1) (decide_eq_true c2) hg K1 K2 KC KN KA KV gl gl2 KD KAd KL7 HL7 KL8 HL8 hm he0 hlh (zH (Or.inr (Or.inl (⟨c3, n6e, n1e, zl, zh⟩)))) FF.out TT.out
    · exact nst_loopz a0 a1 vb2 vs2 vt2 ve2 _ _ g _ _ _ _ _ _ fl _ _ V.b _ _ V.e D.b _ _ D.e 0 b7 n7 d7 e7 o7 tb7 tn7 td7 te7 tg7 cc7 ch7 b8 n8 d8 e8 o8 tb8 tn8 td8 te8 tg8 cc8 ch8 w KS KM KF KO KG (decide_eq_true c1) (decide_eq_true c2) hg K1 K2 KC KN KA KV gl gl2 KD KAd KL7 HL7 KL8 HL8 hm he0 hlh (zH (Or.inr (Or.inr (Or.inr (⟨c3, c4, n6e, n1e, zl, zh⟩))))) FF.out TT.out
    · exact nst_loopn a0 a1 vb2 vs2 vt2 ve2 _ _ g _ _ _ _ _ _ fl _ _ V.b _ _ V.e D.b _ _ D.e 0 b7 n7 d7 e7 o7 tb7 tn7 td7 te7 tg7 cc7 ch7 b8 n8 d8 e8 o8 tb8 tn8 td8 te8 tg8 cc8 ch8 w KS KM KF KO KG (decide_eq_true c1) (decide_eq_true c2) hg K1 K2 KC KN KA KV gl gl2 KD KAd KL7 HL7 KL8 HL8 hm he0 hlh (zH (Or.inr (Or.inl (⟨c3, c4, n6e, zl, zh⟩)))) FF.out TT.out
    · exact nst_loopn a0 a1 vb2 vs2 vt2 ve2 _ _ g _ _ _ _ _ _ fl _ _ V.b _ _ V.e D.b _ _ D.e 0 b7 n7 d7 e7 o7 tb7 tn7 td7 te7 tg7 cc7 ch7 b8 n8 d8 e8 o8 tb8 tn8 td8 te8 tg8 cc8 ch8 w KS KM KF KO KG (decide_eq_true c1) (decide_eq_true c2) hg K1 K2 KC KN KA KV gl gl2 KD KAd KL7 HL7 KL8 HL8 hm he0 hlh (zH (Or.inr (Or.inr (Or.inr (Or.inl (⟨c3, c4, n6e, n1e, zl, zh⟩)))))) FF.out TT.out
    · exact nst_loopn a0 a1 vb2 vs2 vt2 ve2 _ _ g _ _ _ _ _ _ fl _ _ V.b _ _ V.e D.b _ _ D.e 0 b7 n7 d7 e7 o7 tb7 tn7 td7 te7 tg7 cc7 ch7 b8 n8 d8 e8 o8 tb8 tn8 td8 te8 tg8 cc8 ch8 w KS KM KF KO KG (decide_eq_true c1) (decide_eq_true c2) hg K1 K2 KC KN KA KV gl gl2 KD KAd KL7 HL7 KL8 HL8 hm he0 hlh (zH (Or.inr (Or.inr (Or.inr (Or.inr (Or.inr (⟨c3, c4, n6e, n1e, zl, zh⟩))))))) FF.out TT.out

set_option maxRecDepth 100000 in
theorem lifted (os : Os) (started : os.Started) (H : Type) (enc : TypeId × Value → H) :
    ReturnsInHanded {} Tryz.checked os 4 .any (fun w args => (Rows.ruleNearestSpec.pre enc Tryz.prog Tryz.f4 [] false w args ∧ laidMetH Tryz.prog laid8 w) ∧ sizedMet enc Tryz.prog Tryz.f4 (OpenSpec.ofChange Rows.ruleNearestSpec) false w args)
      (Rows.ruleNearestSpec.post enc Tryz.prog Tryz.f4 false true false false) := by
  refine returnsInHanded_of_change_and (C := Tryz.checked) (X := fun w _ => laidMetH Tryz.prog laid8 w) (fun _ _ _ hh h => h.of_heap hh) own started (by kernel_rfl) Tryz.func4
    (ChangeSpec.witness_shaped (enc := enc) (C := Tryz.checked) (os := os) (X := fun w _ => laidMetH Tryz.prog laid8 w) false (World.doorLaid Tryz.prog 400 os) #[.int .u8 0, .int .u8 0, .agg #[.bool false, .string ⟨#[]⟩, .string ⟨#[]⟩, .int .i64 0]] 8 rfl (World.shaped_of_RefB (by kernel_rfl) (by kernel_rfl)) (by kernel_rfl) (by kernel_rfl) (by kernel_rfl) (door_met8 os _)) ?_
  intro W base args ds gs before hval0 hW _ _ hL _
  have hval : ∀ (j : Nat) t v, Tryz.f4.params[j]? = some t → args[j]? = some v → Value.okWide Tryz.prog W .any base t v := hval0
  have hW' := hW
  obtain ⟨p, q, hA0, hV, rfl, hfz, hnd⟩ := hW
  have hA : DataW.TrodAll enc Tryz.prog W 0 (fun _ => true) true Tryz.f4.params.toList args.toList ds p := hA0
  rw [Tryz.params4] at hA hval
  obtain ⟨v0, vs0, d0, ds0, p0, q0, hargs, rfl, rfl, k0, r0⟩ := trodAll_cons hA
  obtain ⟨v1, vs1, d1, ds1, p1, q1, rfl, rfl, rfl, k1, r1⟩ := trodAll_cons r0
  obtain ⟨v2, vs2, d2, ds2, p2, q2, rfl, rfl, rfl, k2, r2⟩ := trodAll_cons r1
  obtain ⟨rfl, rfl, rfl⟩ := trodAll_nil r2
  obtain rfl : args = #[v0, v1, v2] := by cases args; simp_all
  obtain ⟨rfl, rfl⟩ := trodVars_none hV
  obtain ⟨a0, rfl, rfl, rfl, h0⟩ := open_int Tryz.underlying22 (hval 0 22 v0 rfl rfl) k0
  obtain ⟨a1, rfl, rfl, rfl, h1⟩ := open_int Tryz.underlying38 (hval 1 38 v1 rfl rfl) k1
  obtain ⟨vb2, vs2, vt2, ve2, rfl, rfl, rfl, h2⟩ := open_exact (hval 2 41 v2 rfl rfl) k2
  clear hA0 hval0
  simp only [List.append_nil] at hW'
  refine (walk a0 a1 vb2 vs2 vt2 ve2 h0 h1 h2 W (of_laid8 hL)).mono fun e W' ⟨he, hg⟩ => ?_
  subst he
  exact ⟨_, rfl, post_plain hW' (fun _ _ _ => trodAll_mk1 (shut_bool Tryz.underlying4 _)) (fun sp => (trodAll_cons_mk (shut_int Tryz.underlying22 h0) (trodAll_cons_mk (shut_int Tryz.underlying38 h1) (trodAll_cons_mk (shut_exact h2) trodAll_mk0)))) (fun _ => rfl) hg (ok_one (by kernel_rfl) rfl (okWide_bool_mk Tryz.underlying4 _))⟩

theorem and2 {a b : Bool} (h : a = true) (k : b = true) : (a && b) = true := by rw [h, k]; rfl
set_option maxRecDepth 100000 in
set_option maxHeartbeats 4000000 in
theorem closed : joinedFacts Tryz.prog 4 Tryz.f4 Rows.ruleNearestSpec Rows.ruleNearestRow = true := by
  unfold joinedFacts
  refine (and2 (and2 (and2 (and2 (and2 (and2 (and2 (and2 (and2 (and2 (and2 (and2 (and2 (and2 (and2 (and2 (and2 (and2 (and2 (and2 (and2 (and2 (and2 (and2 (and2 (and2 (and2 (and2 (and2 (and2 (and2 ?_ ?_) ?_) ?_) ?_) ?_) ?_) ?_) ?_) ?_) ?_) ?_) ?_) ?_) ?_) ?_) ?_) ?_) ?_) ?_) ?_) ?_) ?_) ?_) ?_) ?_) ?_) ?_) ?_) ?_) ?_) ?_)
  all_goals as_aux_lemma => kernel_rfl
theorem over : Rows.RuleNearestSaid :=
  OpenClaim.holds_of_wide 4 Tryz.f4 rfl rfl rfl rfl rfl rfl rfl ⟨rfl, rfl, rfl, rfl, rfl⟩ rfl rfl rfl rfl rfl (by as_aux_lemma => kernel_rfl) Tryz.func4 closed
    (of_decide_eq_true (by kernel_rfl)) (by unfold Func.isWrapper; first | (rw [if_pos (by decide +kernel)]; kernel_rfl) | (rw [if_neg (by decide +kernel)]; exact ⟨rfl, rfl⟩))
    (fun os started H enc _ => lifted os started H enc)

theorem proved : Rows.RuleNearestCardSaid :=
  Claim7.holds_tied_plain_at .later [] [.data, .data] true (true, "5189812f02db237da51da53b8cdef67772b1398a8830c5b22434590af2d81e8a") true
    over (fun _ h => by cases h) (by as_aux_lemma => kernel_rfl) (fun _ h => by cases h) ruleNearest_row_tie rfl ⟨rfl, rfl⟩ (by as_aux_lemma => kernel_rfl) rfl
    (fun f fn hf hfn => by
      obtain rfl : f = 4 := Option.some.inj ((show Tryz.prog.funcNamed "abacus/abacuslaw09.RuleNearest" = some 4 by as_aux_lemma => kernel_rfl).symm.trans hf) |>.symm
      obtain rfl : fn = Tryz.f4 := (Option.some.inj (Tryz.func4.symm.trans hfn)).symm
      exact ⟨by as_aux_lemma => kernel_rfl, fun j t ht => by
        rw [Tryz.params4] at ht
        have h3 : t = 22 ∨ t = 38 ∨ t = 41 := by
          rcases j with _ | _ | _ | j
          · exact (Or.inl (by simpa using ht.symm))
          · exact (Or.inr (Or.inl (by simpa using ht.symm)))
          · exact (Or.inr (Or.inr (by simpa using ht.symm)))
          · simp at ht
        rcases h3 with rfl | rfl | rfl
        · exact (show Tryz.prog.wantsStandIn 22 = false by kernel_rfl)
        · exact (show Tryz.prog.wantsStandIn 38 = false by kernel_rfl)
        · exact (show Tryz.prog.wantsStandIn 41 = false by kernel_rfl)⟩)
    (by as_aux_lemma => kernel_rfl)
#print axioms proved
end Go.Proofs.YtkblmpmkchkpjaaGreatDoor.ruleNearest
