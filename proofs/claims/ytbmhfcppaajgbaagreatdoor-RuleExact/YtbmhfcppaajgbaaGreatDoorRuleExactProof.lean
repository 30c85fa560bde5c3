/-
  RuleExact returns true for every format and every mode, whether they are one or not, all bits and every exact number, whether it may be or not: a number of the format is delivered as it is; the root of a square is its magnitude, rounded.
-/
import Derived.Test.YtbmhfcppaajgbaaGreatDoorRows
import Derived.Test.YtbmhfcppaajgbaaGreatDoorTie
import Derived.Test.YtbmhfcppaajgbaaGreatDoorCards
import Derived.WalkKit
import Derived.ProofKit
import Derived.OpenShut
import Derived.LaidMore
import Derived.Stop.Joined
import Derived.Lib.LaidTab
import Derived.SevenTiedAt
import Derived.Test.YtbmhfcppaajgbaaGreatDoorRe22
namespace Go.Proofs.YtbmhfcppaajgbaaGreatDoor.ruleExact
open WMath
open Go.ChangeShapes Go.WideShapes Go.ChangeAt Go.RowKit
open XMath
set_option linter.unusedVariables false

theorem own : ownKnob Tryz.prog.godebug = none := by kernel_rfl

set_option maxRecDepth 100000 in
set_option maxHeartbeats 4000000 in
theorem walk (a0 : Int) (a1 : Int) (a2 : Nat × Nat) (vb3 : Bool) (vs3 vt3 : ByteArray) (ve3 : Int) (h0 : (Lit.int .u8 a0).wf = true) (h1 : (Lit.int .u8 a1).wf = true) (h2 : a2.1 < 18446744073709551616 ∧ a2.2 < 18446744073709551616) (h3 : vs3.size ≤ maxLen ∧ vt3.size ≤ maxLen ∧ (Lit.int .i64 ve3).wf = true) (w : World) (hT : TabAt w ∧ FAt w) :
    Calls Tryz.prog 10 #[.int .u8 a0, .int .u8 a1, bitsV a2, .agg #[.bool vb3, .string vs3, .string vt3, .int .i64 ve3]] w fun e w' => e = .returned (.bool true) ∧ Below w.heap.size w w' := by
  have TT := box hT.1
  have FF := box hT.2
  clear hT
  have b0 := bounds_u8 h0
  have b1 := bounds_u8 h1
  obtain ⟨x, y⟩ := a2
  obtain ⟨hx, hy⟩ := h2
  simp only at hx hy
  show Calls Tryz.prog 10 #[.int .u8 a0, .int .u8 a1, .agg #[.int .u64 (x : Nat), .int .u64 (y : Nat)], .agg #[.bool vb3, .string vs3, .string vt3, .int .i64 ve3]] w fun r w' => r = .returned (.bool true) ∧ Below w.heap.size w w'
  obtain ⟨n, hn⟩ : ∃ n, y + 18446744073709551616 * x = n := ⟨_, rfl⟩
  have KA := box r9alive
  by_cases c2 : a1 ≤ 4
  case neg => exact ex_n1 a0 a1 x y vb3 vs3 vt3 ve3 false vs3 vs3 0 false vs3 vs3 0 0 0 0 w (box (fun w => bel_same (r_mode a1 _ (decide_eq_false c2) w))) KA FF.out TT.out
  have KO : Box (∀ w, Calls Tryz.prog 31 #[.int .u8 a1] w fun r w' => r = .returned (.bool true) ∧ Below w.heap.size w w') := box (fun w => bel_same (r_mode a1 _ (decide_eq_true c2) w))
  cases ho : okB a0 n
  case false => exact ex_n2 a0 a1 x y vb3 vs3 vt3 ve3 false vs3 vs3 0 false vs3 vs3 0 0 0 0 w KO (box (fun w hT => sk_fits a0 x y n false b0.1 b0.2 hx hy hn ho w hT)) KA FF.out TT.out
  have KF : Box (∀ w, FAt w → Calls Tryz.prog 41 #[.int .u8 a0, .agg #[.int .u64 (x : Nat), .int .u64 (y : Nat)]] w fun r w' => r = .returned (.bool true) ∧ Below w.heap.size w w') := box (fun w hT => sk_fits a0 x y n true b0.1 b0.2 hx hy hn ho w hT)
  obtain ⟨hf, fit⟩ := okB_yes b0.1 ho
  have hm : 0 ≤ a1 ∧ a1 ≤ 4 := ⟨b1.1, c2⟩
  have hvy : bv7 n = (x, y) := by obtain ⟨q1, q2⟩ := words_of hy hn; unfold bv7; rw [q1, q2]
  obtain ⟨may, hmay⟩ := may_any vb3 vs3 vt3 ve3
  have KM : Box (∀ w, Calls Tryz.prog 29 #[.agg #[.bool vb3, .string vs3, .string vt3, .int .i64 ve3]] w fun r w' => r = .returned (.bool may) ∧ Below w.heap.size w w') := box (fun w => xmayM vb3 vs3 vt3 ve3 may hmay w)
  have P2 : (decide ((25 : Int) < (vs3.size : Int)) = true) ∨ (decide ((25 : Int) < (vs3.size : Int)) = false ∧ decide ((25 : Int) < (vt3.size : Int)) = true) ∨ (decide ((25 : Int) < (vs3.size : Int)) = false ∧ decide ((25 : Int) < (vt3.size : Int)) = false ∧ may = false) ∨
      (decide ((25 : Int) < (vs3.size : Int)) = false ∧ decide ((25 : Int) < (vt3.size : Int)) = false ∧ may = true ∧ decide ((400000 : Int) < ve3) = true) ∨ (decide ((25 : Int) < (vs3.size : Int)) = false ∧ decide ((25 : Int) < (vt3.size : Int)) = false ∧ may = true ∧ decide ((400000 : Int) < ve3) = false ∧ decide (ve3 < -400000) = true) ∨
      (decide ((25 : Int) < (vs3.size : Int)) = false ∧ decide ((25 : Int) < (vt3.size : Int)) = false ∧ may = true ∧ decide ((400000 : Int) < ve3) = false ∧ decide (ve3 < -400000) = false ∧ ∃ (sb : Bool) (ss st : ByteArray) (se : Int) (i j : Nat) (fl : Int),
        Box (∀ w, TabAt w → Calls Tryz.prog 42 #[.agg #[.bool vb3, .string vs3, .string vt3, .int .i64 ve3], .agg #[.bool vb3, .string vs3, .string vt3, .int .i64 ve3]] w fun r w' => r = .returned (.tuple #[.agg #[.bool sb, .string ss, .string st, .int .i64 se], .int .i64 0]) ∧ Below w.heap.size w w') ∧ Box (∀ w, FAt w → TabAt w → Calls Tryz.prog 24 #[.int .u8 a0, .int .u8 a1, .agg #[.bool sb, .string ss, .string st, .int .i64 se]] w fun r w' => r = .returned (.tuple #[.agg #[.int .u64 (i : Nat), .int .u64 (j : Nat)], .int .u8 fl, .int .i64 0]) ∧ Below w.heap.size w w') ∧
        Box (∀ w, TabAt w → Calls Tryz.prog 38 #[.agg #[.bool vb3, .string vs3, .string vt3, .int .i64 ve3]] w fun r w' => r = .returned (.agg #[.bool false, .string vs3, .string vt3, .int .i64 ve3]) ∧ Below w.heap.size w w') ∧ Box (∀ w, FAt w → TabAt w → Calls Tryz.prog 22 #[.int .u8 a0, .int .u8 a1, .agg #[.bool false, .string vs3, .string vt3, .int .i64 ve3]] w fun r w' => r = .returned (.tuple #[.agg #[.int .u64 (i : Nat), .int .u64 (j : Nat)], .int .u8 fl, .int .i64 0]) ∧ Below w.heap.size w w')) := by
    cases k1 : decide ((25 : Int) < (vs3.size : Int))
    case true => exact Or.inl rfl
    cases k2 : decide ((25 : Int) < (vt3.size : Int))
    case true => exact Or.inr (Or.inl ⟨rfl, rfl⟩)
    cases may
    case false => exact Or.inr (Or.inr (Or.inl ⟨rfl, rfl, rfl⟩))
    cases k3 : decide ((400000 : Int) < ve3)
    case true => exact Or.inr (Or.inr (Or.inr (Or.inl ⟨rfl, rfl, rfl, rfl⟩)))
    cases k4 : decide (ve3 < -400000)
    case true => exact Or.inr (Or.inr (Or.inr (Or.inr (Or.inl ⟨rfl, rfl, rfl, rfl, rfl⟩))))
    refine Or.inr (Or.inr (Or.inr (Or.inr (Or.inr ⟨rfl, rfl, rfl, rfl, rfl, ?_⟩))))
    obtain ⟨nn, d, hs, ht, hc⟩ := may_part hmay rfl
    have sz : vs3.size = nl nn := by rw [← hs, nbA_size]
    have tz : vt3.size = nl d := by rw [← ht, nbA_size]
    have e1 := of_decide_eq_false k1
    have e2 := of_decide_eq_false k2
    have e3 := of_decide_eq_false k3
    have e4 := of_decide_eq_false k4
    obtain ⟨⟨sb, sn, sd, se⟩, M, fl, q1, q2, q3, q4, q5, q6, q7⟩ := sqr_same hf a1 vb3 nn d ve3 hc (by omega) (by omega) (by omega) (by omega)
    have q2 : sb = false := q2
    subst q2
    have hab := (abs_good (XN.mk vb3 nn d ve3) hc).1
    exact ⟨false, _, _, se, _, _, fl, box (fun w hT => Mulx_ok vb3 nn d ve3 vs3 vt3 vb3 nn d ve3 vs3 vt3 false sn sd se 0 _ _ hs ht hs ht hc hc q1 rfl rfl w hT), box (fun w hT hT2 => kRoot_is a0 a1 hf hm sn sd _ _ se rfl rfl q3 q4 q5 M fl q6 _ _ rfl w hT hT2),
      box (fun w hT => Absx_ok vb3 nn d ve3 vs3 vt3 hs ht hc w hT), box (fun w hT hT2 => kRound_is a0 a1 hf hm false nn d vs3 vt3 ve3 hs ht hab (by omega) (by omega) M fl q7 _ _ rfl w hT hT2)⟩
  by_cases hc : 0 < kC a0 n ∧ kC a0 n < 7
  case neg =>
    have KV : Box (∀ w, FAt w → TabAt w → Calls Tryz.prog 35 #[.int .u8 a0, .agg #[.int .u64 (x : Nat), .int .u64 (y : Nat)]] w fun r w' => r = .returned (.tuple #[.agg #[.bool false, .string ⟨#[]⟩, .string ⟨#[]⟩, .int .i64 0], .bool false]) ∧ Below w.heap.size w w') := box (fun w hT hT2 => r9valued a0 x y false _ _ 0 80 false w (box (fun w hT _ => kValue_inf a0 hf x y n hx hy hn ho hc w hT)) rfl hT hT2)
    rcases P2 with k1 | ⟨k1, k2⟩ | ⟨k1, k2, rfl⟩ | ⟨k1, k2, rfl, k3⟩ | ⟨k1, k2, rfl, k3, k4⟩ | ⟨k1, k2, rfl, k3, k4, sb, ss, st, se, i, j, fl, KX, KQ, KB, KD⟩
    · exact ex_Aa a0 a1 x y vb3 vs3 vt3 ve3 _ _ _ _ false vs3 vs3 0 0 0 0 w KO KF KV k1 KA FF.out TT.out
    · exact ex_Ab a0 a1 x y vb3 vs3 vt3 ve3 _ _ _ _ false vs3 vs3 0 0 0 0 w KO KF KV k1 k2 KA FF.out TT.out
    · exact ex_Ac a0 a1 x y vb3 vs3 vt3 ve3 _ _ _ _ false vs3 vs3 0 0 0 0 w KO KF KV k1 k2 KM KA FF.out TT.out
    · exact ex_Ad a0 a1 x y vb3 vs3 vt3 ve3 _ _ _ _ false vs3 vs3 0 0 0 0 w KO KF KV k1 k2 k3 KM KA FF.out TT.out
    · exact ex_Ae a0 a1 x y vb3 vs3 vt3 ve3 _ _ _ _ false vs3 vs3 0 0 0 0 w KO KF KV k1 k2 k3 k4 KM KA FF.out TT.out
    · exact ex_Af a0 a1 x y vb3 vs3 vt3 ve3 _ _ _ _ sb ss st se i j fl w KO KF KV k1 k2 k3 k4 KM KX KQ KB KD KA FF.out TT.out
  obtain ⟨o1, o2, o3, o4⟩ := own_round hf a1 n fit hc
  obtain ⟨⟨rb, rn, rd, re⟩, hv⟩ : ∃ q, vX a0 n = q := ⟨_, rfl⟩
  rw [hv] at o1 o2 o3 o4
  have KV : Box (∀ w, FAt w → TabAt w → Calls Tryz.prog 35 #[.int .u8 a0, .agg #[.int .u64 (x : Nat), .int .u64 (y : Nat)]] w fun r w' => r = .returned (.tuple #[.agg #[.bool rb, .string (nbA rn), .string (nbA rd), .int .i64 re], .bool true]) ∧ Below w.heap.size w w') := box (fun w hT hT2 => r9valued a0 x y rb _ _ re 0 true w (box (fun w hT hT2 => kValue_yes a0 hf x y n hx hy hn ho hc rb rn rd re _ _ hv rfl rfl w hT hT2)) rfl hT hT2)
  rcases o4 with ⟨n0, o4⟩ | o4
  · have KR : Box (∀ w, FAt w → TabAt w → Calls Tryz.prog 22 #[.int .u8 a0, .int .u8 a1, .agg #[.bool rb, .string (nbA rn), .string (nbA rd), .int .i64 re]] w fun r w' => r = .returned (.tuple #[.agg #[.int .u64 (x : Nat), .int .u64 (y : Nat)], .int .u8 0, .int .i64 0]) ∧ Below w.heap.size w w') := box (fun w hT hT2 => kRound_is a0 a1 hf hm rb rn rd _ _ re rfl rfl o1 o2 o3 n 0 o4 x y hvy w hT hT2)
    rcases P2 with k1 | ⟨k1, k2⟩ | ⟨k1, k2, rfl⟩ | ⟨k1, k2, rfl, k3⟩ | ⟨k1, k2, rfl, k3, k4⟩ | ⟨k1, k2, rfl, k3, k4, sb, ss, st, se, i, j, fl, KX, KQ, KB, KD⟩
    · exact ex_Ba a0 a1 x y vb3 vs3 vt3 ve3 _ _ _ _ false vs3 vs3 0 0 0 0 w KO KF KV KR k1 KA FF.out TT.out
    · exact ex_Bb a0 a1 x y vb3 vs3 vt3 ve3 _ _ _ _ false vs3 vs3 0 0 0 0 w KO KF KV KR k1 k2 KA FF.out TT.out
    · exact ex_Bc a0 a1 x y vb3 vs3 vt3 ve3 _ _ _ _ false vs3 vs3 0 0 0 0 w KO KF KV KR k1 k2 KM KA FF.out TT.out
    · exact ex_Bd a0 a1 x y vb3 vs3 vt3 ve3 _ _ _ _ false vs3 vs3 0 0 0 0 w KO KF KV KR k1 k2 k3 KM KA FF.out TT.out
    · exact ex_Be a0 a1 x y vb3 vs3 vt3 ve3 _ _ _ _ false vs3 vs3 0 0 0 0 w KO KF KV KR k1 k2 k3 k4 KM KA FF.out TT.out
    · exact ex_Bf a0 a1 x y vb3 vs3 vt3 ve3 _ _ _ _ sb ss st se i j fl w KO KF KV KR k1 k2 k3 k4 KM KX KQ KB KD KA FF.out TT.out
  · injection o4 with p1 p2 p3 p4
    subst p1 p2 p3 p4
    have r0 : rnd a0 a1 ⟨false, 0, 1, 0⟩ = (0, 0) := by unfold rnd; rw [if_pos rfl]
    have KR0 : Box (∀ w, FAt w → TabAt w → Calls Tryz.prog 22 #[.int .u8 a0, .int .u8 a1, .agg #[.bool false, .string (nbA 0), .string (nbA 1), .int .i64 0]] w fun r w' => r = .returned (.tuple #[.agg #[.int .u64 ((0 : Nat) : Nat), .int .u64 ((0 : Nat) : Nat)], .int .u8 0, .int .i64 0]) ∧ Below w.heap.size w w') := box (fun w hT hT2 => kRound_is a0 a1 hf hm false 0 1 _ _ 0 rfl rfl o1 o2 o3 0 0 r0 0 0 rfl w hT hT2)
    by_cases hz : x = 0 ∧ y = 0
    · obtain ⟨rfl, rfl⟩ := hz
      rcases P2 with k1 | ⟨k1, k2⟩ | ⟨k1, k2, rfl⟩ | ⟨k1, k2, rfl, k3⟩ | ⟨k1, k2, rfl, k3, k4⟩ | ⟨k1, k2, rfl, k3, k4, sb, ss, st, se, i, j, fl, KX, KQ, KB, KD⟩
      · exact ex_Ba a0 a1 0 0 vb3 vs3 vt3 ve3 _ _ _ _ false vs3 vs3 0 0 0 0 w KO KF KV KR0 k1 KA FF.out TT.out
      · exact ex_Bb a0 a1 0 0 vb3 vs3 vt3 ve3 _ _ _ _ false vs3 vs3 0 0 0 0 w KO KF KV KR0 k1 k2 KA FF.out TT.out
      · exact ex_Bc a0 a1 0 0 vb3 vs3 vt3 ve3 _ _ _ _ false vs3 vs3 0 0 0 0 w KO KF KV KR0 k1 k2 KM KA FF.out TT.out
      · exact ex_Bd a0 a1 0 0 vb3 vs3 vt3 ve3 _ _ _ _ false vs3 vs3 0 0 0 0 w KO KF KV KR0 k1 k2 k3 KM KA FF.out TT.out
      · exact ex_Be a0 a1 0 0 vb3 vs3 vt3 ve3 _ _ _ _ false vs3 vs3 0 0 0 0 w KO KF KV KR0 k1 k2 k3 k4 KM KA FF.out TT.out
      · exact ex_Bf a0 a1 0 0 vb3 vs3 vt3 ve3 _ _ _ _ sb ss st se i j fl w KO KF KV KR0 k1 k2 k3 k4 KM KX KQ KB KD KA FF.out TT.out
    · have KR : Box (∀ w, FAt w → TabAt w → Calls Tryz.prog 22 #[.int .u8 a0, .int .u8 a1, .agg #[.bool false, .string (nbA 0), .string (nbA 1), .int .i64 0]] w fun r w' => r = .returned (.tuple #[.agg #[.int .u64 0, .int .u64 0], .int .u8 0, .int .i64 0]) ∧ Below w.heap.size w w') := KR0
      have KG : Box (∀ w, TabAt w → Calls Tryz.prog 32 #[.agg #[.bool false, .string (nbA 0), .string (nbA 1), .int .i64 0]] w fun r w' => r = .returned (.int .i64 0) ∧ Below w.heap.size w w') := box (fun w hT => Signx_ok false 0 1 0 _ _ 0 rfl rfl o1 rfl w hT)
      have hx2 : (((0 : Int) == ((x : Nat) : Int)) = false ∧ decide (0 = x) = false) ∨ (x = 0 ∧ ((0 : Int) == ((y : Nat) : Int)) = false ∧ decide (0 = y) = false) := by
        by_cases x0 : x = 0
        · exact Or.inr ⟨x0, by rw [beq_eq_false_iff_ne]; omega, by rw [decide_eq_false_iff_not]; omega⟩
        · exact Or.inl ⟨by rw [beq_eq_false_iff_ne]; omega, by rw [decide_eq_false_iff_not]; omega⟩
      rcases P2 with k1 | ⟨k1, k2⟩ | ⟨k1, k2, rfl⟩ | ⟨k1, k2, rfl, k3⟩ | ⟨k1, k2, rfl, k3, k4⟩ | ⟨k1, k2, rfl, k3, k4, sb, ss, st, se, i, j, fl, KX, KQ, KB, KD⟩
      · exact ex_Ca a0 a1 x y vb3 vs3 vt3 ve3 _ _ _ _ false vs3 vs3 0 0 0 0 w KO KF KV KR KG hx2 k1 KA FF.out TT.out
      · exact ex_Cb a0 a1 x y vb3 vs3 vt3 ve3 _ _ _ _ false vs3 vs3 0 0 0 0 w KO KF KV KR KG hx2 k1 k2 KA FF.out TT.out
      · exact ex_Cc a0 a1 x y vb3 vs3 vt3 ve3 _ _ _ _ false vs3 vs3 0 0 0 0 w KO KF KV KR KG hx2 k1 k2 KM KA FF.out TT.out
      · exact ex_Cd a0 a1 x y vb3 vs3 vt3 ve3 _ _ _ _ false vs3 vs3 0 0 0 0 w KO KF KV KR KG hx2 k1 k2 k3 KM KA FF.out TT.out
      · exact ex_Ce a0 a1 x y vb3 vs3 vt3 ve3 _ _ _ _ false vs3 vs3 0 0 0 0 w KO KF KV KR KG hx2 k1 k2 k3 k4 KM KA FF.out TT.out
      · exact ex_Cf a0 a1 x y vb3 vs3 vt3 ve3 _ _ _ _ sb ss st se i j fl w KO KF KV KR KG hx2 k1 k2 k3 k4 KM KX KQ KB KD KA FF.out TT.out

set_option maxRecDepth 100000 in
theorem lifted (os : Os) (started : os.Started) (H : Type) (enc : TypeId × Value → H) :
    ReturnsInHanded {} Tryz.checked os 10 .any (fun w args => (Rows.ruleExactSpec.pre enc Tryz.prog Tryz.f10 [] false w args ∧ laidMetH Tryz.prog laid8 w) ∧ sizedMet enc Tryz.prog Tryz.f10 (OpenSpec.ofChange Rows.ruleExactSpec) false w args)
      (Rows.ruleExactSpec.post enc Tryz.prog Tryz.f10 false true false false) := by
  refine returnsInHanded_of_change_and (C := Tryz.checked) (X := fun w _ => laidMetH Tryz.prog laid8 w) (fun _ _ _ hh h => h.of_heap hh) own started (by kernel_rfl) Tryz.func10
    (ChangeSpec.witness_shaped (enc := enc) (C := Tryz.checked) (os := os) (X := fun w _ => laidMetH Tryz.prog laid8 w) false (World.doorLaid Tryz.prog 400 os) #[.int .u8 0, .int .u8 0, .agg #[.int .u64 0, .int .u64 0], .agg #[.bool false, .string ⟨#[]⟩, .string ⟨#[]⟩, .int .i64 0]] 8 rfl (World.shaped_of_RefB (by kernel_rfl) (by kernel_rfl)) (by kernel_rfl) (by kernel_rfl) (by kernel_rfl) (door_met8 os _)) ?_
  intro W base args ds gs before hval0 hW _ _ hL _
  have hval : ∀ (j : Nat) t v, Tryz.f10.params[j]? = some t → args[j]? = some v → Value.okWide Tryz.prog W .any base t v := hval0
  have hW' := hW
  obtain ⟨p, q, hA0, hV, rfl, hfz, hnd⟩ := hW
  have hA : DataW.TrodAll enc Tryz.prog W 0 (fun _ => true) true Tryz.f10.params.toList args.toList ds p := hA0
  rw [Tryz.params10] at hA hval
  obtain ⟨v0, vs0, d0, ds0, p0, q0, hargs, rfl, rfl, k0, r0⟩ := trodAll_cons hA
  obtain ⟨v1, vs1, d1, ds1, p1, q1, rfl, rfl, rfl, k1, r1⟩ := trodAll_cons r0
  obtain ⟨v2, vs2, d2, ds2, p2, q2, rfl, rfl, rfl, k2, r2⟩ := trodAll_cons r1
  obtain ⟨v3, vs3, d3, ds3, p3, q3, rfl, rfl, rfl, k3, r3⟩ := trodAll_cons r2
  obtain ⟨rfl, rfl, rfl⟩ := trodAll_nil r3
  obtain rfl : args = #[v0, v1, v2, v3] := by cases args; simp_all
  obtain ⟨rfl, rfl⟩ := trodVars_none hV
  obtain ⟨a0, rfl, rfl, rfl, h0⟩ := open_int Tryz.underlying22 (hval 0 22 v0 rfl rfl) k0
  obtain ⟨a1, rfl, rfl, rfl, h1⟩ := open_int Tryz.underlying38 (hval 1 38 v1 rfl rfl) k1
  obtain ⟨a2, h2, rfl, rfl, rfl⟩ := open_bits (hval 2 25 v2 rfl rfl) k2
  obtain ⟨vb3, vs3, vt3, ve3, rfl, rfl, rfl, h3⟩ := open_exact (hval 3 41 v3 rfl rfl) k3
  clear hA0 hval0
  simp only [List.append_nil] at hW'
  refine (walk a0 a1 a2 vb3 vs3 vt3 ve3 h0 h1 h2 h3 W (of_laid8 hL)).mono fun e W' ⟨he, hg⟩ => ?_
  subst he
  exact ⟨_, rfl, post_plain hW' (fun _ _ _ => trodAll_mk1 (shut_bool Tryz.underlying4 _)) (fun sp => (trodAll_cons_mk (shut_int Tryz.underlying22 h0) (trodAll_cons_mk (shut_int Tryz.underlying38 h1) (trodAll_cons_mk (shut_bits a2 h2) (trodAll_cons_mk (shut_exact h3) trodAll_mk0))))) (fun _ => rfl) hg (ok_one (by kernel_rfl) rfl (okWide_bool_mk Tryz.underlying4 _))⟩

theorem and2 {a b : Bool} (h : a = true) (k : b = true) : (a && b) = true := by rw [h, k]; rfl
set_option maxRecDepth 100000 in
set_option maxHeartbeats 4000000 in
theorem closed : joinedFacts Tryz.prog 10 Tryz.f10 Rows.ruleExactSpec Rows.ruleExactRow = true := by
  unfold joinedFacts
  refine (and2 (and2 (and2 (and2 (and2 (and2 (and2 (and2 (and2 (and2 (and2 (and2 (and2 (and2 (and2 (and2 (and2 (and2 (and2 (and2 (and2 (and2 (and2 (and2 (and2 (and2 (and2 (and2 (and2 (and2 (and2 ?_ ?_) ?_) ?_) ?_) ?_) ?_) ?_) ?_) ?_) ?_) ?_) ?_) ?_) ?_) ?_) ?_) ?_) ?_) ?_) ?_) ?_) ?_) ?_) ?_) ?_) ?_) ?_) ?_) ?_) ?_) ?_)
  all_goals as_aux_lemma => kernel_rfl
theorem over : Rows.RuleExactSaid :=
  OpenClaim.holds_of_wide 10 Tryz.f10 rfl rfl rfl rfl rfl rfl rfl ⟨rfl, rfl, rfl, rfl, rfl⟩ rfl rfl rfl rfl rfl (by as_aux_lemma => kernel_rfl) Tryz.func10 closed
    (of_decide_eq_true (by kernel_rfl)) (by unfold Func.isWrapper; first | (rw [if_pos (by decide +kernel)]; kernel_rfl) | (rw [if_neg (by decide +kernel)]; exact ⟨rfl, rfl⟩))
    (fun os started H enc _ => lifted os started H enc)

theorem proved : Rows.RuleExactCardSaid :=
  Claim7.holds_tied_plain_at .later [] [.data, .data] true (true, "387c46458c9a13d0f5426ed38dfc7024a1e0aa1080434e1f46fed2979f269049") true
    over (fun _ h => by cases h) (by as_aux_lemma => kernel_rfl) (fun _ h => by cases h) ruleExact_row_tie rfl ⟨rfl, rfl⟩ (by as_aux_lemma => kernel_rfl) rfl
    (fun f fn hf hfn => by
      obtain rfl : f = 10 := Option.some.inj ((show Tryz.prog.funcNamed "abacus/abacuslaw09.RuleExact" = some 10 by as_aux_lemma => kernel_rfl).symm.trans hf) |>.symm
      obtain rfl : fn = Tryz.f10 := (Option.some.inj (Tryz.func10.symm.trans hfn)).symm
      exact ⟨by as_aux_lemma => kernel_rfl, fun j t ht => by
        rw [Tryz.params10] at ht
        have h3 : t = 22 ∨ t = 38 ∨ t = 25 ∨ t = 41 := by
          rcases j with _ | _ | _ | _ | j
          · exact (Or.inl (by simpa using ht.symm))
          · exact (Or.inr (Or.inl (by simpa using ht.symm)))
          · exact (Or.inr (Or.inr (Or.inl (by simpa using ht.symm))))
          · exact (Or.inr (Or.inr (Or.inr (by simpa using ht.symm))))
          · simp at ht
        rcases h3 with rfl | rfl | rfl | rfl
        · exact (show Tryz.prog.wantsStandIn 22 = false by kernel_rfl)
        · exact (show Tryz.prog.wantsStandIn 38 = false by kernel_rfl)
        · exact (show Tryz.prog.wantsStandIn 25 = false by kernel_rfl)
        · exact (show Tryz.prog.wantsStandIn 41 = false by kernel_rfl)⟩)
    (by as_aux_lemma => kernel_rfl)
#print axioms proved
end Go.Proofs.YtbmhfcppaajgbaaGreatDoor.ruleExact
