/-
  ShapeSigns returns true for every format, whether it is one or not: the encodings that have names fit, and differ by the sign bit alone; the exponents follow from the widths.
-/
import Derived.Test.YtjbefkceieklmaaDoorRows
import Derived.Test.YtjbefkceieklmaaDoorTie
import Derived.Test.YtjbefkceieklmaaDoorCards
import Derived.WalkKit
import Derived.ProofKit
import Derived.OpenShut
import Derived.LaidMore
import Derived.Stop.Joined
import Derived.Lib.LaidTab
import Derived.SevenTiedAt
import Derived.Test.YtjbefkceieklmaaDoorFrame6
import Derived.Test.YtjbefkceieklmaaDoorSL
import Derived.Test.YtjbefkceieklmaaDoorS6
import Derived.Test.YtjbefkceieklmaaDoorFrameB
namespace Go.Proofs.YtjbefkceieklmaaDoor.shapeSigns
open WMath
open Go.ChangeShapes Go.WideShapes Go.ChangeAt Go.RowKit
set_option linter.unusedVariables false

theorem own : ownKnob Tryd.prog.godebug = none := by kernel_rfl

set_option maxRecDepth 100000 in
set_option maxHeartbeats 40000000 in
theorem walk (a0 : Int) (h0 : (Lit.int .u8 a0).wf = true) (w : World) (hT : FAt w) :
    Calls Tryd.prog 6 #[.int .u8 a0] w fun e w' => e = .returned (.bool true) ∧ Below w.heap.size w w' := by
  have TT := box hT
  clear hT
  have b0 := bounds_u8 h0
  have hat := cw_at 6
  have hz := cw6z
  have hff := cw6f
  have hs0 := st0
  have heq := eq6
  have hg := eqg6
  have hcs : ∀ x, ((cw 6 x).size = 6) = True := fun x => eq_true (cw_size 6 x)
  by_cases h : a0 ≤ 3
  · have hf := is4_of b0.1 h
    have HO : Box (decide (a0 ≤ 3) = true) := box (by simp [h])
    obtain ⟨S, hS⟩ : ∃ S : Nat, 2 ^ wV a0 = S := ⟨_, rfl⟩
    have lS : S < 340282366920938463463374607431768211456 := by rw [← hS]; rcases hf with rfl | rfl | rfl | rfl <;> decide +kernel
    obtain ⟨x0, hx0⟩ : ∃ x : Nat, (bv7 (eInf a0 false)).1 = x := ⟨_, rfl⟩
    obtain ⟨y0, hy0⟩ : ∃ x : Nat, (bv7 (eInf a0 false)).2 = x := ⟨_, rfl⟩
    have K0 : Box (∀ w : World, FAt w → Calls Tryd.prog 23 #[.int .u8 a0, .bool false] w fun e w' => e = .returned (.agg #[.int .u64 x0, .int .u64 y0]) ∧ Below w.heap.size w w') := box (fun w hw => by rw [← hx0, ← hy0]; exact s_inf a0 false hf _ rfl w hw)
    obtain ⟨N0, hN0⟩ : ∃ N : Nat, eInf a0 false = N := ⟨_, rfl⟩
    have l0 : N0 < 340282366920938463463374607431768211456 := by rw [← hN0]; rcases hf with rfl | rfl | rfl | rfl <;> decide +kernel
    have O0 : Box (∀ w : World, Calls Tryd.prog 45 #[.agg #[.int .u64 x0, .int .u64 y0]] w fun e w' => e = .returned (.agg (cw 6 N0)) ∧ Below w.heap.size w w') := box (fun w => rwofbits_is x0 y0 N0 (by rw [← hx0]; unfold bv7; rw [hN0]; simp only; omega) (by rw [← hy0]; unfold bv7; simp only; omega) (by rw [← hx0, ← hy0, ← hN0]; unfold bv7; simp only; omega) w)
    have T0 : Box (∀ w : World, FAt w → Calls Tryd.prog 19 #[.int .u8 a0, .agg #[.int .u64 x0, .int .u64 y0]] w fun e w' => e = .returned (.bool true) ∧ Below w.heap.size w w') := box (fun w hw => s_fits_is a0 (x0, y0) true b0.1 b0.2 (by rw [← hx0]; unfold bv7; rw [hN0]; simp only; omega) (by rw [← hy0]; unfold bv7; simp only; omega) (by rw [← hx0, ← hy0]; rcases hf with rfl | rfl | rfl | rfl <;> decide +kernel) w hw)
    obtain ⟨xn0, hxn0⟩ : ∃ x : Nat, (bv7 (eInf a0 true)).1 = x := ⟨_, rfl⟩
    obtain ⟨yn0, hyn0⟩ : ∃ x : Nat, (bv7 (eInf a0 true)).2 = x := ⟨_, rfl⟩
    have Kn0 : Box (∀ w : World, FAt w → Calls Tryd.prog 23 #[.int .u8 a0, .bool true] w fun e w' => e = .returned (.agg #[.int .u64 xn0, .int .u64 yn0]) ∧ Below w.heap.size w w') := box (fun w hw => by rw [← hxn0, ← hyn0]; exact s_inf a0 true hf _ rfl w hw)
    obtain ⟨Nn0, hNn0⟩ : ∃ N : Nat, eInf a0 true = N := ⟨_, rfl⟩
    have ln0 : Nn0 < 340282366920938463463374607431768211456 := by rw [← hNn0]; rcases hf with rfl | rfl | rfl | rfl <;> decide +kernel
    have On0 : Box (∀ w : World, Calls Tryd.prog 45 #[.agg #[.int .u64 xn0, .int .u64 yn0]] w fun e w' => e = .returned (.agg (cw 6 Nn0)) ∧ Below w.heap.size w w') := box (fun w => rwofbits_is xn0 yn0 Nn0 (by rw [← hxn0]; unfold bv7; rw [hNn0]; simp only; omega) (by rw [← hyn0]; unfold bv7; simp only; omega) (by rw [← hxn0, ← hyn0, ← hNn0]; unfold bv7; simp only; omega) w)
    have Tn0 : Box (∀ w : World, FAt w → Calls Tryd.prog 19 #[.int .u8 a0, .agg #[.int .u64 xn0, .int .u64 yn0]] w fun e w' => e = .returned (.bool true) ∧ Below w.heap.size w w') := box (fun w hw => s_fits_is a0 (xn0, yn0) true b0.1 b0.2 (by rw [← hxn0]; unfold bv7; rw [hNn0]; simp only; omega) (by rw [← hyn0]; unfold bv7; simp only; omega) (by rw [← hxn0, ← hyn0]; rcases hf with rfl | rfl | rfl | rfl <;> decide +kernel) w hw)
    have A0 : Box (∀ w : World, Calls Tryd.prog 44 #[.agg (cw 6 N0), .agg (cw 6 S)] w fun e w' => e = .returned (.tuple #[.agg (cw 6 Nn0), .bool false]) ∧ Below w.heap.size w w') := box (fun w => by
      have e : N0 + S = Nn0 := by rw [← hN0, ← hNn0, ← hS]; rcases hf with rfl | rfl | rfl | rfl <;> decide +kernel
      have q := lt_Q7 ln0
      exact rwadd_is N0 S Nn0 false (lt_Q7 l0) (lt_Q7 lS) (by rw [e, Nat.mod_eq_of_lt q]) (by rw [e]; simp; omega) w)
    obtain ⟨x1, hx1⟩ : ∃ x : Nat, (bv7 (eZero a0 false)).1 = x := ⟨_, rfl⟩
    obtain ⟨y1, hy1⟩ : ∃ x : Nat, (bv7 (eZero a0 false)).2 = x := ⟨_, rfl⟩
    have K1 : Box (∀ w : World, FAt w → Calls Tryd.prog 24 #[.int .u8 a0, .bool false] w fun e w' => e = .returned (.agg #[.int .u64 x1, .int .u64 y1]) ∧ Below w.heap.size w w') := box (fun w hw => by rw [← hx1, ← hy1]; exact s_zero a0 false hf _ rfl w hw)
    obtain ⟨N1, hN1⟩ : ∃ N : Nat, eZero a0 false = N := ⟨_, rfl⟩
    have l1 : N1 < 340282366920938463463374607431768211456 := by rw [← hN1]; rcases hf with rfl | rfl | rfl | rfl <;> decide +kernel
    have O1 : Box (∀ w : World, Calls Tryd.prog 45 #[.agg #[.int .u64 x1, .int .u64 y1]] w fun e w' => e = .returned (.agg (cw 6 N1)) ∧ Below w.heap.size w w') := box (fun w => rwofbits_is x1 y1 N1 (by rw [← hx1]; unfold bv7; rw [hN1]; simp only; omega) (by rw [← hy1]; unfold bv7; simp only; omega) (by rw [← hx1, ← hy1, ← hN1]; unfold bv7; simp only; omega) w)
    have T1 : Box (∀ w : World, FAt w → Calls Tryd.prog 19 #[.int .u8 a0, .agg #[.int .u64 x1, .int .u64 y1]] w fun e w' => e = .returned (.bool true) ∧ Below w.heap.size w w') := box (fun w hw => s_fits_is a0 (x1, y1) true b0.1 b0.2 (by rw [← hx1]; unfold bv7; rw [hN1]; simp only; omega) (by rw [← hy1]; unfold bv7; simp only; omega) (by rw [← hx1, ← hy1]; rcases hf with rfl | rfl | rfl | rfl <;> decide +kernel) w hw)
    obtain ⟨xn1, hxn1⟩ : ∃ x : Nat, (bv7 (eZero a0 true)).1 = x := ⟨_, rfl⟩
    obtain ⟨yn1, hyn1⟩ : ∃ x : Nat, (bv7 (eZero a0 true)).2 = x := ⟨_, rfl⟩
    have Kn1 : Box (∀ w : World, FAt w → Calls Tryd.prog 24 #[.int .u8 a0, .bool true] w fun e w' => e = .returned (.agg #[.int .u64 xn1, .int .u64 yn1]) ∧ Below w.heap.size w w') := box (fun w hw => by rw [← hxn1, ← hyn1]; exact s_zero a0 true hf _ rfl w hw)
    obtain ⟨Nn1, hNn1⟩ : ∃ N : Nat, eZero a0 true = N := ⟨_, rfl⟩
    have ln1 : Nn1 < 340282366920938463463374607431768211456 := by rw [← hNn1]; rcases hf with rfl | rfl | rfl | rfl <;> decide +kernel
    have On1 : Box (∀ w : World, Calls Tryd.prog 45 #[.agg #[.int .u64 xn1, .int .u64 yn1]] w fun e w' => e = .returned (.agg (cw 6 Nn1)) ∧ Below w.heap.size w w') := box (fun w => rwofbits_is xn1 yn1 Nn1 (by rw [← hxn1]; unfold bv7; rw [hNn1]; simp only; omega) (by rw [← hyn1]; unfold bv7; simp only; omega) (by rw [← hxn1, ← hyn1, ← hNn1]; unfold bv7; simp only; omega) w)
    have Tn1 : Box (∀ w : World, FAt w → Calls Tryd.prog 19 #[.int .u8 a0, .agg #[.int .u64 xn1, .int .u64 yn1]] w fun e w' => e = .returned (.bool true) ∧ Below w.heap.size w w') := box (fun w hw => s_fits_is a0 (xn1, yn1) true b0.1 b0.2 (by rw [← hxn1]; unfold bv7; rw [hNn1]; simp only; omega) (by rw [← hyn1]; unfold bv7; simp only; omega) (by rw [← hxn1, ← hyn1]; rcases hf with rfl | rfl | rfl | rfl <;> decide +kernel) w hw)
    have A1 : Box (∀ w : World, Calls Tryd.prog 44 #[.agg (cw 6 N1), .agg (cw 6 S)] w fun e w' => e = .returned (.tuple #[.agg (cw 6 Nn1), .bool false]) ∧ Below w.heap.size w w') := box (fun w => by
      have e : N1 + S = Nn1 := by rw [← hN1, ← hNn1, ← hS]; rcases hf with rfl | rfl | rfl | rfl <;> decide +kernel
      have q := lt_Q7 ln1
      exact rwadd_is N1 S Nn1 false (lt_Q7 l1) (lt_Q7 lS) (by rw [e, Nat.mod_eq_of_lt q]) (by rw [e]; simp; omega) w)
    obtain ⟨x2, hx2⟩ : ∃ x : Nat, (bv7 (eGreatest a0 false)).1 = x := ⟨_, rfl⟩
    obtain ⟨y2, hy2⟩ : ∃ x : Nat, (bv7 (eGreatest a0 false)).2 = x := ⟨_, rfl⟩
    have K2 : Box (∀ w : World, FAt w → Calls Tryd.prog 25 #[.int .u8 a0, .bool false] w fun e w' => e = .returned (.agg #[.int .u64 x2, .int .u64 y2]) ∧ Below w.heap.size w w') := box (fun w hw => by rw [← hx2, ← hy2]; exact s_greatest a0 false hf _ rfl w hw)
    obtain ⟨N2, hN2⟩ : ∃ N : Nat, eGreatest a0 false = N := ⟨_, rfl⟩
    have l2 : N2 < 340282366920938463463374607431768211456 := by rw [← hN2]; rcases hf with rfl | rfl | rfl | rfl <;> decide +kernel
    have O2 : Box (∀ w : World, Calls Tryd.prog 45 #[.agg #[.int .u64 x2, .int .u64 y2]] w fun e w' => e = .returned (.agg (cw 6 N2)) ∧ Below w.heap.size w w') := box (fun w => rwofbits_is x2 y2 N2 (by rw [← hx2]; unfold bv7; rw [hN2]; simp only; omega) (by rw [← hy2]; unfold bv7; simp only; omega) (by rw [← hx2, ← hy2, ← hN2]; unfold bv7; simp only; omega) w)
    have T2 : Box (∀ w : World, FAt w → Calls Tryd.prog 19 #[.int .u8 a0, .agg #[.int .u64 x2, .int .u64 y2]] w fun e w' => e = .returned (.bool true) ∧ Below w.heap.size w w') := box (fun w hw => s_fits_is a0 (x2, y2) true b0.1 b0.2 (by rw [← hx2]; unfold bv7; rw [hN2]; simp only; omega) (by rw [← hy2]; unfold bv7; simp only; omega) (by rw [← hx2, ← hy2]; rcases hf with rfl | rfl | rfl | rfl <;> decide +kernel) w hw)
    obtain ⟨xn2, hxn2⟩ : ∃ x : Nat, (bv7 (eGreatest a0 true)).1 = x := ⟨_, rfl⟩
    obtain ⟨yn2, hyn2⟩ : ∃ x : Nat, (bv7 (eGreatest a0 true)).2 = x := ⟨_, rfl⟩
    have Kn2 : Box (∀ w : World, FAt w → Calls Tryd.prog 25 #[.int .u8 a0, .bool true] w fun e w' => e = .returned (.agg #[.int .u64 xn2, .int .u64 yn2]) ∧ Below w.heap.size w w') := box (fun w hw => by rw [← hxn2, ← hyn2]; exact s_greatest a0 true hf _ rfl w hw)
    obtain ⟨Nn2, hNn2⟩ : ∃ N : Nat, eGreatest a0 true = N := ⟨_, rfl⟩
    have ln2 : Nn2 < 340282366920938463463374607431768211456 := by rw [← hNn2]; rcases hf with rfl | rfl | rfl | rfl <;> decide +kernel
    have On2 : Box (∀ w : World, Calls Tryd.prog 45 #[.agg #[.int .u64 xn2, .int .u64 yn2]] w fun e w' => e = .returned (.agg (cw 6 Nn2)) ∧ Below w.heap.size w w') := box (fun w => rwofbits_is xn2 yn2 Nn2 (by rw [← hxn2]; unfold bv7; rw [hNn2]; simp only; omega) (by rw [← hyn2]; unfold bv7; simp only; omega) (by rw [← hxn2, ← hyn2, ← hNn2]; unfold bv7; simp only; omega) w)
    have Tn2 : Box (∀ w : World, FAt w → Calls Tryd.prog 19 #[.int .u8 a0, .agg #[.int .u64 xn2, .int .u64 yn2]] w fun e w' => e = .returned (.bool true) ∧ Below w.heap.size w w') := box (fun w hw => s_fits_is a0 (xn2, yn2) true b0.1 b0.2 (by rw [← hxn2]; unfold bv7; rw [hNn2]; simp only; omega) (by rw [← hyn2]; unfold bv7; simp only; omega) (by rw [← hxn2, ← hyn2]; rcases hf with rfl | rfl | rfl | rfl <;> decide +kernel) w hw)
    have A2 : Box (∀ w : World, Calls Tryd.prog 44 #[.agg (cw 6 N2), .agg (cw 6 S)] w fun e w' => e = .returned (.tuple #[.agg (cw 6 Nn2), .bool false]) ∧ Below w.heap.size w w') := box (fun w => by
      have e : N2 + S = Nn2 := by rw [← hN2, ← hNn2, ← hS]; rcases hf with rfl | rfl | rfl | rfl <;> decide +kernel
      have q := lt_Q7 ln2
      exact rwadd_is N2 S Nn2 false (lt_Q7 l2) (lt_Q7 lS) (by rw [e, Nat.mod_eq_of_lt q]) (by rw [e]; simp; omega) w)
    obtain ⟨x3, hx3⟩ : ∃ x : Nat, (bv7 (eLeastNormal a0 false)).1 = x := ⟨_, rfl⟩
    obtain ⟨y3, hy3⟩ : ∃ x : Nat, (bv7 (eLeastNormal a0 false)).2 = x := ⟨_, rfl⟩
    have K3 : Box (∀ w : World, FAt w → Calls Tryd.prog 26 #[.int .u8 a0, .bool false] w fun e w' => e = .returned (.agg #[.int .u64 x3, .int .u64 y3]) ∧ Below w.heap.size w w') := box (fun w hw => by rw [← hx3, ← hy3]; exact s_leastnormal a0 false hf _ rfl w hw)
    obtain ⟨N3, hN3⟩ : ∃ N : Nat, eLeastNormal a0 false = N := ⟨_, rfl⟩
    have l3 : N3 < 340282366920938463463374607431768211456 := by rw [← hN3]; rcases hf with rfl | rfl | rfl | rfl <;> decide +kernel
    have O3 : Box (∀ w : World, Calls Tryd.prog 45 #[.agg #[.int .u64 x3, .int .u64 y3]] w fun e w' => e = .returned (.agg (cw 6 N3)) ∧ Below w.heap.size w w') := box (fun w => rwofbits_is x3 y3 N3 (by rw [← hx3]; unfold bv7; rw [hN3]; simp only; omega) (by rw [← hy3]; unfold bv7; simp only; omega) (by rw [← hx3, ← hy3, ← hN3]; unfold bv7; simp only; omega) w)
    have T3 : Box (∀ w : World, FAt w → Calls Tryd.prog 19 #[.int .u8 a0, .agg #[.int .u64 x3, .int .u64 y3]] w fun e w' => e = .returned (.bool true) ∧ Below w.heap.size w w') := box (fun w hw => s_fits_is a0 (x3, y3) true b0.1 b0.2 (by rw [← hx3]; unfold bv7; rw [hN3]; simp only; omega) (by rw [← hy3]; unfold bv7; simp only; omega) (by rw [← hx3, ← hy3]; rcases hf with rfl | rfl | rfl | rfl <;> decide +kernel) w hw)
    obtain ⟨xn3, hxn3⟩ : ∃ x : Nat, (bv7 (eLeastNormal a0 true)).1 = x := ⟨_, rfl⟩
    obtain ⟨yn3, hyn3⟩ : ∃ x : Nat, (bv7 (eLeastNormal a0 true)).2 = x := ⟨_, rfl⟩
    have Kn3 : Box (∀ w : World, FAt w → Calls Tryd.prog 26 #[.int .u8 a0, .bool true] w fun e w' => e = .returned (.agg #[.int .u64 xn3, .int .u64 yn3]) ∧ Below w.heap.size w w') := box (fun w hw => by rw [← hxn3, ← hyn3]; exact s_leastnormal a0 true hf _ rfl w hw)
    obtain ⟨Nn3, hNn3⟩ : ∃ N : Nat, eLeastNormal a0 true = N := ⟨_, rfl⟩
    have ln3 : Nn3 < 340282366920938463463374607431768211456 := by rw [← hNn3]; rcases hf with rfl | rfl | rfl | rfl <;> decide +kernel
    have On3 : Box (∀ w : World, Calls Tryd.prog 45 #[.agg #[.int .u64 xn3, .int .u64 yn3]] w fun e w' => e = .returned (.agg (cw 6 Nn3)) ∧ Below w.heap.size w w') := box (fun w => rwofbits_is xn3 yn3 Nn3 (by rw [← hxn3]; unfold bv7; rw [hNn3]; simp only; omega) (by rw [← hyn3]; unfold bv7; simp only; omega) (by rw [← hxn3, ← hyn3, ← hNn3]; unfold bv7; simp only; omega) w)
    have Tn3 : Box (∀ w : World, FAt w → Calls Tryd.prog 19 #[.int .u8 a0, .agg #[.int .u64 xn3, .int .u64 yn3]] w fun e w' => e = .returned (.bool true) ∧ Below w.heap.size w w') := box (fun w hw => s_fits_is a0 (xn3, yn3) true b0.1 b0.2 (by rw [← hxn3]; unfold bv7; rw [hNn3]; simp only; omega) (by rw [← hyn3]; unfold bv7; simp only; omega) (by rw [← hxn3, ← hyn3]; rcases hf with rfl | rfl | rfl | rfl <;> decide +kernel) w hw)
    have A3 : Box (∀ w : World, Calls Tryd.prog 44 #[.agg (cw 6 N3), .agg (cw 6 S)] w fun e w' => e = .returned (.tuple #[.agg (cw 6 Nn3), .bool false]) ∧ Below w.heap.size w w') := box (fun w => by
      have e : N3 + S = Nn3 := by rw [← hN3, ← hNn3, ← hS]; rcases hf with rfl | rfl | rfl | rfl <;> decide +kernel
      have q := lt_Q7 ln3
      exact rwadd_is N3 S Nn3 false (lt_Q7 l3) (lt_Q7 lS) (by rw [e, Nat.mod_eq_of_lt q]) (by rw [e]; simp; omega) w)
    obtain ⟨x4, hx4⟩ : ∃ x : Nat, (bv7 (eLeast a0 false)).1 = x := ⟨_, rfl⟩
    obtain ⟨y4, hy4⟩ : ∃ x : Nat, (bv7 (eLeast a0 false)).2 = x := ⟨_, rfl⟩
    have K4 : Box (∀ w : World, FAt w → Calls Tryd.prog 27 #[.int .u8 a0, .bool false] w fun e w' => e = .returned (.agg #[.int .u64 x4, .int .u64 y4]) ∧ Below w.heap.size w w') := box (fun w hw => by rw [← hx4, ← hy4]; exact s_least a0 false hf _ rfl w hw)
    obtain ⟨N4, hN4⟩ : ∃ N : Nat, eLeast a0 false = N := ⟨_, rfl⟩
    have l4 : N4 < 340282366920938463463374607431768211456 := by rw [← hN4]; rcases hf with rfl | rfl | rfl | rfl <;> decide +kernel
    have O4 : Box (∀ w : World, Calls Tryd.prog 45 #[.agg #[.int .u64 x4, .int .u64 y4]] w fun e w' => e = .returned (.agg (cw 6 N4)) ∧ Below w.heap.size w w') := box (fun w => rwofbits_is x4 y4 N4 (by rw [← hx4]; unfold bv7; rw [hN4]; simp only; omega) (by rw [← hy4]; unfold bv7; simp only; omega) (by rw [← hx4, ← hy4, ← hN4]; unfold bv7; simp only; omega) w)
    have T4 : Box (∀ w : World, FAt w → Calls Tryd.prog 19 #[.int .u8 a0, .agg #[.int .u64 x4, .int .u64 y4]] w fun e w' => e = .returned (.bool true) ∧ Below w.heap.size w w') := box (fun w hw => s_fits_is a0 (x4, y4) true b0.1 b0.2 (by rw [← hx4]; unfold bv7; rw [hN4]; simp only; omega) (by rw [← hy4]; unfold bv7; simp only; omega) (by rw [← hx4, ← hy4]; rcases hf with rfl | rfl | rfl | rfl <;> decide +kernel) w hw)
    obtain ⟨xn4, hxn4⟩ : ∃ x : Nat, (bv7 (eLeast a0 true)).1 = x := ⟨_, rfl⟩
    obtain ⟨yn4, hyn4⟩ : ∃ x : Nat, (bv7 (eLeast a0 true)).2 = x := ⟨_, rfl⟩
    have Kn4 : Box (∀ w : World, FAt w → Calls Tryd.prog 27 #[.int .u8 a0, .bool true] w fun e w' => e = .returned (.agg #[.int .u64 xn4, .int .u64 yn4]) ∧ Below w.heap.size w w') := box (fun w hw => by rw [← hxn4, ← hyn4]; exact s_least a0 true hf _ rfl w hw)
    obtain ⟨Nn4, hNn4⟩ : ∃ N : Nat, eLeast a0 true = N := ⟨_, rfl⟩
    have ln4 : Nn4 < 340282366920938463463374607431768211456 := by rw [← hNn4]; rcases hf with rfl | rfl | rfl | rfl <;> decide +kernel
    have On4 : Box (∀ w : World, Calls Tryd.prog 45 #[.agg #[.int .u64 xn4, .int .u64 yn4]] w fun e w' => e = .returned (.agg (cw 6 Nn4)) ∧ Below w.heap.size w w') := box (fun w => rwofbits_is xn4 yn4 Nn4 (by rw [← hxn4]; unfold bv7; rw [hNn4]; simp only; omega) (by rw [← hyn4]; unfold bv7; simp only; omega) (by rw [← hxn4, ← hyn4, ← hNn4]; unfold bv7; simp only; omega) w)
    have Tn4 : Box (∀ w : World, FAt w → Calls Tryd.prog 19 #[.int .u8 a0, .agg #[.int .u64 xn4, .int .u64 yn4]] w fun e w' => e = .returned (.bool true) ∧ Below w.heap.size w w') := box (fun w hw => s_fits_is a0 (xn4, yn4) true b0.1 b0.2 (by rw [← hxn4]; unfold bv7; rw [hNn4]; simp only; omega) (by rw [← hyn4]; unfold bv7; simp only; omega) (by rw [← hxn4, ← hyn4]; rcases hf with rfl | rfl | rfl | rfl <;> decide +kernel) w hw)
    have A4 : Box (∀ w : World, Calls Tryd.prog 44 #[.agg (cw 6 N4), .agg (cw 6 S)] w fun e w' => e = .returned (.tuple #[.agg (cw 6 Nn4), .bool false]) ∧ Below w.heap.size w w') := box (fun w => by
      have e : N4 + S = Nn4 := by rw [← hN4, ← hNn4, ← hS]; rcases hf with rfl | rfl | rfl | rfl <;> decide +kernel
      have q := lt_Q7 ln4
      exact rwadd_is N4 S Nn4 false (lt_Q7 l4) (lt_Q7 lS) (by rw [e, Nat.mod_eq_of_lt q]) (by rw [e]; simp; omega) w)
    obtain ⟨x5, hx5⟩ : ∃ x : Nat, (bv7 (eOne a0 false)).1 = x := ⟨_, rfl⟩
    obtain ⟨y5, hy5⟩ : ∃ x : Nat, (bv7 (eOne a0 false)).2 = x := ⟨_, rfl⟩
    have K5 : Box (∀ w : World, FAt w → Calls Tryd.prog 28 #[.int .u8 a0, .bool false] w fun e w' => e = .returned (.agg #[.int .u64 x5, .int .u64 y5]) ∧ Below w.heap.size w w') := box (fun w hw => by rw [← hx5, ← hy5]; exact s_one a0 false hf _ rfl w hw)
    obtain ⟨N5, hN5⟩ : ∃ N : Nat, eOne a0 false = N := ⟨_, rfl⟩
    have l5 : N5 < 340282366920938463463374607431768211456 := by rw [← hN5]; rcases hf with rfl | rfl | rfl | rfl <;> decide +kernel
    have O5 : Box (∀ w : World, Calls Tryd.prog 45 #[.agg #[.int .u64 x5, .int .u64 y5]] w fun e w' => e = .returned (.agg (cw 6 N5)) ∧ Below w.heap.size w w') := box (fun w => rwofbits_is x5 y5 N5 (by rw [← hx5]; unfold bv7; rw [hN5]; simp only; omega) (by rw [← hy5]; unfold bv7; simp only; omega) (by rw [← hx5, ← hy5, ← hN5]; unfold bv7; simp only; omega) w)
    have T5 : Box (∀ w : World, FAt w → Calls Tryd.prog 19 #[.int .u8 a0, .agg #[.int .u64 x5, .int .u64 y5]] w fun e w' => e = .returned (.bool true) ∧ Below w.heap.size w w') := box (fun w hw => s_fits_is a0 (x5, y5) true b0.1 b0.2 (by rw [← hx5]; unfold bv7; rw [hN5]; simp only; omega) (by rw [← hy5]; unfold bv7; simp only; omega) (by rw [← hx5, ← hy5]; rcases hf with rfl | rfl | rfl | rfl <;> decide +kernel) w hw)
    obtain ⟨xn5, hxn5⟩ : ∃ x : Nat, (bv7 (eOne a0 true)).1 = x := ⟨_, rfl⟩
    obtain ⟨yn5, hyn5⟩ : ∃ x : Nat, (bv7 (eOne a0 true)).2 = x := ⟨_, rfl⟩
    have Kn5 : Box (∀ w : World, FAt w → Calls Tryd.prog 28 #[.int .u8 a0, .bool true] w fun e w' => e = .returned (.agg #[.int .u64 xn5, .int .u64 yn5]) ∧ Below w.heap.size w w') := box (fun w hw => by rw [← hxn5, ← hyn5]; exact s_one a0 true hf _ rfl w hw)
    obtain ⟨Nn5, hNn5⟩ : ∃ N : Nat, eOne a0 true = N := ⟨_, rfl⟩
    have ln5 : Nn5 < 340282366920938463463374607431768211456 := by rw [← hNn5]; rcases hf with rfl | rfl | rfl | rfl <;> decide +kernel
    have On5 : Box (∀ w : World, Calls Tryd.prog 45 #[.agg #[.int .u64 xn5, .int .u64 yn5]] w fun e w' => e = .returned (.agg (cw 6 Nn5)) ∧ Below w.heap.size w w') := box (fun w => rwofbits_is xn5 yn5 Nn5 (by rw [← hxn5]; unfold bv7; rw [hNn5]; simp only; omega) (by rw [← hyn5]; unfold bv7; simp only; omega) (by rw [← hxn5, ← hyn5, ← hNn5]; unfold bv7; simp only; omega) w)
    have Tn5 : Box (∀ w : World, FAt w → Calls Tryd.prog 19 #[.int .u8 a0, .agg #[.int .u64 xn5, .int .u64 yn5]] w fun e w' => e = .returned (.bool true) ∧ Below w.heap.size w w') := box (fun w hw => s_fits_is a0 (xn5, yn5) true b0.1 b0.2 (by rw [← hxn5]; unfold bv7; rw [hNn5]; simp only; omega) (by rw [← hyn5]; unfold bv7; simp only; omega) (by rw [← hxn5, ← hyn5]; rcases hf with rfl | rfl | rfl | rfl <;> decide +kernel) w hw)
    have A5 : Box (∀ w : World, Calls Tryd.prog 44 #[.agg (cw 6 N5), .agg (cw 6 S)] w fun e w' => e = .returned (.tuple #[.agg (cw 6 Nn5), .bool false]) ∧ Below w.heap.size w w') := box (fun w => by
      have e : N5 + S = Nn5 := by rw [← hN5, ← hNn5, ← hS]; rcases hf with rfl | rfl | rfl | rfl <;> decide +kernel
      have q := lt_Q7 ln5
      exact rwadd_is N5 S Nn5 false (lt_Q7 l5) (lt_Q7 lS) (by rw [e, Nat.mod_eq_of_lt q]) (by rw [e]; simp; omega) w)
    have QN0 := box (lt_Q7 ln0)
    have QN1 := box (lt_Q7 ln1)
    have QN2 := box (lt_Q7 ln2)
    have QN3 := box (lt_Q7 ln3)
    have QN4 := box (lt_Q7 ln4)
    have QN5 := box (lt_Q7 ln5)
    obtain ⟨W, hW⟩ : ∃ W : Int, fW a0 = W := ⟨_, rfl⟩
    have HW := box hW
    obtain ⟨sn, hsn⟩ : ∃ n : Nat, wV a0 = n := ⟨_, rfl⟩
    have e1 : IntKind.i64.wrap (W - 1) = (sn : Int) := by rw [← hW, ← hsn]; rcases hf with rfl | rfl | rfl | rfl <;> decide +kernel
    have KL : Box (∀ w : World, Calls Tryd.prog 42 #[.agg (cw 6 1), .int .i64 (sn : Nat)] w fun e w' => e = .returned (.tuple #[.agg (cw 6 S), .bool false]) ∧ Below w.heap.size w w') := box (fun w => by
      have c : 1 * 2 ^ cnt6 (sn : Int) = S := by rw [← hsn, ← hS]; rcases hf with rfl | rfl | rfl | rfl <;> decide +kernel
      have q := lt_Q7 lS
      exact rwleft_is 1 S sn false (lt_Q7 (by decide)) (by rw [c, Nat.mod_eq_of_lt q]) (by rw [c]; simp; omega) w)
    clear h h0 hS lS hW hsn hx0 hy0 hN0 l0 hxn0 hyn0 hNn0 ln0 hx1 hy1 hN1 l1 hxn1 hyn1 hNn1 ln1 hx2 hy2 hN2 l2 hxn2 hyn2 hNn2 ln2 hx3 hy3 hN3 l3 hxn3 hyn3 hNn3 ln3 hx4 hy4 hN4 l4 hxn4 hyn4 hNn4 ln4 hx5 hy5 hN5 l5 hxn5 hyn5 hNn5 ln5
    have B0 := Below.refl w.heap.size w
    go_enter Tryd.func6, Tryd.ntmps6
    go_wp2_with fail
    refine (r_right a0 true HO.out _).mono ?_
    rintro r w' ⟨rfl, hw'⟩
    obtain rfl := hw'.symm
    clear hw'
    go_wp2_with fail
    refine (K0.out _ (fatB TT.out B0)).mono ?_
    rintro r w1 ⟨rfl, b1⟩
    have B1 := btr7 B0 b1
    clear B0 b1 
    go_wp2_with fail
    refine (K1.out _ (fatB TT.out B1)).mono ?_
    rintro r w2 ⟨rfl, b2⟩
    have B2 := btr7 B1 b2
    clear B1 b2 
    go_wp2_with fail
    refine (K2.out _ (fatB TT.out B2)).mono ?_
    rintro r w3 ⟨rfl, b3⟩
    have B3 := btr7 B2 b3
    clear B2 b3 
    go_wp2_with fail
    refine (K3.out _ (fatB TT.out B3)).mono ?_
    rintro r w4 ⟨rfl, b4⟩
    have B4 := btr7 B3 b4
    clear B3 b4 
    go_wp2_with fail
    refine (K4.out _ (fatB TT.out B4)).mono ?_
    rintro r w5 ⟨rfl, b5⟩
    have B5 := btr7 B4 b5
    clear B4 b5 
    go_wp2_with fail
    refine (K5.out _ (fatB TT.out B5)).mono ?_
    rintro r w6 ⟨rfl, b6⟩
    have B6 := btr7 B5 b6
    clear B5 b6 
    have Rl7 : (w6.alloc (.cells #[.int .u64 x0, .int .u64 y0, .int .u64 x1, .int .u64 y1, .int .u64 x2, .int .u64 y2, .int .u64 x3, .int .u64 y3, .int .u64 x4, .int .u64 y4, .int .u64 x5, .int .u64 y5] 26)).heap[w6.heap.size]? = some (.cells #[.int .u64 x0, .int .u64 y0, .int .u64 x1, .int .u64 y1, .int .u64 x2, .int .u64 y2, .int .u64 x3, .int .u64 y3, .int .u64 x4, .int .u64 y4, .int .u64 x5, .int .u64 y5] 26) := last7 _ _
    have B7 := bel_al B6 (.cells #[.int .u64 x0, .int .u64 y0, .int .u64 x1, .int .u64 y1, .int .u64 x2, .int .u64 y2, .int .u64 x3, .int .u64 y3, .int .u64 x4, .int .u64 y4, .int .u64 x5, .int .u64 y5] 26)
    clear B6 
    go_wp2_with fail
    refine (Kn0.out _ (fatB TT.out B7)).mono ?_
    rintro r w8 ⟨rfl, b8⟩
    have B8 := btr7 B7 b8
    have Rl8 := heap_of b8 _ _ _ Rl7
    clear B7 b8 Rl7
    go_wp2_with fail
    refine (Kn1.out _ (fatB TT.out B8)).mono ?_
    rintro r w9 ⟨rfl, b9⟩
    have B9 := btr7 B8 b9
    have Rl9 := heap_of b9 _ _ _ Rl8
    clear B8 b9 Rl8
    go_wp2_with fail
    refine (Kn2.out _ (fatB TT.out B9)).mono ?_
    rintro r w10 ⟨rfl, b10⟩
    have B10 := btr7 B9 b10
    have Rl10 := heap_of b10 _ _ _ Rl9
    clear B9 b10 Rl9
    go_wp2_with fail
    refine (Kn3.out _ (fatB TT.out B10)).mono ?_
    rintro r w11 ⟨rfl, b11⟩
    have B11 := btr7 B10 b11
    have Rl11 := heap_of b11 _ _ _ Rl10
    clear B10 b11 Rl10
    go_wp2_with fail
    refine (Kn4.out _ (fatB TT.out B11)).mono ?_
    rintro r w12 ⟨rfl, b12⟩
    have B12 := btr7 B11 b12
    have Rl12 := heap_of b12 _ _ _ Rl11
    clear B11 b12 Rl11
    go_wp2_with fail
    refine (Kn5.out _ (fatB TT.out B12)).mono ?_
    rintro r w13 ⟨rfl, b13⟩
    have B13 := btr7 B12 b13
    have Rl13 := heap_of b13 _ _ _ Rl12
    clear B12 b13 Rl12
    have Rl14 := row_al Rl13 (.cells #[.int .u64 xn0, .int .u64 yn0, .int .u64 xn1, .int .u64 yn1, .int .u64 xn2, .int .u64 yn2, .int .u64 xn3, .int .u64 yn3, .int .u64 xn4, .int .u64 yn4, .int .u64 xn5, .int .u64 yn5] 26)
    have Rk14 : (w13.alloc (.cells #[.int .u64 xn0, .int .u64 yn0, .int .u64 xn1, .int .u64 yn1, .int .u64 xn2, .int .u64 yn2, .int .u64 xn3, .int .u64 yn3, .int .u64 xn4, .int .u64 yn4, .int .u64 xn5, .int .u64 yn5] 26)).heap[w13.heap.size]? = some (.cells #[.int .u64 xn0, .int .u64 yn0, .int .u64 xn1, .int .u64 yn1, .int .u64 xn2, .int .u64 yn2, .int .u64 xn3, .int .u64 yn3, .int .u64 xn4, .int .u64 yn4, .int .u64 xn5, .int .u64 yn5] 26) := last7 _ _
    have B14 := bel_al B13 (.cells #[.int .u64 xn0, .int .u64 yn0, .int .u64 xn1, .int .u64 yn1, .int .u64 xn2, .int .u64 yn2, .int .u64 xn3, .int .u64 yn3, .int .u64 xn4, .int .u64 yn4, .int .u64 xn5, .int .u64 yn5] 26)
    clear B13 Rl13
    go_wp2_with fail
    refine (rwof_any 1 (by decide) _).mono ?_
    rintro r w15 ⟨rfl, b15⟩
    have B15 := btr7 B14 b15
    have Rl15 := heap_of b15 _ _ _ Rl14
    have Rk15 := heap_of b15 _ _ _ Rk14
    clear B14 b15 Rl14 Rk14
    go_wp2_with fail
    refine (sb_width a0 W b0.1 b0.2 HW.out _ (fatB TT.out B15)).mono ?_
    rintro r w16 ⟨rfl, b16⟩
    have B16 := btr7 B15 b16
    have Rl16 := heap_of b16 _ _ _ Rl15
    have Rk16 := heap_of b16 _ _ _ Rk15
    clear B15 b16 Rl15 Rk15
    go_wp2_with fail
    refine (KL.out _).mono ?_
    rintro r w17 ⟨rfl, b17⟩
    have B17 := btr7 B16 b17
    have Rl17 := heap_of b17 _ _ _ Rl16
    have Rk17 := heap_of b17 _ _ _ Rk16
    clear B16 b17 Rl16 Rk16
    have Rl18 := row_al Rl17 (.cells (cw 6 S) 55)
    have Rk18 := row_al Rk17 (.cells (cw 6 S) 55)
    have Rs18 : (w17.alloc (.cells (cw 6 S) 55)).heap[w17.heap.size]? = some (.cells (cw 6 S) 55) := last7 _ _
    have B18 := bel_al B17 (.cells (cw 6 S) 55)
    clear B17 Rl17 Rk17
    obtain ⟨gl, hgl⟩ : ∃ g, w6.heap.size = g := ⟨_, rfl⟩
    obtain ⟨gk, hgk⟩ : ∃ g, w13.heap.size = g := ⟨_, rfl⟩
    obtain ⟨gs, hgs⟩ : ∃ g, w17.heap.size = g := ⟨_, rfl⟩
    rw [hgl] at Rl18
    rw [hgk] at Rk18
    rw [hgs] at Rs18
    go_wp2_with fail
    try rw [hgl]
    try rw [hgk]
    try rw [hgs]
    clear hgl hgk hgs
    have GO : Box (∀ n, n < 6 → ∀ w : World, Calls Tryd.prog 45 #[.agg #[.int .u64 ([x0, x1, x2, x3, x4, x5].getD n 0 : Nat), .int .u64 ([y0, y1, y2, y3, y4, y5].getD n 0 : Nat)]] w fun e w' => e = .returned (.agg (cw 6 ([N0, N1, N2, N3, N4, N5].getD n 0))) ∧ Below w.heap.size w w') := box (fun n hn => match n, hn with | 0, _ => O0.out | 1, _ => O1.out | 2, _ => O2.out | 3, _ => O3.out | 4, _ => O4.out | 5, _ => O5.out)
    have GP : Box (∀ n, n < 6 → ∀ w : World, Calls Tryd.prog 45 #[.agg #[.int .u64 ([xn0, xn1, xn2, xn3, xn4, xn5].getD n 0 : Nat), .int .u64 ([yn0, yn1, yn2, yn3, yn4, yn5].getD n 0 : Nat)]] w fun e w' => e = .returned (.agg (cw 6 ([Nn0, Nn1, Nn2, Nn3, Nn4, Nn5].getD n 0))) ∧ Below w.heap.size w w') := box (fun n hn => match n, hn with | 0, _ => On0.out | 1, _ => On1.out | 2, _ => On2.out | 3, _ => On3.out | 4, _ => On4.out | 5, _ => On5.out)
    have GA : Box (∀ n, n < 6 → ∀ w : World, Calls Tryd.prog 44 #[.agg (cw 6 ([N0, N1, N2, N3, N4, N5].getD n 0)), .agg (cw 6 S)] w fun e w' => e = .returned (.tuple #[.agg (cw 6 ([Nn0, Nn1, Nn2, Nn3, Nn4, Nn5].getD n 0)), .bool false]) ∧ Below w.heap.size w w') := box (fun n hn => match n, hn with | 0, _ => A0.out | 1, _ => A1.out | 2, _ => A2.out | 3, _ => A3.out | 4, _ => A4.out | 5, _ => A5.out)
    have GT : Box (∀ n, n < 6 → ∀ w : World, FAt w → Calls Tryd.prog 19 #[.int .u8 a0, .agg #[.int .u64 ([x0, x1, x2, x3, x4, x5].getD n 0 : Nat), .int .u64 ([y0, y1, y2, y3, y4, y5].getD n 0 : Nat)]] w fun e w' => e = .returned (.bool true) ∧ Below w.heap.size w w') := box (fun n hn => match n, hn with | 0, _ => T0.out | 1, _ => T1.out | 2, _ => T2.out | 3, _ => T3.out | 4, _ => T4.out | 5, _ => T5.out)
    have GU : Box (∀ n, n < 6 → ∀ w : World, FAt w → Calls Tryd.prog 19 #[.int .u8 a0, .agg #[.int .u64 ([xn0, xn1, xn2, xn3, xn4, xn5].getD n 0 : Nat), .int .u64 ([yn0, yn1, yn2, yn3, yn4, yn5].getD n 0 : Nat)]] w fun e w' => e = .returned (.bool true) ∧ Below w.heap.size w w') := box (fun n hn => match n, hn with | 0, _ => Tn0.out | 1, _ => Tn1.out | 2, _ => Tn2.out | 3, _ => Tn3.out | 4, _ => Tn4.out | 5, _ => Tn5.out)
    have GQ : Box (∀ n, n < 6 → [Nn0, Nn1, Nn2, Nn3, Nn4, Nn5].getD n 0 < Q) := box (fun n hn => match n, hn with | 0, _ => QN0.out | 1, _ => QN1.out | 2, _ => QN2.out | 3, _ => QN3.out | 4, _ => QN4.out | 5, _ => QN5.out)
    have CL : ∀ n, n < 6 → (#[.int .u64 x0, .int .u64 y0, .int .u64 x1, .int .u64 y1, .int .u64 x2, .int .u64 y2, .int .u64 x3, .int .u64 y3, .int .u64 x4, .int .u64 y4, .int .u64 x5, .int .u64 y5] : Array Value)[n * 2]? = some (.int .u64 ([x0, x1, x2, x3, x4, x5].getD n 0 : Nat)) ∧ (#[.int .u64 x0, .int .u64 y0, .int .u64 x1, .int .u64 y1, .int .u64 x2, .int .u64 y2, .int .u64 x3, .int .u64 y3, .int .u64 x4, .int .u64 y4, .int .u64 x5, .int .u64 y5] : Array Value)[n * 2 + 1]? = some (.int .u64 ([y0, y1, y2, y3, y4, y5].getD n 0 : Nat)) := fun n hn => match n, hn with | 0, _ => ⟨rfl, rfl⟩ | 1, _ => ⟨rfl, rfl⟩ | 2, _ => ⟨rfl, rfl⟩ | 3, _ => ⟨rfl, rfl⟩ | 4, _ => ⟨rfl, rfl⟩ | 5, _ => ⟨rfl, rfl⟩
    have CK : ∀ n, n < 6 → (#[.int .u64 xn0, .int .u64 yn0, .int .u64 xn1, .int .u64 yn1, .int .u64 xn2, .int .u64 yn2, .int .u64 xn3, .int .u64 yn3, .int .u64 xn4, .int .u64 yn4, .int .u64 xn5, .int .u64 yn5] : Array Value)[n * 2]? = some (.int .u64 ([xn0, xn1, xn2, xn3, xn4, xn5].getD n 0 : Nat)) ∧ (#[.int .u64 xn0, .int .u64 yn0, .int .u64 xn1, .int .u64 yn1, .int .u64 xn2, .int .u64 yn2, .int .u64 xn3, .int .u64 yn3, .int .u64 xn4, .int .u64 yn4, .int .u64 xn5, .int .u64 yn5] : Array Value)[n * 2 + 1]? = some (.int .u64 ([yn0, yn1, yn2, yn3, yn4, yn5].getD n 0 : Nat)) := fun n hn => match n, hn with | 0, _ => ⟨rfl, rfl⟩ | 1, _ => ⟨rfl, rfl⟩ | 2, _ => ⟨rfl, rfl⟩ | 3, _ => ⟨rfl, rfl⟩ | 4, _ => ⟨rfl, rfl⟩ | 5, _ => ⟨rfl, rfl⟩
    obtain ⟨cl, hcl⟩ : ∃ c : Array Value, #[.int .u64 x0, .int .u64 y0, .int .u64 x1, .int .u64 y1, .int .u64 x2, .int .u64 y2, .int .u64 x3, .int .u64 y3, .int .u64 x4, .int .u64 y4, .int .u64 x5, .int .u64 y5] = c := ⟨_, rfl⟩
    obtain ⟨ck, hck⟩ : ∃ c : Array Value, #[.int .u64 xn0, .int .u64 yn0, .int .u64 xn1, .int .u64 yn1, .int .u64 xn2, .int .u64 yn2, .int .u64 xn3, .int .u64 yn3, .int .u64 xn4, .int .u64 yn4, .int .u64 xn5, .int .u64 yn5] = c := ⟨_, rfl⟩
    rw [hcl] at CL Rl18
    rw [hck] at CK Rk18
    obtain ⟨Lx, hLx⟩ : ∃ l : List Nat, [x0, x1, x2, x3, x4, x5] = l := ⟨_, rfl⟩
    obtain ⟨Ly, hLy⟩ : ∃ l : List Nat, [y0, y1, y2, y3, y4, y5] = l := ⟨_, rfl⟩
    obtain ⟨Lxn, hLxn⟩ : ∃ l : List Nat, [xn0, xn1, xn2, xn3, xn4, xn5] = l := ⟨_, rfl⟩
    obtain ⟨Lyn, hLyn⟩ : ∃ l : List Nat, [yn0, yn1, yn2, yn3, yn4, yn5] = l := ⟨_, rfl⟩
    obtain ⟨LN, hLN⟩ : ∃ l : List Nat, [N0, N1, N2, N3, N4, N5] = l := ⟨_, rfl⟩
    obtain ⟨LNn, hLNn⟩ : ∃ l : List Nat, [Nn0, Nn1, Nn2, Nn3, Nn4, Nn5] = l := ⟨_, rfl⟩
    rw [hLNn] at GQ
    rw [hLx, hLy, hLN] at GO
    rw [hLxn, hLyn, hLNn] at GP
    rw [hLN, hLNn] at GA
    rw [hLx, hLy] at GT CL
    rw [hLxn, hLyn] at GU CK
    clear hcl hck hLx hLy hLxn hLyn hLN hLNn K0 O0 T0 Kn0 On0 Tn0 K1 O1 T1 Kn1 On1 Tn1 K2 O2 T2 Kn2 On2 Tn2 K3 O3 T3 Kn3 On3 Tn3 K4 O4 T4 Kn4 On4 Tn4 K5 O5 T5 Kn5 On5 Tn5 A0 QN0 A1 QN1 A2 QN2 A3 QN3 A4 QN4 A5 QN5 KL
    have CL := box CL
    have CK := box CK
    go_loopw [7] (fun iv wr => ∃ n : Nat, n ≤ 6 ∧ iv = .int .i64 n ∧ Box (Below w.heap.size w wr ∧ wr.heap[gl]? = some (.cells cl 26) ∧ wr.heap[gk]? = some (.cells ck 26) ∧ wr.heap[gs]? = some (.cells (cw 6 S) 55))) (fun iv _ => 6 - (intOf iv).toNat)
    case atStart => exact ⟨0, by omega, rfl, box ⟨B18, Rl18, Rk18, Rs18⟩⟩
    case round =>
      obtain ⟨n, hn, rfl, HR⟩ := hrel
      by_cases hlt : n < 6
      · obtain ⟨BR, RL, RK, RS⟩ := HR.out
        obtain ⟨x, hx⟩ : ∃ x : Nat, Lx.getD n 0 = x := ⟨_, rfl⟩
        obtain ⟨y, hy⟩ : ∃ x : Nat, Ly.getD n 0 = x := ⟨_, rfl⟩
        obtain ⟨u, hu⟩ : ∃ x : Nat, Lxn.getD n 0 = x := ⟨_, rfl⟩
        obtain ⟨v, hv⟩ : ∃ x : Nat, Lyn.getD n 0 = x := ⟨_, rfl⟩
        obtain ⟨N, hN⟩ : ∃ x : Nat, LN.getD n 0 = x := ⟨_, rfl⟩
        obtain ⟨M, hM⟩ : ∃ x : Nat, LNn.getD n 0 = x := ⟨_, rfl⟩
        have g1 := GO.out n hlt
        have g2 := GP.out n hlt
        have g3 := GA.out n hlt
        have g4 := GT.out n hlt
        have g5 := GU.out n hlt
        have g6 := CL.out n hlt
        have g7 := CK.out n hlt
        rw [hx, hy, hN] at g1
        rw [hu, hv, hM] at g2
        rw [hN, hM] at g3
        rw [hx, hy] at g4 g6
        rw [hu, hv] at g5 g7
        have G6 := box g6
        have G7 := box g7
        have g1 := box g1
        have g2 := box g2
        have g3 := box g3
        have g4 := box g4
        have g5 := box g5
        have c0 := cell7 RL (n * 2) _ g6.1
        have c1 := cell7 RL (n * 2 + 1) _ g6.2
        have s0 := row_cell RS
        have mQ : M < Q := by rw [← hM]; exact GQ.out n hlt
        clear hx hy hu hv hN hM g7
        have hni : (n : Int) < 6 := by omega
        have c0a := cell7 (row_al RL (.cells (cw 6 0) 55)) (n * 2) _ g6.1
        have c1a := cell7 (row_al RL (.cells (cw 6 0) 55)) (n * 2 + 1) _ g6.2
        have s0a := row_cell (row_al RS (.cells (cw 6 0) 55))
        have zl := (Array.getElem?_eq_some_iff.1 RL).1
        have zk := (Array.getElem?_eq_some_iff.1 RK).1
        have zs := (Array.getElem?_eq_some_iff.1 RS).1
        have zw := BR.size
        have Z0 := box (And.intro zl (And.intro zk (And.intro zs zw)))
        clear zl zk zs zw g6
        go_wp2
        apply cut7
        · intro key
          go_region_with (first
            | (go_at_call 45; refine (g1.out _).mono ?_; rintro r w1 ⟨rfl, b1⟩; have B1 : Below w.heap.size w w1 := btr7 (by repeat (first | exact BR | refine bel_dr ?_ | refine bel_al ?_ _)) b1; have RL1 : w1.heap[gl]? = some (.cells cl 26) := heap_of b1 _ _ _ (by repeat (first | exact RL | refine row_dr ?_ | refine row_al ?_ _)); have RK1 : w1.heap[gk]? = some (.cells ck 26) := heap_of b1 _ _ _ (by repeat (first | exact RK | refine row_dr ?_ | refine row_al ?_ _)); have RS1 : w1.heap[gs]? = some (.cells (cw 6 S) 55) := heap_of b1 _ _ _ (by repeat (first | exact RS | refine row_dr ?_ | refine row_al ?_ _)); (try (have bb1 : Below (wr.alloc (.cells (cw 6 0) 55)).drew.heap.size (wr.alloc (.cells (cw 6 0) 55)).drew w1 := b1; have RA1 := heap_of bb1 _ _ _ (row_dr (last7 wr (.cells (cw 6 0) 55))); clear bb1)); have s1 := row_cell RS1; have s1a := row_cell (row_al RS1 (.cells (cw 6 0) 55)); have Z1 := box (And.intro (Array.getElem?_eq_some_iff.1 RL1).1 (And.intro (Array.getElem?_eq_some_iff.1 RK1).1 (And.intro (Array.getElem?_eq_some_iff.1 RS1).1 B1.size))))
            | (go_at_call 44; refine (g3.out _).mono ?_; rintro r w2 ⟨rfl, b2⟩; have B2 : Below w.heap.size w w2 := btr7 (by repeat (first | exact B1 | refine bel_dr ?_ | refine bel_al ?_ _)) b2; have RL2 : w2.heap[gl]? = some (.cells cl 26) := heap_of b2 _ _ _ (by repeat (first | exact RL1 | refine row_dr ?_ | refine row_al ?_ _)); have RK2 : w2.heap[gk]? = some (.cells ck 26) := heap_of b2 _ _ _ (by repeat (first | exact RK1 | refine row_dr ?_ | refine row_al ?_ _)); have RS2 : w2.heap[gs]? = some (.cells (cw 6 S) 55) := heap_of b2 _ _ _ (by repeat (first | exact RS1 | refine row_dr ?_ | refine row_al ?_ _)); (try (have RA2 := heap_of b2 _ _ _ RA1; have hst := st_any w2 _ M 0 RA2)); (try (have bb2 : Below (w1.alloc (.cells (cw 6 0) 55)).heap.size (w1.alloc (.cells (cw 6 0) 55)) w2 := b2; have RA3 := heap_of bb2 _ _ _ (last7 w1 (.cells (cw 6 0) 55)); clear bb2; have hst := st_any w2 _ M 0 RA3))))
          all_goals
            first
            | (refine genW (R9 w gl gk gs cl ck S M wr.heap.size) (by repeat (first | exact r9_set B2 RL2 RK2 RS2 RA2 Z0.out.1 Z0.out.2.1 Z0.out.2.2.1 Z0.out.2.2.2 | refine r9_dr ?_)) ?_; generalize wr.heap.size = ga; revert ga; exact key)
            | (refine genW (R9 w gl gk gs cl ck S M w1.heap.size) (by repeat (first | exact r9_set B2 RL2 RK2 RS2 RA3 Z1.out.1 Z1.out.2.1 Z1.out.2.2.1 Z1.out.2.2.2 | refine r9_dr ?_)) ?_; generalize w1.heap.size = ga; revert ga; exact key)
            | (refine genW (R9 w gl gk gs cl ck S M w2.heap.size) (by repeat (first | exact r9_al B2 RL2 RK2 RS2 | refine r9_dr ?_)) ?_; generalize w2.heap.size = ga; revert ga; exact key)
        rintro ga w5 ⟨B5, RL5, RK5, RS5, RA5⟩
        clear c0 c1 c0a c1a s0 s0a BR RL RK RS HR Z0 g1 g3
        go_wp2_with fail
        obtain ⟨F, hF1, hF2⟩ := below_fun w5
        have f0 := fun u => cell7 (heap_of (hF1 u) _ _ _ RL5) (n * 2) _ G6.out.1
        have f1 := fun u => cell7 (heap_of (hF1 u) _ _ _ RL5) (n * 2 + 1) _ G6.out.2
        have f2 := fun u => cell7 (heap_of (hF1 u) _ _ _ RK5) (n * 2) _ G7.out.1
        have f3 := fun u => cell7 (heap_of (hF1 u) _ _ _ RK5) (n * 2 + 1) _ G7.out.2
        have fa := fun u => row_cell (heap_of (hF1 u) _ _ _ RA5)
        have TF : Box (∀ u, FAt (F u)) := box (fun u => fatB TT.out (btr7 B5 (hF1 u)))
        refine wp_region_below F hF2 (by kernel_rfl) (by kernel_rfl) ?_
        repeat first | go_big_quiet_step (first | (go_at_call 45; exact quietF hF1 hF2 (g2.out _)) | (go_at_call_of 19 (Value.agg #[Value.int .u64 (x : Int), Value.int .u64 (y : Int)]); exact quietF hF1 hF2 (g4.out _ (TF.out _))) | (go_at_call_of 19 (Value.agg #[Value.int .u64 (u : Int), Value.int .u64 (v : Int)]); exact quietF hF1 hF2 (g5.out _ (TF.out _))) | fail) | quiet_step (first | (go_at_call 45; exact quietF hF1 hF2 (g2.out _)) | (go_at_call_of 19 (Value.agg #[Value.int .u64 (x : Int), Value.int .u64 (y : Int)]); exact quietF hF1 hF2 (g4.out _ (TF.out _))) | (go_at_call_of 19 (Value.agg #[Value.int .u64 (u : Int), Value.int .u64 (v : Int)]); exact quietF hF1 hF2 (g5.out _ (TF.out _))) | fail)
        refine wpQuiet_nil ?_
        rintro _ ⟨uW, rfl⟩
        have B6 := btr7 B5 (hF1 uW)
        have RL6 := heap_of (hF1 uW) _ _ _ RL5
        have RK6 := heap_of (hF1 uW) _ _ _ RK5
        have RS6 := heap_of (hF1 uW) _ _ _ RS5
        obtain ⟨w6, hw⟩ : ∃ V, F uW = V := ⟨_, rfl⟩
        rw [hw] at B6 RL6 RK6 RS6
        try rw [hw]
        clear hw hF1 hF2 f0 f1 f2 f3 fa TF B5 RL5 RK5 RS5 RA5
        clear F
        have hw1 : IntKind.i64.wrap ((n : Int) + 1) = ((n + 1 : Nat) : Int) := by rw [IntKind.wrap_i64]; omega
        go_wp2
        go_roundw
        case rel => exact ⟨n + 1, by omega, by go_num, box ⟨B6, RL6, RK6, RS6⟩⟩
        case measure => simp [intOf]; omega
      · obtain ⟨BR, RL, RK, RS⟩ := HR.out
        obtain rfl : n = 6 := by omega
        clear GO GP GA GT GU GQ CL CK HR
        obtain ⟨E, hE⟩ : ∃ E : Int, fE a0 = E := ⟨_, rfl⟩
        obtain ⟨P, hP⟩ : ∃ P : Int, fP a0 = P := ⟨_, rfl⟩
        have hm : (if fC a0 = 0 then 1 - E else 0) = 1 - E := by rw [if_pos (is4_ok hf).2.2.1]
        have q0 : IntKind.i64.wrap (1 - E) = 1 - E := by rw [← hE]; rcases hf with rfl | rfl | rfl | rfl <;> decide +kernel
        have q1 : IntKind.i64.wrap (W - P) = W - P := by rw [← HW.out, ← hP]; rcases hf with rfl | rfl | rfl | rfl <;> decide +kernel
        obtain ⟨k, hk⟩ : ∃ k : Nat, W - P - 1 = (k : Int) := ⟨(W - P - 1).toNat, by rw [← HW.out, ← hP]; rcases hf with rfl | rfl | rfl | rfl <;> decide +kernel⟩
        have q2 : IntKind.i64.wrap (W - P - 1) = (k : Int) := by rw [hk]; have : (k : Int) ≤ 128 := (by rw [← hk, ← HW.out, ← hP]; rcases hf with rfl | rfl | rfl | rfl <;> decide +kernel); rw [IntKind.wrap_i64]; omega
        have q3 : IntKind.i64.wrap (IntKind.i64.wrap (2 ^ min k 64) - 1) = E := by
          have : k = (fW a0 - fP a0 - 1).toNat := by rw [hP, HW.out]; omega
          rw [this, ← hE]; rcases hf with rfl | rfl | rfl | rfl <;> decide +kernel
        have q4 : wrap64 (wrap64 (2 ^ min k 64) - 1) = E := by
          have : k = (fW a0 - fP a0 - 1).toNat := by rw [hP, HW.out]; omega
          rw [this, ← hE]; rcases hf with rfl | rfl | rfl | rfl <;> decide +kernel
        have HE := box hE
        have HP := box hP
        have HM := box hm
        clear hE hP hm hk
        go_wp2_with fail
        refine (s_emin a0 E (1 - E) b0.1 b0.2 HE.out HM.out _ (fatB TT.out BR)).mono ?_
        rintro r we1 ⟨rfl, be1⟩
        have BE1 := btr7 BR be1
        go_wp2_with fail
        refine (sb_emax a0 E b0.1 b0.2 HE.out _ (fatB TT.out BE1)).mono ?_
        rintro r we2 ⟨rfl, be2⟩
        have BE2 := btr7 BE1 be2
        go_wp2_with fail
        refine (sb_emax a0 E b0.1 b0.2 HE.out _ (fatB TT.out BE2)).mono ?_
        rintro r we3 ⟨rfl, be3⟩
        have BE3 := btr7 BE2 be3
        go_wp2_with fail
        refine (sb_width a0 W b0.1 b0.2 HW.out _ (fatB TT.out BE3)).mono ?_
        rintro r we4 ⟨rfl, be4⟩
        have BE4 := btr7 BE3 be4
        go_wp2_with fail
        refine (sb_precision a0 P b0.1 b0.2 HP.out _ (fatB TT.out BE4)).mono ?_
        rintro r we5 ⟨rfl, be5⟩
        have BE5 := btr7 BE4 be5
        go_wp2_with fail
        refine (s_alive _ (fatB TT.out BE5)).mono ?_
        rintro r we6 ⟨rfl, be6⟩
        have BE6 := btr7 BE5 be6
        go_wp2
        go_ret
        exact ⟨rfl, BE6⟩
  · have HO : Box (decide (a0 ≤ 3) = false) := box (by simp; omega)
    clear h h0
    have B0 : Below w.heap.size w w := (Below.refl _ _)
    go_enter Tryd.func6, Tryd.ntmps6
    go_wp2_with fail
    refine (r_right a0 false HO.out _).mono ?_
    rintro r w' ⟨rfl, hw'⟩
    obtain rfl := hw'.symm
    go_wp2_with fail
    refine (s_alive _ (fatB TT.out B0)).mono ?_
    rintro r w1 ⟨rfl, b1⟩
    have B1 : Below w.heap.size w w1 := btr7 B0 b1
    clear b1 B0 
    go_wp2
    go_ret
    exact ⟨rfl, B1⟩

set_option maxRecDepth 100000 in
theorem lifted (os : Os) (started : os.Started) (H : Type) (enc : TypeId × Value → H) :
    ReturnsInHanded {} Tryd.checked os 6 .any (fun w args => (Rows.shapeSignsSpec.pre enc Tryd.prog Tryd.f6 [] false w args ∧ laidMetH Tryd.prog laid7 w) ∧ sizedMet enc Tryd.prog Tryd.f6 (OpenSpec.ofChange Rows.shapeSignsSpec) false w args)
      (Rows.shapeSignsSpec.post enc Tryd.prog Tryd.f6 false true false false) := by
  refine returnsInHanded_of_change_and (C := Tryd.checked) (X := fun w _ => laidMetH Tryd.prog laid7 w) (fun _ _ _ hh h => h.of_heap hh) own started (by kernel_rfl) Tryd.func6
    (ChangeSpec.witness_shaped (enc := enc) (C := Tryd.checked) (os := os) (X := fun w _ => laidMetH Tryd.prog laid7 w) false (World.doorLaid Tryd.prog 400 os) #[.int .u8 0] 8 rfl (World.shaped_of_RefB (by kernel_rfl) (by kernel_rfl)) (by kernel_rfl) (by kernel_rfl) (by kernel_rfl) (door_met7 os _)) ?_
  intro W base args ds gs before hval0 hW _ _ hL _
  have hval : ∀ (j : Nat) t v, Tryd.f6.params[j]? = some t → args[j]? = some v → Value.okWide Tryd.prog W .any base t v := hval0
  have hW' := hW
  obtain ⟨p, q, hA0, hV, rfl, hfz, hnd⟩ := hW
  have hA : DataW.TrodAll enc Tryd.prog W 0 (fun _ => true) true Tryd.f6.params.toList args.toList ds p := hA0
  rw [Tryd.params6] at hA hval
  obtain ⟨v0, vs0, d0, ds0, p0, q0, hargs, rfl, rfl, k0, r0⟩ := trodAll_cons hA
  obtain ⟨rfl, rfl, rfl⟩ := trodAll_nil r0
  obtain rfl : args = #[v0] := by cases args; simp_all
  obtain ⟨rfl, rfl⟩ := trodVars_none hV
  obtain ⟨a0, rfl, rfl, rfl, h0⟩ := open_int Tryd.underlying22 (hval 0 22 v0 rfl rfl) k0
  clear hA0 hval0
  simp only [List.append_nil] at hW'
  refine (walk a0 h0 W (of_laid7 hL)).mono fun e W' ⟨he, hg⟩ => ?_
  subst he
  exact ⟨_, rfl, post_plain hW' (fun _ _ _ => trodAll_mk1 (shut_bool Tryd.underlying4 _)) (fun sp => (trodAll_cons_mk (shut_int Tryd.underlying22 h0) trodAll_mk0)) (fun _ => rfl) hg (ok_one (by kernel_rfl) rfl (okWide_bool_mk Tryd.underlying4 _))⟩

theorem over : Rows.ShapeSignsSaid :=
  OpenClaim.holds_of_wide 6 Tryd.f6 rfl rfl rfl rfl rfl rfl rfl ⟨rfl, rfl, rfl, rfl, rfl⟩ rfl rfl rfl rfl rfl (by kernel_rfl) Tryd.func6 (by kernel_rfl)
    (of_decide_eq_true (by kernel_rfl)) (by unfold Func.isWrapper; first | (rw [if_pos (by decide +kernel)]; kernel_rfl) | (rw [if_neg (by decide +kernel)]; exact ⟨rfl, rfl⟩))
    (fun os started H enc _ => lifted os started H enc)

theorem proved : Rows.ShapeSignsCardSaid :=
  Claim7.holds_tied_plain_at .later [] [.data] true (true, "c37990678c10b719edc1d93dd120d60deda3d1b1059eb7dbc9831a082f9c81fc") false
    over (fun _ h => by cases h) (by kernel_rfl) (fun _ h => by cases h) shapeSigns_row_tie rfl ⟨rfl, rfl⟩ (by kernel_rfl) rfl
    (fun f fn hf hfn => by
      obtain rfl : f = 6 := Option.some.inj ((show Tryd.prog.funcNamed "abacus/abacuslaw07.ShapeSigns" = some 6 by kernel_rfl).symm.trans hf) |>.symm
      obtain rfl : fn = Tryd.f6 := (Option.some.inj (Tryd.func6.symm.trans hfn)).symm
      exact ⟨by kernel_rfl, fun j t ht => by
        rw [Tryd.params6] at ht
        have h3 : t = 22 := by
          rcases j with _ | j
          · exact (by simpa using ht.symm)
          · simp at ht
        rcases h3 with rfl
        · exact (show Tryd.prog.wantsStandIn 22 = false by kernel_rfl)⟩)
    (by kernel_rfl)
#print axioms proved
end Go.Proofs.YtjbefkceieklmaaDoor.shapeSigns
