/-
  What the functions that the statement reaches return: part 9 (GJ, GK, SL).
-/
import Derived.Test.YtaengojkjfgppaaDoorRows
import Derived.OpenShut
import Derived.LaidMore
import Derived.Lib.LaidTab
import Derived.Stop.Joined
import Derived.Test.YtaengojkjfgppaaDoorSi08
namespace Go.Proofs.YtaengojkjfgppaaDoor
set_option maxRecDepth 100000
set_option maxHeartbeats 40000000
set_option maxRecDepth 100000
open Go.RowKit WMath
set_option linter.unusedSimpArgs false
set_option linter.unusedVariables false
theorem kS_Copy (f : Int) (h0 : 0 ≤ f) (x1 y1 a x2 y2 b : Nat) (hx1 : x1 < 18446744073709551616) (hy1 : y1 < 18446744073709551616) (ha : y1 + 18446744073709551616 * x1 = a) (hx2 : x2 < 18446744073709551616) (hy2 : y2 < 18446744073709551616) (hb : y2 + 18446744073709551616 * x2 = b) (oa : okB f a = true) (ob : okB f b = true) (u v : Nat) (hu : bv7 (wiB f a (kN f b)) = (u, v)) (w : World) (hT : FAt w) : Calls Tryd.prog 6 #[.int .u8 f, .agg #[.int .u64 (x1 : Nat), .int .u64 (y1 : Nat)], .agg #[.int .u64 (x2 : Nat), .int .u64 (y2 : Nat)]] w fun r w' => r = .returned (.tuple #[.agg #[.int .u64 (u : Nat), .int .u64 (v : Nat)], .int .i64 0]) ∧ Below w.heap.size w w' := by
  have hf := (okB_yes h0 oa).1
  have f4 := is4_ok hf
  have F1 := box (fun w => sk_fits f x1 y1 a true f4.1 f4.2.1 hx1 hy1 ha oa w)
  have F2 := box (fun w => sk_fits f x2 y2 b true f4.1 f4.2.1 hx2 hy2 hb ob w)
  have S1 : ∀ o, kN f a = o → Box (∀ w, FAt w → Calls Tryd.prog 41 #[.int .u8 f, .agg #[.int .u64 (x1 : Nat), .int .u64 (y1 : Nat)]] w fun r w' => r = .returned (.bool o) ∧ Below w.heap.size w w') := fun o h => box (fun w hT => kSign_yes f hf x1 y1 a o hx1 hy1 ha oa h w hT)
  have S2 : ∀ o, kN f b = o → Box (∀ w, FAt w → Calls Tryd.prog 41 #[.int .u8 f, .agg #[.int .u64 (x2 : Nat), .int .u64 (y2 : Nat)]] w fun r w' => r = .returned (.bool o) ∧ Below w.heap.size w w') := fun o h => box (fun w hT => kSign_yes f hf x2 y2 b o hx2 hy2 hb ob h w hT)
  have L : ∀ u v, bv7 (sgB f a true) = (u, v) → Box (∀ w, FAt w → Calls Tryd.prog 19 #[.int .u8 f, .agg #[.int .u64 (x1 : Nat), .int .u64 (y1 : Nat)]] w fun r w' => r = .returned (.agg #[.int .u64 (u : Nat), .int .u64 (v : Nat)]) ∧ Below w.heap.size w w') := fun u v h => box (fun w hT => kFlip_yes f hf x1 y1 a u v hx1 hy1 ha oa h w hT)
  have T : ∀ p q o, (q) = o → Box (∀ w, Calls Tryd.prog 21 #[.bool p, .bool q] w fun r w' => r = .returned (.bool o) ∧ Below w.heap.size w w') := fun p q o h => box (fun w => pg_Copy1 p q o h w)
  have e : bv7 a = (x1, y1) := by
    unfold bv7
    rw [show a / 18446744073709551616 = x1 by omega, show a % 18446744073709551616 = y1 by omega]
  refine pg_Copy f x1 y1 x2 y2 u v 0 w (box (fun w hT => ?_)) hT
  unfold wiB at hu
  cases p : kN f a <;> cases q : kN f b <;> (try rw [p] at hu) <;> (try rw [q] at hu)
  · have hu : bv7 a = (u, v) := hu
    rw [e] at hu
    cases hu
    exact pg_Copy_st_f f x1 y1 x2 y2 0 0 false w F1 F2 (S1 false p) (S2 false q) (T false false false rfl) hT
  · exact pg_Copy_sw_ft f x1 y1 x2 y2 u v true w F1 F2 (S1 false p) (S2 true q) (T false true true rfl) (L u v hu) hT
  · exact pg_Copy_sw_tf f x1 y1 x2 y2 u v false w F1 F2 (S1 true p) (S2 false q) (T true false false rfl) (L u v hu) hT
  · have hu : bv7 a = (u, v) := hu
    rw [e] at hu
    cases hu
    exact pg_Copy_st_t f x1 y1 x2 y2 0 0 true w F1 F2 (S1 true p) (S2 true q) (T true true true rfl) hT
theorem kS_Copy_no (f : Int) (h0 : 0 ≤ f) (h1 : f ≤ 255) (x1 y1 a x2 y2 b : Nat) (hx1 : x1 < 18446744073709551616) (hy1 : y1 < 18446744073709551616) (ha : y1 + 18446744073709551616 * x1 = a) (hx2 : x2 < 18446744073709551616) (hy2 : y2 < 18446744073709551616) (hb : y2 + 18446744073709551616 * x2 = b) (no : ¬ (okB f a = true ∧ okB f b = true)) (w : World) (hT : FAt w) : Calls Tryd.prog 6 #[.int .u8 f, .agg #[.int .u64 (x1 : Nat), .int .u64 (y1 : Nat)], .agg #[.int .u64 (x2 : Nat), .int .u64 (y2 : Nat)]] w fun r w' => r = .returned (.tuple #[.agg #[.int .u64 ((0 : Nat) : Int), .int .u64 ((0 : Nat) : Int)], .int .i64 2]) ∧ Below w.heap.size w w' := by
  refine pg_Copy f x1 y1 x2 y2 0 0 2 w (box (fun w hT => ?_)) hT
  cases oa : okB f a
  · exact pg_Copy_n1 f x1 y1 x2 y2 0 0 false w (box (fun w hT => sk_fits f x1 y1 a false h0 h1 hx1 hy1 ha oa w hT)) hT
  · have ob : okB f b = false := by
      cases ob : okB f b
      · rfl
      · exact absurd ⟨oa, ob⟩ no
    exact pg_Copy_n2 f x1 y1 x2 y2 0 0 false w (box (fun w hT => sk_fits f x1 y1 a true h0 h1 hx1 hy1 ha oa w hT)) (box (fun w hT => sk_fits f x2 y2 b false h0 h1 hx2 hy2 hb ob w hT)) hT
theorem kS_Not (f : Int) (h0 : 0 ≤ f) (x1 y1 a x2 y2 b : Nat) (hx1 : x1 < 18446744073709551616) (hy1 : y1 < 18446744073709551616) (ha : y1 + 18446744073709551616 * x1 = a) (hx2 : x2 < 18446744073709551616) (hy2 : y2 < 18446744073709551616) (hb : y2 + 18446744073709551616 * x2 = b) (oa : okB f a = true) (ob : okB f b = true) (u v : Nat) (hu : bv7 (wiB f a (!kN f b)) = (u, v)) (w : World) (hT : FAt w) : Calls Tryd.prog 7 #[.int .u8 f, .agg #[.int .u64 (x1 : Nat), .int .u64 (y1 : Nat)], .agg #[.int .u64 (x2 : Nat), .int .u64 (y2 : Nat)]] w fun r w' => r = .returned (.tuple #[.agg #[.int .u64 (u : Nat), .int .u64 (v : Nat)], .int .i64 0]) ∧ Below w.heap.size w w' := by
  have hf := (okB_yes h0 oa).1
  have f4 := is4_ok hf
  have F1 := box (fun w => sk_fits f x1 y1 a true f4.1 f4.2.1 hx1 hy1 ha oa w)
  have F2 := box (fun w => sk_fits f x2 y2 b true f4.1 f4.2.1 hx2 hy2 hb ob w)
  have S1 : ∀ o, kN f a = o → Box (∀ w, FAt w → Calls Tryd.prog 41 #[.int .u8 f, .agg #[.int .u64 (x1 : Nat), .int .u64 (y1 : Nat)]] w fun r w' => r = .returned (.bool o) ∧ Below w.heap.size w w') := fun o h => box (fun w hT => kSign_yes f hf x1 y1 a o hx1 hy1 ha oa h w hT)
  have S2 : ∀ o, kN f b = o → Box (∀ w, FAt w → Calls Tryd.prog 41 #[.int .u8 f, .agg #[.int .u64 (x2 : Nat), .int .u64 (y2 : Nat)]] w fun r w' => r = .returned (.bool o) ∧ Below w.heap.size w w') := fun o h => box (fun w hT => kSign_yes f hf x2 y2 b o hx2 hy2 hb ob h w hT)
  have L : ∀ u v, bv7 (sgB f a true) = (u, v) → Box (∀ w, FAt w → Calls Tryd.prog 19 #[.int .u8 f, .agg #[.int .u64 (x1 : Nat), .int .u64 (y1 : Nat)]] w fun r w' => r = .returned (.agg #[.int .u64 (u : Nat), .int .u64 (v : Nat)]) ∧ Below w.heap.size w w') := fun u v h => box (fun w hT => kFlip_yes f hf x1 y1 a u v hx1 hy1 ha oa h w hT)
  have T : ∀ p q o, (!q) = o → Box (∀ w, Calls Tryd.prog 22 #[.bool p, .bool q] w fun r w' => r = .returned (.bool o) ∧ Below w.heap.size w w') := fun p q o h => box (fun w => pg_Not1 p q o h w)
  have e : bv7 a = (x1, y1) := by
    unfold bv7
    rw [show a / 18446744073709551616 = x1 by omega, show a % 18446744073709551616 = y1 by omega]
  refine pg_Not f x1 y1 x2 y2 u v 0 w (box (fun w hT => ?_)) hT
  unfold wiB at hu
  cases p : kN f a <;> cases q : kN f b <;> (try rw [p] at hu) <;> (try rw [q] at hu)
  · exact pg_Not_sw_ft f x1 y1 x2 y2 u v false w F1 F2 (S1 false p) (S2 false q) (T false false true rfl) (L u v hu) hT
  · have hu : bv7 a = (u, v) := hu
    rw [e] at hu
    cases hu
    exact pg_Not_st_f f x1 y1 x2 y2 0 0 true w F1 F2 (S1 false p) (S2 true q) (T false true false rfl) hT
  · have hu : bv7 a = (u, v) := hu
    rw [e] at hu
    cases hu
    exact pg_Not_st_t f x1 y1 x2 y2 0 0 false w F1 F2 (S1 true p) (S2 false q) (T true false true rfl) hT
  · exact pg_Not_sw_tf f x1 y1 x2 y2 u v true w F1 F2 (S1 true p) (S2 true q) (T true true false rfl) (L u v hu) hT
theorem kS_Not_no (f : Int) (h0 : 0 ≤ f) (h1 : f ≤ 255) (x1 y1 a x2 y2 b : Nat) (hx1 : x1 < 18446744073709551616) (hy1 : y1 < 18446744073709551616) (ha : y1 + 18446744073709551616 * x1 = a) (hx2 : x2 < 18446744073709551616) (hy2 : y2 < 18446744073709551616) (hb : y2 + 18446744073709551616 * x2 = b) (no : ¬ (okB f a = true ∧ okB f b = true)) (w : World) (hT : FAt w) : Calls Tryd.prog 7 #[.int .u8 f, .agg #[.int .u64 (x1 : Nat), .int .u64 (y1 : Nat)], .agg #[.int .u64 (x2 : Nat), .int .u64 (y2 : Nat)]] w fun r w' => r = .returned (.tuple #[.agg #[.int .u64 ((0 : Nat) : Int), .int .u64 ((0 : Nat) : Int)], .int .i64 2]) ∧ Below w.heap.size w w' := by
  refine pg_Not f x1 y1 x2 y2 0 0 2 w (box (fun w hT => ?_)) hT
  cases oa : okB f a
  · exact pg_Not_n1 f x1 y1 x2 y2 0 0 false w (box (fun w hT => sk_fits f x1 y1 a false h0 h1 hx1 hy1 ha oa w hT)) hT
  · have ob : okB f b = false := by
      cases ob : okB f b
      · rfl
      · exact absurd ⟨oa, ob⟩ no
    exact pg_Not_n2 f x1 y1 x2 y2 0 0 false w (box (fun w hT => sk_fits f x1 y1 a true h0 h1 hx1 hy1 ha oa w hT)) (box (fun w hT => sk_fits f x2 y2 b false h0 h1 hx2 hy2 hb ob w hT)) hT
theorem kS_Xor (f : Int) (h0 : 0 ≤ f) (x1 y1 a x2 y2 b : Nat) (hx1 : x1 < 18446744073709551616) (hy1 : y1 < 18446744073709551616) (ha : y1 + 18446744073709551616 * x1 = a) (hx2 : x2 < 18446744073709551616) (hy2 : y2 < 18446744073709551616) (hb : y2 + 18446744073709551616 * x2 = b) (oa : okB f a = true) (ob : okB f b = true) (u v : Nat) (hu : bv7 (wiB f a (kN f a != kN f b)) = (u, v)) (w : World) (hT : FAt w) : Calls Tryd.prog 8 #[.int .u8 f, .agg #[.int .u64 (x1 : Nat), .int .u64 (y1 : Nat)], .agg #[.int .u64 (x2 : Nat), .int .u64 (y2 : Nat)]] w fun r w' => r = .returned (.tuple #[.agg #[.int .u64 (u : Nat), .int .u64 (v : Nat)], .int .i64 0]) ∧ Below w.heap.size w w' := by
  have hf := (okB_yes h0 oa).1
  have f4 := is4_ok hf
  have F1 := box (fun w => sk_fits f x1 y1 a true f4.1 f4.2.1 hx1 hy1 ha oa w)
  have F2 := box (fun w => sk_fits f x2 y2 b true f4.1 f4.2.1 hx2 hy2 hb ob w)
  have S1 : ∀ o, kN f a = o → Box (∀ w, FAt w → Calls Tryd.prog 41 #[.int .u8 f, .agg #[.int .u64 (x1 : Nat), .int .u64 (y1 : Nat)]] w fun r w' => r = .returned (.bool o) ∧ Below w.heap.size w w') := fun o h => box (fun w hT => kSign_yes f hf x1 y1 a o hx1 hy1 ha oa h w hT)
  have S2 : ∀ o, kN f b = o → Box (∀ w, FAt w → Calls Tryd.prog 41 #[.int .u8 f, .agg #[.int .u64 (x2 : Nat), .int .u64 (y2 : Nat)]] w fun r w' => r = .returned (.bool o) ∧ Below w.heap.size w w') := fun o h => box (fun w hT => kSign_yes f hf x2 y2 b o hx2 hy2 hb ob h w hT)
  have L : ∀ u v, bv7 (sgB f a true) = (u, v) → Box (∀ w, FAt w → Calls Tryd.prog 19 #[.int .u8 f, .agg #[.int .u64 (x1 : Nat), .int .u64 (y1 : Nat)]] w fun r w' => r = .returned (.agg #[.int .u64 (u : Nat), .int .u64 (v : Nat)]) ∧ Below w.heap.size w w') := fun u v h => box (fun w hT => kFlip_yes f hf x1 y1 a u v hx1 hy1 ha oa h w hT)
  have T : ∀ p q o, (p != q) = o → Box (∀ w, Calls Tryd.prog 23 #[.bool p, .bool q] w fun r w' => r = .returned (.bool o) ∧ Below w.heap.size w w') := fun p q o h => box (fun w => pg_Xor1 p q o h w)
  have e : bv7 a = (x1, y1) := by
    unfold bv7
    rw [show a / 18446744073709551616 = x1 by omega, show a % 18446744073709551616 = y1 by omega]
  refine pg_Xor f x1 y1 x2 y2 u v 0 w (box (fun w hT => ?_)) hT
  unfold wiB at hu
  cases p : kN f a <;> cases q : kN f b <;> (try rw [p] at hu) <;> (try rw [q] at hu)
  · have hu : bv7 a = (u, v) := hu
    rw [e] at hu
    cases hu
    exact pg_Xor_st_f f x1 y1 x2 y2 0 0 false w F1 F2 (S1 false p) (S2 false q) (T false false false rfl) hT
  · exact pg_Xor_sw_ft f x1 y1 x2 y2 u v true w F1 F2 (S1 false p) (S2 true q) (T false true true rfl) (L u v hu) hT
  · have hu : bv7 a = (u, v) := hu
    rw [e] at hu
    cases hu
    exact pg_Xor_st_t f x1 y1 x2 y2 0 0 false w F1 F2 (S1 true p) (S2 false q) (T true false true rfl) hT
  · exact pg_Xor_sw_tf f x1 y1 x2 y2 u v true w F1 F2 (S1 true p) (S2 true q) (T true true false rfl) (L u v hu) hT
theorem kS_Xor_no (f : Int) (h0 : 0 ≤ f) (h1 : f ≤ 255) (x1 y1 a x2 y2 b : Nat) (hx1 : x1 < 18446744073709551616) (hy1 : y1 < 18446744073709551616) (ha : y1 + 18446744073709551616 * x1 = a) (hx2 : x2 < 18446744073709551616) (hy2 : y2 < 18446744073709551616) (hb : y2 + 18446744073709551616 * x2 = b) (no : ¬ (okB f a = true ∧ okB f b = true)) (w : World) (hT : FAt w) : Calls Tryd.prog 8 #[.int .u8 f, .agg #[.int .u64 (x1 : Nat), .int .u64 (y1 : Nat)], .agg #[.int .u64 (x2 : Nat), .int .u64 (y2 : Nat)]] w fun r w' => r = .returned (.tuple #[.agg #[.int .u64 ((0 : Nat) : Int), .int .u64 ((0 : Nat) : Int)], .int .i64 2]) ∧ Below w.heap.size w w' := by
  refine pg_Xor f x1 y1 x2 y2 0 0 2 w (box (fun w hT => ?_)) hT
  cases oa : okB f a
  · exact pg_Xor_n1 f x1 y1 x2 y2 0 0 false w (box (fun w hT => sk_fits f x1 y1 a false h0 h1 hx1 hy1 ha oa w hT)) hT
  · have ob : okB f b = false := by
      cases ob : okB f b
      · rfl
      · exact absurd ⟨oa, ob⟩ no
    exact pg_Xor_n2 f x1 y1 x2 y2 0 0 false w (box (fun w hT => sk_fits f x1 y1 a true h0 h1 hx1 hy1 ha oa w hT)) (box (fun w hT => sk_fits f x2 y2 b false h0 h1 hx2 hy2 hb ob w hT)) hT
theorem kS_cl (f : Int) (h0 : 0 ≤ f) (h1 : f ≤ 255) (x1 y1 a : Nat) (hx1 : x1 < 18446744073709551616) (hy1 : y1 < 18446744073709551616) (ha : y1 + 18446744073709551616 * x1 = a) (oa : okB f a = true) (w : World) (hT : FAt w) : Calls Tryd.prog 13 #[.int .u8 f, .agg #[.int .u64 (x1 : Nat), .int .u64 (y1 : Nat)]] w fun r w' => r = .returned (.tuple #[.int .u64 ((2 ^ kC f a : Nat) : Int), .int .i64 0]) ∧ Below w.heap.size w w' := by
  have K : ∀ c : Nat, kC f a = c → Box (∀ w, FAt w → Calls Tryd.prog 30 #[.int .u8 f, .agg #[.int .u64 (x1 : Nat), .int .u64 (y1 : Nat)]] w fun r w' => r = .returned (.tuple #[.int .u8 (c : Nat), .int .i64 0]) ∧ Below w.heap.size w w') := fun c h => box (fun w hT => kClass_yes f (okB_yes h0 oa).1 x1 y1 a c hx1 hy1 ha oa h w hT)
  have l := kC_lt f a
  rcases (by omega : kC f a = 0 ∨ kC f a = 1 ∨ kC f a = 2 ∨ kC f a = 3 ∨ kC f a = 4 ∨ kC f a = 5 ∨ kC f a = 6 ∨ kC f a = 7 ∨ kC f a = 8 ∨ kC f a = 9) with h | h | h | h | h | h | h | h | h | h
  · rw [h]; exact pg_cl_0 f x1 y1 w (K 0 h) hT
  · rw [h]; exact pg_cl_1 f x1 y1 w (K 1 h) hT
  · rw [h]; exact pg_cl_2 f x1 y1 w (K 2 h) hT
  · rw [h]; exact pg_cl_3 f x1 y1 w (K 3 h) hT
  · rw [h]; exact pg_cl_4 f x1 y1 w (K 4 h) hT
  · rw [h]; exact pg_cl_5 f x1 y1 w (K 5 h) hT
  · rw [h]; exact pg_cl_6 f x1 y1 w (K 6 h) hT
  · rw [h]; exact pg_cl_7 f x1 y1 w (K 7 h) hT
  · rw [h]; exact pg_cl_8 f x1 y1 w (K 8 h) hT
  · rw [h]; exact pg_cl_9 f x1 y1 w (K 9 h) hT
theorem r17alive (w : World) (hT : FAt w) : Calls Tryd.prog 10 #[] w fun r w' => r = .returned (.bool true) ∧ Below w.heap.size w w' := by
  obtain ⟨e1, e2, o1, o2, o3⟩ := al17
  have K := fun w => kS_cl 2 (by decide) (by decide) 0 32256 32256 (by decide) (by decide) (by decide) o3 w
  rw [e2] at K
  exact r17alive0 (box (fun w hT => kS_Copy 2 (by decide) 0 15360 15360 0 32768 32768 (by decide) (by decide) (by decide) (by decide) (by decide) (by decide) o1 o2 0 48128 (by rw [e1]; decide) w hT)) (box K) w hT
theorem injects_fin (f : Int) (h0 : 0 ≤ f) (h1 : f ≤ 255) (x1 y1 a x2 y2 b : Nat) (hx1 : x1 < 18446744073709551616) (hy1 : y1 < 18446744073709551616) (ha : y1 + 18446744073709551616 * x1 = a) (hx2 : x2 < 18446744073709551616) (hy2 : y2 < 18446744073709551616) (hb : y2 + 18446744073709551616 * x2 = b) (w : World) (hT : FAt w) : Calls Tryd.prog 3 #[.int .u8 f, .agg #[.int .u64 (x1 : Nat), .int .u64 (y1 : Nat)], .agg #[.int .u64 (x2 : Nat), .int .u64 (y2 : Nat)]] w fun r w' => r = .returned (.bool true) ∧ Below w.heap.size w w' :=
  injects_all f h0 x1 y1 a x2 y2 b hx1 hy1 ha hx2 hy2 hb
    (fun oa ob u v h => box (fun w hT => kS_Copy f h0 x1 y1 a x2 y2 b hx1 hy1 ha hx2 hy2 hb oa ob u v h w hT))
    (fun oa ob u v h => box (fun w hT => kS_Not f h0 x1 y1 a x2 y2 b hx1 hy1 ha hx2 hy2 hb oa ob u v h w hT))
    (fun oa ob u v h => box (fun w hT => kS_Xor f h0 x1 y1 a x2 y2 b hx1 hy1 ha hx2 hy2 hb oa ob u v h w hT))
    (fun no => ⟨box (fun w hT => kS_Copy_no f h0 h1 x1 y1 a x2 y2 b hx1 hy1 ha hx2 hy2 hb no w hT), box (fun w hT => kS_Not_no f h0 h1 x1 y1 a x2 y2 b hx1 hy1 ha hx2 hy2 hb no w hT), box (fun w hT => kS_Xor_no f h0 h1 x1 y1 a x2 y2 b hx1 hy1 ha hx2 hy2 hb no w hT)⟩)
    (box (fun w hT => r17alive w hT)) w hT
end Go.Proofs.YtaengojkjfgppaaDoor
namespace Go.Proofs.YtaengojkjfgppaaDoor
set_option maxRecDepth 100000
set_option maxHeartbeats 40000000
set_option maxRecDepth 100000
open WMath
open Go.ChangeShapes Go.WideShapes Go.ChangeAt Go.RowKit
theorem trod_row4 {H : Type} {enc : TypeId × Value → H} {P : Program} {w : World} {base : Nat} {spare : Nat → Bool} {held : Bool} {t : TypeId} {f0 f1 f2 f3 : Field} {fuel : Nat} {cs : List Value} {x : DataW H × List MemPlace} (ht : P.underlying t = some (.struct #[f0, f1, f2, f3])) (h : DataW.trod enc P w base spare held fuel t cs = some x) :
    ∃ y0 y1 y2 y3 n, x = (.agg [y0.1, y1.1, y2.1, y3.1], y0.2 ++ (y1.2 ++ (y2.2 ++ y3.2))) ∧ DataW.trod enc P w base spare held n f0.type ((cs.drop f0.offset).take (P.cellsOf f0.type)) = some y0 ∧
      DataW.trod enc P w base spare held n f1.type ((cs.drop f1.offset).take (P.cellsOf f1.type)) = some y1 ∧ DataW.trod enc P w base spare held n f2.type ((cs.drop f2.offset).take (P.cellsOf f2.type)) = some y2 ∧
      DataW.trod enc P w base spare held n f3.type ((cs.drop f3.offset).take (P.cellsOf f3.type)) = some y3 := by
  obtain ⟨xs, n, _, rfl, hl, hlen, hf⟩ := DataW.trod_struct ht h
  match xs, hlen with
  | [y0, y1, y2, y3], _ => exact ⟨y0, y1, y2, y3, n, by simp, by simpa using hf 0 f0 rfl, by simpa using hf 1 f1 rfl, by simpa using hf 2 f2 rfl, by simpa using hf 3 f3 rfl⟩


theorem list4' {α : Type} (l : List α) (h : l.length = 4) : ∃ a b c d, l = [a, b, c, d] := by
  match l, h with
  | [a, b, c, d], _ => exact ⟨a, b, c, d, rfl⟩

theorem row_read {w : World} {fuel : Nat} {enc : TypeId × Value → Unit} {base : Nat} {spare : Nat → Bool} {held : Bool} {l : List Value} {a b c : Int} {s : List UInt8} {p : List MemPlace}
    (h : DataW.trod enc Tryd.prog w base spare held fuel 79 l = some (.agg [.lit (.int .i64 a), .lit (.int .i64 b), .lit (.int .i64 c), .lit (.string s)], p)) (hl : l.length = 4) :
    l = [.int .i64 a, .int .i64 b, .int .i64 c, .string ⟨⟨s⟩⟩] := by
  have h3 : Tryd.prog.cellsOf 3 = 1 := by kernel_rfl
  have h9 : Tryd.prog.cellsOf 9 = 1 := by kernel_rfl
  obtain ⟨c0, c1, c2, c3, rfl⟩ := list4' l hl
  obtain ⟨y0, y1, y2, y3, n, hx, g0, g1, g2, g3⟩ := trod_row4 Tryd.underlying79 h
  simp only [h3, h9] at g0 g1 g2 g3
  obtain ⟨x0, e0, k0, w0⟩ := DataW.trod_int Tryd.underlying3 g0
  obtain ⟨x1, e1, k1, w1⟩ := DataW.trod_int Tryd.underlying3 g1
  obtain ⟨x2, e2, k2, w2⟩ := DataW.trod_int Tryd.underlying3 g2
  obtain ⟨x3, e3, k3, w3⟩ := DataW.trod_string Tryd.underlying9 g3
  simp at e0 e1 e2 e3
  subst e0 e1 e2 e3
  rw [k0, k1, k2, k3] at hx
  simp at hx
  obtain ⟨⟨rfl, rfl, rfl, rfl⟩, _⟩ := hx
  rfl

def laid7 : List (String × DataW Unit) := [("abacus/shape.formats", Rows.laid_abacus_shape_formats)]
theorem gTab7 : Tryd.prog.globalNamed "abacus/shape.formats" = some 0 := by kernel_rfl
theorem gType7 : (Tryd.prog.globals[0]?).map (·.type) = some 87 := by kernel_rfl

theorem of_laid7 {W : World} (h : laidMetH Tryd.prog laid7 W) : FAt W := by
  have hce : Tryd.prog.cellsOf 79 = 4 := by kernel_rfl
  have hct : Tryd.prog.cellsOf 87 = 16 := by kernel_rfl
  rw [MakeChecks.laidMetH_plain _ _ _ (by kernel_rfl)] at h
  obtain ⟨ps, ⟨g', t', cs, fuel, p, q, hg', ht', hvar, hd, _, _⟩, _⟩ := h
  obtain rfl := Option.some.inj (gTab7.symm.trans hg')
  obtain rfl := Option.some.inj (gType7.symm.trans ht')
  obtain ⟨xs, m, rfl, hx, hl, hxl, hel⟩ := DataW.trod_array Tryd.underlying87 hd
  rw [hce] at hel
  rw [hct] at hl
  have hl2 : cs.size = 16 := by simpa using hl
  match xs, hxl with
  | [y0, y1, y2, y3], _ =>
    have hx1 := congrArg Prod.fst hx
    simp [Rows.laid_abacus_shape_formats] at hx1
    obtain ⟨h0, h1, h2, h3⟩ := hx1
    have q0 := hel 0 (by decide)
    have q1 := hel 1 (by decide)
    have q2 := hel 2 (by decide)
    have q3 := hel 3 (by decide)
    simp only [List.getElem?_cons_zero, List.getElem?_cons_succ] at q0 q1 q2 q3
    have z0 := row_read (p := y0.2) (by rw [q0, h0]) (by simp; omega)
    have z1 := row_read (p := y1.2) (by rw [q1, h1]) (by simp; omega)
    have z2 := row_read (p := y2.2) (by rw [q2, h2]) (by simp; omega)
    have z3 := row_read (p := y3.2) (by rw [q3, h3]) (by simp; omega)
    have hcs : ∀ i, i < 16 → cs.toList[i]? = fcells[i]? := by
      intro i hi
      have e0 : cs.toList[i]? = (cs.toList.drop (i / 4 * 4))[i % 4]? := by rw [List.getElem?_drop]; congr 1; omega
      have e1 : (cs.toList.drop (i / 4 * 4))[i % 4]? = ((cs.toList.drop (i / 4 * 4)).take 4)[i % 4]? := by rw [List.getElem?_take, if_pos (by omega)]
      rw [e0, e1]
      have : i / 4 = 0 ∨ i / 4 = 1 ∨ i / 4 = 2 ∨ i / 4 = 3 := by omega
      have hj : i % 4 = 0 ∨ i % 4 = 1 ∨ i % 4 = 2 ∨ i % 4 = 3 := by omega
      have hi2 : i = i / 4 * 4 + i % 4 := by omega
      rcases this with e | e | e | e <;> rw [e] at hi2 ⊢ <;> rcases hj with k | k | k | k <;> rw [k] at hi2 ⊢ <;> subst hi2 <;> first | (rw [z0]; rfl) | (rw [z1]; rfl) | (rw [z2]; rfl) | (rw [z3]; rfl)
    intro i hi
    rw [World.var?_cell gTab7 hvar i, ← hcs i hi]
    simp

theorem door_met7 (os : Os) (args : Array Value) : laidMetH Tryd.prog laid7 ((World.doorLaid Tryd.prog 400 os).forCall (fun _ _ => 0) ⟨#[], args, []⟩).memory :=
  laidMetH_of_parts3 (fuel := 8) (laidMet_of_run' 8 (by kernel_rfl) (by kernel_rfl)) (by kernel_rfl) (by kernel_rfl)
end Go.Proofs.YtaengojkjfgppaaDoor
