/-
  WideRing returns true for every three numbers of 384 bits: the laws of a ring modulo 2 to the power 384.
-/
import Derived.Test.YtfofonnoheijjabRows
import Derived.WalkKit
import Derived.ProofKit
import Derived.OpenShut
import Derived.Test.YtfofonnoheijjabFrame6
import Derived.Test.YtfofonnoheijjabWide8
namespace Go.Proofs.Ytfofonnoheijjab.wideRing
open WMath
open Go.ChangeShapes Go.WideShapes Go.ChangeAt Go.RowKit
set_option linter.unusedVariables false

theorem own : ownKnob Try.prog.godebug = none := by kernel_rfl

theorem Box.eq {a b : Nat} (h : Box (a = b)) : a = b := h.out
set_option maxRecDepth 100000 in
set_option maxHeartbeats 4000000 in
theorem walk (a0 : Nat) (a1 : Nat) (a2 : Nat) (h0 : a0 < Q) (h1 : a1 < Q) (h2 : a2 < Q) (w : World) :
    Calls Try.prog 3 #[.agg (cw 6 a0), .agg (cw 6 a1), .agg (cw 6 a2)] w fun e w' => e = .returned (.bool true) ∧ Below w.heap.size w w' := by
  obtain ⟨s1, e1⟩ : ∃ x, (a0 + a1) % Q = x := ⟨_, rfl⟩
  obtain ⟨s2, e3⟩ : ∃ x, (s1 + a2) % Q = x := ⟨_, rfl⟩
  obtain ⟨s3, e4⟩ : ∃ x, (a1 + a2) % Q = x := ⟨_, rfl⟩
  obtain ⟨p, e6⟩ : ∃ x, a0 * s3 % Q = x := ⟨_, rfl⟩
  obtain ⟨q, e7⟩ : ∃ x, a0 * a1 % Q = x := ⟨_, rfl⟩
  obtain ⟨r, e8⟩ : ∃ x, a0 * a2 % Q = x := ⟨_, rfl⟩
  obtain ⟨t, e11⟩ : ∃ x, q * a2 % Q = x := ⟨_, rfl⟩
  obtain ⟨u, e12⟩ : ∃ x, a1 * a2 % Q = x := ⟨_, rfl⟩
  have E2 : Box ((a1 + a0) % Q = s1) := box (by rw [Nat.add_comm]; exact e1)
  have E5 : Box ((a0 + s3) % Q = s2) := box (by rw [← e3, ← e1, ← e4, Nat.add_mod_mod, Nat.mod_add_mod, Nat.add_assoc])
  have E9 : Box ((q + r) % Q = p) := box (by rw [← e6, ← e7, ← e8, ← e4, Nat.mod_add_mod, Nat.add_mod_mod, Nat.mul_mod_mod, Nat.mul_add])
  have E10 : Box (a1 * a0 % Q = q) := box (by rw [Nat.mul_comm]; exact e7)
  have E13 : Box (a0 * u % Q = t) := box (by rw [← e11, ← e12, ← e7, Nat.mul_mod_mod, Nat.mod_mul_mod, Nat.mul_assoc])
  have E14 : Box ((s1 + Q - a1) % Q = a0) := box (by
    rw [← e1]
    by_cases h : a0 + a1 < Q
    · rw [Nat.mod_eq_of_lt h, show a0 + a1 + Q - a1 = a0 + Q by omega, Nat.add_mod_right, Nat.mod_eq_of_lt h0]
    · have e : (a0 + a1) % Q = a0 + a1 - Q := by rw [Nat.mod_eq_sub_mod (by omega), Nat.mod_eq_of_lt (by omega)]
      rw [e, show a0 + a1 - Q + Q - a1 = a0 by omega, Nat.mod_eq_of_lt h0])
  have l1 : s1 < Q := by rw [← e1]; exact Nat.mod_lt _ Q_pos
  have l2 : s2 < Q := by rw [← e3]; exact Nat.mod_lt _ Q_pos
  have l3 : s3 < Q := by rw [← e4]; exact Nat.mod_lt _ Q_pos
  have l4 : p < Q := by rw [← e6]; exact Nat.mod_lt _ Q_pos
  have l5 : q < Q := by rw [← e7]; exact Nat.mod_lt _ Q_pos
  have l6 : r < Q := by rw [← e8]; exact Nat.mod_lt _ Q_pos
  have l7 : t < Q := by rw [← e11]; exact Nat.mod_lt _ Q_pos
  have l8 : u < Q := by rw [← e12]; exact Nat.mod_lt _ Q_pos
  have E1 := box e1
  have E3 := box e3
  have E4 := box e4
  have E6 := box e6
  have E7 := box e7
  have E8 := box e8
  have E11 := box e11
  have E12 := box e12
  clear e1 e3 e4 e6 e7 e8 e11 e12
  have heq := eq6
  have hg := eqg6
  go_enter Try.func3, Try.ntmps3
  have hat := cw_at 6
  have hz := cw6z
  have hf := cw6f
  have hs0 := st0
  have hcs : ∀ x, ((cw 6 x).size = 6) = True := fun x => eq_true (cw_size 6 x)
  go_wp2_with fail
  have R0_0 : (((w.alloc (Obj.cells (cw 6 a0) 24)).alloc (Obj.cells (cw 6 a1) 24)).alloc (Obj.cells (cw 6 a2) 24)).heap[w.heap.size]? = some (Obj.cells (cw 6 a0) 24) := by rw [heap_below _ _ _ (by simp only [size_al]; omega), heap_below _ _ _ (by simp only [size_al]; omega)]; have := heap_alloc_last w (Obj.cells (cw 6 a0) 24); simpa only [size_al] using this
  have R0_1 : (((w.alloc (Obj.cells (cw 6 a0) 24)).alloc (Obj.cells (cw 6 a1) 24)).alloc (Obj.cells (cw 6 a2) 24)).heap[w.heap.size + 1]? = some (Obj.cells (cw 6 a1) 24) := by rw [heap_below _ _ _ (by simp only [size_al]; omega)]; have := heap_alloc_last (w.alloc (Obj.cells (cw 6 a0) 24)) (Obj.cells (cw 6 a1) 24); simpa only [size_al] using this
  have R0_2 : (((w.alloc (Obj.cells (cw 6 a0) 24)).alloc (Obj.cells (cw 6 a1) 24)).alloc (Obj.cells (cw 6 a2) 24)).heap[w.heap.size + 1 + 1]? = some (Obj.cells (cw 6 a2) 24) := by have := heap_alloc_last ((w.alloc (Obj.cells (cw 6 a0) 24)).alloc (Obj.cells (cw 6 a1) 24)) (Obj.cells (cw 6 a2) 24); simpa only [size_al] using this
  have B0 : Below w.heap.size w (((w.alloc (Obj.cells (cw 6 a0) 24)).alloc (Obj.cells (cw 6 a1) 24)).alloc (Obj.cells (cw 6 a2) 24)) := ((((Below.refl _ _).alloc (Nat.le_refl _) _).alloc (by simp only [size_al]; omega) _).alloc (by simp only [size_al]; omega) _)
  refine (wadd_is a0 a1 s1 _ (by assumption) (by assumption) (E1.out) rfl _).mono ?_
  rintro e w1 ⟨rfl, hb1⟩
  have Q1_0 : w1.heap[w.heap.size]? = some (Obj.cells (cw 6 a0) 24) := heap_of hb1 _ _ _ R0_0
  have Q1_1 : w1.heap[w.heap.size + 1]? = some (Obj.cells (cw 6 a1) 24) := heap_of hb1 _ _ _ R0_1
  have Q1_2 : w1.heap[w.heap.size + 1 + 1]? = some (Obj.cells (cw 6 a2) 24) := heap_of hb1 _ _ _ R0_2
  have C1 : Below w.heap.size w w1 := B0.trans (hb1.mono B0.size)
  clear hb1 B0 R0_0 R0_1 R0_2
  have c1_0 := row_cell Q1_0
  have s1_0 : w.heap.size < w1.heap.size := (Array.getElem?_eq_some_iff.1 Q1_0).1
  have c1_1 := row_cell Q1_1
  have s1_1 : w.heap.size + 1 < w1.heap.size := (Array.getElem?_eq_some_iff.1 Q1_1).1
  have c1_2 := row_cell Q1_2
  have s1_2 : w.heap.size + 1 + 1 < w1.heap.size := (Array.getElem?_eq_some_iff.1 Q1_2).1
  go_wp2_with fail
  have R1_0 : (w1.alloc (Obj.cells (cw 6 s1) 24)).heap[w.heap.size]? = some (Obj.cells (cw 6 a0) 24) := by rw [heap_below _ _ _ s1_0]; exact Q1_0
  have R1_1 : (w1.alloc (Obj.cells (cw 6 s1) 24)).heap[w.heap.size + 1]? = some (Obj.cells (cw 6 a1) 24) := by rw [heap_below _ _ _ s1_1]; exact Q1_1
  have R1_2 : (w1.alloc (Obj.cells (cw 6 s1) 24)).heap[w.heap.size + 1 + 1]? = some (Obj.cells (cw 6 a2) 24) := by rw [heap_below _ _ _ s1_2]; exact Q1_2
  have R1_3 : (w1.alloc (Obj.cells (cw 6 s1) 24)).heap[w1.heap.size]? = some (Obj.cells (cw 6 s1) 24) := heap_alloc_last _ _
  have B1 : Below w.heap.size w (w1.alloc (Obj.cells (cw 6 s1) 24)) := C1.alloc C1.size _
  clear C1 Q1_0 Q1_1 Q1_2
  refine (wadd_is a1 a0 s1 _ (by assumption) (by assumption) (E2.out) rfl _).mono ?_
  rintro e w2 ⟨rfl, hb2⟩
  have Q2_0 : w2.heap[w.heap.size]? = some (Obj.cells (cw 6 a0) 24) := heap_of hb2 _ _ _ R1_0
  have Q2_1 : w2.heap[w.heap.size + 1]? = some (Obj.cells (cw 6 a1) 24) := heap_of hb2 _ _ _ R1_1
  have Q2_2 : w2.heap[w.heap.size + 1 + 1]? = some (Obj.cells (cw 6 a2) 24) := heap_of hb2 _ _ _ R1_2
  have Q2_3 : w2.heap[w1.heap.size]? = some (Obj.cells (cw 6 s1) 24) := heap_of hb2 _ _ _ R1_3
  have C2 : Below w.heap.size w w2 := B1.trans (hb2.mono B1.size)
  clear hb2 B1 R1_0 R1_1 R1_2 R1_3
  clear c1_0 s1_0 c1_1 s1_1 c1_2 s1_2
  have c2_0 := row_cell Q2_0
  have s2_0 : w.heap.size < w2.heap.size := (Array.getElem?_eq_some_iff.1 Q2_0).1
  have c2_1 := row_cell Q2_1
  have s2_1 : w.heap.size + 1 < w2.heap.size := (Array.getElem?_eq_some_iff.1 Q2_1).1
  have c2_2 := row_cell Q2_2
  have s2_2 : w.heap.size + 1 + 1 < w2.heap.size := (Array.getElem?_eq_some_iff.1 Q2_2).1
  have c2_3 := row_cell Q2_3
  have s2_3 : w1.heap.size < w2.heap.size := (Array.getElem?_eq_some_iff.1 Q2_3).1
  go_wp2_with fail
  have R2_0 : (w2.alloc (Obj.cells (cw 6 s1) 24)).heap[w.heap.size]? = some (Obj.cells (cw 6 a0) 24) := by rw [heap_below _ _ _ s2_0]; exact Q2_0
  have R2_1 : (w2.alloc (Obj.cells (cw 6 s1) 24)).heap[w.heap.size + 1]? = some (Obj.cells (cw 6 a1) 24) := by rw [heap_below _ _ _ s2_1]; exact Q2_1
  have R2_2 : (w2.alloc (Obj.cells (cw 6 s1) 24)).heap[w.heap.size + 1 + 1]? = some (Obj.cells (cw 6 a2) 24) := by rw [heap_below _ _ _ s2_2]; exact Q2_2
  have R2_3 : (w2.alloc (Obj.cells (cw 6 s1) 24)).heap[w1.heap.size]? = some (Obj.cells (cw 6 s1) 24) := by rw [heap_below _ _ _ s2_3]; exact Q2_3
  have R2_4 : (w2.alloc (Obj.cells (cw 6 s1) 24)).heap[w2.heap.size]? = some (Obj.cells (cw 6 s1) 24) := heap_alloc_last _ _
  have B2 : Below w.heap.size w (w2.alloc (Obj.cells (cw 6 s1) 24)) := C2.alloc C2.size _
  clear C2 Q2_0 Q2_1 Q2_2 Q2_3
  refine (wadd_is s1 a2 s2 _ (by assumption) (by assumption) (E3.out) rfl _).mono ?_
  rintro e w3 ⟨rfl, hb3⟩
  have Q3_0 : w3.heap[w.heap.size]? = some (Obj.cells (cw 6 a0) 24) := heap_of hb3 _ _ _ R2_0
  have Q3_1 : w3.heap[w.heap.size + 1]? = some (Obj.cells (cw 6 a1) 24) := heap_of hb3 _ _ _ R2_1
  have Q3_2 : w3.heap[w.heap.size + 1 + 1]? = some (Obj.cells (cw 6 a2) 24) := heap_of hb3 _ _ _ R2_2
  have Q3_3 : w3.heap[w1.heap.size]? = some (Obj.cells (cw 6 s1) 24) := heap_of hb3 _ _ _ R2_3
  have Q3_4 : w3.heap[w2.heap.size]? = some (Obj.cells (cw 6 s1) 24) := heap_of hb3 _ _ _ R2_4
  have C3 : Below w.heap.size w w3 := B2.trans (hb3.mono B2.size)
  clear hb3 B2 R2_0 R2_1 R2_2 R2_3 R2_4
  clear c2_0 s2_0 c2_1 s2_1 c2_2 s2_2 c2_3 s2_3
  have c3_0 := row_cell Q3_0
  have s3_0 : w.heap.size < w3.heap.size := (Array.getElem?_eq_some_iff.1 Q3_0).1
  have c3_1 := row_cell Q3_1
  have s3_1 : w.heap.size + 1 < w3.heap.size := (Array.getElem?_eq_some_iff.1 Q3_1).1
  have c3_2 := row_cell Q3_2
  have s3_2 : w.heap.size + 1 + 1 < w3.heap.size := (Array.getElem?_eq_some_iff.1 Q3_2).1
  have c3_3 := row_cell Q3_3
  have s3_3 : w1.heap.size < w3.heap.size := (Array.getElem?_eq_some_iff.1 Q3_3).1
  have c3_4 := row_cell Q3_4
  have s3_4 : w2.heap.size < w3.heap.size := (Array.getElem?_eq_some_iff.1 Q3_4).1
  go_wp2_with fail
  have R3_0 : (w3.alloc (Obj.cells (cw 6 s2) 24)).heap[w.heap.size]? = some (Obj.cells (cw 6 a0) 24) := by rw [heap_below _ _ _ s3_0]; exact Q3_0
  have R3_1 : (w3.alloc (Obj.cells (cw 6 s2) 24)).heap[w.heap.size + 1]? = some (Obj.cells (cw 6 a1) 24) := by rw [heap_below _ _ _ s3_1]; exact Q3_1
  have R3_2 : (w3.alloc (Obj.cells (cw 6 s2) 24)).heap[w.heap.size + 1 + 1]? = some (Obj.cells (cw 6 a2) 24) := by rw [heap_below _ _ _ s3_2]; exact Q3_2
  have R3_3 : (w3.alloc (Obj.cells (cw 6 s2) 24)).heap[w1.heap.size]? = some (Obj.cells (cw 6 s1) 24) := by rw [heap_below _ _ _ s3_3]; exact Q3_3
  have R3_4 : (w3.alloc (Obj.cells (cw 6 s2) 24)).heap[w2.heap.size]? = some (Obj.cells (cw 6 s1) 24) := by rw [heap_below _ _ _ s3_4]; exact Q3_4
  have R3_5 : (w3.alloc (Obj.cells (cw 6 s2) 24)).heap[w3.heap.size]? = some (Obj.cells (cw 6 s2) 24) := heap_alloc_last _ _
  have B3 : Below w.heap.size w (w3.alloc (Obj.cells (cw 6 s2) 24)) := C3.alloc C3.size _
  clear C3 Q3_0 Q3_1 Q3_2 Q3_3 Q3_4
  refine (wadd_is a1 a2 s3 _ (by assumption) (by assumption) (E4.out) rfl _).mono ?_
  rintro e w4 ⟨rfl, hb4⟩
  have Q4_0 : w4.heap[w.heap.size]? = some (Obj.cells (cw 6 a0) 24) := heap_of hb4 _ _ _ R3_0
  have Q4_1 : w4.heap[w.heap.size + 1]? = some (Obj.cells (cw 6 a1) 24) := heap_of hb4 _ _ _ R3_1
  have Q4_2 : w4.heap[w.heap.size + 1 + 1]? = some (Obj.cells (cw 6 a2) 24) := heap_of hb4 _ _ _ R3_2
  have Q4_3 : w4.heap[w1.heap.size]? = some (Obj.cells (cw 6 s1) 24) := heap_of hb4 _ _ _ R3_3
  have Q4_4 : w4.heap[w2.heap.size]? = some (Obj.cells (cw 6 s1) 24) := heap_of hb4 _ _ _ R3_4
  have Q4_5 : w4.heap[w3.heap.size]? = some (Obj.cells (cw 6 s2) 24) := heap_of hb4 _ _ _ R3_5
  have C4 : Below w.heap.size w w4 := B3.trans (hb4.mono B3.size)
  clear hb4 B3 R3_0 R3_1 R3_2 R3_3 R3_4 R3_5
  clear c3_0 s3_0 c3_1 s3_1 c3_2 s3_2 c3_3 s3_3 c3_4 s3_4
  have c4_0 := row_cell Q4_0
  have s4_0 : w.heap.size < w4.heap.size := (Array.getElem?_eq_some_iff.1 Q4_0).1
  have c4_1 := row_cell Q4_1
  have s4_1 : w.heap.size + 1 < w4.heap.size := (Array.getElem?_eq_some_iff.1 Q4_1).1
  have c4_2 := row_cell Q4_2
  have s4_2 : w.heap.size + 1 + 1 < w4.heap.size := (Array.getElem?_eq_some_iff.1 Q4_2).1
  have c4_3 := row_cell Q4_3
  have s4_3 : w1.heap.size < w4.heap.size := (Array.getElem?_eq_some_iff.1 Q4_3).1
  have c4_4 := row_cell Q4_4
  have s4_4 : w2.heap.size < w4.heap.size := (Array.getElem?_eq_some_iff.1 Q4_4).1
  have c4_5 := row_cell Q4_5
  have s4_5 : w3.heap.size < w4.heap.size := (Array.getElem?_eq_some_iff.1 Q4_5).1
  go_wp2_with fail
  have R4_0 : (w4.alloc (Obj.cells (cw 6 s3) 24)).heap[w.heap.size]? = some (Obj.cells (cw 6 a0) 24) := by rw [heap_below _ _ _ s4_0]; exact Q4_0
  have R4_1 : (w4.alloc (Obj.cells (cw 6 s3) 24)).heap[w.heap.size + 1]? = some (Obj.cells (cw 6 a1) 24) := by rw [heap_below _ _ _ s4_1]; exact Q4_1
  have R4_2 : (w4.alloc (Obj.cells (cw 6 s3) 24)).heap[w.heap.size + 1 + 1]? = some (Obj.cells (cw 6 a2) 24) := by rw [heap_below _ _ _ s4_2]; exact Q4_2
  have R4_3 : (w4.alloc (Obj.cells (cw 6 s3) 24)).heap[w1.heap.size]? = some (Obj.cells (cw 6 s1) 24) := by rw [heap_below _ _ _ s4_3]; exact Q4_3
  have R4_4 : (w4.alloc (Obj.cells (cw 6 s3) 24)).heap[w2.heap.size]? = some (Obj.cells (cw 6 s1) 24) := by rw [heap_below _ _ _ s4_4]; exact Q4_4
  have R4_5 : (w4.alloc (Obj.cells (cw 6 s3) 24)).heap[w3.heap.size]? = some (Obj.cells (cw 6 s2) 24) := by rw [heap_below _ _ _ s4_5]; exact Q4_5
  have R4_6 : (w4.alloc (Obj.cells (cw 6 s3) 24)).heap[w4.heap.size]? = some (Obj.cells (cw 6 s3) 24) := heap_alloc_last _ _
  have B4 : Below w.heap.size w (w4.alloc (Obj.cells (cw 6 s3) 24)) := C4.alloc C4.size _
  clear C4 Q4_0 Q4_1 Q4_2 Q4_3 Q4_4 Q4_5
  refine (wadd_is a0 s3 s2 _ (by assumption) (by assumption) (E5.out) rfl _).mono ?_
  rintro e w5 ⟨rfl, hb5⟩
  have Q5_0 : w5.heap[w.heap.size]? = some (Obj.cells (cw 6 a0) 24) := heap_of hb5 _ _ _ R4_0
  have Q5_1 : w5.heap[w.heap.size + 1]? = some (Obj.cells (cw 6 a1) 24) := heap_of hb5 _ _ _ R4_1
  have Q5_2 : w5.heap[w.heap.size + 1 + 1]? = some (Obj.cells (cw 6 a2) 24) := heap_of hb5 _ _ _ R4_2
  have Q5_3 : w5.heap[w1.heap.size]? = some (Obj.cells (cw 6 s1) 24) := heap_of hb5 _ _ _ R4_3
  have Q5_4 : w5.heap[w2.heap.size]? = some (Obj.cells (cw 6 s1) 24) := heap_of hb5 _ _ _ R4_4
  have Q5_5 : w5.heap[w3.heap.size]? = some (Obj.cells (cw 6 s2) 24) := heap_of hb5 _ _ _ R4_5
  have Q5_6 : w5.heap[w4.heap.size]? = some (Obj.cells (cw 6 s3) 24) := heap_of hb5 _ _ _ R4_6
  have C5 : Below w.heap.size w w5 := B4.trans (hb5.mono B4.size)
  clear hb5 B4 R4_0 R4_1 R4_2 R4_3 R4_4 R4_5 R4_6
  clear c4_0 s4_0 c4_1 s4_1 c4_2 s4_2 c4_3 s4_3 c4_4 s4_4 c4_5 s4_5
  have c5_0 := row_cell Q5_0
  have s5_0 : w.heap.size < w5.heap.size := (Array.getElem?_eq_some_iff.1 Q5_0).1
  have c5_1 := row_cell Q5_1
  have s5_1 : w.heap.size + 1 < w5.heap.size := (Array.getElem?_eq_some_iff.1 Q5_1).1
  have c5_2 := row_cell Q5_2
  have s5_2 : w.heap.size + 1 + 1 < w5.heap.size := (Array.getElem?_eq_some_iff.1 Q5_2).1
  have c5_3 := row_cell Q5_3
  have s5_3 : w1.heap.size < w5.heap.size := (Array.getElem?_eq_some_iff.1 Q5_3).1
  have c5_4 := row_cell Q5_4
  have s5_4 : w2.heap.size < w5.heap.size := (Array.getElem?_eq_some_iff.1 Q5_4).1
  have c5_5 := row_cell Q5_5
  have s5_5 : w3.heap.size < w5.heap.size := (Array.getElem?_eq_some_iff.1 Q5_5).1
  have c5_6 := row_cell Q5_6
  have s5_6 : w4.heap.size < w5.heap.size := (Array.getElem?_eq_some_iff.1 Q5_6).1
  go_wp2_with fail
  have R5_0 : (w5.alloc (Obj.cells (cw 6 s2) 24)).heap[w.heap.size]? = some (Obj.cells (cw 6 a0) 24) := by rw [heap_below _ _ _ s5_0]; exact Q5_0
  have R5_1 : (w5.alloc (Obj.cells (cw 6 s2) 24)).heap[w.heap.size + 1]? = some (Obj.cells (cw 6 a1) 24) := by rw [heap_below _ _ _ s5_1]; exact Q5_1
  have R5_2 : (w5.alloc (Obj.cells (cw 6 s2) 24)).heap[w.heap.size + 1 + 1]? = some (Obj.cells (cw 6 a2) 24) := by rw [heap_below _ _ _ s5_2]; exact Q5_2
  have R5_3 : (w5.alloc (Obj.cells (cw 6 s2) 24)).heap[w1.heap.size]? = some (Obj.cells (cw 6 s1) 24) := by rw [heap_below _ _ _ s5_3]; exact Q5_3
  have R5_4 : (w5.alloc (Obj.cells (cw 6 s2) 24)).heap[w2.heap.size]? = some (Obj.cells (cw 6 s1) 24) := by rw [heap_below _ _ _ s5_4]; exact Q5_4
  have R5_5 : (w5.alloc (Obj.cells (cw 6 s2) 24)).heap[w3.heap.size]? = some (Obj.cells (cw 6 s2) 24) := by rw [heap_below _ _ _ s5_5]; exact Q5_5
  have R5_6 : (w5.alloc (Obj.cells (cw 6 s2) 24)).heap[w4.heap.size]? = some (Obj.cells (cw 6 s3) 24) := by rw [heap_below _ _ _ s5_6]; exact Q5_6
  have R5_7 : (w5.alloc (Obj.cells (cw 6 s2) 24)).heap[w5.heap.size]? = some (Obj.cells (cw 6 s2) 24) := heap_alloc_last _ _
  have B5 : Below w.heap.size w (w5.alloc (Obj.cells (cw 6 s2) 24)) := C5.alloc C5.size _
  clear C5 Q5_0 Q5_1 Q5_2 Q5_3 Q5_4 Q5_5 Q5_6
  refine (wmul_is a0 s3 p _ (by assumption) (by assumption) (E6.out) rfl _).mono ?_
  rintro e w6 ⟨rfl, hb6⟩
  have Q6_0 : w6.heap[w.heap.size]? = some (Obj.cells (cw 6 a0) 24) := heap_of hb6 _ _ _ R5_0
  have Q6_1 : w6.heap[w.heap.size + 1]? = some (Obj.cells (cw 6 a1) 24) := heap_of hb6 _ _ _ R5_1
  have Q6_2 : w6.heap[w.heap.size + 1 + 1]? = some (Obj.cells (cw 6 a2) 24) := heap_of hb6 _ _ _ R5_2
  have Q6_3 : w6.heap[w1.heap.size]? = some (Obj.cells (cw 6 s1) 24) := heap_of hb6 _ _ _ R5_3
  have Q6_4 : w6.heap[w2.heap.size]? = some (Obj.cells (cw 6 s1) 24) := heap_of hb6 _ _ _ R5_4
  have Q6_5 : w6.heap[w3.heap.size]? = some (Obj.cells (cw 6 s2) 24) := heap_of hb6 _ _ _ R5_5
  have Q6_6 : w6.heap[w4.heap.size]? = some (Obj.cells (cw 6 s3) 24) := heap_of hb6 _ _ _ R5_6
  have Q6_7 : w6.heap[w5.heap.size]? = some (Obj.cells (cw 6 s2) 24) := heap_of hb6 _ _ _ R5_7
  have C6 : Below w.heap.size w w6 := B5.trans (hb6.mono B5.size)
  clear hb6 B5 R5_0 R5_1 R5_2 R5_3 R5_4 R5_5 R5_6 R5_7
  clear c5_0 s5_0 c5_1 s5_1 c5_2 s5_2 c5_3 s5_3 c5_4 s5_4 c5_5 s5_5 c5_6 s5_6
  have c6_0 := row_cell Q6_0
  have s6_0 : w.heap.size < w6.heap.size := (Array.getElem?_eq_some_iff.1 Q6_0).1
  have c6_1 := row_cell Q6_1
  have s6_1 : w.heap.size + 1 < w6.heap.size := (Array.getElem?_eq_some_iff.1 Q6_1).1
  have c6_2 := row_cell Q6_2
  have s6_2 : w.heap.size + 1 + 1 < w6.heap.size := (Array.getElem?_eq_some_iff.1 Q6_2).1
  have c6_3 := row_cell Q6_3
  have s6_3 : w1.heap.size < w6.heap.size := (Array.getElem?_eq_some_iff.1 Q6_3).1
  have c6_4 := row_cell Q6_4
  have s6_4 : w2.heap.size < w6.heap.size := (Array.getElem?_eq_some_iff.1 Q6_4).1
  have c6_5 := row_cell Q6_5
  have s6_5 : w3.heap.size < w6.heap.size := (Array.getElem?_eq_some_iff.1 Q6_5).1
  have c6_6 := row_cell Q6_6
  have s6_6 : w4.heap.size < w6.heap.size := (Array.getElem?_eq_some_iff.1 Q6_6).1
  have c6_7 := row_cell Q6_7
  have s6_7 : w5.heap.size < w6.heap.size := (Array.getElem?_eq_some_iff.1 Q6_7).1
  go_wp2_with fail
  have R6_0 : (w6.alloc (Obj.cells (cw 6 p) 24)).heap[w.heap.size]? = some (Obj.cells (cw 6 a0) 24) := by rw [heap_below _ _ _ s6_0]; exact Q6_0
  have R6_1 : (w6.alloc (Obj.cells (cw 6 p) 24)).heap[w.heap.size + 1]? = some (Obj.cells (cw 6 a1) 24) := by rw [heap_below _ _ _ s6_1]; exact Q6_1
  have R6_2 : (w6.alloc (Obj.cells (cw 6 p) 24)).heap[w.heap.size + 1 + 1]? = some (Obj.cells (cw 6 a2) 24) := by rw [heap_below _ _ _ s6_2]; exact Q6_2
  have R6_3 : (w6.alloc (Obj.cells (cw 6 p) 24)).heap[w1.heap.size]? = some (Obj.cells (cw 6 s1) 24) := by rw [heap_below _ _ _ s6_3]; exact Q6_3
  have R6_4 : (w6.alloc (Obj.cells (cw 6 p) 24)).heap[w2.heap.size]? = some (Obj.cells (cw 6 s1) 24) := by rw [heap_below _ _ _ s6_4]; exact Q6_4
  have R6_5 : (w6.alloc (Obj.cells (cw 6 p) 24)).heap[w3.heap.size]? = some (Obj.cells (cw 6 s2) 24) := by rw [heap_below _ _ _ s6_5]; exact Q6_5
  have R6_6 : (w6.alloc (Obj.cells (cw 6 p) 24)).heap[w4.heap.size]? = some (Obj.cells (cw 6 s3) 24) := by rw [heap_below _ _ _ s6_6]; exact Q6_6
  have R6_7 : (w6.alloc (Obj.cells (cw 6 p) 24)).heap[w5.heap.size]? = some (Obj.cells (cw 6 s2) 24) := by rw [heap_below _ _ _ s6_7]; exact Q6_7
  have R6_8 : (w6.alloc (Obj.cells (cw 6 p) 24)).heap[w6.heap.size]? = some (Obj.cells (cw 6 p) 24) := heap_alloc_last _ _
  have B6 : Below w.heap.size w (w6.alloc (Obj.cells (cw 6 p) 24)) := C6.alloc C6.size _
  clear C6 Q6_0 Q6_1 Q6_2 Q6_3 Q6_4 Q6_5 Q6_6 Q6_7
  refine (wmul_is a0 a1 q _ (by assumption) (by assumption) (E7.out) rfl _).mono ?_
  rintro e w7 ⟨rfl, hb7⟩
  have Q7_0 : w7.heap[w.heap.size]? = some (Obj.cells (cw 6 a0) 24) := heap_of hb7 _ _ _ R6_0
  have Q7_1 : w7.heap[w.heap.size + 1]? = some (Obj.cells (cw 6 a1) 24) := heap_of hb7 _ _ _ R6_1
  have Q7_2 : w7.heap[w.heap.size + 1 + 1]? = some (Obj.cells (cw 6 a2) 24) := heap_of hb7 _ _ _ R6_2
  have Q7_3 : w7.heap[w1.heap.size]? = some (Obj.cells (cw 6 s1) 24) := heap_of hb7 _ _ _ R6_3
  have Q7_4 : w7.heap[w2.heap.size]? = some (Obj.cells (cw 6 s1) 24) := heap_of hb7 _ _ _ R6_4
  have Q7_5 : w7.heap[w3.heap.size]? = some (Obj.cells (cw 6 s2) 24) := heap_of hb7 _ _ _ R6_5
  have Q7_6 : w7.heap[w4.heap.size]? = some (Obj.cells (cw 6 s3) 24) := heap_of hb7 _ _ _ R6_6
  have Q7_7 : w7.heap[w5.heap.size]? = some (Obj.cells (cw 6 s2) 24) := heap_of hb7 _ _ _ R6_7
  have Q7_8 : w7.heap[w6.heap.size]? = some (Obj.cells (cw 6 p) 24) := heap_of hb7 _ _ _ R6_8
  have C7 : Below w.heap.size w w7 := B6.trans (hb7.mono B6.size)
  clear hb7 B6 R6_0 R6_1 R6_2 R6_3 R6_4 R6_5 R6_6 R6_7 R6_8
  clear c6_0 s6_0 c6_1 s6_1 c6_2 s6_2 c6_3 s6_3 c6_4 s6_4 c6_5 s6_5 c6_6 s6_6 c6_7 s6_7
  have c7_0 := row_cell Q7_0
  have s7_0 : w.heap.size < w7.heap.size := (Array.getElem?_eq_some_iff.1 Q7_0).1
  have c7_1 := row_cell Q7_1
  have s7_1 : w.heap.size + 1 < w7.heap.size := (Array.getElem?_eq_some_iff.1 Q7_1).1
  have c7_2 := row_cell Q7_2
  have s7_2 : w.heap.size + 1 + 1 < w7.heap.size := (Array.getElem?_eq_some_iff.1 Q7_2).1
  have c7_3 := row_cell Q7_3
  have s7_3 : w1.heap.size < w7.heap.size := (Array.getElem?_eq_some_iff.1 Q7_3).1
  have c7_4 := row_cell Q7_4
  have s7_4 : w2.heap.size < w7.heap.size := (Array.getElem?_eq_some_iff.1 Q7_4).1
  have c7_5 := row_cell Q7_5
  have s7_5 : w3.heap.size < w7.heap.size := (Array.getElem?_eq_some_iff.1 Q7_5).1
  have c7_6 := row_cell Q7_6
  have s7_6 : w4.heap.size < w7.heap.size := (Array.getElem?_eq_some_iff.1 Q7_6).1
  have c7_7 := row_cell Q7_7
  have s7_7 : w5.heap.size < w7.heap.size := (Array.getElem?_eq_some_iff.1 Q7_7).1
  have c7_8 := row_cell Q7_8
  have s7_8 : w6.heap.size < w7.heap.size := (Array.getElem?_eq_some_iff.1 Q7_8).1
  go_wp2_with fail
  have R7_0 : (w7.alloc (Obj.cells (cw 6 q) 24)).heap[w.heap.size]? = some (Obj.cells (cw 6 a0) 24) := by rw [heap_below _ _ _ s7_0]; exact Q7_0
  have R7_1 : (w7.alloc (Obj.cells (cw 6 q) 24)).heap[w.heap.size + 1]? = some (Obj.cells (cw 6 a1) 24) := by rw [heap_below _ _ _ s7_1]; exact Q7_1
  have R7_2 : (w7.alloc (Obj.cells (cw 6 q) 24)).heap[w.heap.size + 1 + 1]? = some (Obj.cells (cw 6 a2) 24) := by rw [heap_below _ _ _ s7_2]; exact Q7_2
  have R7_3 : (w7.alloc (Obj.cells (cw 6 q) 24)).heap[w1.heap.size]? = some (Obj.cells (cw 6 s1) 24) := by rw [heap_below _ _ _ s7_3]; exact Q7_3
  have R7_4 : (w7.alloc (Obj.cells (cw 6 q) 24)).heap[w2.heap.size]? = some (Obj.cells (cw 6 s1) 24) := by rw [heap_below _ _ _ s7_4]; exact Q7_4
  have R7_5 : (w7.alloc (Obj.cells (cw 6 q) 24)).heap[w3.heap.size]? = some (Obj.cells (cw 6 s2) 24) := by rw [heap_below _ _ _ s7_5]; exact Q7_5
  have R7_6 : (w7.alloc (Obj.cells (cw 6 q) 24)).heap[w4.heap.size]? = some (Obj.cells (cw 6 s3) 24) := by rw [heap_below _ _ _ s7_6]; exact Q7_6
  have R7_7 : (w7.alloc (Obj.cells (cw 6 q) 24)).heap[w5.heap.size]? = some (Obj.cells (cw 6 s2) 24) := by rw [heap_below _ _ _ s7_7]; exact Q7_7
  have R7_8 : (w7.alloc (Obj.cells (cw 6 q) 24)).heap[w6.heap.size]? = some (Obj.cells (cw 6 p) 24) := by rw [heap_below _ _ _ s7_8]; exact Q7_8
  have R7_9 : (w7.alloc (Obj.cells (cw 6 q) 24)).heap[w7.heap.size]? = some (Obj.cells (cw 6 q) 24) := heap_alloc_last _ _
  have B7 : Below w.heap.size w (w7.alloc (Obj.cells (cw 6 q) 24)) := C7.alloc C7.size _
  clear C7 Q7_0 Q7_1 Q7_2 Q7_3 Q7_4 Q7_5 Q7_6 Q7_7 Q7_8
  refine (wmul_is a0 a2 r _ (by assumption) (by assumption) (E8.out) rfl _).mono ?_
  rintro e w8 ⟨rfl, hb8⟩
  have Q8_0 : w8.heap[w.heap.size]? = some (Obj.cells (cw 6 a0) 24) := heap_of hb8 _ _ _ R7_0
  have Q8_1 : w8.heap[w.heap.size + 1]? = some (Obj.cells (cw 6 a1) 24) := heap_of hb8 _ _ _ R7_1
  have Q8_2 : w8.heap[w.heap.size + 1 + 1]? = some (Obj.cells (cw 6 a2) 24) := heap_of hb8 _ _ _ R7_2
  have Q8_3 : w8.heap[w1.heap.size]? = some (Obj.cells (cw 6 s1) 24) := heap_of hb8 _ _ _ R7_3
  have Q8_4 : w8.heap[w2.heap.size]? = some (Obj.cells (cw 6 s1) 24) := heap_of hb8 _ _ _ R7_4
  have Q8_5 : w8.heap[w3.heap.size]? = some (Obj.cells (cw 6 s2) 24) := heap_of hb8 _ _ _ R7_5
  have Q8_6 : w8.heap[w4.heap.size]? = some (Obj.cells (cw 6 s3) 24) := heap_of hb8 _ _ _ R7_6
  have Q8_7 : w8.heap[w5.heap.size]? = some (Obj.cells (cw 6 s2) 24) := heap_of hb8 _ _ _ R7_7
  have Q8_8 : w8.heap[w6.heap.size]? = some (Obj.cells (cw 6 p) 24) := heap_of hb8 _ _ _ R7_8
  have Q8_9 : w8.heap[w7.heap.size]? = some (Obj.cells (cw 6 q) 24) := heap_of hb8 _ _ _ R7_9
  have C8 : Below w.heap.size w w8 := B7.trans (hb8.mono B7.size)
  clear hb8 B7 R7_0 R7_1 R7_2 R7_3 R7_4 R7_5 R7_6 R7_7 R7_8 R7_9
  clear c7_0 s7_0 c7_1 s7_1 c7_2 s7_2 c7_3 s7_3 c7_4 s7_4 c7_5 s7_5 c7_6 s7_6 c7_7 s7_7 c7_8 s7_8
  have c8_0 := row_cell Q8_0
  have s8_0 : w.heap.size < w8.heap.size := (Array.getElem?_eq_some_iff.1 Q8_0).1
  have c8_1 := row_cell Q8_1
  have s8_1 : w.heap.size + 1 < w8.heap.size := (Array.getElem?_eq_some_iff.1 Q8_1).1
  have c8_2 := row_cell Q8_2
  have s8_2 : w.heap.size + 1 + 1 < w8.heap.size := (Array.getElem?_eq_some_iff.1 Q8_2).1
  have c8_3 := row_cell Q8_3
  have s8_3 : w1.heap.size < w8.heap.size := (Array.getElem?_eq_some_iff.1 Q8_3).1
  have c8_4 := row_cell Q8_4
  have s8_4 : w2.heap.size < w8.heap.size := (Array.getElem?_eq_some_iff.1 Q8_4).1
  have c8_5 := row_cell Q8_5
  have s8_5 : w3.heap.size < w8.heap.size := (Array.getElem?_eq_some_iff.1 Q8_5).1
  have c8_6 := row_cell Q8_6
  have s8_6 : w4.heap.size < w8.heap.size := (Array.getElem?_eq_some_iff.1 Q8_6).1
  have c8_7 := row_cell Q8_7
  have s8_7 : w5.heap.size < w8.heap.size := (Array.getElem?_eq_some_iff.1 Q8_7).1
  have c8_8 := row_cell Q8_8
  have s8_8 : w6.heap.size < w8.heap.size := (Array.getElem?_eq_some_iff.1 Q8_8).1
  have c8_9 := row_cell Q8_9
  have s8_9 : w7.heap.size < w8.heap.size := (Array.getElem?_eq_some_iff.1 Q8_9).1
  go_wp2_with fail
  have R8_0 : (w8.alloc (Obj.cells (cw 6 r) 24)).heap[w.heap.size]? = some (Obj.cells (cw 6 a0) 24) := by rw [heap_below _ _ _ s8_0]; exact Q8_0
  have R8_1 : (w8.alloc (Obj.cells (cw 6 r) 24)).heap[w.heap.size + 1]? = some (Obj.cells (cw 6 a1) 24) := by rw [heap_below _ _ _ s8_1]; exact Q8_1
  have R8_2 : (w8.alloc (Obj.cells (cw 6 r) 24)).heap[w.heap.size + 1 + 1]? = some (Obj.cells (cw 6 a2) 24) := by rw [heap_below _ _ _ s8_2]; exact Q8_2
  have R8_3 : (w8.alloc (Obj.cells (cw 6 r) 24)).heap[w1.heap.size]? = some (Obj.cells (cw 6 s1) 24) := by rw [heap_below _ _ _ s8_3]; exact Q8_3
  have R8_4 : (w8.alloc (Obj.cells (cw 6 r) 24)).heap[w2.heap.size]? = some (Obj.cells (cw 6 s1) 24) := by rw [heap_below _ _ _ s8_4]; exact Q8_4
  have R8_5 : (w8.alloc (Obj.cells (cw 6 r) 24)).heap[w3.heap.size]? = some (Obj.cells (cw 6 s2) 24) := by rw [heap_below _ _ _ s8_5]; exact Q8_5
  have R8_6 : (w8.alloc (Obj.cells (cw 6 r) 24)).heap[w4.heap.size]? = some (Obj.cells (cw 6 s3) 24) := by rw [heap_below _ _ _ s8_6]; exact Q8_6
  have R8_7 : (w8.alloc (Obj.cells (cw 6 r) 24)).heap[w5.heap.size]? = some (Obj.cells (cw 6 s2) 24) := by rw [heap_below _ _ _ s8_7]; exact Q8_7
  have R8_8 : (w8.alloc (Obj.cells (cw 6 r) 24)).heap[w6.heap.size]? = some (Obj.cells (cw 6 p) 24) := by rw [heap_below _ _ _ s8_8]; exact Q8_8
  have R8_9 : (w8.alloc (Obj.cells (cw 6 r) 24)).heap[w7.heap.size]? = some (Obj.cells (cw 6 q) 24) := by rw [heap_below _ _ _ s8_9]; exact Q8_9
  have R8_10 : (w8.alloc (Obj.cells (cw 6 r) 24)).heap[w8.heap.size]? = some (Obj.cells (cw 6 r) 24) := heap_alloc_last _ _
  have B8 : Below w.heap.size w (w8.alloc (Obj.cells (cw 6 r) 24)) := C8.alloc C8.size _
  clear C8 Q8_0 Q8_1 Q8_2 Q8_3 Q8_4 Q8_5 Q8_6 Q8_7 Q8_8 Q8_9
  refine (wadd_is q r p _ (by assumption) (by assumption) (E9.out) rfl _).mono ?_
  rintro e w9 ⟨rfl, hb9⟩
  have Q9_0 : w9.heap[w.heap.size]? = some (Obj.cells (cw 6 a0) 24) := heap_of hb9 _ _ _ R8_0
  have Q9_1 : w9.heap[w.heap.size + 1]? = some (Obj.cells (cw 6 a1) 24) := heap_of hb9 _ _ _ R8_1
  have Q9_2 : w9.heap[w.heap.size + 1 + 1]? = some (Obj.cells (cw 6 a2) 24) := heap_of hb9 _ _ _ R8_2
  have Q9_3 : w9.heap[w1.heap.size]? = some (Obj.cells (cw 6 s1) 24) := heap_of hb9 _ _ _ R8_3
  have Q9_4 : w9.heap[w2.heap.size]? = some (Obj.cells (cw 6 s1) 24) := heap_of hb9 _ _ _ R8_4
  have Q9_5 : w9.heap[w3.heap.size]? = some (Obj.cells (cw 6 s2) 24) := heap_of hb9 _ _ _ R8_5
  have Q9_6 : w9.heap[w4.heap.size]? = some (Obj.cells (cw 6 s3) 24) := heap_of hb9 _ _ _ R8_6
  have Q9_7 : w9.heap[w5.heap.size]? = some (Obj.cells (cw 6 s2) 24) := heap_of hb9 _ _ _ R8_7
  have Q9_8 : w9.heap[w6.heap.size]? = some (Obj.cells (cw 6 p) 24) := heap_of hb9 _ _ _ R8_8
  have Q9_9 : w9.heap[w7.heap.size]? = some (Obj.cells (cw 6 q) 24) := heap_of hb9 _ _ _ R8_9
  have Q9_10 : w9.heap[w8.heap.size]? = some (Obj.cells (cw 6 r) 24) := heap_of hb9 _ _ _ R8_10
  have C9 : Below w.heap.size w w9 := B8.trans (hb9.mono B8.size)
  clear hb9 B8 R8_0 R8_1 R8_2 R8_3 R8_4 R8_5 R8_6 R8_7 R8_8 R8_9 R8_10
  clear c8_0 s8_0 c8_1 s8_1 c8_2 s8_2 c8_3 s8_3 c8_4 s8_4 c8_5 s8_5 c8_6 s8_6 c8_7 s8_7 c8_8 s8_8 c8_9 s8_9
  have c9_0 := row_cell Q9_0
  have s9_0 : w.heap.size < w9.heap.size := (Array.getElem?_eq_some_iff.1 Q9_0).1
  have c9_1 := row_cell Q9_1
  have s9_1 : w.heap.size + 1 < w9.heap.size := (Array.getElem?_eq_some_iff.1 Q9_1).1
  have c9_2 := row_cell Q9_2
  have s9_2 : w.heap.size + 1 + 1 < w9.heap.size := (Array.getElem?_eq_some_iff.1 Q9_2).1
  have c9_3 := row_cell Q9_3
  have s9_3 : w1.heap.size < w9.heap.size := (Array.getElem?_eq_some_iff.1 Q9_3).1
  have c9_4 := row_cell Q9_4
  have s9_4 : w2.heap.size < w9.heap.size := (Array.getElem?_eq_some_iff.1 Q9_4).1
  have c9_5 := row_cell Q9_5
  have s9_5 : w3.heap.size < w9.heap.size := (Array.getElem?_eq_some_iff.1 Q9_5).1
  have c9_6 := row_cell Q9_6
  have s9_6 : w4.heap.size < w9.heap.size := (Array.getElem?_eq_some_iff.1 Q9_6).1
  have c9_7 := row_cell Q9_7
  have s9_7 : w5.heap.size < w9.heap.size := (Array.getElem?_eq_some_iff.1 Q9_7).1
  have c9_8 := row_cell Q9_8
  have s9_8 : w6.heap.size < w9.heap.size := (Array.getElem?_eq_some_iff.1 Q9_8).1
  have c9_9 := row_cell Q9_9
  have s9_9 : w7.heap.size < w9.heap.size := (Array.getElem?_eq_some_iff.1 Q9_9).1
  have c9_10 := row_cell Q9_10
  have s9_10 : w8.heap.size < w9.heap.size := (Array.getElem?_eq_some_iff.1 Q9_10).1
  go_wp2_with fail
  have R9_0 : (w9.alloc (Obj.cells (cw 6 p) 24)).heap[w.heap.size]? = some (Obj.cells (cw 6 a0) 24) := by rw [heap_below _ _ _ s9_0]; exact Q9_0
  have R9_1 : (w9.alloc (Obj.cells (cw 6 p) 24)).heap[w.heap.size + 1]? = some (Obj.cells (cw 6 a1) 24) := by rw [heap_below _ _ _ s9_1]; exact Q9_1
  have R9_2 : (w9.alloc (Obj.cells (cw 6 p) 24)).heap[w.heap.size + 1 + 1]? = some (Obj.cells (cw 6 a2) 24) := by rw [heap_below _ _ _ s9_2]; exact Q9_2
  have R9_3 : (w9.alloc (Obj.cells (cw 6 p) 24)).heap[w1.heap.size]? = some (Obj.cells (cw 6 s1) 24) := by rw [heap_below _ _ _ s9_3]; exact Q9_3
  have R9_4 : (w9.alloc (Obj.cells (cw 6 p) 24)).heap[w2.heap.size]? = some (Obj.cells (cw 6 s1) 24) := by rw [heap_below _ _ _ s9_4]; exact Q9_4
  have R9_5 : (w9.alloc (Obj.cells (cw 6 p) 24)).heap[w3.heap.size]? = some (Obj.cells (cw 6 s2) 24) := by rw [heap_below _ _ _ s9_5]; exact Q9_5
  have R9_6 : (w9.alloc (Obj.cells (cw 6 p) 24)).heap[w4.heap.size]? = some (Obj.cells (cw 6 s3) 24) := by rw [heap_below _ _ _ s9_6]; exact Q9_6
  have R9_7 : (w9.alloc (Obj.cells (cw 6 p) 24)).heap[w5.heap.size]? = some (Obj.cells (cw 6 s2) 24) := by rw [heap_below _ _ _ s9_7]; exact Q9_7
  have R9_8 : (w9.alloc (Obj.cells (cw 6 p) 24)).heap[w6.heap.size]? = some (Obj.cells (cw 6 p) 24) := by rw [heap_below _ _ _ s9_8]; exact Q9_8
  have R9_9 : (w9.alloc (Obj.cells (cw 6 p) 24)).heap[w7.heap.size]? = some (Obj.cells (cw 6 q) 24) := by rw [heap_below _ _ _ s9_9]; exact Q9_9
  have R9_10 : (w9.alloc (Obj.cells (cw 6 p) 24)).heap[w8.heap.size]? = some (Obj.cells (cw 6 r) 24) := by rw [heap_below _ _ _ s9_10]; exact Q9_10
  have R9_11 : (w9.alloc (Obj.cells (cw 6 p) 24)).heap[w9.heap.size]? = some (Obj.cells (cw 6 p) 24) := heap_alloc_last _ _
  have B9 : Below w.heap.size w (w9.alloc (Obj.cells (cw 6 p) 24)) := C9.alloc C9.size _
  clear C9 Q9_0 Q9_1 Q9_2 Q9_3 Q9_4 Q9_5 Q9_6 Q9_7 Q9_8 Q9_9 Q9_10
  refine (wmul_is a1 a0 q _ (by assumption) (by assumption) (E10.out) rfl _).mono ?_
  rintro e w10 ⟨rfl, hb10⟩
  have Q10_0 : w10.heap[w.heap.size]? = some (Obj.cells (cw 6 a0) 24) := heap_of hb10 _ _ _ R9_0
  have Q10_1 : w10.heap[w.heap.size + 1]? = some (Obj.cells (cw 6 a1) 24) := heap_of hb10 _ _ _ R9_1
  have Q10_2 : w10.heap[w.heap.size + 1 + 1]? = some (Obj.cells (cw 6 a2) 24) := heap_of hb10 _ _ _ R9_2
  have Q10_3 : w10.heap[w1.heap.size]? = some (Obj.cells (cw 6 s1) 24) := heap_of hb10 _ _ _ R9_3
  have Q10_4 : w10.heap[w2.heap.size]? = some (Obj.cells (cw 6 s1) 24) := heap_of hb10 _ _ _ R9_4
  have Q10_5 : w10.heap[w3.heap.size]? = some (Obj.cells (cw 6 s2) 24) := heap_of hb10 _ _ _ R9_5
  have Q10_6 : w10.heap[w4.heap.size]? = some (Obj.cells (cw 6 s3) 24) := heap_of hb10 _ _ _ R9_6
  have Q10_7 : w10.heap[w5.heap.size]? = some (Obj.cells (cw 6 s2) 24) := heap_of hb10 _ _ _ R9_7
  have Q10_8 : w10.heap[w6.heap.size]? = some (Obj.cells (cw 6 p) 24) := heap_of hb10 _ _ _ R9_8
  have Q10_9 : w10.heap[w7.heap.size]? = some (Obj.cells (cw 6 q) 24) := heap_of hb10 _ _ _ R9_9
  have Q10_10 : w10.heap[w8.heap.size]? = some (Obj.cells (cw 6 r) 24) := heap_of hb10 _ _ _ R9_10
  have Q10_11 : w10.heap[w9.heap.size]? = some (Obj.cells (cw 6 p) 24) := heap_of hb10 _ _ _ R9_11
  have C10 : Below w.heap.size w w10 := B9.trans (hb10.mono B9.size)
  clear hb10 B9 R9_0 R9_1 R9_2 R9_3 R9_4 R9_5 R9_6 R9_7 R9_8 R9_9 R9_10 R9_11
  clear c9_0 s9_0 c9_1 s9_1 c9_2 s9_2 c9_3 s9_3 c9_4 s9_4 c9_5 s9_5 c9_6 s9_6 c9_7 s9_7 c9_8 s9_8 c9_9 s9_9 c9_10 s9_10
  have c10_0 := row_cell Q10_0
  have s10_0 : w.heap.size < w10.heap.size := (Array.getElem?_eq_some_iff.1 Q10_0).1
  have c10_1 := row_cell Q10_1
  have s10_1 : w.heap.size + 1 < w10.heap.size := (Array.getElem?_eq_some_iff.1 Q10_1).1
  have c10_2 := row_cell Q10_2
  have s10_2 : w.heap.size + 1 + 1 < w10.heap.size := (Array.getElem?_eq_some_iff.1 Q10_2).1
  have c10_3 := row_cell Q10_3
  have s10_3 : w1.heap.size < w10.heap.size := (Array.getElem?_eq_some_iff.1 Q10_3).1
  have c10_4 := row_cell Q10_4
  have s10_4 : w2.heap.size < w10.heap.size := (Array.getElem?_eq_some_iff.1 Q10_4).1
  have c10_5 := row_cell Q10_5
  have s10_5 : w3.heap.size < w10.heap.size := (Array.getElem?_eq_some_iff.1 Q10_5).1
  have c10_6 := row_cell Q10_6
  have s10_6 : w4.heap.size < w10.heap.size := (Array.getElem?_eq_some_iff.1 Q10_6).1
  have c10_7 := row_cell Q10_7
  have s10_7 : w5.heap.size < w10.heap.size := (Array.getElem?_eq_some_iff.1 Q10_7).1
  have c10_8 := row_cell Q10_8
  have s10_8 : w6.heap.size < w10.heap.size := (Array.getElem?_eq_some_iff.1 Q10_8).1
  have c10_9 := row_cell Q10_9
  have s10_9 : w7.heap.size < w10.heap.size := (Array.getElem?_eq_some_iff.1 Q10_9).1
  have c10_10 := row_cell Q10_10
  have s10_10 : w8.heap.size < w10.heap.size := (Array.getElem?_eq_some_iff.1 Q10_10).1
  have c10_11 := row_cell Q10_11
  have s10_11 : w9.heap.size < w10.heap.size := (Array.getElem?_eq_some_iff.1 Q10_11).1
  go_wp2_with fail
  have R10_0 : (w10.alloc (Obj.cells (cw 6 q) 24)).heap[w.heap.size]? = some (Obj.cells (cw 6 a0) 24) := by rw [heap_below _ _ _ s10_0]; exact Q10_0
  have R10_1 : (w10.alloc (Obj.cells (cw 6 q) 24)).heap[w.heap.size + 1]? = some (Obj.cells (cw 6 a1) 24) := by rw [heap_below _ _ _ s10_1]; exact Q10_1
  have R10_2 : (w10.alloc (Obj.cells (cw 6 q) 24)).heap[w.heap.size + 1 + 1]? = some (Obj.cells (cw 6 a2) 24) := by rw [heap_below _ _ _ s10_2]; exact Q10_2
  have R10_3 : (w10.alloc (Obj.cells (cw 6 q) 24)).heap[w1.heap.size]? = some (Obj.cells (cw 6 s1) 24) := by rw [heap_below _ _ _ s10_3]; exact Q10_3
  have R10_4 : (w10.alloc (Obj.cells (cw 6 q) 24)).heap[w2.heap.size]? = some (Obj.cells (cw 6 s1) 24) := by rw [heap_below _ _ _ s10_4]; exact Q10_4
  have R10_5 : (w10.alloc (Obj.cells (cw 6 q) 24)).heap[w3.heap.size]? = some (Obj.cells (cw 6 s2) 24) := by rw [heap_below _ _ _ s10_5]; exact Q10_5
  have R10_6 : (w10.alloc (Obj.cells (cw 6 q) 24)).heap[w4.heap.size]? = some (Obj.cells (cw 6 s3) 24) := by rw [heap_below _ _ _ s10_6]; exact Q10_6
  have R10_7 : (w10.alloc (Obj.cells (cw 6 q) 24)).heap[w5.heap.size]? = some (Obj.cells (cw 6 s2) 24) := by rw [heap_below _ _ _ s10_7]; exact Q10_7
  have R10_8 : (w10.alloc (Obj.cells (cw 6 q) 24)).heap[w6.heap.size]? = some (Obj.cells (cw 6 p) 24) := by rw [heap_below _ _ _ s10_8]; exact Q10_8
  have R10_9 : (w10.alloc (Obj.cells (cw 6 q) 24)).heap[w7.heap.size]? = some (Obj.cells (cw 6 q) 24) := by rw [heap_below _ _ _ s10_9]; exact Q10_9
  have R10_10 : (w10.alloc (Obj.cells (cw 6 q) 24)).heap[w8.heap.size]? = some (Obj.cells (cw 6 r) 24) := by rw [heap_below _ _ _ s10_10]; exact Q10_10
  have R10_11 : (w10.alloc (Obj.cells (cw 6 q) 24)).heap[w9.heap.size]? = some (Obj.cells (cw 6 p) 24) := by rw [heap_below _ _ _ s10_11]; exact Q10_11
  have R10_12 : (w10.alloc (Obj.cells (cw 6 q) 24)).heap[w10.heap.size]? = some (Obj.cells (cw 6 q) 24) := heap_alloc_last _ _
  have B10 : Below w.heap.size w (w10.alloc (Obj.cells (cw 6 q) 24)) := C10.alloc C10.size _
  clear C10 Q10_0 Q10_1 Q10_2 Q10_3 Q10_4 Q10_5 Q10_6 Q10_7 Q10_8 Q10_9 Q10_10 Q10_11
  refine (wmul_is q a2 t _ (by assumption) (by assumption) (E11.out) rfl _).mono ?_
  rintro e w11 ⟨rfl, hb11⟩
  have Q11_0 : w11.heap[w.heap.size]? = some (Obj.cells (cw 6 a0) 24) := heap_of hb11 _ _ _ R10_0
  have Q11_1 : w11.heap[w.heap.size + 1]? = some (Obj.cells (cw 6 a1) 24) := heap_of hb11 _ _ _ R10_1
  have Q11_2 : w11.heap[w.heap.size + 1 + 1]? = some (Obj.cells (cw 6 a2) 24) := heap_of hb11 _ _ _ R10_2
  have Q11_3 : w11.heap[w1.heap.size]? = some (Obj.cells (cw 6 s1) 24) := heap_of hb11 _ _ _ R10_3
  have Q11_4 : w11.heap[w2.heap.size]? = some (Obj.cells (cw 6 s1) 24) := heap_of hb11 _ _ _ R10_4
  have Q11_5 : w11.heap[w3.heap.size]? = some (Obj.cells (cw 6 s2) 24) := heap_of hb11 _ _ _ R10_5
  have Q11_6 : w11.heap[w4.heap.size]? = some (Obj.cells (cw 6 s3) 24) := heap_of hb11 _ _ _ R10_6
  have Q11_7 : w11.heap[w5.heap.size]? = some (Obj.cells (cw 6 s2) 24) := heap_of hb11 _ _ _ R10_7
  have Q11_8 : w11.heap[w6.heap.size]? = some (Obj.cells (cw 6 p) 24) := heap_of hb11 _ _ _ R10_8
  have Q11_9 : w11.heap[w7.heap.size]? = some (Obj.cells (cw 6 q) 24) := heap_of hb11 _ _ _ R10_9
  have Q11_10 : w11.heap[w8.heap.size]? = some (Obj.cells (cw 6 r) 24) := heap_of hb11 _ _ _ R10_10
  have Q11_11 : w11.heap[w9.heap.size]? = some (Obj.cells (cw 6 p) 24) := heap_of hb11 _ _ _ R10_11
  have Q11_12 : w11.heap[w10.heap.size]? = some (Obj.cells (cw 6 q) 24) := heap_of hb11 _ _ _ R10_12
  have C11 : Below w.heap.size w w11 := B10.trans (hb11.mono B10.size)
  clear hb11 B10 R10_0 R10_1 R10_2 R10_3 R10_4 R10_5 R10_6 R10_7 R10_8 R10_9 R10_10 R10_11 R10_12
  clear c10_0 s10_0 c10_1 s10_1 c10_2 s10_2 c10_3 s10_3 c10_4 s10_4 c10_5 s10_5 c10_6 s10_6 c10_7 s10_7 c10_8 s10_8 c10_9 s10_9 c10_10 s10_10 c10_11 s10_11
  have c11_0 := row_cell Q11_0
  have s11_0 : w.heap.size < w11.heap.size := (Array.getElem?_eq_some_iff.1 Q11_0).1
  have c11_1 := row_cell Q11_1
  have s11_1 : w.heap.size + 1 < w11.heap.size := (Array.getElem?_eq_some_iff.1 Q11_1).1
  have c11_2 := row_cell Q11_2
  have s11_2 : w.heap.size + 1 + 1 < w11.heap.size := (Array.getElem?_eq_some_iff.1 Q11_2).1
  have c11_3 := row_cell Q11_3
  have s11_3 : w1.heap.size < w11.heap.size := (Array.getElem?_eq_some_iff.1 Q11_3).1
  have c11_4 := row_cell Q11_4
  have s11_4 : w2.heap.size < w11.heap.size := (Array.getElem?_eq_some_iff.1 Q11_4).1
  have c11_5 := row_cell Q11_5
  have s11_5 : w3.heap.size < w11.heap.size := (Array.getElem?_eq_some_iff.1 Q11_5).1
  have c11_6 := row_cell Q11_6
  have s11_6 : w4.heap.size < w11.heap.size := (Array.getElem?_eq_some_iff.1 Q11_6).1
  have c11_7 := row_cell Q11_7
  have s11_7 : w5.heap.size < w11.heap.size := (Array.getElem?_eq_some_iff.1 Q11_7).1
  have c11_8 := row_cell Q11_8
  have s11_8 : w6.heap.size < w11.heap.size := (Array.getElem?_eq_some_iff.1 Q11_8).1
  have c11_9 := row_cell Q11_9
  have s11_9 : w7.heap.size < w11.heap.size := (Array.getElem?_eq_some_iff.1 Q11_9).1
  have c11_10 := row_cell Q11_10
  have s11_10 : w8.heap.size < w11.heap.size := (Array.getElem?_eq_some_iff.1 Q11_10).1
  have c11_11 := row_cell Q11_11
  have s11_11 : w9.heap.size < w11.heap.size := (Array.getElem?_eq_some_iff.1 Q11_11).1
  have c11_12 := row_cell Q11_12
  have s11_12 : w10.heap.size < w11.heap.size := (Array.getElem?_eq_some_iff.1 Q11_12).1
  go_wp2_with fail
  have R11_0 : (w11.alloc (Obj.cells (cw 6 t) 24)).heap[w.heap.size]? = some (Obj.cells (cw 6 a0) 24) := by rw [heap_below _ _ _ s11_0]; exact Q11_0
  have R11_1 : (w11.alloc (Obj.cells (cw 6 t) 24)).heap[w.heap.size + 1]? = some (Obj.cells (cw 6 a1) 24) := by rw [heap_below _ _ _ s11_1]; exact Q11_1
  have R11_2 : (w11.alloc (Obj.cells (cw 6 t) 24)).heap[w.heap.size + 1 + 1]? = some (Obj.cells (cw 6 a2) 24) := by rw [heap_below _ _ _ s11_2]; exact Q11_2
  have R11_3 : (w11.alloc (Obj.cells (cw 6 t) 24)).heap[w1.heap.size]? = some (Obj.cells (cw 6 s1) 24) := by rw [heap_below _ _ _ s11_3]; exact Q11_3
  have R11_4 : (w11.alloc (Obj.cells (cw 6 t) 24)).heap[w2.heap.size]? = some (Obj.cells (cw 6 s1) 24) := by rw [heap_below _ _ _ s11_4]; exact Q11_4
  have R11_5 : (w11.alloc (Obj.cells (cw 6 t) 24)).heap[w3.heap.size]? = some (Obj.cells (cw 6 s2) 24) := by rw [heap_below _ _ _ s11_5]; exact Q11_5
  have R11_6 : (w11.alloc (Obj.cells (cw 6 t) 24)).heap[w4.heap.size]? = some (Obj.cells (cw 6 s3) 24) := by rw [heap_below _ _ _ s11_6]; exact Q11_6
  have R11_7 : (w11.alloc (Obj.cells (cw 6 t) 24)).heap[w5.heap.size]? = some (Obj.cells (cw 6 s2) 24) := by rw [heap_below _ _ _ s11_7]; exact Q11_7
  have R11_8 : (w11.alloc (Obj.cells (cw 6 t) 24)).heap[w6.heap.size]? = some (Obj.cells (cw 6 p) 24) := by rw [heap_below _ _ _ s11_8]; exact Q11_8
  have R11_9 : (w11.alloc (Obj.cells (cw 6 t) 24)).heap[w7.heap.size]? = some (Obj.cells (cw 6 q) 24) := by rw [heap_below _ _ _ s11_9]; exact Q11_9
  have R11_10 : (w11.alloc (Obj.cells (cw 6 t) 24)).heap[w8.heap.size]? = some (Obj.cells (cw 6 r) 24) := by rw [heap_below _ _ _ s11_10]; exact Q11_10
  have R11_11 : (w11.alloc (Obj.cells (cw 6 t) 24)).heap[w9.heap.size]? = some (Obj.cells (cw 6 p) 24) := by rw [heap_below _ _ _ s11_11]; exact Q11_11
  have R11_12 : (w11.alloc (Obj.cells (cw 6 t) 24)).heap[w10.heap.size]? = some (Obj.cells (cw 6 q) 24) := by rw [heap_below _ _ _ s11_12]; exact Q11_12
  have R11_13 : (w11.alloc (Obj.cells (cw 6 t) 24)).heap[w11.heap.size]? = some (Obj.cells (cw 6 t) 24) := heap_alloc_last _ _
  have B11 : Below w.heap.size w (w11.alloc (Obj.cells (cw 6 t) 24)) := C11.alloc C11.size _
  clear C11 Q11_0 Q11_1 Q11_2 Q11_3 Q11_4 Q11_5 Q11_6 Q11_7 Q11_8 Q11_9 Q11_10 Q11_11 Q11_12
  refine (wmul_is a1 a2 u _ (by assumption) (by assumption) (E12.out) rfl _).mono ?_
  rintro e w12 ⟨rfl, hb12⟩
  have Q12_0 : w12.heap[w.heap.size]? = some (Obj.cells (cw 6 a0) 24) := heap_of hb12 _ _ _ R11_0
  have Q12_1 : w12.heap[w.heap.size + 1]? = some (Obj.cells (cw 6 a1) 24) := heap_of hb12 _ _ _ R11_1
  have Q12_2 : w12.heap[w.heap.size + 1 + 1]? = some (Obj.cells (cw 6 a2) 24) := heap_of hb12 _ _ _ R11_2
  have Q12_3 : w12.heap[w1.heap.size]? = some (Obj.cells (cw 6 s1) 24) := heap_of hb12 _ _ _ R11_3
  have Q12_4 : w12.heap[w2.heap.size]? = some (Obj.cells (cw 6 s1) 24) := heap_of hb12 _ _ _ R11_4
  have Q12_5 : w12.heap[w3.heap.size]? = some (Obj.cells (cw 6 s2) 24) := heap_of hb12 _ _ _ R11_5
  have Q12_6 : w12.heap[w4.heap.size]? = some (Obj.cells (cw 6 s3) 24) := heap_of hb12 _ _ _ R11_6
  have Q12_7 : w12.heap[w5.heap.size]? = some (Obj.cells (cw 6 s2) 24) := heap_of hb12 _ _ _ R11_7
  have Q12_8 : w12.heap[w6.heap.size]? = some (Obj.cells (cw 6 p) 24) := heap_of hb12 _ _ _ R11_8
  have Q12_9 : w12.heap[w7.heap.size]? = some (Obj.cells (cw 6 q) 24) := heap_of hb12 _ _ _ R11_9
  have Q12_10 : w12.heap[w8.heap.size]? = some (Obj.cells (cw 6 r) 24) := heap_of hb12 _ _ _ R11_10
  have Q12_11 : w12.heap[w9.heap.size]? = some (Obj.cells (cw 6 p) 24) := heap_of hb12 _ _ _ R11_11
  have Q12_12 : w12.heap[w10.heap.size]? = some (Obj.cells (cw 6 q) 24) := heap_of hb12 _ _ _ R11_12
  have Q12_13 : w12.heap[w11.heap.size]? = some (Obj.cells (cw 6 t) 24) := heap_of hb12 _ _ _ R11_13
  have C12 : Below w.heap.size w w12 := B11.trans (hb12.mono B11.size)
  clear hb12 B11 R11_0 R11_1 R11_2 R11_3 R11_4 R11_5 R11_6 R11_7 R11_8 R11_9 R11_10 R11_11 R11_12 R11_13
  clear c11_0 s11_0 c11_1 s11_1 c11_2 s11_2 c11_3 s11_3 c11_4 s11_4 c11_5 s11_5 c11_6 s11_6 c11_7 s11_7 c11_8 s11_8 c11_9 s11_9 c11_10 s11_10 c11_11 s11_11 c11_12 s11_12
  have c12_0 := row_cell Q12_0
  have s12_0 : w.heap.size < w12.heap.size := (Array.getElem?_eq_some_iff.1 Q12_0).1
  have c12_1 := row_cell Q12_1
  have s12_1 : w.heap.size + 1 < w12.heap.size := (Array.getElem?_eq_some_iff.1 Q12_1).1
  have c12_2 := row_cell Q12_2
  have s12_2 : w.heap.size + 1 + 1 < w12.heap.size := (Array.getElem?_eq_some_iff.1 Q12_2).1
  have c12_3 := row_cell Q12_3
  have s12_3 : w1.heap.size < w12.heap.size := (Array.getElem?_eq_some_iff.1 Q12_3).1
  have c12_4 := row_cell Q12_4
  have s12_4 : w2.heap.size < w12.heap.size := (Array.getElem?_eq_some_iff.1 Q12_4).1
  have c12_5 := row_cell Q12_5
  have s12_5 : w3.heap.size < w12.heap.size := (Array.getElem?_eq_some_iff.1 Q12_5).1
  have c12_6 := row_cell Q12_6
  have s12_6 : w4.heap.size < w12.heap.size := (Array.getElem?_eq_some_iff.1 Q12_6).1
  have c12_7 := row_cell Q12_7
  have s12_7 : w5.heap.size < w12.heap.size := (Array.getElem?_eq_some_iff.1 Q12_7).1
  have c12_8 := row_cell Q12_8
  have s12_8 : w6.heap.size < w12.heap.size := (Array.getElem?_eq_some_iff.1 Q12_8).1
  have c12_9 := row_cell Q12_9
  have s12_9 : w7.heap.size < w12.heap.size := (Array.getElem?_eq_some_iff.1 Q12_9).1
  have c12_10 := row_cell Q12_10
  have s12_10 : w8.heap.size < w12.heap.size := (Array.getElem?_eq_some_iff.1 Q12_10).1
  have c12_11 := row_cell Q12_11
  have s12_11 : w9.heap.size < w12.heap.size := (Array.getElem?_eq_some_iff.1 Q12_11).1
  have c12_12 := row_cell Q12_12
  have s12_12 : w10.heap.size < w12.heap.size := (Array.getElem?_eq_some_iff.1 Q12_12).1
  have c12_13 := row_cell Q12_13
  have s12_13 : w11.heap.size < w12.heap.size := (Array.getElem?_eq_some_iff.1 Q12_13).1
  go_wp2_with fail
  have R12_0 : (w12.alloc (Obj.cells (cw 6 u) 24)).heap[w.heap.size]? = some (Obj.cells (cw 6 a0) 24) := by rw [heap_below _ _ _ s12_0]; exact Q12_0
  have R12_1 : (w12.alloc (Obj.cells (cw 6 u) 24)).heap[w.heap.size + 1]? = some (Obj.cells (cw 6 a1) 24) := by rw [heap_below _ _ _ s12_1]; exact Q12_1
  have R12_2 : (w12.alloc (Obj.cells (cw 6 u) 24)).heap[w.heap.size + 1 + 1]? = some (Obj.cells (cw 6 a2) 24) := by rw [heap_below _ _ _ s12_2]; exact Q12_2
  have R12_3 : (w12.alloc (Obj.cells (cw 6 u) 24)).heap[w1.heap.size]? = some (Obj.cells (cw 6 s1) 24) := by rw [heap_below _ _ _ s12_3]; exact Q12_3
  have R12_4 : (w12.alloc (Obj.cells (cw 6 u) 24)).heap[w2.heap.size]? = some (Obj.cells (cw 6 s1) 24) := by rw [heap_below _ _ _ s12_4]; exact Q12_4
  have R12_5 : (w12.alloc (Obj.cells (cw 6 u) 24)).heap[w3.heap.size]? = some (Obj.cells (cw 6 s2) 24) := by rw [heap_below _ _ _ s12_5]; exact Q12_5
  have R12_6 : (w12.alloc (Obj.cells (cw 6 u) 24)).heap[w4.heap.size]? = some (Obj.cells (cw 6 s3) 24) := by rw [heap_below _ _ _ s12_6]; exact Q12_6
  have R12_7 : (w12.alloc (Obj.cells (cw 6 u) 24)).heap[w5.heap.size]? = some (Obj.cells (cw 6 s2) 24) := by rw [heap_below _ _ _ s12_7]; exact Q12_7
  have R12_8 : (w12.alloc (Obj.cells (cw 6 u) 24)).heap[w6.heap.size]? = some (Obj.cells (cw 6 p) 24) := by rw [heap_below _ _ _ s12_8]; exact Q12_8
  have R12_9 : (w12.alloc (Obj.cells (cw 6 u) 24)).heap[w7.heap.size]? = some (Obj.cells (cw 6 q) 24) := by rw [heap_below _ _ _ s12_9]; exact Q12_9
  have R12_10 : (w12.alloc (Obj.cells (cw 6 u) 24)).heap[w8.heap.size]? = some (Obj.cells (cw 6 r) 24) := by rw [heap_below _ _ _ s12_10]; exact Q12_10
  have R12_11 : (w12.alloc (Obj.cells (cw 6 u) 24)).heap[w9.heap.size]? = some (Obj.cells (cw 6 p) 24) := by rw [heap_below _ _ _ s12_11]; exact Q12_11
  have R12_12 : (w12.alloc (Obj.cells (cw 6 u) 24)).heap[w10.heap.size]? = some (Obj.cells (cw 6 q) 24) := by rw [heap_below _ _ _ s12_12]; exact Q12_12
  have R12_13 : (w12.alloc (Obj.cells (cw 6 u) 24)).heap[w11.heap.size]? = some (Obj.cells (cw 6 t) 24) := by rw [heap_below _ _ _ s12_13]; exact Q12_13
  have R12_14 : (w12.alloc (Obj.cells (cw 6 u) 24)).heap[w12.heap.size]? = some (Obj.cells (cw 6 u) 24) := heap_alloc_last _ _
  have B12 : Below w.heap.size w (w12.alloc (Obj.cells (cw 6 u) 24)) := C12.alloc C12.size _
  clear C12 Q12_0 Q12_1 Q12_2 Q12_3 Q12_4 Q12_5 Q12_6 Q12_7 Q12_8 Q12_9 Q12_10 Q12_11 Q12_12 Q12_13
  refine (wmul_is a0 u t _ (by assumption) (by assumption) (E13.out) rfl _).mono ?_
  rintro e w13 ⟨rfl, hb13⟩
  have Q13_0 : w13.heap[w.heap.size]? = some (Obj.cells (cw 6 a0) 24) := heap_of hb13 _ _ _ R12_0
  have Q13_1 : w13.heap[w.heap.size + 1]? = some (Obj.cells (cw 6 a1) 24) := heap_of hb13 _ _ _ R12_1
  have Q13_2 : w13.heap[w.heap.size + 1 + 1]? = some (Obj.cells (cw 6 a2) 24) := heap_of hb13 _ _ _ R12_2
  have Q13_3 : w13.heap[w1.heap.size]? = some (Obj.cells (cw 6 s1) 24) := heap_of hb13 _ _ _ R12_3
  have Q13_4 : w13.heap[w2.heap.size]? = some (Obj.cells (cw 6 s1) 24) := heap_of hb13 _ _ _ R12_4
  have Q13_5 : w13.heap[w3.heap.size]? = some (Obj.cells (cw 6 s2) 24) := heap_of hb13 _ _ _ R12_5
  have Q13_6 : w13.heap[w4.heap.size]? = some (Obj.cells (cw 6 s3) 24) := heap_of hb13 _ _ _ R12_6
  have Q13_7 : w13.heap[w5.heap.size]? = some (Obj.cells (cw 6 s2) 24) := heap_of hb13 _ _ _ R12_7
  have Q13_8 : w13.heap[w6.heap.size]? = some (Obj.cells (cw 6 p) 24) := heap_of hb13 _ _ _ R12_8
  have Q13_9 : w13.heap[w7.heap.size]? = some (Obj.cells (cw 6 q) 24) := heap_of hb13 _ _ _ R12_9
  have Q13_10 : w13.heap[w8.heap.size]? = some (Obj.cells (cw 6 r) 24) := heap_of hb13 _ _ _ R12_10
  have Q13_11 : w13.heap[w9.heap.size]? = some (Obj.cells (cw 6 p) 24) := heap_of hb13 _ _ _ R12_11
  have Q13_12 : w13.heap[w10.heap.size]? = some (Obj.cells (cw 6 q) 24) := heap_of hb13 _ _ _ R12_12
  have Q13_13 : w13.heap[w11.heap.size]? = some (Obj.cells (cw 6 t) 24) := heap_of hb13 _ _ _ R12_13
  have Q13_14 : w13.heap[w12.heap.size]? = some (Obj.cells (cw 6 u) 24) := heap_of hb13 _ _ _ R12_14
  have C13 : Below w.heap.size w w13 := B12.trans (hb13.mono B12.size)
  clear hb13 B12 R12_0 R12_1 R12_2 R12_3 R12_4 R12_5 R12_6 R12_7 R12_8 R12_9 R12_10 R12_11 R12_12 R12_13 R12_14
  clear c12_0 s12_0 c12_1 s12_1 c12_2 s12_2 c12_3 s12_3 c12_4 s12_4 c12_5 s12_5 c12_6 s12_6 c12_7 s12_7 c12_8 s12_8 c12_9 s12_9 c12_10 s12_10 c12_11 s12_11 c12_12 s12_12 c12_13 s12_13
  have c13_0 := row_cell Q13_0
  have s13_0 : w.heap.size < w13.heap.size := (Array.getElem?_eq_some_iff.1 Q13_0).1
  have c13_1 := row_cell Q13_1
  have s13_1 : w.heap.size + 1 < w13.heap.size := (Array.getElem?_eq_some_iff.1 Q13_1).1
  have c13_2 := row_cell Q13_2
  have s13_2 : w.heap.size + 1 + 1 < w13.heap.size := (Array.getElem?_eq_some_iff.1 Q13_2).1
  have c13_3 := row_cell Q13_3
  have s13_3 : w1.heap.size < w13.heap.size := (Array.getElem?_eq_some_iff.1 Q13_3).1
  have c13_4 := row_cell Q13_4
  have s13_4 : w2.heap.size < w13.heap.size := (Array.getElem?_eq_some_iff.1 Q13_4).1
  have c13_5 := row_cell Q13_5
  have s13_5 : w3.heap.size < w13.heap.size := (Array.getElem?_eq_some_iff.1 Q13_5).1
  have c13_6 := row_cell Q13_6
  have s13_6 : w4.heap.size < w13.heap.size := (Array.getElem?_eq_some_iff.1 Q13_6).1
  have c13_7 := row_cell Q13_7
  have s13_7 : w5.heap.size < w13.heap.size := (Array.getElem?_eq_some_iff.1 Q13_7).1
  have c13_8 := row_cell Q13_8
  have s13_8 : w6.heap.size < w13.heap.size := (Array.getElem?_eq_some_iff.1 Q13_8).1
  have c13_9 := row_cell Q13_9
  have s13_9 : w7.heap.size < w13.heap.size := (Array.getElem?_eq_some_iff.1 Q13_9).1
  have c13_10 := row_cell Q13_10
  have s13_10 : w8.heap.size < w13.heap.size := (Array.getElem?_eq_some_iff.1 Q13_10).1
  have c13_11 := row_cell Q13_11
  have s13_11 : w9.heap.size < w13.heap.size := (Array.getElem?_eq_some_iff.1 Q13_11).1
  have c13_12 := row_cell Q13_12
  have s13_12 : w10.heap.size < w13.heap.size := (Array.getElem?_eq_some_iff.1 Q13_12).1
  have c13_13 := row_cell Q13_13
  have s13_13 : w11.heap.size < w13.heap.size := (Array.getElem?_eq_some_iff.1 Q13_13).1
  have c13_14 := row_cell Q13_14
  have s13_14 : w12.heap.size < w13.heap.size := (Array.getElem?_eq_some_iff.1 Q13_14).1
  go_wp2_with fail
  have R13_0 : (w13.alloc (Obj.cells (cw 6 t) 24)).heap[w.heap.size]? = some (Obj.cells (cw 6 a0) 24) := by rw [heap_below _ _ _ s13_0]; exact Q13_0
  have R13_1 : (w13.alloc (Obj.cells (cw 6 t) 24)).heap[w.heap.size + 1]? = some (Obj.cells (cw 6 a1) 24) := by rw [heap_below _ _ _ s13_1]; exact Q13_1
  have R13_2 : (w13.alloc (Obj.cells (cw 6 t) 24)).heap[w.heap.size + 1 + 1]? = some (Obj.cells (cw 6 a2) 24) := by rw [heap_below _ _ _ s13_2]; exact Q13_2
  have R13_3 : (w13.alloc (Obj.cells (cw 6 t) 24)).heap[w1.heap.size]? = some (Obj.cells (cw 6 s1) 24) := by rw [heap_below _ _ _ s13_3]; exact Q13_3
  have R13_4 : (w13.alloc (Obj.cells (cw 6 t) 24)).heap[w2.heap.size]? = some (Obj.cells (cw 6 s1) 24) := by rw [heap_below _ _ _ s13_4]; exact Q13_4
  have R13_5 : (w13.alloc (Obj.cells (cw 6 t) 24)).heap[w3.heap.size]? = some (Obj.cells (cw 6 s2) 24) := by rw [heap_below _ _ _ s13_5]; exact Q13_5
  have R13_6 : (w13.alloc (Obj.cells (cw 6 t) 24)).heap[w4.heap.size]? = some (Obj.cells (cw 6 s3) 24) := by rw [heap_below _ _ _ s13_6]; exact Q13_6
  have R13_7 : (w13.alloc (Obj.cells (cw 6 t) 24)).heap[w5.heap.size]? = some (Obj.cells (cw 6 s2) 24) := by rw [heap_below _ _ _ s13_7]; exact Q13_7
  have R13_8 : (w13.alloc (Obj.cells (cw 6 t) 24)).heap[w6.heap.size]? = some (Obj.cells (cw 6 p) 24) := by rw [heap_below _ _ _ s13_8]; exact Q13_8
  have R13_9 : (w13.alloc (Obj.cells (cw 6 t) 24)).heap[w7.heap.size]? = some (Obj.cells (cw 6 q) 24) := by rw [heap_below _ _ _ s13_9]; exact Q13_9
  have R13_10 : (w13.alloc (Obj.cells (cw 6 t) 24)).heap[w8.heap.size]? = some (Obj.cells (cw 6 r) 24) := by rw [heap_below _ _ _ s13_10]; exact Q13_10
  have R13_11 : (w13.alloc (Obj.cells (cw 6 t) 24)).heap[w9.heap.size]? = some (Obj.cells (cw 6 p) 24) := by rw [heap_below _ _ _ s13_11]; exact Q13_11
  have R13_12 : (w13.alloc (Obj.cells (cw 6 t) 24)).heap[w10.heap.size]? = some (Obj.cells (cw 6 q) 24) := by rw [heap_below _ _ _ s13_12]; exact Q13_12
  have R13_13 : (w13.alloc (Obj.cells (cw 6 t) 24)).heap[w11.heap.size]? = some (Obj.cells (cw 6 t) 24) := by rw [heap_below _ _ _ s13_13]; exact Q13_13
  have R13_14 : (w13.alloc (Obj.cells (cw 6 t) 24)).heap[w12.heap.size]? = some (Obj.cells (cw 6 u) 24) := by rw [heap_below _ _ _ s13_14]; exact Q13_14
  have R13_15 : (w13.alloc (Obj.cells (cw 6 t) 24)).heap[w13.heap.size]? = some (Obj.cells (cw 6 t) 24) := heap_alloc_last _ _
  have B13 : Below w.heap.size w (w13.alloc (Obj.cells (cw 6 t) 24)) := C13.alloc C13.size _
  clear C13 Q13_0 Q13_1 Q13_2 Q13_3 Q13_4 Q13_5 Q13_6 Q13_7 Q13_8 Q13_9 Q13_10 Q13_11 Q13_12 Q13_13 Q13_14
  refine (wsub_is s1 a1 a0 _ (by assumption) (by assumption) (E14.out) rfl _).mono ?_
  rintro e w14 ⟨rfl, hb14⟩
  have Q14_0 : w14.heap[w.heap.size]? = some (Obj.cells (cw 6 a0) 24) := heap_of hb14 _ _ _ R13_0
  have Q14_1 : w14.heap[w.heap.size + 1]? = some (Obj.cells (cw 6 a1) 24) := heap_of hb14 _ _ _ R13_1
  have Q14_2 : w14.heap[w.heap.size + 1 + 1]? = some (Obj.cells (cw 6 a2) 24) := heap_of hb14 _ _ _ R13_2
  have Q14_3 : w14.heap[w1.heap.size]? = some (Obj.cells (cw 6 s1) 24) := heap_of hb14 _ _ _ R13_3
  have Q14_4 : w14.heap[w2.heap.size]? = some (Obj.cells (cw 6 s1) 24) := heap_of hb14 _ _ _ R13_4
  have Q14_5 : w14.heap[w3.heap.size]? = some (Obj.cells (cw 6 s2) 24) := heap_of hb14 _ _ _ R13_5
  have Q14_6 : w14.heap[w4.heap.size]? = some (Obj.cells (cw 6 s3) 24) := heap_of hb14 _ _ _ R13_6
  have Q14_7 : w14.heap[w5.heap.size]? = some (Obj.cells (cw 6 s2) 24) := heap_of hb14 _ _ _ R13_7
  have Q14_8 : w14.heap[w6.heap.size]? = some (Obj.cells (cw 6 p) 24) := heap_of hb14 _ _ _ R13_8
  have Q14_9 : w14.heap[w7.heap.size]? = some (Obj.cells (cw 6 q) 24) := heap_of hb14 _ _ _ R13_9
  have Q14_10 : w14.heap[w8.heap.size]? = some (Obj.cells (cw 6 r) 24) := heap_of hb14 _ _ _ R13_10
  have Q14_11 : w14.heap[w9.heap.size]? = some (Obj.cells (cw 6 p) 24) := heap_of hb14 _ _ _ R13_11
  have Q14_12 : w14.heap[w10.heap.size]? = some (Obj.cells (cw 6 q) 24) := heap_of hb14 _ _ _ R13_12
  have Q14_13 : w14.heap[w11.heap.size]? = some (Obj.cells (cw 6 t) 24) := heap_of hb14 _ _ _ R13_13
  have Q14_14 : w14.heap[w12.heap.size]? = some (Obj.cells (cw 6 u) 24) := heap_of hb14 _ _ _ R13_14
  have Q14_15 : w14.heap[w13.heap.size]? = some (Obj.cells (cw 6 t) 24) := heap_of hb14 _ _ _ R13_15
  have C14 : Below w.heap.size w w14 := B13.trans (hb14.mono B13.size)
  clear hb14 B13 R13_0 R13_1 R13_2 R13_3 R13_4 R13_5 R13_6 R13_7 R13_8 R13_9 R13_10 R13_11 R13_12 R13_13 R13_14 R13_15
  clear c13_0 s13_0 c13_1 s13_1 c13_2 s13_2 c13_3 s13_3 c13_4 s13_4 c13_5 s13_5 c13_6 s13_6 c13_7 s13_7 c13_8 s13_8 c13_9 s13_9 c13_10 s13_10 c13_11 s13_11 c13_12 s13_12 c13_13 s13_13 c13_14 s13_14
  have c14_0 := row_cell Q14_0
  have s14_0 : w.heap.size < w14.heap.size := (Array.getElem?_eq_some_iff.1 Q14_0).1
  have c14_1 := row_cell Q14_1
  have s14_1 : w.heap.size + 1 < w14.heap.size := (Array.getElem?_eq_some_iff.1 Q14_1).1
  have c14_2 := row_cell Q14_2
  have s14_2 : w.heap.size + 1 + 1 < w14.heap.size := (Array.getElem?_eq_some_iff.1 Q14_2).1
  have c14_3 := row_cell Q14_3
  have s14_3 : w1.heap.size < w14.heap.size := (Array.getElem?_eq_some_iff.1 Q14_3).1
  have c14_4 := row_cell Q14_4
  have s14_4 : w2.heap.size < w14.heap.size := (Array.getElem?_eq_some_iff.1 Q14_4).1
  have c14_5 := row_cell Q14_5
  have s14_5 : w3.heap.size < w14.heap.size := (Array.getElem?_eq_some_iff.1 Q14_5).1
  have c14_6 := row_cell Q14_6
  have s14_6 : w4.heap.size < w14.heap.size := (Array.getElem?_eq_some_iff.1 Q14_6).1
  have c14_7 := row_cell Q14_7
  have s14_7 : w5.heap.size < w14.heap.size := (Array.getElem?_eq_some_iff.1 Q14_7).1
  have c14_8 := row_cell Q14_8
  have s14_8 : w6.heap.size < w14.heap.size := (Array.getElem?_eq_some_iff.1 Q14_8).1
  have c14_9 := row_cell Q14_9
  have s14_9 : w7.heap.size < w14.heap.size := (Array.getElem?_eq_some_iff.1 Q14_9).1
  have c14_10 := row_cell Q14_10
  have s14_10 : w8.heap.size < w14.heap.size := (Array.getElem?_eq_some_iff.1 Q14_10).1
  have c14_11 := row_cell Q14_11
  have s14_11 : w9.heap.size < w14.heap.size := (Array.getElem?_eq_some_iff.1 Q14_11).1
  have c14_12 := row_cell Q14_12
  have s14_12 : w10.heap.size < w14.heap.size := (Array.getElem?_eq_some_iff.1 Q14_12).1
  have c14_13 := row_cell Q14_13
  have s14_13 : w11.heap.size < w14.heap.size := (Array.getElem?_eq_some_iff.1 Q14_13).1
  have c14_14 := row_cell Q14_14
  have s14_14 : w12.heap.size < w14.heap.size := (Array.getElem?_eq_some_iff.1 Q14_14).1
  have c14_15 := row_cell Q14_15
  have s14_15 : w13.heap.size < w14.heap.size := (Array.getElem?_eq_some_iff.1 Q14_15).1
  go_wp2_with fail
  have R14_0 : (w14.alloc (Obj.cells (cw 6 a0) 24)).heap[w.heap.size]? = some (Obj.cells (cw 6 a0) 24) := by rw [heap_below _ _ _ s14_0]; exact Q14_0
  have R14_1 : (w14.alloc (Obj.cells (cw 6 a0) 24)).heap[w.heap.size + 1]? = some (Obj.cells (cw 6 a1) 24) := by rw [heap_below _ _ _ s14_1]; exact Q14_1
  have R14_2 : (w14.alloc (Obj.cells (cw 6 a0) 24)).heap[w.heap.size + 1 + 1]? = some (Obj.cells (cw 6 a2) 24) := by rw [heap_below _ _ _ s14_2]; exact Q14_2
  have R14_3 : (w14.alloc (Obj.cells (cw 6 a0) 24)).heap[w1.heap.size]? = some (Obj.cells (cw 6 s1) 24) := by rw [heap_below _ _ _ s14_3]; exact Q14_3
  have R14_4 : (w14.alloc (Obj.cells (cw 6 a0) 24)).heap[w2.heap.size]? = some (Obj.cells (cw 6 s1) 24) := by rw [heap_below _ _ _ s14_4]; exact Q14_4
  have R14_5 : (w14.alloc (Obj.cells (cw 6 a0) 24)).heap[w3.heap.size]? = some (Obj.cells (cw 6 s2) 24) := by rw [heap_below _ _ _ s14_5]; exact Q14_5
  have R14_6 : (w14.alloc (Obj.cells (cw 6 a0) 24)).heap[w4.heap.size]? = some (Obj.cells (cw 6 s3) 24) := by rw [heap_below _ _ _ s14_6]; exact Q14_6
  have R14_7 : (w14.alloc (Obj.cells (cw 6 a0) 24)).heap[w5.heap.size]? = some (Obj.cells (cw 6 s2) 24) := by rw [heap_below _ _ _ s14_7]; exact Q14_7
  have R14_8 : (w14.alloc (Obj.cells (cw 6 a0) 24)).heap[w6.heap.size]? = some (Obj.cells (cw 6 p) 24) := by rw [heap_below _ _ _ s14_8]; exact Q14_8
  have R14_9 : (w14.alloc (Obj.cells (cw 6 a0) 24)).heap[w7.heap.size]? = some (Obj.cells (cw 6 q) 24) := by rw [heap_below _ _ _ s14_9]; exact Q14_9
  have R14_10 : (w14.alloc (Obj.cells (cw 6 a0) 24)).heap[w8.heap.size]? = some (Obj.cells (cw 6 r) 24) := by rw [heap_below _ _ _ s14_10]; exact Q14_10
  have R14_11 : (w14.alloc (Obj.cells (cw 6 a0) 24)).heap[w9.heap.size]? = some (Obj.cells (cw 6 p) 24) := by rw [heap_below _ _ _ s14_11]; exact Q14_11
  have R14_12 : (w14.alloc (Obj.cells (cw 6 a0) 24)).heap[w10.heap.size]? = some (Obj.cells (cw 6 q) 24) := by rw [heap_below _ _ _ s14_12]; exact Q14_12
  have R14_13 : (w14.alloc (Obj.cells (cw 6 a0) 24)).heap[w11.heap.size]? = some (Obj.cells (cw 6 t) 24) := by rw [heap_below _ _ _ s14_13]; exact Q14_13
  have R14_14 : (w14.alloc (Obj.cells (cw 6 a0) 24)).heap[w12.heap.size]? = some (Obj.cells (cw 6 u) 24) := by rw [heap_below _ _ _ s14_14]; exact Q14_14
  have R14_15 : (w14.alloc (Obj.cells (cw 6 a0) 24)).heap[w13.heap.size]? = some (Obj.cells (cw 6 t) 24) := by rw [heap_below _ _ _ s14_15]; exact Q14_15
  have R14_16 : (w14.alloc (Obj.cells (cw 6 a0) 24)).heap[w14.heap.size]? = some (Obj.cells (cw 6 a0) 24) := heap_alloc_last _ _
  have B14 : Below w.heap.size w (w14.alloc (Obj.cells (cw 6 a0) 24)) := C14.alloc C14.size _
  clear C14 Q14_0 Q14_1 Q14_2 Q14_3 Q14_4 Q14_5 Q14_6 Q14_7 Q14_8 Q14_9 Q14_10 Q14_11 Q14_12 Q14_13 Q14_14 Q14_15
  refine (walive_any _).mono ?_
  rintro e wz ⟨rfl, hbz⟩
  go_wp2
  go_ret
  exact ⟨rfl, B14.trans (hbz.mono B14.size)⟩

set_option maxRecDepth 100000 in
theorem lifted (os : Os) (started : os.Started) (H : Type) (enc : TypeId × Value → H) :
    ReturnsInHanded {} Try.checked os 3 .any (Rows.wideRingSpec.pre6 enc Try.prog Try.f3 Rows.wideRingRow.domain false) (Rows.wideRingSpec.post enc Try.prog Try.f3 false true false false) := by
  refine returnsInHanded_of_change (C := Try.checked) own started (by kernel_rfl) Try.func3
    (ChangeSpec.witness6 (enc := enc) (C := Try.checked) false ⟨#[], #[.agg #[.int .u64 0, .int .u64 0, .int .u64 0, .int .u64 0, .int .u64 0, .int .u64 0], .agg #[.int .u64 0, .int .u64 0, .int .u64 0, .int .u64 0, .int .u64 0, .int .u64 0], .agg #[.int .u64 0, .int .u64 0, .int .u64 0, .int .u64 0, .int .u64 0, .int .u64 0]], []⟩ 8 (by kernel_rfl) (by kernel_rfl) (by kernel_rfl) (by kernel_rfl)) ?_
  intro W base args ds gs before hval0 hW hcnd _
  have hval : ∀ (j : Nat) t v, Try.f3.params[j]? = some t → args[j]? = some v → Value.okWide Try.prog W .any base t v := hval0
  have hW' := hW
  obtain ⟨p, q, hA0, hV, rfl, hfz, hnd⟩ := hW
  have hA : DataW.TrodAll enc Try.prog W 0 (fun _ => true) true Try.f3.params.toList args.toList ds p := hA0
  rw [Try.params3] at hA hval
  obtain ⟨v0, vs0, d0, ds0, p0, q0, hargs, rfl, rfl, k0, r0⟩ := trodAll_cons hA
  obtain ⟨v1, vs1, d1, ds1, p1, q1, rfl, rfl, rfl, k1, r1⟩ := trodAll_cons r0
  obtain ⟨v2, vs2, d2, ds2, p2, q2, rfl, rfl, rfl, k2, r2⟩ := trodAll_cons r1
  obtain ⟨rfl, rfl, rfl⟩ := trodAll_nil r2
  obtain rfl : args = #[v0, v1, v2] := by cases args; simp_all
  obtain ⟨rfl, rfl⟩ := trodVars_none hV
  obtain ⟨a0, h0, rfl, rfl, rfl⟩ := open_w6 (hval 0 24 v0 rfl rfl) k0
  obtain ⟨a1, h1, rfl, rfl, rfl⟩ := open_w6 (hval 1 24 v1 rfl rfl) k1
  obtain ⟨a2, h2, rfl, rfl, rfl⟩ := open_w6 (hval 2 24 v2 rfl rfl) k2
  clear hA0 hval0
  simp only [List.append_nil] at hW'
  refine (walk a0 a1 a2 h0 h1 h2 W).mono fun e W' ⟨he, hg⟩ => ?_
  subst he
  exact ⟨_, rfl, post_plain hW' (fun _ _ _ => (trodAll_cons_mk (shut_bool Try.underlying4 _) trodAll_mk0)) (fun sp => (trodAll_cons_mk (shut_w6 a0) (trodAll_cons_mk (shut_w6 a1) (trodAll_cons_mk (shut_w6 a2) trodAll_mk0)))) (fun _ => rfl) hg (ok_one (by kernel_rfl) rfl (okWide_bool_mk Try.underlying4 _))⟩

theorem over : Rows.wideRingRow.holds Try.pinned (OpenSpec.ofChange Rows.wideRingSpec) :=
  OpenClaim.holds_of_wide 3 Try.f3 rfl rfl rfl rfl rfl rfl rfl ⟨rfl, rfl, rfl, rfl, rfl⟩ rfl rfl rfl rfl rfl (by kernel_rfl) Try.func3 (by kernel_rfl)
    (of_decide_eq_true (by kernel_rfl)) (by unfold Func.isWrapper; first | (rw [if_pos (by decide +kernel)]; kernel_rfl) | (rw [if_neg (by decide +kernel)]; exact ⟨rfl, rfl⟩))
    (fun os started H enc _ => lifted os started H enc)

theorem proved : Rows.WideRingSaid :=
  over
#print axioms proved
end Go.Proofs.Ytfofonnoheijjab.wideRing
