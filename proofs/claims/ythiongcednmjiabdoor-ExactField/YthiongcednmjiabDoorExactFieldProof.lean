/-
  ExactField returns true for every three exact numbers, whether they may be or not: a field's laws.
-/
import Derived.Test.YthiongcednmjiabDoorRows
import Derived.Test.YthiongcednmjiabDoorTie
import Derived.Test.YthiongcednmjiabDoorCards
import Derived.WalkKit
import Derived.ProofKit
import Derived.OpenShut
import Derived.LaidMore
import Derived.Stop.Joined
import Derived.Lib.LaidTab
import Derived.SevenTiedAt
import Derived.Test.YthiongcednmjiabDoorFrame6
import Derived.Test.YthiongcednmjiabDoorXL
import Derived.Test.YthiongcednmjiabDoorXF
import Derived.Test.YthiongcednmjiabDoorX8
import Derived.Test.YthiongcednmjiabDoorX13
import Derived.Test.YthiongcednmjiabDoorFrameX
namespace Go.Proofs.YthiongcednmjiabDoor.exactField
open WMath XMath
open Go.ChangeShapes Go.WideShapes Go.ChangeAt Go.RowKit
set_option linter.unusedVariables false

theorem own : ownKnob Tryd.prog.godebug = none := by kernel_rfl

set_option maxRecDepth 100000 in
set_option maxHeartbeats 4000000 in
theorem walk (b0 : Bool) (s0 t0 : ByteArray) (e0 : Int) (vb1 : Bool) (vs1 vt1 : ByteArray) (ve1 : Int) (vb2 : Bool) (vs2 vt2 : ByteArray) (ve2 : Int) (h0 : s0.size ≤ maxLen ∧ t0.size ≤ maxLen ∧ (Lit.int .i64 e0).wf = true) (h1 : vs1.size ≤ maxLen ∧ vt1.size ≤ maxLen ∧ (Lit.int .i64 ve1).wf = true) (h2 : vs2.size ≤ maxLen ∧ vt2.size ≤ maxLen ∧ (Lit.int .i64 ve2).wf = true) (w : World) (hT : TabAt w) :
    Calls Tryd.prog 3 #[.agg #[.bool b0, .string s0, .string t0, .int .i64 e0], .agg #[.bool vb1, .string vs1, .string vt1, .int .i64 ve1], .agg #[.bool vb2, .string vs2, .string vt2, .int .i64 ve2]] w fun e w' => e = .returned (.bool true) ∧ Below w.heap.size w w' := by
  have TT := box hT
  clear hT
  obtain ⟨o0, ho0⟩ : ∃ o, (decide (s0.size ≤ 20) && decide (t0.size ≤ 20)) = o := ⟨_, rfl⟩
  have H0 := box ho0
  obtain ⟨o1, ho1⟩ : ∃ o, (decide (vs1.size ≤ 20) && decide (vt1.size ≤ 20)) = o := ⟨_, rfl⟩
  have H1 := box ho1
  obtain ⟨o2, ho2⟩ : ∃ o, (decide (vs2.size ≤ 20) && decide (vt2.size ≤ 20)) = o := ⟨_, rfl⟩
  have H2 := box ho2
  obtain ⟨m0, hm0⟩ : ∃ o, IsM o b0 s0 t0 e0 := by
    by_cases h : MayX b0 s0 t0 e0
    · exact ⟨true, ⟨fun _ => h, fun _ => rfl⟩⟩
    · exact ⟨false, may_no h⟩
  have M0 := box hm0
  obtain ⟨m1, hm1⟩ : ∃ o, IsM o vb1 vs1 vt1 ve1 := by
    by_cases h : MayX vb1 vs1 vt1 ve1
    · exact ⟨true, ⟨fun _ => h, fun _ => rfl⟩⟩
    · exact ⟨false, may_no h⟩
  have M1 := box hm1
  obtain ⟨m2, hm2⟩ : ∃ o, IsM o vb2 vs2 vt2 ve2 := by
    by_cases h : MayX vb2 vs2 vt2 ve2
    · exact ⟨true, ⟨fun _ => h, fun _ => rfl⟩⟩
    · exact ⟨false, may_no h⟩
  have M2 := box hm2
  clear h0 h1 h2
  cases o0
  · clear ho0 ho1 ho2 hm0 hm1 hm2
    have Rx_0 : (((w.alloc (Obj.cells #[.bool b0, .string s0, .string t0, .int .i64 e0] 24)).alloc (Obj.cells #[.bool vb1, .string vs1, .string vt1, .int .i64 ve1] 24)).alloc (Obj.cells #[.bool vb2, .string vs2, .string vt2, .int .i64 ve2] 24)).heap[w.heap.size]? = some (Obj.cells #[.bool b0, .string s0, .string t0, .int .i64 e0] 24) := by rw [heap_below _ _ _ (by simp only [size_al]; omega), heap_below _ _ _ (by simp only [size_al]; omega)]; have := heap_alloc_last w (Obj.cells #[.bool b0, .string s0, .string t0, .int .i64 e0] 24); simpa only [size_al] using this
    have Ry_0 : (((w.alloc (Obj.cells #[.bool b0, .string s0, .string t0, .int .i64 e0] 24)).alloc (Obj.cells #[.bool vb1, .string vs1, .string vt1, .int .i64 ve1] 24)).alloc (Obj.cells #[.bool vb2, .string vs2, .string vt2, .int .i64 ve2] 24)).heap[w.heap.size + 1]? = some (Obj.cells #[.bool vb1, .string vs1, .string vt1, .int .i64 ve1] 24) := by rw [heap_below _ _ _ (by simp only [size_al]; omega)]; have := heap_alloc_last (w.alloc (Obj.cells #[.bool b0, .string s0, .string t0, .int .i64 e0] 24)) (Obj.cells #[.bool vb1, .string vs1, .string vt1, .int .i64 ve1] 24); simpa only [size_al] using this
    have Rz_0 : (((w.alloc (Obj.cells #[.bool b0, .string s0, .string t0, .int .i64 e0] 24)).alloc (Obj.cells #[.bool vb1, .string vs1, .string vt1, .int .i64 ve1] 24)).alloc (Obj.cells #[.bool vb2, .string vs2, .string vt2, .int .i64 ve2] 24)).heap[w.heap.size + 1 + 1]? = some (Obj.cells #[.bool vb2, .string vs2, .string vt2, .int .i64 ve2] 24) := by have := heap_alloc_last ((w.alloc (Obj.cells #[.bool b0, .string s0, .string t0, .int .i64 e0] 24)).alloc (Obj.cells #[.bool vb1, .string vs1, .string vt1, .int .i64 ve1] 24)) (Obj.cells #[.bool vb2, .string vs2, .string vt2, .int .i64 ve2] 24); simpa only [size_al] using this
    have B0 : Below w.heap.size w (((w.alloc (Obj.cells #[.bool b0, .string s0, .string t0, .int .i64 e0] 24)).alloc (Obj.cells #[.bool vb1, .string vs1, .string vt1, .int .i64 ve1] 24)).alloc (Obj.cells #[.bool vb2, .string vs2, .string vt2, .int .i64 ve2] 24)) := ((((Below.refl _ _).alloc (by first | omega | (simp only [size_al]; omega)) _).alloc (by first | omega | (simp only [size_al]; omega)) _).alloc (by first | omega | (simp only [size_al]; omega)) _)
    go_enter Tryd.func3, Tryd.ntmps3
    go_wp2_with fail
    refine (xshort b0 s0 t0 e0 20 20 false rfl H0.out _).mono ?_
    rintro r w1 ⟨rfl, b1⟩
    have B1 : Below w.heap.size w w1 := btr B0 b1
    have Rx_1 : w1.heap[w.heap.size]? = some (Obj.cells #[.bool b0, .string s0, .string t0, .int .i64 e0] 24) := heap_of b1 _ _ _ Rx_0
    have Ry_1 : w1.heap[w.heap.size + 1]? = some (Obj.cells #[.bool vb1, .string vs1, .string vt1, .int .i64 ve1] 24) := heap_of b1 _ _ _ Ry_0
    have Rz_1 : w1.heap[w.heap.size + 1 + 1]? = some (Obj.cells #[.bool vb2, .string vs2, .string vt2, .int .i64 ve2] 24) := heap_of b1 _ _ _ Rz_0
    clear b1 B0 Rx_0 Ry_0 Rz_0
    have cx_1_0 := cells4 Rx_1 0 _ rfl
    have cx_1_1 := cells4 Rx_1 1 _ rfl
    have cx_1_2 := cells4 Rx_1 2 _ rfl
    have cx_1_3 := cells4 Rx_1 3 _ rfl
    have cy_1_0 := cells4 Ry_1 0 _ rfl
    have cy_1_1 := cells4 Ry_1 1 _ rfl
    have cy_1_2 := cells4 Ry_1 2 _ rfl
    have cy_1_3 := cells4 Ry_1 3 _ rfl
    have cz_1_0 := cells4 Rz_1 0 _ rfl
    have cz_1_1 := cells4 Rz_1 1 _ rfl
    have cz_1_2 := cells4 Rz_1 2 _ rfl
    have cz_1_3 := cells4 Rz_1 3 _ rfl
    go_wp2_with fail
    refine (xalive _ (tabB TT.out B1)).mono ?_
    rintro r w2 ⟨rfl, b2⟩
    have B2 : Below w.heap.size w w2 := btr B1 b2
    have Rx_2 : w2.heap[w.heap.size]? = some (Obj.cells #[.bool b0, .string s0, .string t0, .int .i64 e0] 24) := heap_of b2 _ _ _ Rx_1
    have Ry_2 : w2.heap[w.heap.size + 1]? = some (Obj.cells #[.bool vb1, .string vs1, .string vt1, .int .i64 ve1] 24) := heap_of b2 _ _ _ Ry_1
    have Rz_2 : w2.heap[w.heap.size + 1 + 1]? = some (Obj.cells #[.bool vb2, .string vs2, .string vt2, .int .i64 ve2] 24) := heap_of b2 _ _ _ Rz_1
    clear b2 B1 Rx_1 cx_1_0 cx_1_1 cx_1_2 cx_1_3 Ry_1 cy_1_0 cy_1_1 cy_1_2 cy_1_3 Rz_1 cz_1_0 cz_1_1 cz_1_2 cz_1_3
    have cx_2_0 := cells4 Rx_2 0 _ rfl
    have cx_2_1 := cells4 Rx_2 1 _ rfl
    have cx_2_2 := cells4 Rx_2 2 _ rfl
    have cx_2_3 := cells4 Rx_2 3 _ rfl
    have cy_2_0 := cells4 Ry_2 0 _ rfl
    have cy_2_1 := cells4 Ry_2 1 _ rfl
    have cy_2_2 := cells4 Ry_2 2 _ rfl
    have cy_2_3 := cells4 Ry_2 3 _ rfl
    have cz_2_0 := cells4 Rz_2 0 _ rfl
    have cz_2_1 := cells4 Rz_2 1 _ rfl
    have cz_2_2 := cells4 Rz_2 2 _ rfl
    have cz_2_3 := cells4 Rz_2 3 _ rfl
    go_wp2
    go_ret
    exact ⟨rfl, B2⟩
  cases o1
  · clear ho0 ho1 ho2 hm0 hm1 hm2
    have Rx_0 : (((w.alloc (Obj.cells #[.bool b0, .string s0, .string t0, .int .i64 e0] 24)).alloc (Obj.cells #[.bool vb1, .string vs1, .string vt1, .int .i64 ve1] 24)).alloc (Obj.cells #[.bool vb2, .string vs2, .string vt2, .int .i64 ve2] 24)).heap[w.heap.size]? = some (Obj.cells #[.bool b0, .string s0, .string t0, .int .i64 e0] 24) := by rw [heap_below _ _ _ (by simp only [size_al]; omega), heap_below _ _ _ (by simp only [size_al]; omega)]; have := heap_alloc_last w (Obj.cells #[.bool b0, .string s0, .string t0, .int .i64 e0] 24); simpa only [size_al] using this
    have Ry_0 : (((w.alloc (Obj.cells #[.bool b0, .string s0, .string t0, .int .i64 e0] 24)).alloc (Obj.cells #[.bool vb1, .string vs1, .string vt1, .int .i64 ve1] 24)).alloc (Obj.cells #[.bool vb2, .string vs2, .string vt2, .int .i64 ve2] 24)).heap[w.heap.size + 1]? = some (Obj.cells #[.bool vb1, .string vs1, .string vt1, .int .i64 ve1] 24) := by rw [heap_below _ _ _ (by simp only [size_al]; omega)]; have := heap_alloc_last (w.alloc (Obj.cells #[.bool b0, .string s0, .string t0, .int .i64 e0] 24)) (Obj.cells #[.bool vb1, .string vs1, .string vt1, .int .i64 ve1] 24); simpa only [size_al] using this
    have Rz_0 : (((w.alloc (Obj.cells #[.bool b0, .string s0, .string t0, .int .i64 e0] 24)).alloc (Obj.cells #[.bool vb1, .string vs1, .string vt1, .int .i64 ve1] 24)).alloc (Obj.cells #[.bool vb2, .string vs2, .string vt2, .int .i64 ve2] 24)).heap[w.heap.size + 1 + 1]? = some (Obj.cells #[.bool vb2, .string vs2, .string vt2, .int .i64 ve2] 24) := by have := heap_alloc_last ((w.alloc (Obj.cells #[.bool b0, .string s0, .string t0, .int .i64 e0] 24)).alloc (Obj.cells #[.bool vb1, .string vs1, .string vt1, .int .i64 ve1] 24)) (Obj.cells #[.bool vb2, .string vs2, .string vt2, .int .i64 ve2] 24); simpa only [size_al] using this
    have B0 : Below w.heap.size w (((w.alloc (Obj.cells #[.bool b0, .string s0, .string t0, .int .i64 e0] 24)).alloc (Obj.cells #[.bool vb1, .string vs1, .string vt1, .int .i64 ve1] 24)).alloc (Obj.cells #[.bool vb2, .string vs2, .string vt2, .int .i64 ve2] 24)) := ((((Below.refl _ _).alloc (by first | omega | (simp only [size_al]; omega)) _).alloc (by first | omega | (simp only [size_al]; omega)) _).alloc (by first | omega | (simp only [size_al]; omega)) _)
    go_enter Tryd.func3, Tryd.ntmps3
    go_wp2_with fail
    refine (xshort b0 s0 t0 e0 20 20 true rfl H0.out _).mono ?_
    rintro r w1 ⟨rfl, b1⟩
    have B1 : Below w.heap.size w w1 := btr B0 b1
    have Rx_1 : w1.heap[w.heap.size]? = some (Obj.cells #[.bool b0, .string s0, .string t0, .int .i64 e0] 24) := heap_of b1 _ _ _ Rx_0
    have Ry_1 : w1.heap[w.heap.size + 1]? = some (Obj.cells #[.bool vb1, .string vs1, .string vt1, .int .i64 ve1] 24) := heap_of b1 _ _ _ Ry_0
    have Rz_1 : w1.heap[w.heap.size + 1 + 1]? = some (Obj.cells #[.bool vb2, .string vs2, .string vt2, .int .i64 ve2] 24) := heap_of b1 _ _ _ Rz_0
    clear b1 B0 Rx_0 Ry_0 Rz_0
    have cx_1_0 := cells4 Rx_1 0 _ rfl
    have cx_1_1 := cells4 Rx_1 1 _ rfl
    have cx_1_2 := cells4 Rx_1 2 _ rfl
    have cx_1_3 := cells4 Rx_1 3 _ rfl
    have cy_1_0 := cells4 Ry_1 0 _ rfl
    have cy_1_1 := cells4 Ry_1 1 _ rfl
    have cy_1_2 := cells4 Ry_1 2 _ rfl
    have cy_1_3 := cells4 Ry_1 3 _ rfl
    have cz_1_0 := cells4 Rz_1 0 _ rfl
    have cz_1_1 := cells4 Rz_1 1 _ rfl
    have cz_1_2 := cells4 Rz_1 2 _ rfl
    have cz_1_3 := cells4 Rz_1 3 _ rfl
    go_wp2_with fail
    refine (xshort vb1 vs1 vt1 ve1 20 20 false rfl H1.out _).mono ?_
    rintro r w2 ⟨rfl, b2⟩
    have B2 : Below w.heap.size w w2 := btr B1 b2
    have Rx_2 : w2.heap[w.heap.size]? = some (Obj.cells #[.bool b0, .string s0, .string t0, .int .i64 e0] 24) := heap_of b2 _ _ _ Rx_1
    have Ry_2 : w2.heap[w.heap.size + 1]? = some (Obj.cells #[.bool vb1, .string vs1, .string vt1, .int .i64 ve1] 24) := heap_of b2 _ _ _ Ry_1
    have Rz_2 : w2.heap[w.heap.size + 1 + 1]? = some (Obj.cells #[.bool vb2, .string vs2, .string vt2, .int .i64 ve2] 24) := heap_of b2 _ _ _ Rz_1
    clear b2 B1 Rx_1 cx_1_0 cx_1_1 cx_1_2 cx_1_3 Ry_1 cy_1_0 cy_1_1 cy_1_2 cy_1_3 Rz_1 cz_1_0 cz_1_1 cz_1_2 cz_1_3
    have cx_2_0 := cells4 Rx_2 0 _ rfl
    have cx_2_1 := cells4 Rx_2 1 _ rfl
    have cx_2_2 := cells4 Rx_2 2 _ rfl
    have cx_2_3 := cells4 Rx_2 3 _ rfl
    have cy_2_0 := cells4 Ry_2 0 _ rfl
    have cy_2_1 := cells4 Ry_2 1 _ rfl
    have cy_2_2 := cells4 Ry_2 2 _ rfl
    have cy_2_3 := cells4 Ry_2 3 _ rfl
    have cz_2_0 := cells4 Rz_2 0 _ rfl
    have cz_2_1 := cells4 Rz_2 1 _ rfl
    have cz_2_2 := cells4 Rz_2 2 _ rfl
    have cz_2_3 := cells4 Rz_2 3 _ rfl
    go_wp2_with fail
    refine (xalive _ (tabB TT.out B2)).mono ?_
    rintro r w3 ⟨rfl, b3⟩
    have B3 : Below w.heap.size w w3 := btr B2 b3
    have Rx_3 : w3.heap[w.heap.size]? = some (Obj.cells #[.bool b0, .string s0, .string t0, .int .i64 e0] 24) := heap_of b3 _ _ _ Rx_2
    have Ry_3 : w3.heap[w.heap.size + 1]? = some (Obj.cells #[.bool vb1, .string vs1, .string vt1, .int .i64 ve1] 24) := heap_of b3 _ _ _ Ry_2
    have Rz_3 : w3.heap[w.heap.size + 1 + 1]? = some (Obj.cells #[.bool vb2, .string vs2, .string vt2, .int .i64 ve2] 24) := heap_of b3 _ _ _ Rz_2
    clear b3 B2 Rx_2 cx_2_0 cx_2_1 cx_2_2 cx_2_3 Ry_2 cy_2_0 cy_2_1 cy_2_2 cy_2_3 Rz_2 cz_2_0 cz_2_1 cz_2_2 cz_2_3
    have cx_3_0 := cells4 Rx_3 0 _ rfl
    have cx_3_1 := cells4 Rx_3 1 _ rfl
    have cx_3_2 := cells4 Rx_3 2 _ rfl
    have cx_3_3 := cells4 Rx_3 3 _ rfl
    have cy_3_0 := cells4 Ry_3 0 _ rfl
    have cy_3_1 := cells4 Ry_3 1 _ rfl
    have cy_3_2 := cells4 Ry_3 2 _ rfl
    have cy_3_3 := cells4 Ry_3 3 _ rfl
    have cz_3_0 := cells4 Rz_3 0 _ rfl
    have cz_3_1 := cells4 Rz_3 1 _ rfl
    have cz_3_2 := cells4 Rz_3 2 _ rfl
    have cz_3_3 := cells4 Rz_3 3 _ rfl
    go_wp2
    go_ret
    exact ⟨rfl, B3⟩
  cases o2
  · clear ho0 ho1 ho2 hm0 hm1 hm2
    have Rx_0 : (((w.alloc (Obj.cells #[.bool b0, .string s0, .string t0, .int .i64 e0] 24)).alloc (Obj.cells #[.bool vb1, .string vs1, .string vt1, .int .i64 ve1] 24)).alloc (Obj.cells #[.bool vb2, .string vs2, .string vt2, .int .i64 ve2] 24)).heap[w.heap.size]? = some (Obj.cells #[.bool b0, .string s0, .string t0, .int .i64 e0] 24) := by rw [heap_below _ _ _ (by simp only [size_al]; omega), heap_below _ _ _ (by simp only [size_al]; omega)]; have := heap_alloc_last w (Obj.cells #[.bool b0, .string s0, .string t0, .int .i64 e0] 24); simpa only [size_al] using this
    have Ry_0 : (((w.alloc (Obj.cells #[.bool b0, .string s0, .string t0, .int .i64 e0] 24)).alloc (Obj.cells #[.bool vb1, .string vs1, .string vt1, .int .i64 ve1] 24)).alloc (Obj.cells #[.bool vb2, .string vs2, .string vt2, .int .i64 ve2] 24)).heap[w.heap.size + 1]? = some (Obj.cells #[.bool vb1, .string vs1, .string vt1, .int .i64 ve1] 24) := by rw [heap_below _ _ _ (by simp only [size_al]; omega)]; have := heap_alloc_last (w.alloc (Obj.cells #[.bool b0, .string s0, .string t0, .int .i64 e0] 24)) (Obj.cells #[.bool vb1, .string vs1, .string vt1, .int .i64 ve1] 24); simpa only [size_al] using this
    have Rz_0 : (((w.alloc (Obj.cells #[.bool b0, .string s0, .string t0, .int .i64 e0] 24)).alloc (Obj.cells #[.bool vb1, .string vs1, .string vt1, .int .i64 ve1] 24)).alloc (Obj.cells #[.bool vb2, .string vs2, .string vt2, .int .i64 ve2] 24)).heap[w.heap.size + 1 + 1]? = some (Obj.cells #[.bool vb2, .string vs2, .string vt2, .int .i64 ve2] 24) := by have := heap_alloc_last ((w.alloc (Obj.cells #[.bool b0, .string s0, .string t0, .int .i64 e0] 24)).alloc (Obj.cells #[.bool vb1, .string vs1, .string vt1, .int .i64 ve1] 24)) (Obj.cells #[.bool vb2, .string vs2, .string vt2, .int .i64 ve2] 24); simpa only [size_al] using this
    have B0 : Below w.heap.size w (((w.alloc (Obj.cells #[.bool b0, .string s0, .string t0, .int .i64 e0] 24)).alloc (Obj.cells #[.bool vb1, .string vs1, .string vt1, .int .i64 ve1] 24)).alloc (Obj.cells #[.bool vb2, .string vs2, .string vt2, .int .i64 ve2] 24)) := ((((Below.refl _ _).alloc (by first | omega | (simp only [size_al]; omega)) _).alloc (by first | omega | (simp only [size_al]; omega)) _).alloc (by first | omega | (simp only [size_al]; omega)) _)
    go_enter Tryd.func3, Tryd.ntmps3
    go_wp2_with fail
    refine (xshort b0 s0 t0 e0 20 20 true rfl H0.out _).mono ?_
    rintro r w1 ⟨rfl, b1⟩
    have B1 : Below w.heap.size w w1 := btr B0 b1
    have Rx_1 : w1.heap[w.heap.size]? = some (Obj.cells #[.bool b0, .string s0, .string t0, .int .i64 e0] 24) := heap_of b1 _ _ _ Rx_0
    have Ry_1 : w1.heap[w.heap.size + 1]? = some (Obj.cells #[.bool vb1, .string vs1, .string vt1, .int .i64 ve1] 24) := heap_of b1 _ _ _ Ry_0
    have Rz_1 : w1.heap[w.heap.size + 1 + 1]? = some (Obj.cells #[.bool vb2, .string vs2, .string vt2, .int .i64 ve2] 24) := heap_of b1 _ _ _ Rz_0
    clear b1 B0 Rx_0 Ry_0 Rz_0
    have cx_1_0 := cells4 Rx_1 0 _ rfl
    have cx_1_1 := cells4 Rx_1 1 _ rfl
    have cx_1_2 := cells4 Rx_1 2 _ rfl
    have cx_1_3 := cells4 Rx_1 3 _ rfl
    have cy_1_0 := cells4 Ry_1 0 _ rfl
    have cy_1_1 := cells4 Ry_1 1 _ rfl
    have cy_1_2 := cells4 Ry_1 2 _ rfl
    have cy_1_3 := cells4 Ry_1 3 _ rfl
    have cz_1_0 := cells4 Rz_1 0 _ rfl
    have cz_1_1 := cells4 Rz_1 1 _ rfl
    have cz_1_2 := cells4 Rz_1 2 _ rfl
    have cz_1_3 := cells4 Rz_1 3 _ rfl
    go_wp2_with fail
    refine (xshort vb1 vs1 vt1 ve1 20 20 true rfl H1.out _).mono ?_
    rintro r w2 ⟨rfl, b2⟩
    have B2 : Below w.heap.size w w2 := btr B1 b2
    have Rx_2 : w2.heap[w.heap.size]? = some (Obj.cells #[.bool b0, .string s0, .string t0, .int .i64 e0] 24) := heap_of b2 _ _ _ Rx_1
    have Ry_2 : w2.heap[w.heap.size + 1]? = some (Obj.cells #[.bool vb1, .string vs1, .string vt1, .int .i64 ve1] 24) := heap_of b2 _ _ _ Ry_1
    have Rz_2 : w2.heap[w.heap.size + 1 + 1]? = some (Obj.cells #[.bool vb2, .string vs2, .string vt2, .int .i64 ve2] 24) := heap_of b2 _ _ _ Rz_1
    clear b2 B1 Rx_1 cx_1_0 cx_1_1 cx_1_2 cx_1_3 Ry_1 cy_1_0 cy_1_1 cy_1_2 cy_1_3 Rz_1 cz_1_0 cz_1_1 cz_1_2 cz_1_3
    have cx_2_0 := cells4 Rx_2 0 _ rfl
    have cx_2_1 := cells4 Rx_2 1 _ rfl
    have cx_2_2 := cells4 Rx_2 2 _ rfl
    have cx_2_3 := cells4 Rx_2 3 _ rfl
    have cy_2_0 := cells4 Ry_2 0 _ rfl
    have cy_2_1 := cells4 Ry_2 1 _ rfl
    have cy_2_2 := cells4 Ry_2 2 _ rfl
    have cy_2_3 := cells4 Ry_2 3 _ rfl
    have cz_2_0 := cells4 Rz_2 0 _ rfl
    have cz_2_1 := cells4 Rz_2 1 _ rfl
    have cz_2_2 := cells4 Rz_2 2 _ rfl
    have cz_2_3 := cells4 Rz_2 3 _ rfl
    go_wp2_with fail
    refine (xshort vb2 vs2 vt2 ve2 20 20 false rfl H2.out _).mono ?_
    rintro r w3 ⟨rfl, b3⟩
    have B3 : Below w.heap.size w w3 := btr B2 b3
    have Rx_3 : w3.heap[w.heap.size]? = some (Obj.cells #[.bool b0, .string s0, .string t0, .int .i64 e0] 24) := heap_of b3 _ _ _ Rx_2
    have Ry_3 : w3.heap[w.heap.size + 1]? = some (Obj.cells #[.bool vb1, .string vs1, .string vt1, .int .i64 ve1] 24) := heap_of b3 _ _ _ Ry_2
    have Rz_3 : w3.heap[w.heap.size + 1 + 1]? = some (Obj.cells #[.bool vb2, .string vs2, .string vt2, .int .i64 ve2] 24) := heap_of b3 _ _ _ Rz_2
    clear b3 B2 Rx_2 cx_2_0 cx_2_1 cx_2_2 cx_2_3 Ry_2 cy_2_0 cy_2_1 cy_2_2 cy_2_3 Rz_2 cz_2_0 cz_2_1 cz_2_2 cz_2_3
    have cx_3_0 := cells4 Rx_3 0 _ rfl
    have cx_3_1 := cells4 Rx_3 1 _ rfl
    have cx_3_2 := cells4 Rx_3 2 _ rfl
    have cx_3_3 := cells4 Rx_3 3 _ rfl
    have cy_3_0 := cells4 Ry_3 0 _ rfl
    have cy_3_1 := cells4 Ry_3 1 _ rfl
    have cy_3_2 := cells4 Ry_3 2 _ rfl
    have cy_3_3 := cells4 Ry_3 3 _ rfl
    have cz_3_0 := cells4 Rz_3 0 _ rfl
    have cz_3_1 := cells4 Rz_3 1 _ rfl
    have cz_3_2 := cells4 Rz_3 2 _ rfl
    have cz_3_3 := cells4 Rz_3 3 _ rfl
    go_wp2_with fail
    refine (xalive _ (tabB TT.out B3)).mono ?_
    rintro r w4 ⟨rfl, b4⟩
    have B4 : Below w.heap.size w w4 := btr B3 b4
    have Rx_4 : w4.heap[w.heap.size]? = some (Obj.cells #[.bool b0, .string s0, .string t0, .int .i64 e0] 24) := heap_of b4 _ _ _ Rx_3
    have Ry_4 : w4.heap[w.heap.size + 1]? = some (Obj.cells #[.bool vb1, .string vs1, .string vt1, .int .i64 ve1] 24) := heap_of b4 _ _ _ Ry_3
    have Rz_4 : w4.heap[w.heap.size + 1 + 1]? = some (Obj.cells #[.bool vb2, .string vs2, .string vt2, .int .i64 ve2] 24) := heap_of b4 _ _ _ Rz_3
    clear b4 B3 Rx_3 cx_3_0 cx_3_1 cx_3_2 cx_3_3 Ry_3 cy_3_0 cy_3_1 cy_3_2 cy_3_3 Rz_3 cz_3_0 cz_3_1 cz_3_2 cz_3_3
    have cx_4_0 := cells4 Rx_4 0 _ rfl
    have cx_4_1 := cells4 Rx_4 1 _ rfl
    have cx_4_2 := cells4 Rx_4 2 _ rfl
    have cx_4_3 := cells4 Rx_4 3 _ rfl
    have cy_4_0 := cells4 Ry_4 0 _ rfl
    have cy_4_1 := cells4 Ry_4 1 _ rfl
    have cy_4_2 := cells4 Ry_4 2 _ rfl
    have cy_4_3 := cells4 Ry_4 3 _ rfl
    have cz_4_0 := cells4 Rz_4 0 _ rfl
    have cz_4_1 := cells4 Rz_4 1 _ rfl
    have cz_4_2 := cells4 Rz_4 2 _ rfl
    have cz_4_3 := cells4 Rz_4 3 _ rfl
    go_wp2
    go_ret
    exact ⟨rfl, B4⟩
  cases m0
  · clear ho0 ho1 ho2 hm0 hm1 hm2
    have Rx_0 : (((w.alloc (Obj.cells #[.bool b0, .string s0, .string t0, .int .i64 e0] 24)).alloc (Obj.cells #[.bool vb1, .string vs1, .string vt1, .int .i64 ve1] 24)).alloc (Obj.cells #[.bool vb2, .string vs2, .string vt2, .int .i64 ve2] 24)).heap[w.heap.size]? = some (Obj.cells #[.bool b0, .string s0, .string t0, .int .i64 e0] 24) := by rw [heap_below _ _ _ (by simp only [size_al]; omega), heap_below _ _ _ (by simp only [size_al]; omega)]; have := heap_alloc_last w (Obj.cells #[.bool b0, .string s0, .string t0, .int .i64 e0] 24); simpa only [size_al] using this
    have Ry_0 : (((w.alloc (Obj.cells #[.bool b0, .string s0, .string t0, .int .i64 e0] 24)).alloc (Obj.cells #[.bool vb1, .string vs1, .string vt1, .int .i64 ve1] 24)).alloc (Obj.cells #[.bool vb2, .string vs2, .string vt2, .int .i64 ve2] 24)).heap[w.heap.size + 1]? = some (Obj.cells #[.bool vb1, .string vs1, .string vt1, .int .i64 ve1] 24) := by rw [heap_below _ _ _ (by simp only [size_al]; omega)]; have := heap_alloc_last (w.alloc (Obj.cells #[.bool b0, .string s0, .string t0, .int .i64 e0] 24)) (Obj.cells #[.bool vb1, .string vs1, .string vt1, .int .i64 ve1] 24); simpa only [size_al] using this
    have Rz_0 : (((w.alloc (Obj.cells #[.bool b0, .string s0, .string t0, .int .i64 e0] 24)).alloc (Obj.cells #[.bool vb1, .string vs1, .string vt1, .int .i64 ve1] 24)).alloc (Obj.cells #[.bool vb2, .string vs2, .string vt2, .int .i64 ve2] 24)).heap[w.heap.size + 1 + 1]? = some (Obj.cells #[.bool vb2, .string vs2, .string vt2, .int .i64 ve2] 24) := by have := heap_alloc_last ((w.alloc (Obj.cells #[.bool b0, .string s0, .string t0, .int .i64 e0] 24)).alloc (Obj.cells #[.bool vb1, .string vs1, .string vt1, .int .i64 ve1] 24)) (Obj.cells #[.bool vb2, .string vs2, .string vt2, .int .i64 ve2] 24); simpa only [size_al] using this
    have B0 : Below w.heap.size w (((w.alloc (Obj.cells #[.bool b0, .string s0, .string t0, .int .i64 e0] 24)).alloc (Obj.cells #[.bool vb1, .string vs1, .string vt1, .int .i64 ve1] 24)).alloc (Obj.cells #[.bool vb2, .string vs2, .string vt2, .int .i64 ve2] 24)) := ((((Below.refl _ _).alloc (by first | omega | (simp only [size_al]; omega)) _).alloc (by first | omega | (simp only [size_al]; omega)) _).alloc (by first | omega | (simp only [size_al]; omega)) _)
    go_enter Tryd.func3, Tryd.ntmps3
    go_wp2_with fail
    refine (xshort b0 s0 t0 e0 20 20 true rfl H0.out _).mono ?_
    rintro r w1 ⟨rfl, b1⟩
    have B1 : Below w.heap.size w w1 := btr B0 b1
    have Rx_1 : w1.heap[w.heap.size]? = some (Obj.cells #[.bool b0, .string s0, .string t0, .int .i64 e0] 24) := heap_of b1 _ _ _ Rx_0
    have Ry_1 : w1.heap[w.heap.size + 1]? = some (Obj.cells #[.bool vb1, .string vs1, .string vt1, .int .i64 ve1] 24) := heap_of b1 _ _ _ Ry_0
    have Rz_1 : w1.heap[w.heap.size + 1 + 1]? = some (Obj.cells #[.bool vb2, .string vs2, .string vt2, .int .i64 ve2] 24) := heap_of b1 _ _ _ Rz_0
    clear b1 B0 Rx_0 Ry_0 Rz_0
    have cx_1_0 := cells4 Rx_1 0 _ rfl
    have cx_1_1 := cells4 Rx_1 1 _ rfl
    have cx_1_2 := cells4 Rx_1 2 _ rfl
    have cx_1_3 := cells4 Rx_1 3 _ rfl
    have cy_1_0 := cells4 Ry_1 0 _ rfl
    have cy_1_1 := cells4 Ry_1 1 _ rfl
    have cy_1_2 := cells4 Ry_1 2 _ rfl
    have cy_1_3 := cells4 Ry_1 3 _ rfl
    have cz_1_0 := cells4 Rz_1 0 _ rfl
    have cz_1_1 := cells4 Rz_1 1 _ rfl
    have cz_1_2 := cells4 Rz_1 2 _ rfl
    have cz_1_3 := cells4 Rz_1 3 _ rfl
    go_wp2_with fail
    refine (xshort vb1 vs1 vt1 ve1 20 20 true rfl H1.out _).mono ?_
    rintro r w2 ⟨rfl, b2⟩
    have B2 : Below w.heap.size w w2 := btr B1 b2
    have Rx_2 : w2.heap[w.heap.size]? = some (Obj.cells #[.bool b0, .string s0, .string t0, .int .i64 e0] 24) := heap_of b2 _ _ _ Rx_1
    have Ry_2 : w2.heap[w.heap.size + 1]? = some (Obj.cells #[.bool vb1, .string vs1, .string vt1, .int .i64 ve1] 24) := heap_of b2 _ _ _ Ry_1
    have Rz_2 : w2.heap[w.heap.size + 1 + 1]? = some (Obj.cells #[.bool vb2, .string vs2, .string vt2, .int .i64 ve2] 24) := heap_of b2 _ _ _ Rz_1
    clear b2 B1 Rx_1 cx_1_0 cx_1_1 cx_1_2 cx_1_3 Ry_1 cy_1_0 cy_1_1 cy_1_2 cy_1_3 Rz_1 cz_1_0 cz_1_1 cz_1_2 cz_1_3
    have cx_2_0 := cells4 Rx_2 0 _ rfl
    have cx_2_1 := cells4 Rx_2 1 _ rfl
    have cx_2_2 := cells4 Rx_2 2 _ rfl
    have cx_2_3 := cells4 Rx_2 3 _ rfl
    have cy_2_0 := cells4 Ry_2 0 _ rfl
    have cy_2_1 := cells4 Ry_2 1 _ rfl
    have cy_2_2 := cells4 Ry_2 2 _ rfl
    have cy_2_3 := cells4 Ry_2 3 _ rfl
    have cz_2_0 := cells4 Rz_2 0 _ rfl
    have cz_2_1 := cells4 Rz_2 1 _ rfl
    have cz_2_2 := cells4 Rz_2 2 _ rfl
    have cz_2_3 := cells4 Rz_2 3 _ rfl
    go_wp2_with fail
    refine (xshort vb2 vs2 vt2 ve2 20 20 true rfl H2.out _).mono ?_
    rintro r w3 ⟨rfl, b3⟩
    have B3 : Below w.heap.size w w3 := btr B2 b3
    have Rx_3 : w3.heap[w.heap.size]? = some (Obj.cells #[.bool b0, .string s0, .string t0, .int .i64 e0] 24) := heap_of b3 _ _ _ Rx_2
    have Ry_3 : w3.heap[w.heap.size + 1]? = some (Obj.cells #[.bool vb1, .string vs1, .string vt1, .int .i64 ve1] 24) := heap_of b3 _ _ _ Ry_2
    have Rz_3 : w3.heap[w.heap.size + 1 + 1]? = some (Obj.cells #[.bool vb2, .string vs2, .string vt2, .int .i64 ve2] 24) := heap_of b3 _ _ _ Rz_2
    clear b3 B2 Rx_2 cx_2_0 cx_2_1 cx_2_2 cx_2_3 Ry_2 cy_2_0 cy_2_1 cy_2_2 cy_2_3 Rz_2 cz_2_0 cz_2_1 cz_2_2 cz_2_3
    have cx_3_0 := cells4 Rx_3 0 _ rfl
    have cx_3_1 := cells4 Rx_3 1 _ rfl
    have cx_3_2 := cells4 Rx_3 2 _ rfl
    have cx_3_3 := cells4 Rx_3 3 _ rfl
    have cy_3_0 := cells4 Ry_3 0 _ rfl
    have cy_3_1 := cells4 Ry_3 1 _ rfl
    have cy_3_2 := cells4 Ry_3 2 _ rfl
    have cy_3_3 := cells4 Ry_3 3 _ rfl
    have cz_3_0 := cells4 Rz_3 0 _ rfl
    have cz_3_1 := cells4 Rz_3 1 _ rfl
    have cz_3_2 := cells4 Rz_3 2 _ rfl
    have cz_3_3 := cells4 Rz_3 3 _ rfl
    go_wp2_with fail
    refine (xmayM b0 s0 t0 e0 false M0.out _).mono ?_
    rintro r w4 ⟨rfl, b4⟩
    have B4 : Below w.heap.size w w4 := btr B3 b4
    have Rx_4 : w4.heap[w.heap.size]? = some (Obj.cells #[.bool b0, .string s0, .string t0, .int .i64 e0] 24) := heap_of b4 _ _ _ Rx_3
    have Ry_4 : w4.heap[w.heap.size + 1]? = some (Obj.cells #[.bool vb1, .string vs1, .string vt1, .int .i64 ve1] 24) := heap_of b4 _ _ _ Ry_3
    have Rz_4 : w4.heap[w.heap.size + 1 + 1]? = some (Obj.cells #[.bool vb2, .string vs2, .string vt2, .int .i64 ve2] 24) := heap_of b4 _ _ _ Rz_3
    clear b4 B3 Rx_3 cx_3_0 cx_3_1 cx_3_2 cx_3_3 Ry_3 cy_3_0 cy_3_1 cy_3_2 cy_3_3 Rz_3 cz_3_0 cz_3_1 cz_3_2 cz_3_3
    have cx_4_0 := cells4 Rx_4 0 _ rfl
    have cx_4_1 := cells4 Rx_4 1 _ rfl
    have cx_4_2 := cells4 Rx_4 2 _ rfl
    have cx_4_3 := cells4 Rx_4 3 _ rfl
    have cy_4_0 := cells4 Ry_4 0 _ rfl
    have cy_4_1 := cells4 Ry_4 1 _ rfl
    have cy_4_2 := cells4 Ry_4 2 _ rfl
    have cy_4_3 := cells4 Ry_4 3 _ rfl
    have cz_4_0 := cells4 Rz_4 0 _ rfl
    have cz_4_1 := cells4 Rz_4 1 _ rfl
    have cz_4_2 := cells4 Rz_4 2 _ rfl
    have cz_4_3 := cells4 Rz_4 3 _ rfl
    go_wp2_with fail
    refine (xalive _ (tabB TT.out B4)).mono ?_
    rintro r w5 ⟨rfl, b5⟩
    have B5 : Below w.heap.size w w5 := btr B4 b5
    have Rx_5 : w5.heap[w.heap.size]? = some (Obj.cells #[.bool b0, .string s0, .string t0, .int .i64 e0] 24) := heap_of b5 _ _ _ Rx_4
    have Ry_5 : w5.heap[w.heap.size + 1]? = some (Obj.cells #[.bool vb1, .string vs1, .string vt1, .int .i64 ve1] 24) := heap_of b5 _ _ _ Ry_4
    have Rz_5 : w5.heap[w.heap.size + 1 + 1]? = some (Obj.cells #[.bool vb2, .string vs2, .string vt2, .int .i64 ve2] 24) := heap_of b5 _ _ _ Rz_4
    clear b5 B4 Rx_4 cx_4_0 cx_4_1 cx_4_2 cx_4_3 Ry_4 cy_4_0 cy_4_1 cy_4_2 cy_4_3 Rz_4 cz_4_0 cz_4_1 cz_4_2 cz_4_3
    have cx_5_0 := cells4 Rx_5 0 _ rfl
    have cx_5_1 := cells4 Rx_5 1 _ rfl
    have cx_5_2 := cells4 Rx_5 2 _ rfl
    have cx_5_3 := cells4 Rx_5 3 _ rfl
    have cy_5_0 := cells4 Ry_5 0 _ rfl
    have cy_5_1 := cells4 Ry_5 1 _ rfl
    have cy_5_2 := cells4 Ry_5 2 _ rfl
    have cy_5_3 := cells4 Ry_5 3 _ rfl
    have cz_5_0 := cells4 Rz_5 0 _ rfl
    have cz_5_1 := cells4 Rz_5 1 _ rfl
    have cz_5_2 := cells4 Rz_5 2 _ rfl
    have cz_5_3 := cells4 Rz_5 3 _ rfl
    go_wp2
    go_ret
    exact ⟨rfl, B5⟩
  cases m1
  · clear ho0 ho1 ho2 hm0 hm1 hm2
    have Rx_0 : (((w.alloc (Obj.cells #[.bool b0, .string s0, .string t0, .int .i64 e0] 24)).alloc (Obj.cells #[.bool vb1, .string vs1, .string vt1, .int .i64 ve1] 24)).alloc (Obj.cells #[.bool vb2, .string vs2, .string vt2, .int .i64 ve2] 24)).heap[w.heap.size]? = some (Obj.cells #[.bool b0, .string s0, .string t0, .int .i64 e0] 24) := by rw [heap_below _ _ _ (by simp only [size_al]; omega), heap_below _ _ _ (by simp only [size_al]; omega)]; have := heap_alloc_last w (Obj.cells #[.bool b0, .string s0, .string t0, .int .i64 e0] 24); simpa only [size_al] using this
    have Ry_0 : (((w.alloc (Obj.cells #[.bool b0, .string s0, .string t0, .int .i64 e0] 24)).alloc (Obj.cells #[.bool vb1, .string vs1, .string vt1, .int .i64 ve1] 24)).alloc (Obj.cells #[.bool vb2, .string vs2, .string vt2, .int .i64 ve2] 24)).heap[w.heap.size + 1]? = some (Obj.cells #[.bool vb1, .string vs1, .string vt1, .int .i64 ve1] 24) := by rw [heap_below _ _ _ (by simp only [size_al]; omega)]; have := heap_alloc_last (w.alloc (Obj.cells #[.bool b0, .string s0, .string t0, .int .i64 e0] 24)) (Obj.cells #[.bool vb1, .string vs1, .string vt1, .int .i64 ve1] 24); simpa only [size_al] using this
    have Rz_0 : (((w.alloc (Obj.cells #[.bool b0, .string s0, .string t0, .int .i64 e0] 24)).alloc (Obj.cells #[.bool vb1, .string vs1, .string vt1, .int .i64 ve1] 24)).alloc (Obj.cells #[.bool vb2, .string vs2, .string vt2, .int .i64 ve2] 24)).heap[w.heap.size + 1 + 1]? = some (Obj.cells #[.bool vb2, .string vs2, .string vt2, .int .i64 ve2] 24) := by have := heap_alloc_last ((w.alloc (Obj.cells #[.bool b0, .string s0, .string t0, .int .i64 e0] 24)).alloc (Obj.cells #[.bool vb1, .string vs1, .string vt1, .int .i64 ve1] 24)) (Obj.cells #[.bool vb2, .string vs2, .string vt2, .int .i64 ve2] 24); simpa only [size_al] using this
    have B0 : Below w.heap.size w (((w.alloc (Obj.cells #[.bool b0, .string s0, .string t0, .int .i64 e0] 24)).alloc (Obj.cells #[.bool vb1, .string vs1, .string vt1, .int .i64 ve1] 24)).alloc (Obj.cells #[.bool vb2, .string vs2, .string vt2, .int .i64 ve2] 24)) := ((((Below.refl _ _).alloc (by first | omega | (simp only [size_al]; omega)) _).alloc (by first | omega | (simp only [size_al]; omega)) _).alloc (by first | omega | (simp only [size_al]; omega)) _)
    go_enter Tryd.func3, Tryd.ntmps3
    go_wp2_with fail
    refine (xshort b0 s0 t0 e0 20 20 true rfl H0.out _).mono ?_
    rintro r w1 ⟨rfl, b1⟩
    have B1 : Below w.heap.size w w1 := btr B0 b1
    have Rx_1 : w1.heap[w.heap.size]? = some (Obj.cells #[.bool b0, .string s0, .string t0, .int .i64 e0] 24) := heap_of b1 _ _ _ Rx_0
    have Ry_1 : w1.heap[w.heap.size + 1]? = some (Obj.cells #[.bool vb1, .string vs1, .string vt1, .int .i64 ve1] 24) := heap_of b1 _ _ _ Ry_0
    have Rz_1 : w1.heap[w.heap.size + 1 + 1]? = some (Obj.cells #[.bool vb2, .string vs2, .string vt2, .int .i64 ve2] 24) := heap_of b1 _ _ _ Rz_0
    clear b1 B0 Rx_0 Ry_0 Rz_0
    have cx_1_0 := cells4 Rx_1 0 _ rfl
    have cx_1_1 := cells4 Rx_1 1 _ rfl
    have cx_1_2 := cells4 Rx_1 2 _ rfl
    have cx_1_3 := cells4 Rx_1 3 _ rfl
    have cy_1_0 := cells4 Ry_1 0 _ rfl
    have cy_1_1 := cells4 Ry_1 1 _ rfl
    have cy_1_2 := cells4 Ry_1 2 _ rfl
    have cy_1_3 := cells4 Ry_1 3 _ rfl
    have cz_1_0 := cells4 Rz_1 0 _ rfl
    have cz_1_1 := cells4 Rz_1 1 _ rfl
    have cz_1_2 := cells4 Rz_1 2 _ rfl
    have cz_1_3 := cells4 Rz_1 3 _ rfl
    go_wp2_with fail
    refine (xshort vb1 vs1 vt1 ve1 20 20 true rfl H1.out _).mono ?_
    rintro r w2 ⟨rfl, b2⟩
    have B2 : Below w.heap.size w w2 := btr B1 b2
    have Rx_2 : w2.heap[w.heap.size]? = some (Obj.cells #[.bool b0, .string s0, .string t0, .int .i64 e0] 24) := heap_of b2 _ _ _ Rx_1
    have Ry_2 : w2.heap[w.heap.size + 1]? = some (Obj.cells #[.bool vb1, .string vs1, .string vt1, .int .i64 ve1] 24) := heap_of b2 _ _ _ Ry_1
    have Rz_2 : w2.heap[w.heap.size + 1 + 1]? = some (Obj.cells #[.bool vb2, .string vs2, .string vt2, .int .i64 ve2] 24) := heap_of b2 _ _ _ Rz_1
    clear b2 B1 Rx_1 cx_1_0 cx_1_1 cx_1_2 cx_1_3 Ry_1 cy_1_0 cy_1_1 cy_1_2 cy_1_3 Rz_1 cz_1_0 cz_1_1 cz_1_2 cz_1_3
    have cx_2_0 := cells4 Rx_2 0 _ rfl
    have cx_2_1 := cells4 Rx_2 1 _ rfl
    have cx_2_2 := cells4 Rx_2 2 _ rfl
    have cx_2_3 := cells4 Rx_2 3 _ rfl
    have cy_2_0 := cells4 Ry_2 0 _ rfl
    have cy_2_1 := cells4 Ry_2 1 _ rfl
    have cy_2_2 := cells4 Ry_2 2 _ rfl
    have cy_2_3 := cells4 Ry_2 3 _ rfl
    have cz_2_0 := cells4 Rz_2 0 _ rfl
    have cz_2_1 := cells4 Rz_2 1 _ rfl
    have cz_2_2 := cells4 Rz_2 2 _ rfl
    have cz_2_3 := cells4 Rz_2 3 _ rfl
    go_wp2_with fail
    refine (xshort vb2 vs2 vt2 ve2 20 20 true rfl H2.out _).mono ?_
    rintro r w3 ⟨rfl, b3⟩
    have B3 : Below w.heap.size w w3 := btr B2 b3
    have Rx_3 : w3.heap[w.heap.size]? = some (Obj.cells #[.bool b0, .string s0, .string t0, .int .i64 e0] 24) := heap_of b3 _ _ _ Rx_2
    have Ry_3 : w3.heap[w.heap.size + 1]? = some (Obj.cells #[.bool vb1, .string vs1, .string vt1, .int .i64 ve1] 24) := heap_of b3 _ _ _ Ry_2
    have Rz_3 : w3.heap[w.heap.size + 1 + 1]? = some (Obj.cells #[.bool vb2, .string vs2, .string vt2, .int .i64 ve2] 24) := heap_of b3 _ _ _ Rz_2
    clear b3 B2 Rx_2 cx_2_0 cx_2_1 cx_2_2 cx_2_3 Ry_2 cy_2_0 cy_2_1 cy_2_2 cy_2_3 Rz_2 cz_2_0 cz_2_1 cz_2_2 cz_2_3
    have cx_3_0 := cells4 Rx_3 0 _ rfl
    have cx_3_1 := cells4 Rx_3 1 _ rfl
    have cx_3_2 := cells4 Rx_3 2 _ rfl
    have cx_3_3 := cells4 Rx_3 3 _ rfl
    have cy_3_0 := cells4 Ry_3 0 _ rfl
    have cy_3_1 := cells4 Ry_3 1 _ rfl
    have cy_3_2 := cells4 Ry_3 2 _ rfl
    have cy_3_3 := cells4 Ry_3 3 _ rfl
    have cz_3_0 := cells4 Rz_3 0 _ rfl
    have cz_3_1 := cells4 Rz_3 1 _ rfl
    have cz_3_2 := cells4 Rz_3 2 _ rfl
    have cz_3_3 := cells4 Rz_3 3 _ rfl
    go_wp2_with fail
    refine (xmayM b0 s0 t0 e0 true M0.out _).mono ?_
    rintro r w4 ⟨rfl, b4⟩
    have B4 : Below w.heap.size w w4 := btr B3 b4
    have Rx_4 : w4.heap[w.heap.size]? = some (Obj.cells #[.bool b0, .string s0, .string t0, .int .i64 e0] 24) := heap_of b4 _ _ _ Rx_3
    have Ry_4 : w4.heap[w.heap.size + 1]? = some (Obj.cells #[.bool vb1, .string vs1, .string vt1, .int .i64 ve1] 24) := heap_of b4 _ _ _ Ry_3
    have Rz_4 : w4.heap[w.heap.size + 1 + 1]? = some (Obj.cells #[.bool vb2, .string vs2, .string vt2, .int .i64 ve2] 24) := heap_of b4 _ _ _ Rz_3
    clear b4 B3 Rx_3 cx_3_0 cx_3_1 cx_3_2 cx_3_3 Ry_3 cy_3_0 cy_3_1 cy_3_2 cy_3_3 Rz_3 cz_3_0 cz_3_1 cz_3_2 cz_3_3
    have cx_4_0 := cells4 Rx_4 0 _ rfl
    have cx_4_1 := cells4 Rx_4 1 _ rfl
    have cx_4_2 := cells4 Rx_4 2 _ rfl
    have cx_4_3 := cells4 Rx_4 3 _ rfl
    have cy_4_0 := cells4 Ry_4 0 _ rfl
    have cy_4_1 := cells4 Ry_4 1 _ rfl
    have cy_4_2 := cells4 Ry_4 2 _ rfl
    have cy_4_3 := cells4 Ry_4 3 _ rfl
    have cz_4_0 := cells4 Rz_4 0 _ rfl
    have cz_4_1 := cells4 Rz_4 1 _ rfl
    have cz_4_2 := cells4 Rz_4 2 _ rfl
    have cz_4_3 := cells4 Rz_4 3 _ rfl
    go_wp2_with fail
    refine (xmayM vb1 vs1 vt1 ve1 false M1.out _).mono ?_
    rintro r w5 ⟨rfl, b5⟩
    have B5 : Below w.heap.size w w5 := btr B4 b5
    have Rx_5 : w5.heap[w.heap.size]? = some (Obj.cells #[.bool b0, .string s0, .string t0, .int .i64 e0] 24) := heap_of b5 _ _ _ Rx_4
    have Ry_5 : w5.heap[w.heap.size + 1]? = some (Obj.cells #[.bool vb1, .string vs1, .string vt1, .int .i64 ve1] 24) := heap_of b5 _ _ _ Ry_4
    have Rz_5 : w5.heap[w.heap.size + 1 + 1]? = some (Obj.cells #[.bool vb2, .string vs2, .string vt2, .int .i64 ve2] 24) := heap_of b5 _ _ _ Rz_4
    clear b5 B4 Rx_4 cx_4_0 cx_4_1 cx_4_2 cx_4_3 Ry_4 cy_4_0 cy_4_1 cy_4_2 cy_4_3 Rz_4 cz_4_0 cz_4_1 cz_4_2 cz_4_3
    have cx_5_0 := cells4 Rx_5 0 _ rfl
    have cx_5_1 := cells4 Rx_5 1 _ rfl
    have cx_5_2 := cells4 Rx_5 2 _ rfl
    have cx_5_3 := cells4 Rx_5 3 _ rfl
    have cy_5_0 := cells4 Ry_5 0 _ rfl
    have cy_5_1 := cells4 Ry_5 1 _ rfl
    have cy_5_2 := cells4 Ry_5 2 _ rfl
    have cy_5_3 := cells4 Ry_5 3 _ rfl
    have cz_5_0 := cells4 Rz_5 0 _ rfl
    have cz_5_1 := cells4 Rz_5 1 _ rfl
    have cz_5_2 := cells4 Rz_5 2 _ rfl
    have cz_5_3 := cells4 Rz_5 3 _ rfl
    go_wp2_with fail
    refine (xalive _ (tabB TT.out B5)).mono ?_
    rintro r w6 ⟨rfl, b6⟩
    have B6 : Below w.heap.size w w6 := btr B5 b6
    have Rx_6 : w6.heap[w.heap.size]? = some (Obj.cells #[.bool b0, .string s0, .string t0, .int .i64 e0] 24) := heap_of b6 _ _ _ Rx_5
    have Ry_6 : w6.heap[w.heap.size + 1]? = some (Obj.cells #[.bool vb1, .string vs1, .string vt1, .int .i64 ve1] 24) := heap_of b6 _ _ _ Ry_5
    have Rz_6 : w6.heap[w.heap.size + 1 + 1]? = some (Obj.cells #[.bool vb2, .string vs2, .string vt2, .int .i64 ve2] 24) := heap_of b6 _ _ _ Rz_5
    clear b6 B5 Rx_5 cx_5_0 cx_5_1 cx_5_2 cx_5_3 Ry_5 cy_5_0 cy_5_1 cy_5_2 cy_5_3 Rz_5 cz_5_0 cz_5_1 cz_5_2 cz_5_3
    have cx_6_0 := cells4 Rx_6 0 _ rfl
    have cx_6_1 := cells4 Rx_6 1 _ rfl
    have cx_6_2 := cells4 Rx_6 2 _ rfl
    have cx_6_3 := cells4 Rx_6 3 _ rfl
    have cy_6_0 := cells4 Ry_6 0 _ rfl
    have cy_6_1 := cells4 Ry_6 1 _ rfl
    have cy_6_2 := cells4 Ry_6 2 _ rfl
    have cy_6_3 := cells4 Ry_6 3 _ rfl
    have cz_6_0 := cells4 Rz_6 0 _ rfl
    have cz_6_1 := cells4 Rz_6 1 _ rfl
    have cz_6_2 := cells4 Rz_6 2 _ rfl
    have cz_6_3 := cells4 Rz_6 3 _ rfl
    go_wp2
    go_ret
    exact ⟨rfl, B6⟩
  cases m2
  · clear ho0 ho1 ho2 hm0 hm1 hm2
    have Rx_0 : (((w.alloc (Obj.cells #[.bool b0, .string s0, .string t0, .int .i64 e0] 24)).alloc (Obj.cells #[.bool vb1, .string vs1, .string vt1, .int .i64 ve1] 24)).alloc (Obj.cells #[.bool vb2, .string vs2, .string vt2, .int .i64 ve2] 24)).heap[w.heap.size]? = some (Obj.cells #[.bool b0, .string s0, .string t0, .int .i64 e0] 24) := by rw [heap_below _ _ _ (by simp only [size_al]; omega), heap_below _ _ _ (by simp only [size_al]; omega)]; have := heap_alloc_last w (Obj.cells #[.bool b0, .string s0, .string t0, .int .i64 e0] 24); simpa only [size_al] using this
    have Ry_0 : (((w.alloc (Obj.cells #[.bool b0, .string s0, .string t0, .int .i64 e0] 24)).alloc (Obj.cells #[.bool vb1, .string vs1, .string vt1, .int .i64 ve1] 24)).alloc (Obj.cells #[.bool vb2, .string vs2, .string vt2, .int .i64 ve2] 24)).heap[w.heap.size + 1]? = some (Obj.cells #[.bool vb1, .string vs1, .string vt1, .int .i64 ve1] 24) := by rw [heap_below _ _ _ (by simp only [size_al]; omega)]; have := heap_alloc_last (w.alloc (Obj.cells #[.bool b0, .string s0, .string t0, .int .i64 e0] 24)) (Obj.cells #[.bool vb1, .string vs1, .string vt1, .int .i64 ve1] 24); simpa only [size_al] using this
    have Rz_0 : (((w.alloc (Obj.cells #[.bool b0, .string s0, .string t0, .int .i64 e0] 24)).alloc (Obj.cells #[.bool vb1, .string vs1, .string vt1, .int .i64 ve1] 24)).alloc (Obj.cells #[.bool vb2, .string vs2, .string vt2, .int .i64 ve2] 24)).heap[w.heap.size + 1 + 1]? = some (Obj.cells #[.bool vb2, .string vs2, .string vt2, .int .i64 ve2] 24) := by have := heap_alloc_last ((w.alloc (Obj.cells #[.bool b0, .string s0, .string t0, .int .i64 e0] 24)).alloc (Obj.cells #[.bool vb1, .string vs1, .string vt1, .int .i64 ve1] 24)) (Obj.cells #[.bool vb2, .string vs2, .string vt2, .int .i64 ve2] 24); simpa only [size_al] using this
    have B0 : Below w.heap.size w (((w.alloc (Obj.cells #[.bool b0, .string s0, .string t0, .int .i64 e0] 24)).alloc (Obj.cells #[.bool vb1, .string vs1, .string vt1, .int .i64 ve1] 24)).alloc (Obj.cells #[.bool vb2, .string vs2, .string vt2, .int .i64 ve2] 24)) := ((((Below.refl _ _).alloc (by first | omega | (simp only [size_al]; omega)) _).alloc (by first | omega | (simp only [size_al]; omega)) _).alloc (by first | omega | (simp only [size_al]; omega)) _)
    go_enter Tryd.func3, Tryd.ntmps3
    go_wp2_with fail
    refine (xshort b0 s0 t0 e0 20 20 true rfl H0.out _).mono ?_
    rintro r w1 ⟨rfl, b1⟩
    have B1 : Below w.heap.size w w1 := btr B0 b1
    have Rx_1 : w1.heap[w.heap.size]? = some (Obj.cells #[.bool b0, .string s0, .string t0, .int .i64 e0] 24) := heap_of b1 _ _ _ Rx_0
    have Ry_1 : w1.heap[w.heap.size + 1]? = some (Obj.cells #[.bool vb1, .string vs1, .string vt1, .int .i64 ve1] 24) := heap_of b1 _ _ _ Ry_0
    have Rz_1 : w1.heap[w.heap.size + 1 + 1]? = some (Obj.cells #[.bool vb2, .string vs2, .string vt2, .int .i64 ve2] 24) := heap_of b1 _ _ _ Rz_0
    clear b1 B0 Rx_0 Ry_0 Rz_0
    have cx_1_0 := cells4 Rx_1 0 _ rfl
    have cx_1_1 := cells4 Rx_1 1 _ rfl
    have cx_1_2 := cells4 Rx_1 2 _ rfl
    have cx_1_3 := cells4 Rx_1 3 _ rfl
    have cy_1_0 := cells4 Ry_1 0 _ rfl
    have cy_1_1 := cells4 Ry_1 1 _ rfl
    have cy_1_2 := cells4 Ry_1 2 _ rfl
    have cy_1_3 := cells4 Ry_1 3 _ rfl
    have cz_1_0 := cells4 Rz_1 0 _ rfl
    have cz_1_1 := cells4 Rz_1 1 _ rfl
    have cz_1_2 := cells4 Rz_1 2 _ rfl
    have cz_1_3 := cells4 Rz_1 3 _ rfl
    go_wp2_with fail
    refine (xshort vb1 vs1 vt1 ve1 20 20 true rfl H1.out _).mono ?_
    rintro r w2 ⟨rfl, b2⟩
    have B2 : Below w.heap.size w w2 := btr B1 b2
    have Rx_2 : w2.heap[w.heap.size]? = some (Obj.cells #[.bool b0, .string s0, .string t0, .int .i64 e0] 24) := heap_of b2 _ _ _ Rx_1
    have Ry_2 : w2.heap[w.heap.size + 1]? = some (Obj.cells #[.bool vb1, .string vs1, .string vt1, .int .i64 ve1] 24) := heap_of b2 _ _ _ Ry_1
    have Rz_2 : w2.heap[w.heap.size + 1 + 1]? = some (Obj.cells #[.bool vb2, .string vs2, .string vt2, .int .i64 ve2] 24) := heap_of b2 _ _ _ Rz_1
    clear b2 B1 Rx_1 cx_1_0 cx_1_1 cx_1_2 cx_1_3 Ry_1 cy_1_0 cy_1_1 cy_1_2 cy_1_3 Rz_1 cz_1_0 cz_1_1 cz_1_2 cz_1_3
    have cx_2_0 := cells4 Rx_2 0 _ rfl
    have cx_2_1 := cells4 Rx_2 1 _ rfl
    have cx_2_2 := cells4 Rx_2 2 _ rfl
    have cx_2_3 := cells4 Rx_2 3 _ rfl
    have cy_2_0 := cells4 Ry_2 0 _ rfl
    have cy_2_1 := cells4 Ry_2 1 _ rfl
    have cy_2_2 := cells4 Ry_2 2 _ rfl
    have cy_2_3 := cells4 Ry_2 3 _ rfl
    have cz_2_0 := cells4 Rz_2 0 _ rfl
    have cz_2_1 := cells4 Rz_2 1 _ rfl
    have cz_2_2 := cells4 Rz_2 2 _ rfl
    have cz_2_3 := cells4 Rz_2 3 _ rfl
    go_wp2_with fail
    refine (xshort vb2 vs2 vt2 ve2 20 20 true rfl H2.out _).mono ?_
    rintro r w3 ⟨rfl, b3⟩
    have B3 : Below w.heap.size w w3 := btr B2 b3
    have Rx_3 : w3.heap[w.heap.size]? = some (Obj.cells #[.bool b0, .string s0, .string t0, .int .i64 e0] 24) := heap_of b3 _ _ _ Rx_2
    have Ry_3 : w3.heap[w.heap.size + 1]? = some (Obj.cells #[.bool vb1, .string vs1, .string vt1, .int .i64 ve1] 24) := heap_of b3 _ _ _ Ry_2
    have Rz_3 : w3.heap[w.heap.size + 1 + 1]? = some (Obj.cells #[.bool vb2, .string vs2, .string vt2, .int .i64 ve2] 24) := heap_of b3 _ _ _ Rz_2
    clear b3 B2 Rx_2 cx_2_0 cx_2_1 cx_2_2 cx_2_3 Ry_2 cy_2_0 cy_2_1 cy_2_2 cy_2_3 Rz_2 cz_2_0 cz_2_1 cz_2_2 cz_2_3
    have cx_3_0 := cells4 Rx_3 0 _ rfl
    have cx_3_1 := cells4 Rx_3 1 _ rfl
    have cx_3_2 := cells4 Rx_3 2 _ rfl
    have cx_3_3 := cells4 Rx_3 3 _ rfl
    have cy_3_0 := cells4 Ry_3 0 _ rfl
    have cy_3_1 := cells4 Ry_3 1 _ rfl
    have cy_3_2 := cells4 Ry_3 2 _ rfl
    have cy_3_3 := cells4 Ry_3 3 _ rfl
    have cz_3_0 := cells4 Rz_3 0 _ rfl
    have cz_3_1 := cells4 Rz_3 1 _ rfl
    have cz_3_2 := cells4 Rz_3 2 _ rfl
    have cz_3_3 := cells4 Rz_3 3 _ rfl
    go_wp2_with fail
    refine (xmayM b0 s0 t0 e0 true M0.out _).mono ?_
    rintro r w4 ⟨rfl, b4⟩
    have B4 : Below w.heap.size w w4 := btr B3 b4
    have Rx_4 : w4.heap[w.heap.size]? = some (Obj.cells #[.bool b0, .string s0, .string t0, .int .i64 e0] 24) := heap_of b4 _ _ _ Rx_3
    have Ry_4 : w4.heap[w.heap.size + 1]? = some (Obj.cells #[.bool vb1, .string vs1, .string vt1, .int .i64 ve1] 24) := heap_of b4 _ _ _ Ry_3
    have Rz_4 : w4.heap[w.heap.size + 1 + 1]? = some (Obj.cells #[.bool vb2, .string vs2, .string vt2, .int .i64 ve2] 24) := heap_of b4 _ _ _ Rz_3
    clear b4 B3 Rx_3 cx_3_0 cx_3_1 cx_3_2 cx_3_3 Ry_3 cy_3_0 cy_3_1 cy_3_2 cy_3_3 Rz_3 cz_3_0 cz_3_1 cz_3_2 cz_3_3
    have cx_4_0 := cells4 Rx_4 0 _ rfl
    have cx_4_1 := cells4 Rx_4 1 _ rfl
    have cx_4_2 := cells4 Rx_4 2 _ rfl
    have cx_4_3 := cells4 Rx_4 3 _ rfl
    have cy_4_0 := cells4 Ry_4 0 _ rfl
    have cy_4_1 := cells4 Ry_4 1 _ rfl
    have cy_4_2 := cells4 Ry_4 2 _ rfl
    have cy_4_3 := cells4 Ry_4 3 _ rfl
    have cz_4_0 := cells4 Rz_4 0 _ rfl
    have cz_4_1 := cells4 Rz_4 1 _ rfl
    have cz_4_2 := cells4 Rz_4 2 _ rfl
    have cz_4_3 := cells4 Rz_4 3 _ rfl
    go_wp2_with fail
    refine (xmayM vb1 vs1 vt1 ve1 true M1.out _).mono ?_
    rintro r w5 ⟨rfl, b5⟩
    have B5 : Below w.heap.size w w5 := btr B4 b5
    have Rx_5 : w5.heap[w.heap.size]? = some (Obj.cells #[.bool b0, .string s0, .string t0, .int .i64 e0] 24) := heap_of b5 _ _ _ Rx_4
    have Ry_5 : w5.heap[w.heap.size + 1]? = some (Obj.cells #[.bool vb1, .string vs1, .string vt1, .int .i64 ve1] 24) := heap_of b5 _ _ _ Ry_4
    have Rz_5 : w5.heap[w.heap.size + 1 + 1]? = some (Obj.cells #[.bool vb2, .string vs2, .string vt2, .int .i64 ve2] 24) := heap_of b5 _ _ _ Rz_4
    clear b5 B4 Rx_4 cx_4_0 cx_4_1 cx_4_2 cx_4_3 Ry_4 cy_4_0 cy_4_1 cy_4_2 cy_4_3 Rz_4 cz_4_0 cz_4_1 cz_4_2 cz_4_3
    have cx_5_0 := cells4 Rx_5 0 _ rfl
    have cx_5_1 := cells4 Rx_5 1 _ rfl
    have cx_5_2 := cells4 Rx_5 2 _ rfl
    have cx_5_3 := cells4 Rx_5 3 _ rfl
    have cy_5_0 := cells4 Ry_5 0 _ rfl
    have cy_5_1 := cells4 Ry_5 1 _ rfl
    have cy_5_2 := cells4 Ry_5 2 _ rfl
    have cy_5_3 := cells4 Ry_5 3 _ rfl
    have cz_5_0 := cells4 Rz_5 0 _ rfl
    have cz_5_1 := cells4 Rz_5 1 _ rfl
    have cz_5_2 := cells4 Rz_5 2 _ rfl
    have cz_5_3 := cells4 Rz_5 3 _ rfl
    go_wp2_with fail
    refine (xmayM vb2 vs2 vt2 ve2 false M2.out _).mono ?_
    rintro r w6 ⟨rfl, b6⟩
    have B6 : Below w.heap.size w w6 := btr B5 b6
    have Rx_6 : w6.heap[w.heap.size]? = some (Obj.cells #[.bool b0, .string s0, .string t0, .int .i64 e0] 24) := heap_of b6 _ _ _ Rx_5
    have Ry_6 : w6.heap[w.heap.size + 1]? = some (Obj.cells #[.bool vb1, .string vs1, .string vt1, .int .i64 ve1] 24) := heap_of b6 _ _ _ Ry_5
    have Rz_6 : w6.heap[w.heap.size + 1 + 1]? = some (Obj.cells #[.bool vb2, .string vs2, .string vt2, .int .i64 ve2] 24) := heap_of b6 _ _ _ Rz_5
    clear b6 B5 Rx_5 cx_5_0 cx_5_1 cx_5_2 cx_5_3 Ry_5 cy_5_0 cy_5_1 cy_5_2 cy_5_3 Rz_5 cz_5_0 cz_5_1 cz_5_2 cz_5_3
    have cx_6_0 := cells4 Rx_6 0 _ rfl
    have cx_6_1 := cells4 Rx_6 1 _ rfl
    have cx_6_2 := cells4 Rx_6 2 _ rfl
    have cx_6_3 := cells4 Rx_6 3 _ rfl
    have cy_6_0 := cells4 Ry_6 0 _ rfl
    have cy_6_1 := cells4 Ry_6 1 _ rfl
    have cy_6_2 := cells4 Ry_6 2 _ rfl
    have cy_6_3 := cells4 Ry_6 3 _ rfl
    have cz_6_0 := cells4 Rz_6 0 _ rfl
    have cz_6_1 := cells4 Rz_6 1 _ rfl
    have cz_6_2 := cells4 Rz_6 2 _ rfl
    have cz_6_3 := cells4 Rz_6 3 _ rfl
    go_wp2_with fail
    refine (xalive _ (tabB TT.out B6)).mono ?_
    rintro r w7 ⟨rfl, b7⟩
    have B7 : Below w.heap.size w w7 := btr B6 b7
    have Rx_7 : w7.heap[w.heap.size]? = some (Obj.cells #[.bool b0, .string s0, .string t0, .int .i64 e0] 24) := heap_of b7 _ _ _ Rx_6
    have Ry_7 : w7.heap[w.heap.size + 1]? = some (Obj.cells #[.bool vb1, .string vs1, .string vt1, .int .i64 ve1] 24) := heap_of b7 _ _ _ Ry_6
    have Rz_7 : w7.heap[w.heap.size + 1 + 1]? = some (Obj.cells #[.bool vb2, .string vs2, .string vt2, .int .i64 ve2] 24) := heap_of b7 _ _ _ Rz_6
    clear b7 B6 Rx_6 cx_6_0 cx_6_1 cx_6_2 cx_6_3 Ry_6 cy_6_0 cy_6_1 cy_6_2 cy_6_3 Rz_6 cz_6_0 cz_6_1 cz_6_2 cz_6_3
    have cx_7_0 := cells4 Rx_7 0 _ rfl
    have cx_7_1 := cells4 Rx_7 1 _ rfl
    have cx_7_2 := cells4 Rx_7 2 _ rfl
    have cx_7_3 := cells4 Rx_7 3 _ rfl
    have cy_7_0 := cells4 Ry_7 0 _ rfl
    have cy_7_1 := cells4 Ry_7 1 _ rfl
    have cy_7_2 := cells4 Ry_7 2 _ rfl
    have cy_7_3 := cells4 Ry_7 3 _ rfl
    have cz_7_0 := cells4 Rz_7 0 _ rfl
    have cz_7_1 := cells4 Rz_7 1 _ rfl
    have cz_7_2 := cells4 Rz_7 2 _ rfl
    have cz_7_3 := cells4 Rz_7 3 _ rfl
    go_wp2
    go_ret
    exact ⟨rfl, B7⟩
  by_cases c00 : (900 : Int) < e0
  · have dc00 : decide ((900 : Int) < e0) = true := decide_eq_true c00
    clear ho0 ho1 ho2 hm0 hm1 hm2 c00
    have Rx_0 : (((w.alloc (Obj.cells #[.bool b0, .string s0, .string t0, .int .i64 e0] 24)).alloc (Obj.cells #[.bool vb1, .string vs1, .string vt1, .int .i64 ve1] 24)).alloc (Obj.cells #[.bool vb2, .string vs2, .string vt2, .int .i64 ve2] 24)).heap[w.heap.size]? = some (Obj.cells #[.bool b0, .string s0, .string t0, .int .i64 e0] 24) := by rw [heap_below _ _ _ (by simp only [size_al]; omega), heap_below _ _ _ (by simp only [size_al]; omega)]; have := heap_alloc_last w (Obj.cells #[.bool b0, .string s0, .string t0, .int .i64 e0] 24); simpa only [size_al] using this
    have Ry_0 : (((w.alloc (Obj.cells #[.bool b0, .string s0, .string t0, .int .i64 e0] 24)).alloc (Obj.cells #[.bool vb1, .string vs1, .string vt1, .int .i64 ve1] 24)).alloc (Obj.cells #[.bool vb2, .string vs2, .string vt2, .int .i64 ve2] 24)).heap[w.heap.size + 1]? = some (Obj.cells #[.bool vb1, .string vs1, .string vt1, .int .i64 ve1] 24) := by rw [heap_below _ _ _ (by simp only [size_al]; omega)]; have := heap_alloc_last (w.alloc (Obj.cells #[.bool b0, .string s0, .string t0, .int .i64 e0] 24)) (Obj.cells #[.bool vb1, .string vs1, .string vt1, .int .i64 ve1] 24); simpa only [size_al] using this
    have Rz_0 : (((w.alloc (Obj.cells #[.bool b0, .string s0, .string t0, .int .i64 e0] 24)).alloc (Obj.cells #[.bool vb1, .string vs1, .string vt1, .int .i64 ve1] 24)).alloc (Obj.cells #[.bool vb2, .string vs2, .string vt2, .int .i64 ve2] 24)).heap[w.heap.size + 1 + 1]? = some (Obj.cells #[.bool vb2, .string vs2, .string vt2, .int .i64 ve2] 24) := by have := heap_alloc_last ((w.alloc (Obj.cells #[.bool b0, .string s0, .string t0, .int .i64 e0] 24)).alloc (Obj.cells #[.bool vb1, .string vs1, .string vt1, .int .i64 ve1] 24)) (Obj.cells #[.bool vb2, .string vs2, .string vt2, .int .i64 ve2] 24); simpa only [size_al] using this
    have B0 : Below w.heap.size w (((w.alloc (Obj.cells #[.bool b0, .string s0, .string t0, .int .i64 e0] 24)).alloc (Obj.cells #[.bool vb1, .string vs1, .string vt1, .int .i64 ve1] 24)).alloc (Obj.cells #[.bool vb2, .string vs2, .string vt2, .int .i64 ve2] 24)) := ((((Below.refl _ _).alloc (by first | omega | (simp only [size_al]; omega)) _).alloc (by first | omega | (simp only [size_al]; omega)) _).alloc (by first | omega | (simp only [size_al]; omega)) _)
    go_enter Tryd.func3, Tryd.ntmps3
    go_wp2_with fail
    refine (xshort b0 s0 t0 e0 20 20 true rfl H0.out _).mono ?_
    rintro r w1 ⟨rfl, b1⟩
    have B1 : Below w.heap.size w w1 := btr B0 b1
    have Rx_1 : w1.heap[w.heap.size]? = some (Obj.cells #[.bool b0, .string s0, .string t0, .int .i64 e0] 24) := heap_of b1 _ _ _ Rx_0
    have Ry_1 : w1.heap[w.heap.size + 1]? = some (Obj.cells #[.bool vb1, .string vs1, .string vt1, .int .i64 ve1] 24) := heap_of b1 _ _ _ Ry_0
    have Rz_1 : w1.heap[w.heap.size + 1 + 1]? = some (Obj.cells #[.bool vb2, .string vs2, .string vt2, .int .i64 ve2] 24) := heap_of b1 _ _ _ Rz_0
    clear b1 B0 Rx_0 Ry_0 Rz_0
    have cx_1_0 := cells4 Rx_1 0 _ rfl
    have cx_1_1 := cells4 Rx_1 1 _ rfl
    have cx_1_2 := cells4 Rx_1 2 _ rfl
    have cx_1_3 := cells4 Rx_1 3 _ rfl
    have cy_1_0 := cells4 Ry_1 0 _ rfl
    have cy_1_1 := cells4 Ry_1 1 _ rfl
    have cy_1_2 := cells4 Ry_1 2 _ rfl
    have cy_1_3 := cells4 Ry_1 3 _ rfl
    have cz_1_0 := cells4 Rz_1 0 _ rfl
    have cz_1_1 := cells4 Rz_1 1 _ rfl
    have cz_1_2 := cells4 Rz_1 2 _ rfl
    have cz_1_3 := cells4 Rz_1 3 _ rfl
    go_wp2_with fail
    refine (xshort vb1 vs1 vt1 ve1 20 20 true rfl H1.out _).mono ?_
    rintro r w2 ⟨rfl, b2⟩
    have B2 : Below w.heap.size w w2 := btr B1 b2
    have Rx_2 : w2.heap[w.heap.size]? = some (Obj.cells #[.bool b0, .string s0, .string t0, .int .i64 e0] 24) := heap_of b2 _ _ _ Rx_1
    have Ry_2 : w2.heap[w.heap.size + 1]? = some (Obj.cells #[.bool vb1, .string vs1, .string vt1, .int .i64 ve1] 24) := heap_of b2 _ _ _ Ry_1
    have Rz_2 : w2.heap[w.heap.size + 1 + 1]? = some (Obj.cells #[.bool vb2, .string vs2, .string vt2, .int .i64 ve2] 24) := heap_of b2 _ _ _ Rz_1
    clear b2 B1 Rx_1 cx_1_0 cx_1_1 cx_1_2 cx_1_3 Ry_1 cy_1_0 cy_1_1 cy_1_2 cy_1_3 Rz_1 cz_1_0 cz_1_1 cz_1_2 cz_1_3
    have cx_2_0 := cells4 Rx_2 0 _ rfl
    have cx_2_1 := cells4 Rx_2 1 _ rfl
    have cx_2_2 := cells4 Rx_2 2 _ rfl
    have cx_2_3 := cells4 Rx_2 3 _ rfl
    have cy_2_0 := cells4 Ry_2 0 _ rfl
    have cy_2_1 := cells4 Ry_2 1 _ rfl
    have cy_2_2 := cells4 Ry_2 2 _ rfl
    have cy_2_3 := cells4 Ry_2 3 _ rfl
    have cz_2_0 := cells4 Rz_2 0 _ rfl
    have cz_2_1 := cells4 Rz_2 1 _ rfl
    have cz_2_2 := cells4 Rz_2 2 _ rfl
    have cz_2_3 := cells4 Rz_2 3 _ rfl
    go_wp2_with fail
    refine (xshort vb2 vs2 vt2 ve2 20 20 true rfl H2.out _).mono ?_
    rintro r w3 ⟨rfl, b3⟩
    have B3 : Below w.heap.size w w3 := btr B2 b3
    have Rx_3 : w3.heap[w.heap.size]? = some (Obj.cells #[.bool b0, .string s0, .string t0, .int .i64 e0] 24) := heap_of b3 _ _ _ Rx_2
    have Ry_3 : w3.heap[w.heap.size + 1]? = some (Obj.cells #[.bool vb1, .string vs1, .string vt1, .int .i64 ve1] 24) := heap_of b3 _ _ _ Ry_2
    have Rz_3 : w3.heap[w.heap.size + 1 + 1]? = some (Obj.cells #[.bool vb2, .string vs2, .string vt2, .int .i64 ve2] 24) := heap_of b3 _ _ _ Rz_2
    clear b3 B2 Rx_2 cx_2_0 cx_2_1 cx_2_2 cx_2_3 Ry_2 cy_2_0 cy_2_1 cy_2_2 cy_2_3 Rz_2 cz_2_0 cz_2_1 cz_2_2 cz_2_3
    have cx_3_0 := cells4 Rx_3 0 _ rfl
    have cx_3_1 := cells4 Rx_3 1 _ rfl
    have cx_3_2 := cells4 Rx_3 2 _ rfl
    have cx_3_3 := cells4 Rx_3 3 _ rfl
    have cy_3_0 := cells4 Ry_3 0 _ rfl
    have cy_3_1 := cells4 Ry_3 1 _ rfl
    have cy_3_2 := cells4 Ry_3 2 _ rfl
    have cy_3_3 := cells4 Ry_3 3 _ rfl
    have cz_3_0 := cells4 Rz_3 0 _ rfl
    have cz_3_1 := cells4 Rz_3 1 _ rfl
    have cz_3_2 := cells4 Rz_3 2 _ rfl
    have cz_3_3 := cells4 Rz_3 3 _ rfl
    go_wp2_with fail
    refine (xmayM b0 s0 t0 e0 true M0.out _).mono ?_
    rintro r w4 ⟨rfl, b4⟩
    have B4 : Below w.heap.size w w4 := btr B3 b4
    have Rx_4 : w4.heap[w.heap.size]? = some (Obj.cells #[.bool b0, .string s0, .string t0, .int .i64 e0] 24) := heap_of b4 _ _ _ Rx_3
    have Ry_4 : w4.heap[w.heap.size + 1]? = some (Obj.cells #[.bool vb1, .string vs1, .string vt1, .int .i64 ve1] 24) := heap_of b4 _ _ _ Ry_3
    have Rz_4 : w4.heap[w.heap.size + 1 + 1]? = some (Obj.cells #[.bool vb2, .string vs2, .string vt2, .int .i64 ve2] 24) := heap_of b4 _ _ _ Rz_3
    clear b4 B3 Rx_3 cx_3_0 cx_3_1 cx_3_2 cx_3_3 Ry_3 cy_3_0 cy_3_1 cy_3_2 cy_3_3 Rz_3 cz_3_0 cz_3_1 cz_3_2 cz_3_3
    have cx_4_0 := cells4 Rx_4 0 _ rfl
    have cx_4_1 := cells4 Rx_4 1 _ rfl
    have cx_4_2 := cells4 Rx_4 2 _ rfl
    have cx_4_3 := cells4 Rx_4 3 _ rfl
    have cy_4_0 := cells4 Ry_4 0 _ rfl
    have cy_4_1 := cells4 Ry_4 1 _ rfl
    have cy_4_2 := cells4 Ry_4 2 _ rfl
    have cy_4_3 := cells4 Ry_4 3 _ rfl
    have cz_4_0 := cells4 Rz_4 0 _ rfl
    have cz_4_1 := cells4 Rz_4 1 _ rfl
    have cz_4_2 := cells4 Rz_4 2 _ rfl
    have cz_4_3 := cells4 Rz_4 3 _ rfl
    go_wp2_with fail
    refine (xmayM vb1 vs1 vt1 ve1 true M1.out _).mono ?_
    rintro r w5 ⟨rfl, b5⟩
    have B5 : Below w.heap.size w w5 := btr B4 b5
    have Rx_5 : w5.heap[w.heap.size]? = some (Obj.cells #[.bool b0, .string s0, .string t0, .int .i64 e0] 24) := heap_of b5 _ _ _ Rx_4
    have Ry_5 : w5.heap[w.heap.size + 1]? = some (Obj.cells #[.bool vb1, .string vs1, .string vt1, .int .i64 ve1] 24) := heap_of b5 _ _ _ Ry_4
    have Rz_5 : w5.heap[w.heap.size + 1 + 1]? = some (Obj.cells #[.bool vb2, .string vs2, .string vt2, .int .i64 ve2] 24) := heap_of b5 _ _ _ Rz_4
    clear b5 B4 Rx_4 cx_4_0 cx_4_1 cx_4_2 cx_4_3 Ry_4 cy_4_0 cy_4_1 cy_4_2 cy_4_3 Rz_4 cz_4_0 cz_4_1 cz_4_2 cz_4_3
    have cx_5_0 := cells4 Rx_5 0 _ rfl
    have cx_5_1 := cells4 Rx_5 1 _ rfl
    have cx_5_2 := cells4 Rx_5 2 _ rfl
    have cx_5_3 := cells4 Rx_5 3 _ rfl
    have cy_5_0 := cells4 Ry_5 0 _ rfl
    have cy_5_1 := cells4 Ry_5 1 _ rfl
    have cy_5_2 := cells4 Ry_5 2 _ rfl
    have cy_5_3 := cells4 Ry_5 3 _ rfl
    have cz_5_0 := cells4 Rz_5 0 _ rfl
    have cz_5_1 := cells4 Rz_5 1 _ rfl
    have cz_5_2 := cells4 Rz_5 2 _ rfl
    have cz_5_3 := cells4 Rz_5 3 _ rfl
    go_wp2_with fail
    refine (xmayM vb2 vs2 vt2 ve2 true M2.out _).mono ?_
    rintro r w6 ⟨rfl, b6⟩
    have B6 : Below w.heap.size w w6 := btr B5 b6
    have Rx_6 : w6.heap[w.heap.size]? = some (Obj.cells #[.bool b0, .string s0, .string t0, .int .i64 e0] 24) := heap_of b6 _ _ _ Rx_5
    have Ry_6 : w6.heap[w.heap.size + 1]? = some (Obj.cells #[.bool vb1, .string vs1, .string vt1, .int .i64 ve1] 24) := heap_of b6 _ _ _ Ry_5
    have Rz_6 : w6.heap[w.heap.size + 1 + 1]? = some (Obj.cells #[.bool vb2, .string vs2, .string vt2, .int .i64 ve2] 24) := heap_of b6 _ _ _ Rz_5
    clear b6 B5 Rx_5 cx_5_0 cx_5_1 cx_5_2 cx_5_3 Ry_5 cy_5_0 cy_5_1 cy_5_2 cy_5_3 Rz_5 cz_5_0 cz_5_1 cz_5_2 cz_5_3
    have cx_6_0 := cells4 Rx_6 0 _ rfl
    have cx_6_1 := cells4 Rx_6 1 _ rfl
    have cx_6_2 := cells4 Rx_6 2 _ rfl
    have cx_6_3 := cells4 Rx_6 3 _ rfl
    have cy_6_0 := cells4 Ry_6 0 _ rfl
    have cy_6_1 := cells4 Ry_6 1 _ rfl
    have cy_6_2 := cells4 Ry_6 2 _ rfl
    have cy_6_3 := cells4 Ry_6 3 _ rfl
    have cz_6_0 := cells4 Rz_6 0 _ rfl
    have cz_6_1 := cells4 Rz_6 1 _ rfl
    have cz_6_2 := cells4 Rz_6 2 _ rfl
    have cz_6_3 := cells4 Rz_6 3 _ rfl
    go_wp2_with fail
    refine (xalive _ (tabB TT.out B6)).mono ?_
    rintro r w7 ⟨rfl, b7⟩
    have B7 : Below w.heap.size w w7 := btr B6 b7
    have Rx_7 : w7.heap[w.heap.size]? = some (Obj.cells #[.bool b0, .string s0, .string t0, .int .i64 e0] 24) := heap_of b7 _ _ _ Rx_6
    have Ry_7 : w7.heap[w.heap.size + 1]? = some (Obj.cells #[.bool vb1, .string vs1, .string vt1, .int .i64 ve1] 24) := heap_of b7 _ _ _ Ry_6
    have Rz_7 : w7.heap[w.heap.size + 1 + 1]? = some (Obj.cells #[.bool vb2, .string vs2, .string vt2, .int .i64 ve2] 24) := heap_of b7 _ _ _ Rz_6
    clear b7 B6 Rx_6 cx_6_0 cx_6_1 cx_6_2 cx_6_3 Ry_6 cy_6_0 cy_6_1 cy_6_2 cy_6_3 Rz_6 cz_6_0 cz_6_1 cz_6_2 cz_6_3
    have cx_7_0 := cells4 Rx_7 0 _ rfl
    have cx_7_1 := cells4 Rx_7 1 _ rfl
    have cx_7_2 := cells4 Rx_7 2 _ rfl
    have cx_7_3 := cells4 Rx_7 3 _ rfl
    have cy_7_0 := cells4 Ry_7 0 _ rfl
    have cy_7_1 := cells4 Ry_7 1 _ rfl
    have cy_7_2 := cells4 Ry_7 2 _ rfl
    have cy_7_3 := cells4 Ry_7 3 _ rfl
    have cz_7_0 := cells4 Rz_7 0 _ rfl
    have cz_7_1 := cells4 Rz_7 1 _ rfl
    have cz_7_2 := cells4 Rz_7 2 _ rfl
    have cz_7_3 := cells4 Rz_7 3 _ rfl
    go_wp2
    go_ret
    exact ⟨rfl, B7⟩
  have dc00 : decide ((900 : Int) < e0) = false := decide_eq_false c00
  by_cases c01 : e0 < -900
  · have dc01 : decide (e0 < -900) = true := decide_eq_true c01
    clear ho0 ho1 ho2 hm0 hm1 hm2 c01
    have Rx_0 : (((w.alloc (Obj.cells #[.bool b0, .string s0, .string t0, .int .i64 e0] 24)).alloc (Obj.cells #[.bool vb1, .string vs1, .string vt1, .int .i64 ve1] 24)).alloc (Obj.cells #[.bool vb2, .string vs2, .string vt2, .int .i64 ve2] 24)).heap[w.heap.size]? = some (Obj.cells #[.bool b0, .string s0, .string t0, .int .i64 e0] 24) := by rw [heap_below _ _ _ (by simp only [size_al]; omega), heap_below _ _ _ (by simp only [size_al]; omega)]; have := heap_alloc_last w (Obj.cells #[.bool b0, .string s0, .string t0, .int .i64 e0] 24); simpa only [size_al] using this
    have Ry_0 : (((w.alloc (Obj.cells #[.bool b0, .string s0, .string t0, .int .i64 e0] 24)).alloc (Obj.cells #[.bool vb1, .string vs1, .string vt1, .int .i64 ve1] 24)).alloc (Obj.cells #[.bool vb2, .string vs2, .string vt2, .int .i64 ve2] 24)).heap[w.heap.size + 1]? = some (Obj.cells #[.bool vb1, .string vs1, .string vt1, .int .i64 ve1] 24) := by rw [heap_below _ _ _ (by simp only [size_al]; omega)]; have := heap_alloc_last (w.alloc (Obj.cells #[.bool b0, .string s0, .string t0, .int .i64 e0] 24)) (Obj.cells #[.bool vb1, .string vs1, .string vt1, .int .i64 ve1] 24); simpa only [size_al] using this
    have Rz_0 : (((w.alloc (Obj.cells #[.bool b0, .string s0, .string t0, .int .i64 e0] 24)).alloc (Obj.cells #[.bool vb1, .string vs1, .string vt1, .int .i64 ve1] 24)).alloc (Obj.cells #[.bool vb2, .string vs2, .string vt2, .int .i64 ve2] 24)).heap[w.heap.size + 1 + 1]? = some (Obj.cells #[.bool vb2, .string vs2, .string vt2, .int .i64 ve2] 24) := by have := heap_alloc_last ((w.alloc (Obj.cells #[.bool b0, .string s0, .string t0, .int .i64 e0] 24)).alloc (Obj.cells #[.bool vb1, .string vs1, .string vt1, .int .i64 ve1] 24)) (Obj.cells #[.bool vb2, .string vs2, .string vt2, .int .i64 ve2] 24); simpa only [size_al] using this
    have B0 : Below w.heap.size w (((w.alloc (Obj.cells #[.bool b0, .string s0, .string t0, .int .i64 e0] 24)).alloc (Obj.cells #[.bool vb1, .string vs1, .string vt1, .int .i64 ve1] 24)).alloc (Obj.cells #[.bool vb2, .string vs2, .string vt2, .int .i64 ve2] 24)) := ((((Below.refl _ _).alloc (by first | omega | (simp only [size_al]; omega)) _).alloc (by first | omega | (simp only [size_al]; omega)) _).alloc (by first | omega | (simp only [size_al]; omega)) _)
    go_enter Tryd.func3, Tryd.ntmps3
    go_wp2_with fail
    refine (xshort b0 s0 t0 e0 20 20 true rfl H0.out _).mono ?_
    rintro r w1 ⟨rfl, b1⟩
    have B1 : Below w.heap.size w w1 := btr B0 b1
    have Rx_1 : w1.heap[w.heap.size]? = some (Obj.cells #[.bool b0, .string s0, .string t0, .int .i64 e0] 24) := heap_of b1 _ _ _ Rx_0
    have Ry_1 : w1.heap[w.heap.size + 1]? = some (Obj.cells #[.bool vb1, .string vs1, .string vt1, .int .i64 ve1] 24) := heap_of b1 _ _ _ Ry_0
    have Rz_1 : w1.heap[w.heap.size + 1 + 1]? = some (Obj.cells #[.bool vb2, .string vs2, .string vt2, .int .i64 ve2] 24) := heap_of b1 _ _ _ Rz_0
    clear b1 B0 Rx_0 Ry_0 Rz_0
    have cx_1_0 := cells4 Rx_1 0 _ rfl
    have cx_1_1 := cells4 Rx_1 1 _ rfl
    have cx_1_2 := cells4 Rx_1 2 _ rfl
    have cx_1_3 := cells4 Rx_1 3 _ rfl
    have cy_1_0 := cells4 Ry_1 0 _ rfl
    have cy_1_1 := cells4 Ry_1 1 _ rfl
    have cy_1_2 := cells4 Ry_1 2 _ rfl
    have cy_1_3 := cells4 Ry_1 3 _ rfl
    have cz_1_0 := cells4 Rz_1 0 _ rfl
    have cz_1_1 := cells4 Rz_1 1 _ rfl
    have cz_1_2 := cells4 Rz_1 2 _ rfl
    have cz_1_3 := cells4 Rz_1 3 _ rfl
    go_wp2_with fail
    refine (xshort vb1 vs1 vt1 ve1 20 20 true rfl H1.out _).mono ?_
    rintro r w2 ⟨rfl, b2⟩
    have B2 : Below w.heap.size w w2 := btr B1 b2
    have Rx_2 : w2.heap[w.heap.size]? = some (Obj.cells #[.bool b0, .string s0, .string t0, .int .i64 e0] 24) := heap_of b2 _ _ _ Rx_1
    have Ry_2 : w2.heap[w.heap.size + 1]? = some (Obj.cells #[.bool vb1, .string vs1, .string vt1, .int .i64 ve1] 24) := heap_of b2 _ _ _ Ry_1
    have Rz_2 : w2.heap[w.heap.size + 1 + 1]? = some (Obj.cells #[.bool vb2, .string vs2, .string vt2, .int .i64 ve2] 24) := heap_of b2 _ _ _ Rz_1
    clear b2 B1 Rx_1 cx_1_0 cx_1_1 cx_1_2 cx_1_3 Ry_1 cy_1_0 cy_1_1 cy_1_2 cy_1_3 Rz_1 cz_1_0 cz_1_1 cz_1_2 cz_1_3
    have cx_2_0 := cells4 Rx_2 0 _ rfl
    have cx_2_1 := cells4 Rx_2 1 _ rfl
    have cx_2_2 := cells4 Rx_2 2 _ rfl
    have cx_2_3 := cells4 Rx_2 3 _ rfl
    have cy_2_0 := cells4 Ry_2 0 _ rfl
    have cy_2_1 := cells4 Ry_2 1 _ rfl
    have cy_2_2 := cells4 Ry_2 2 _ rfl
    have cy_2_3 := cells4 Ry_2 3 _ rfl
    have cz_2_0 := cells4 Rz_2 0 _ rfl
    have cz_2_1 := cells4 Rz_2 1 _ rfl
    have cz_2_2 := cells4 Rz_2 2 _ rfl
    have cz_2_3 := cells4 Rz_2 3 _ rfl
    go_wp2_with fail
    refine (xshort vb2 vs2 vt2 ve2 20 20 true rfl H2.out _).mono ?_
    rintro r w3 ⟨rfl, b3⟩
    have B3 : Below w.heap.size w w3 := btr B2 b3
    have Rx_3 : w3.heap[w.heap.size]? = some (Obj.cells #[.bool b0, .string s0, .string t0, .int .i64 e0] 24) := heap_of b3 _ _ _ Rx_2
    have Ry_3 : w3.heap[w.heap.size + 1]? = some (Obj.cells #[.bool vb1, .string vs1, .string vt1, .int .i64 ve1] 24) := heap_of b3 _ _ _ Ry_2
    have Rz_3 : w3.heap[w.heap.size + 1 + 1]? = some (Obj.cells #[.bool vb2, .string vs2, .string vt2, .int .i64 ve2] 24) := heap_of b3 _ _ _ Rz_2
    clear b3 B2 Rx_2 cx_2_0 cx_2_1 cx_2_2 cx_2_3 Ry_2 cy_2_0 cy_2_1 cy_2_2 cy_2_3 Rz_2 cz_2_0 cz_2_1 cz_2_2 cz_2_3
    have cx_3_0 := cells4 Rx_3 0 _ rfl
    have cx_3_1 := cells4 Rx_3 1 _ rfl
    have cx_3_2 := cells4 Rx_3 2 _ rfl
    have cx_3_3 := cells4 Rx_3 3 _ rfl
    have cy_3_0 := cells4 Ry_3 0 _ rfl
    have cy_3_1 := cells4 Ry_3 1 _ rfl
    have cy_3_2 := cells4 Ry_3 2 _ rfl
    have cy_3_3 := cells4 Ry_3 3 _ rfl
    have cz_3_0 := cells4 Rz_3 0 _ rfl
    have cz_3_1 := cells4 Rz_3 1 _ rfl
    have cz_3_2 := cells4 Rz_3 2 _ rfl
    have cz_3_3 := cells4 Rz_3 3 _ rfl
    go_wp2_with fail
    refine (xmayM b0 s0 t0 e0 true M0.out _).mono ?_
    rintro r w4 ⟨rfl, b4⟩
    have B4 : Below w.heap.size w w4 := btr B3 b4
    have Rx_4 : w4.heap[w.heap.size]? = some (Obj.cells #[.bool b0, .string s0, .string t0, .int .i64 e0] 24) := heap_of b4 _ _ _ Rx_3
    have Ry_4 : w4.heap[w.heap.size + 1]? = some (Obj.cells #[.bool vb1, .string vs1, .string vt1, .int .i64 ve1] 24) := heap_of b4 _ _ _ Ry_3
    have Rz_4 : w4.heap[w.heap.size + 1 + 1]? = some (Obj.cells #[.bool vb2, .string vs2, .string vt2, .int .i64 ve2] 24) := heap_of b4 _ _ _ Rz_3
    clear b4 B3 Rx_3 cx_3_0 cx_3_1 cx_3_2 cx_3_3 Ry_3 cy_3_0 cy_3_1 cy_3_2 cy_3_3 Rz_3 cz_3_0 cz_3_1 cz_3_2 cz_3_3
    have cx_4_0 := cells4 Rx_4 0 _ rfl
    have cx_4_1 := cells4 Rx_4 1 _ rfl
    have cx_4_2 := cells4 Rx_4 2 _ rfl
    have cx_4_3 := cells4 Rx_4 3 _ rfl
    have cy_4_0 := cells4 Ry_4 0 _ rfl
    have cy_4_1 := cells4 Ry_4 1 _ rfl
    have cy_4_2 := cells4 Ry_4 2 _ rfl
    have cy_4_3 := cells4 Ry_4 3 _ rfl
    have cz_4_0 := cells4 Rz_4 0 _ rfl
    have cz_4_1 := cells4 Rz_4 1 _ rfl
    have cz_4_2 := cells4 Rz_4 2 _ rfl
    have cz_4_3 := cells4 Rz_4 3 _ rfl
    go_wp2_with fail
    refine (xmayM vb1 vs1 vt1 ve1 true M1.out _).mono ?_
    rintro r w5 ⟨rfl, b5⟩
    have B5 : Below w.heap.size w w5 := btr B4 b5
    have Rx_5 : w5.heap[w.heap.size]? = some (Obj.cells #[.bool b0, .string s0, .string t0, .int .i64 e0] 24) := heap_of b5 _ _ _ Rx_4
    have Ry_5 : w5.heap[w.heap.size + 1]? = some (Obj.cells #[.bool vb1, .string vs1, .string vt1, .int .i64 ve1] 24) := heap_of b5 _ _ _ Ry_4
    have Rz_5 : w5.heap[w.heap.size + 1 + 1]? = some (Obj.cells #[.bool vb2, .string vs2, .string vt2, .int .i64 ve2] 24) := heap_of b5 _ _ _ Rz_4
    clear b5 B4 Rx_4 cx_4_0 cx_4_1 cx_4_2 cx_4_3 Ry_4 cy_4_0 cy_4_1 cy_4_2 cy_4_3 Rz_4 cz_4_0 cz_4_1 cz_4_2 cz_4_3
    have cx_5_0 := cells4 Rx_5 0 _ rfl
    have cx_5_1 := cells4 Rx_5 1 _ rfl
    have cx_5_2 := cells4 Rx_5 2 _ rfl
    have cx_5_3 := cells4 Rx_5 3 _ rfl
    have cy_5_0 := cells4 Ry_5 0 _ rfl
    have cy_5_1 := cells4 Ry_5 1 _ rfl
    have cy_5_2 := cells4 Ry_5 2 _ rfl
    have cy_5_3 := cells4 Ry_5 3 _ rfl
    have cz_5_0 := cells4 Rz_5 0 _ rfl
    have cz_5_1 := cells4 Rz_5 1 _ rfl
    have cz_5_2 := cells4 Rz_5 2 _ rfl
    have cz_5_3 := cells4 Rz_5 3 _ rfl
    go_wp2_with fail
    refine (xmayM vb2 vs2 vt2 ve2 true M2.out _).mono ?_
    rintro r w6 ⟨rfl, b6⟩
    have B6 : Below w.heap.size w w6 := btr B5 b6
    have Rx_6 : w6.heap[w.heap.size]? = some (Obj.cells #[.bool b0, .string s0, .string t0, .int .i64 e0] 24) := heap_of b6 _ _ _ Rx_5
    have Ry_6 : w6.heap[w.heap.size + 1]? = some (Obj.cells #[.bool vb1, .string vs1, .string vt1, .int .i64 ve1] 24) := heap_of b6 _ _ _ Ry_5
    have Rz_6 : w6.heap[w.heap.size + 1 + 1]? = some (Obj.cells #[.bool vb2, .string vs2, .string vt2, .int .i64 ve2] 24) := heap_of b6 _ _ _ Rz_5
    clear b6 B5 Rx_5 cx_5_0 cx_5_1 cx_5_2 cx_5_3 Ry_5 cy_5_0 cy_5_1 cy_5_2 cy_5_3 Rz_5 cz_5_0 cz_5_1 cz_5_2 cz_5_3
    have cx_6_0 := cells4 Rx_6 0 _ rfl
    have cx_6_1 := cells4 Rx_6 1 _ rfl
    have cx_6_2 := cells4 Rx_6 2 _ rfl
    have cx_6_3 := cells4 Rx_6 3 _ rfl
    have cy_6_0 := cells4 Ry_6 0 _ rfl
    have cy_6_1 := cells4 Ry_6 1 _ rfl
    have cy_6_2 := cells4 Ry_6 2 _ rfl
    have cy_6_3 := cells4 Ry_6 3 _ rfl
    have cz_6_0 := cells4 Rz_6 0 _ rfl
    have cz_6_1 := cells4 Rz_6 1 _ rfl
    have cz_6_2 := cells4 Rz_6 2 _ rfl
    have cz_6_3 := cells4 Rz_6 3 _ rfl
    go_wp2_with fail
    refine (xalive _ (tabB TT.out B6)).mono ?_
    rintro r w7 ⟨rfl, b7⟩
    have B7 : Below w.heap.size w w7 := btr B6 b7
    have Rx_7 : w7.heap[w.heap.size]? = some (Obj.cells #[.bool b0, .string s0, .string t0, .int .i64 e0] 24) := heap_of b7 _ _ _ Rx_6
    have Ry_7 : w7.heap[w.heap.size + 1]? = some (Obj.cells #[.bool vb1, .string vs1, .string vt1, .int .i64 ve1] 24) := heap_of b7 _ _ _ Ry_6
    have Rz_7 : w7.heap[w.heap.size + 1 + 1]? = some (Obj.cells #[.bool vb2, .string vs2, .string vt2, .int .i64 ve2] 24) := heap_of b7 _ _ _ Rz_6
    clear b7 B6 Rx_6 cx_6_0 cx_6_1 cx_6_2 cx_6_3 Ry_6 cy_6_0 cy_6_1 cy_6_2 cy_6_3 Rz_6 cz_6_0 cz_6_1 cz_6_2 cz_6_3
    have cx_7_0 := cells4 Rx_7 0 _ rfl
    have cx_7_1 := cells4 Rx_7 1 _ rfl
    have cx_7_2 := cells4 Rx_7 2 _ rfl
    have cx_7_3 := cells4 Rx_7 3 _ rfl
    have cy_7_0 := cells4 Ry_7 0 _ rfl
    have cy_7_1 := cells4 Ry_7 1 _ rfl
    have cy_7_2 := cells4 Ry_7 2 _ rfl
    have cy_7_3 := cells4 Ry_7 3 _ rfl
    have cz_7_0 := cells4 Rz_7 0 _ rfl
    have cz_7_1 := cells4 Rz_7 1 _ rfl
    have cz_7_2 := cells4 Rz_7 2 _ rfl
    have cz_7_3 := cells4 Rz_7 3 _ rfl
    go_wp2
    go_ret
    exact ⟨rfl, B7⟩
  have dc01 : decide (e0 < -900) = false := decide_eq_false c01
  by_cases c10 : (900 : Int) < ve1
  · have dc10 : decide ((900 : Int) < ve1) = true := decide_eq_true c10
    clear ho0 ho1 ho2 hm0 hm1 hm2 c10
    have Rx_0 : (((w.alloc (Obj.cells #[.bool b0, .string s0, .string t0, .int .i64 e0] 24)).alloc (Obj.cells #[.bool vb1, .string vs1, .string vt1, .int .i64 ve1] 24)).alloc (Obj.cells #[.bool vb2, .string vs2, .string vt2, .int .i64 ve2] 24)).heap[w.heap.size]? = some (Obj.cells #[.bool b0, .string s0, .string t0, .int .i64 e0] 24) := by rw [heap_below _ _ _ (by simp only [size_al]; omega), heap_below _ _ _ (by simp only [size_al]; omega)]; have := heap_alloc_last w (Obj.cells #[.bool b0, .string s0, .string t0, .int .i64 e0] 24); simpa only [size_al] using this
    have Ry_0 : (((w.alloc (Obj.cells #[.bool b0, .string s0, .string t0, .int .i64 e0] 24)).alloc (Obj.cells #[.bool vb1, .string vs1, .string vt1, .int .i64 ve1] 24)).alloc (Obj.cells #[.bool vb2, .string vs2, .string vt2, .int .i64 ve2] 24)).heap[w.heap.size + 1]? = some (Obj.cells #[.bool vb1, .string vs1, .string vt1, .int .i64 ve1] 24) := by rw [heap_below _ _ _ (by simp only [size_al]; omega)]; have := heap_alloc_last (w.alloc (Obj.cells #[.bool b0, .string s0, .string t0, .int .i64 e0] 24)) (Obj.cells #[.bool vb1, .string vs1, .string vt1, .int .i64 ve1] 24); simpa only [size_al] using this
    have Rz_0 : (((w.alloc (Obj.cells #[.bool b0, .string s0, .string t0, .int .i64 e0] 24)).alloc (Obj.cells #[.bool vb1, .string vs1, .string vt1, .int .i64 ve1] 24)).alloc (Obj.cells #[.bool vb2, .string vs2, .string vt2, .int .i64 ve2] 24)).heap[w.heap.size + 1 + 1]? = some (Obj.cells #[.bool vb2, .string vs2, .string vt2, .int .i64 ve2] 24) := by have := heap_alloc_last ((w.alloc (Obj.cells #[.bool b0, .string s0, .string t0, .int .i64 e0] 24)).alloc (Obj.cells #[.bool vb1, .string vs1, .string vt1, .int .i64 ve1] 24)) (Obj.cells #[.bool vb2, .string vs2, .string vt2, .int .i64 ve2] 24); simpa only [size_al] using this
    have B0 : Below w.heap.size w (((w.alloc (Obj.cells #[.bool b0, .string s0, .string t0, .int .i64 e0] 24)).alloc (Obj.cells #[.bool vb1, .string vs1, .string vt1, .int .i64 ve1] 24)).alloc (Obj.cells #[.bool vb2, .string vs2, .string vt2, .int .i64 ve2] 24)) := ((((Below.refl _ _).alloc (by first | omega | (simp only [size_al]; omega)) _).alloc (by first | omega | (simp only [size_al]; omega)) _).alloc (by first | omega | (simp only [size_al]; omega)) _)
    go_enter Tryd.func3, Tryd.ntmps3
    go_wp2_with fail
    refine (xshort b0 s0 t0 e0 20 20 true rfl H0.out _).mono ?_
    rintro r w1 ⟨rfl, b1⟩
    have B1 : Below w.heap.size w w1 := btr B0 b1
    have Rx_1 : w1.heap[w.heap.size]? = some (Obj.cells #[.bool b0, .string s0, .string t0, .int .i64 e0] 24) := heap_of b1 _ _ _ Rx_0
    have Ry_1 : w1.heap[w.heap.size + 1]? = some (Obj.cells #[.bool vb1, .string vs1, .string vt1, .int .i64 ve1] 24) := heap_of b1 _ _ _ Ry_0
    have Rz_1 : w1.heap[w.heap.size + 1 + 1]? = some (Obj.cells #[.bool vb2, .string vs2, .string vt2, .int .i64 ve2] 24) := heap_of b1 _ _ _ Rz_0
    clear b1 B0 Rx_0 Ry_0 Rz_0
    have cx_1_0 := cells4 Rx_1 0 _ rfl
    have cx_1_1 := cells4 Rx_1 1 _ rfl
    have cx_1_2 := cells4 Rx_1 2 _ rfl
    have cx_1_3 := cells4 Rx_1 3 _ rfl
    have cy_1_0 := cells4 Ry_1 0 _ rfl
    have cy_1_1 := cells4 Ry_1 1 _ rfl
    have cy_1_2 := cells4 Ry_1 2 _ rfl
    have cy_1_3 := cells4 Ry_1 3 _ rfl
    have cz_1_0 := cells4 Rz_1 0 _ rfl
    have cz_1_1 := cells4 Rz_1 1 _ rfl
    have cz_1_2 := cells4 Rz_1 2 _ rfl
    have cz_1_3 := cells4 Rz_1 3 _ rfl
    go_wp2_with fail
    refine (xshort vb1 vs1 vt1 ve1 20 20 true rfl H1.out _).mono ?_
    rintro r w2 ⟨rfl, b2⟩
    have B2 : Below w.heap.size w w2 := btr B1 b2
    have Rx_2 : w2.heap[w.heap.size]? = some (Obj.cells #[.bool b0, .string s0, .string t0, .int .i64 e0] 24) := heap_of b2 _ _ _ Rx_1
    have Ry_2 : w2.heap[w.heap.size + 1]? = some (Obj.cells #[.bool vb1, .string vs1, .string vt1, .int .i64 ve1] 24) := heap_of b2 _ _ _ Ry_1
    have Rz_2 : w2.heap[w.heap.size + 1 + 1]? = some (Obj.cells #[.bool vb2, .string vs2, .string vt2, .int .i64 ve2] 24) := heap_of b2 _ _ _ Rz_1
    clear b2 B1 Rx_1 cx_1_0 cx_1_1 cx_1_2 cx_1_3 Ry_1 cy_1_0 cy_1_1 cy_1_2 cy_1_3 Rz_1 cz_1_0 cz_1_1 cz_1_2 cz_1_3
    have cx_2_0 := cells4 Rx_2 0 _ rfl
    have cx_2_1 := cells4 Rx_2 1 _ rfl
    have cx_2_2 := cells4 Rx_2 2 _ rfl
    have cx_2_3 := cells4 Rx_2 3 _ rfl
    have cy_2_0 := cells4 Ry_2 0 _ rfl
    have cy_2_1 := cells4 Ry_2 1 _ rfl
    have cy_2_2 := cells4 Ry_2 2 _ rfl
    have cy_2_3 := cells4 Ry_2 3 _ rfl
    have cz_2_0 := cells4 Rz_2 0 _ rfl
    have cz_2_1 := cells4 Rz_2 1 _ rfl
    have cz_2_2 := cells4 Rz_2 2 _ rfl
    have cz_2_3 := cells4 Rz_2 3 _ rfl
    go_wp2_with fail
    refine (xshort vb2 vs2 vt2 ve2 20 20 true rfl H2.out _).mono ?_
    rintro r w3 ⟨rfl, b3⟩
    have B3 : Below w.heap.size w w3 := btr B2 b3
    have Rx_3 : w3.heap[w.heap.size]? = some (Obj.cells #[.bool b0, .string s0, .string t0, .int .i64 e0] 24) := heap_of b3 _ _ _ Rx_2
    have Ry_3 : w3.heap[w.heap.size + 1]? = some (Obj.cells #[.bool vb1, .string vs1, .string vt1, .int .i64 ve1] 24) := heap_of b3 _ _ _ Ry_2
    have Rz_3 : w3.heap[w.heap.size + 1 + 1]? = some (Obj.cells #[.bool vb2, .string vs2, .string vt2, .int .i64 ve2] 24) := heap_of b3 _ _ _ Rz_2
    clear b3 B2 Rx_2 cx_2_0 cx_2_1 cx_2_2 cx_2_3 Ry_2 cy_2_0 cy_2_1 cy_2_2 cy_2_3 Rz_2 cz_2_0 cz_2_1 cz_2_2 cz_2_3
    have cx_3_0 := cells4 Rx_3 0 _ rfl
    have cx_3_1 := cells4 Rx_3 1 _ rfl
    have cx_3_2 := cells4 Rx_3 2 _ rfl
    have cx_3_3 := cells4 Rx_3 3 _ rfl
    have cy_3_0 := cells4 Ry_3 0 _ rfl
    have cy_3_1 := cells4 Ry_3 1 _ rfl
    have cy_3_2 := cells4 Ry_3 2 _ rfl
    have cy_3_3 := cells4 Ry_3 3 _ rfl
    have cz_3_0 := cells4 Rz_3 0 _ rfl
    have cz_3_1 := cells4 Rz_3 1 _ rfl
    have cz_3_2 := cells4 Rz_3 2 _ rfl
    have cz_3_3 := cells4 Rz_3 3 _ rfl
    go_wp2_with fail
    refine (xmayM b0 s0 t0 e0 true M0.out _).mono ?_
    rintro r w4 ⟨rfl, b4⟩
    have B4 : Below w.heap.size w w4 := btr B3 b4
    have Rx_4 : w4.heap[w.heap.size]? = some (Obj.cells #[.bool b0, .string s0, .string t0, .int .i64 e0] 24) := heap_of b4 _ _ _ Rx_3
    have Ry_4 : w4.heap[w.heap.size + 1]? = some (Obj.cells #[.bool vb1, .string vs1, .string vt1, .int .i64 ve1] 24) := heap_of b4 _ _ _ Ry_3
    have Rz_4 : w4.heap[w.heap.size + 1 + 1]? = some (Obj.cells #[.bool vb2, .string vs2, .string vt2, .int .i64 ve2] 24) := heap_of b4 _ _ _ Rz_3
    clear b4 B3 Rx_3 cx_3_0 cx_3_1 cx_3_2 cx_3_3 Ry_3 cy_3_0 cy_3_1 cy_3_2 cy_3_3 Rz_3 cz_3_0 cz_3_1 cz_3_2 cz_3_3
    have cx_4_0 := cells4 Rx_4 0 _ rfl
    have cx_4_1 := cells4 Rx_4 1 _ rfl
    have cx_4_2 := cells4 Rx_4 2 _ rfl
    have cx_4_3 := cells4 Rx_4 3 _ rfl
    have cy_4_0 := cells4 Ry_4 0 _ rfl
    have cy_4_1 := cells4 Ry_4 1 _ rfl
    have cy_4_2 := cells4 Ry_4 2 _ rfl
    have cy_4_3 := cells4 Ry_4 3 _ rfl
    have cz_4_0 := cells4 Rz_4 0 _ rfl
    have cz_4_1 := cells4 Rz_4 1 _ rfl
    have cz_4_2 := cells4 Rz_4 2 _ rfl
    have cz_4_3 := cells4 Rz_4 3 _ rfl
    go_wp2_with fail
    refine (xmayM vb1 vs1 vt1 ve1 true M1.out _).mono ?_
    rintro r w5 ⟨rfl, b5⟩
    have B5 : Below w.heap.size w w5 := btr B4 b5
    have Rx_5 : w5.heap[w.heap.size]? = some (Obj.cells #[.bool b0, .string s0, .string t0, .int .i64 e0] 24) := heap_of b5 _ _ _ Rx_4
    have Ry_5 : w5.heap[w.heap.size + 1]? = some (Obj.cells #[.bool vb1, .string vs1, .string vt1, .int .i64 ve1] 24) := heap_of b5 _ _ _ Ry_4
    have Rz_5 : w5.heap[w.heap.size + 1 + 1]? = some (Obj.cells #[.bool vb2, .string vs2, .string vt2, .int .i64 ve2] 24) := heap_of b5 _ _ _ Rz_4
    clear b5 B4 Rx_4 cx_4_0 cx_4_1 cx_4_2 cx_4_3 Ry_4 cy_4_0 cy_4_1 cy_4_2 cy_4_3 Rz_4 cz_4_0 cz_4_1 cz_4_2 cz_4_3
    have cx_5_0 := cells4 Rx_5 0 _ rfl
    have cx_5_1 := cells4 Rx_5 1 _ rfl
    have cx_5_2 := cells4 Rx_5 2 _ rfl
    have cx_5_3 := cells4 Rx_5 3 _ rfl
    have cy_5_0 := cells4 Ry_5 0 _ rfl
    have cy_5_1 := cells4 Ry_5 1 _ rfl
    have cy_5_2 := cells4 Ry_5 2 _ rfl
    have cy_5_3 := cells4 Ry_5 3 _ rfl
    have cz_5_0 := cells4 Rz_5 0 _ rfl
    have cz_5_1 := cells4 Rz_5 1 _ rfl
    have cz_5_2 := cells4 Rz_5 2 _ rfl
    have cz_5_3 := cells4 Rz_5 3 _ rfl
    go_wp2_with fail
    refine (xmayM vb2 vs2 vt2 ve2 true M2.out _).mono ?_
    rintro r w6 ⟨rfl, b6⟩
    have B6 : Below w.heap.size w w6 := btr B5 b6
    have Rx_6 : w6.heap[w.heap.size]? = some (Obj.cells #[.bool b0, .string s0, .string t0, .int .i64 e0] 24) := heap_of b6 _ _ _ Rx_5
    have Ry_6 : w6.heap[w.heap.size + 1]? = some (Obj.cells #[.bool vb1, .string vs1, .string vt1, .int .i64 ve1] 24) := heap_of b6 _ _ _ Ry_5
    have Rz_6 : w6.heap[w.heap.size + 1 + 1]? = some (Obj.cells #[.bool vb2, .string vs2, .string vt2, .int .i64 ve2] 24) := heap_of b6 _ _ _ Rz_5
    clear b6 B5 Rx_5 cx_5_0 cx_5_1 cx_5_2 cx_5_3 Ry_5 cy_5_0 cy_5_1 cy_5_2 cy_5_3 Rz_5 cz_5_0 cz_5_1 cz_5_2 cz_5_3
    have cx_6_0 := cells4 Rx_6 0 _ rfl
    have cx_6_1 := cells4 Rx_6 1 _ rfl
    have cx_6_2 := cells4 Rx_6 2 _ rfl
    have cx_6_3 := cells4 Rx_6 3 _ rfl
    have cy_6_0 := cells4 Ry_6 0 _ rfl
    have cy_6_1 := cells4 Ry_6 1 _ rfl
    have cy_6_2 := cells4 Ry_6 2 _ rfl
    have cy_6_3 := cells4 Ry_6 3 _ rfl
    have cz_6_0 := cells4 Rz_6 0 _ rfl
    have cz_6_1 := cells4 Rz_6 1 _ rfl
    have cz_6_2 := cells4 Rz_6 2 _ rfl
    have cz_6_3 := cells4 Rz_6 3 _ rfl
    go_wp2_with fail
    refine (xalive _ (tabB TT.out B6)).mono ?_
    rintro r w7 ⟨rfl, b7⟩
    have B7 : Below w.heap.size w w7 := btr B6 b7
    have Rx_7 : w7.heap[w.heap.size]? = some (Obj.cells #[.bool b0, .string s0, .string t0, .int .i64 e0] 24) := heap_of b7 _ _ _ Rx_6
    have Ry_7 : w7.heap[w.heap.size + 1]? = some (Obj.cells #[.bool vb1, .string vs1, .string vt1, .int .i64 ve1] 24) := heap_of b7 _ _ _ Ry_6
    have Rz_7 : w7.heap[w.heap.size + 1 + 1]? = some (Obj.cells #[.bool vb2, .string vs2, .string vt2, .int .i64 ve2] 24) := heap_of b7 _ _ _ Rz_6
    clear b7 B6 Rx_6 cx_6_0 cx_6_1 cx_6_2 cx_6_3 Ry_6 cy_6_0 cy_6_1 cy_6_2 cy_6_3 Rz_6 cz_6_0 cz_6_1 cz_6_2 cz_6_3
    have cx_7_0 := cells4 Rx_7 0 _ rfl
    have cx_7_1 := cells4 Rx_7 1 _ rfl
    have cx_7_2 := cells4 Rx_7 2 _ rfl
    have cx_7_3 := cells4 Rx_7 3 _ rfl
    have cy_7_0 := cells4 Ry_7 0 _ rfl
    have cy_7_1 := cells4 Ry_7 1 _ rfl
    have cy_7_2 := cells4 Ry_7 2 _ rfl
    have cy_7_3 := cells4 Ry_7 3 _ rfl
    have cz_7_0 := cells4 Rz_7 0 _ rfl
    have cz_7_1 := cells4 Rz_7 1 _ rfl
    have cz_7_2 := cells4 Rz_7 2 _ rfl
    have cz_7_3 := cells4 Rz_7 3 _ rfl
    go_wp2
    go_ret
    exact ⟨rfl, B7⟩
  have dc10 : decide ((900 : Int) < ve1) = false := decide_eq_false c10
  by_cases c11 : ve1 < -900
  · have dc11 : decide (ve1 < -900) = true := decide_eq_true c11
    clear ho0 ho1 ho2 hm0 hm1 hm2 c11
    have Rx_0 : (((w.alloc (Obj.cells #[.bool b0, .string s0, .string t0, .int .i64 e0] 24)).alloc (Obj.cells #[.bool vb1, .string vs1, .string vt1, .int .i64 ve1] 24)).alloc (Obj.cells #[.bool vb2, .string vs2, .string vt2, .int .i64 ve2] 24)).heap[w.heap.size]? = some (Obj.cells #[.bool b0, .string s0, .string t0, .int .i64 e0] 24) := by rw [heap_below _ _ _ (by simp only [size_al]; omega), heap_below _ _ _ (by simp only [size_al]; omega)]; have := heap_alloc_last w (Obj.cells #[.bool b0, .string s0, .string t0, .int .i64 e0] 24); simpa only [size_al] using this
    have Ry_0 : (((w.alloc (Obj.cells #[.bool b0, .string s0, .string t0, .int .i64 e0] 24)).alloc (Obj.cells #[.bool vb1, .string vs1, .string vt1, .int .i64 ve1] 24)).alloc (Obj.cells #[.bool vb2, .string vs2, .string vt2, .int .i64 ve2] 24)).heap[w.heap.size + 1]? = some (Obj.cells #[.bool vb1, .string vs1, .string vt1, .int .i64 ve1] 24) := by rw [heap_below _ _ _ (by simp only [size_al]; omega)]; have := heap_alloc_last (w.alloc (Obj.cells #[.bool b0, .string s0, .string t0, .int .i64 e0] 24)) (Obj.cells #[.bool vb1, .string vs1, .string vt1, .int .i64 ve1] 24); simpa only [size_al] using this
    have Rz_0 : (((w.alloc (Obj.cells #[.bool b0, .string s0, .string t0, .int .i64 e0] 24)).alloc (Obj.cells #[.bool vb1, .string vs1, .string vt1, .int .i64 ve1] 24)).alloc (Obj.cells #[.bool vb2, .string vs2, .string vt2, .int .i64 ve2] 24)).heap[w.heap.size + 1 + 1]? = some (Obj.cells #[.bool vb2, .string vs2, .string vt2, .int .i64 ve2] 24) := by have := heap_alloc_last ((w.alloc (Obj.cells #[.bool b0, .string s0, .string t0, .int .i64 e0] 24)).alloc (Obj.cells #[.bool vb1, .string vs1, .string vt1, .int .i64 ve1] 24)) (Obj.cells #[.bool vb2, .string vs2, .string vt2, .int .i64 ve2] 24); simpa only [size_al] using this
    have B0 : Below w.heap.size w (((w.alloc (Obj.cells #[.bool b0, .string s0, .string t0, .int .i64 e0] 24)).alloc (Obj.cells #[.bool vb1, .string vs1, .string vt1, .int .i64 ve1] 24)).alloc (Obj.cells #[.bool vb2, .string vs2, .string vt2, .int .i64 ve2] 24)) := ((((Below.refl _ _).alloc (by first | omega | (simp only [size_al]; omega)) _).alloc (by first | omega | (simp only [size_al]; omega)) _).alloc (by first | omega | (simp only [size_al]; omega)) _)
    go_enter Tryd.func3, Tryd.ntmps3
    go_wp2_with fail
    refine (xshort b0 s0 t0 e0 20 20 true rfl H0.out _).mono ?_
    rintro r w1 ⟨rfl, b1⟩
    have B1 : Below w.heap.size w w1 := btr B0 b1
    have Rx_1 : w1.heap[w.heap.size]? = some (Obj.cells #[.bool b0, .string s0, .string t0, .int .i64 e0] 24) := heap_of b1 _ _ _ Rx_0
    have Ry_1 : w1.heap[w.heap.size + 1]? = some (Obj.cells #[.bool vb1, .string vs1, .string vt1, .int .i64 ve1] 24) := heap_of b1 _ _ _ Ry_0
    have Rz_1 : w1.heap[w.heap.size + 1 + 1]? = some (Obj.cells #[.bool vb2, .string vs2, .string vt2, .int .i64 ve2] 24) := heap_of b1 _ _ _ Rz_0
    clear b1 B0 Rx_0 Ry_0 Rz_0
    have cx_1_0 := cells4 Rx_1 0 _ rfl
    have cx_1_1 := cells4 Rx_1 1 _ rfl
    have cx_1_2 := cells4 Rx_1 2 _ rfl
    have cx_1_3 := cells4 Rx_1 3 _ rfl
    have cy_1_0 := cells4 Ry_1 0 _ rfl
    have cy_1_1 := cells4 Ry_1 1 _ rfl
    have cy_1_2 := cells4 Ry_1 2 _ rfl
    have cy_1_3 := cells4 Ry_1 3 _ rfl
    have cz_1_0 := cells4 Rz_1 0 _ rfl
    have cz_1_1 := cells4 Rz_1 1 _ rfl
    have cz_1_2 := cells4 Rz_1 2 _ rfl
    have cz_1_3 := cells4 Rz_1 3 _ rfl
    go_wp2_with fail
    refine (xshort vb1 vs1 vt1 ve1 20 20 true rfl H1.out _).mono ?_
    rintro r w2 ⟨rfl, b2⟩
    have B2 : Below w.heap.size w w2 := btr B1 b2
    have Rx_2 : w2.heap[w.heap.size]? = some (Obj.cells #[.bool b0, .string s0, .string t0, .int .i64 e0] 24) := heap_of b2 _ _ _ Rx_1
    have Ry_2 : w2.heap[w.heap.size + 1]? = some (Obj.cells #[.bool vb1, .string vs1, .string vt1, .int .i64 ve1] 24) := heap_of b2 _ _ _ Ry_1
    have Rz_2 : w2.heap[w.heap.size + 1 + 1]? = some (Obj.cells #[.bool vb2, .string vs2, .string vt2, .int .i64 ve2] 24) := heap_of b2 _ _ _ Rz_1
    clear b2 B1 Rx_1 cx_1_0 cx_1_1 cx_1_2 cx_1_3 Ry_1 cy_1_0 cy_1_1 cy_1_2 cy_1_3 Rz_1 cz_1_0 cz_1_1 cz_1_2 cz_1_3
    have cx_2_0 := cells4 Rx_2 0 _ rfl
    have cx_2_1 := cells4 Rx_2 1 _ rfl
    have cx_2_2 := cells4 Rx_2 2 _ rfl
    have cx_2_3 := cells4 Rx_2 3 _ rfl
    have cy_2_0 := cells4 Ry_2 0 _ rfl
    have cy_2_1 := cells4 Ry_2 1 _ rfl
    have cy_2_2 := cells4 Ry_2 2 _ rfl
    have cy_2_3 := cells4 Ry_2 3 _ rfl
    have cz_2_0 := cells4 Rz_2 0 _ rfl
    have cz_2_1 := cells4 Rz_2 1 _ rfl
    have cz_2_2 := cells4 Rz_2 2 _ rfl
    have cz_2_3 := cells4 Rz_2 3 _ rfl
    go_wp2_with fail
    refine (xshort vb2 vs2 vt2 ve2 20 20 true rfl H2.out _).mono ?_
    rintro r w3 ⟨rfl, b3⟩
    have B3 : Below w.heap.size w w3 := btr B2 b3
    have Rx_3 : w3.heap[w.heap.size]? = some (Obj.cells #[.bool b0, .string s0, .string t0, .int .i64 e0] 24) := heap_of b3 _ _ _ Rx_2
    have Ry_3 : w3.heap[w.heap.size + 1]? = some (Obj.cells #[.bool vb1, .string vs1, .string vt1, .int .i64 ve1] 24) := heap_of b3 _ _ _ Ry_2
    have Rz_3 : w3.heap[w.heap.size + 1 + 1]? = some (Obj.cells #[.bool vb2, .string vs2, .string vt2, .int .i64 ve2] 24) := heap_of b3 _ _ _ Rz_2
    clear b3 B2 Rx_2 cx_2_0 cx_2_1 cx_2_2 cx_2_3 Ry_2 cy_2_0 cy_2_1 cy_2_2 cy_2_3 Rz_2 cz_2_0 cz_2_1 cz_2_2 cz_2_3
    have cx_3_0 := cells4 Rx_3 0 _ rfl
    have cx_3_1 := cells4 Rx_3 1 _ rfl
    have cx_3_2 := cells4 Rx_3 2 _ rfl
    have cx_3_3 := cells4 Rx_3 3 _ rfl
    have cy_3_0 := cells4 Ry_3 0 _ rfl
    have cy_3_1 := cells4 Ry_3 1 _ rfl
    have cy_3_2 := cells4 Ry_3 2 _ rfl
    have cy_3_3 := cells4 Ry_3 3 _ rfl
    have cz_3_0 := cells4 Rz_3 0 _ rfl
    have cz_3_1 := cells4 Rz_3 1 _ rfl
    have cz_3_2 := cells4 Rz_3 2 _ rfl
    have cz_3_3 := cells4 Rz_3 3 _ rfl
    go_wp2_with fail
    refine (xmayM b0 s0 t0 e0 true M0.out _).mono ?_
    rintro r w4 ⟨rfl, b4⟩
    have B4 : Below w.heap.size w w4 := btr B3 b4
    have Rx_4 : w4.heap[w.heap.size]? = some (Obj.cells #[.bool b0, .string s0, .string t0, .int .i64 e0] 24) := heap_of b4 _ _ _ Rx_3
    have Ry_4 : w4.heap[w.heap.size + 1]? = some (Obj.cells #[.bool vb1, .string vs1, .string vt1, .int .i64 ve1] 24) := heap_of b4 _ _ _ Ry_3
    have Rz_4 : w4.heap[w.heap.size + 1 + 1]? = some (Obj.cells #[.bool vb2, .string vs2, .string vt2, .int .i64 ve2] 24) := heap_of b4 _ _ _ Rz_3
    clear b4 B3 Rx_3 cx_3_0 cx_3_1 cx_3_2 cx_3_3 Ry_3 cy_3_0 cy_3_1 cy_3_2 cy_3_3 Rz_3 cz_3_0 cz_3_1 cz_3_2 cz_3_3
    have cx_4_0 := cells4 Rx_4 0 _ rfl
    have cx_4_1 := cells4 Rx_4 1 _ rfl
    have cx_4_2 := cells4 Rx_4 2 _ rfl
    have cx_4_3 := cells4 Rx_4 3 _ rfl
    have cy_4_0 := cells4 Ry_4 0 _ rfl
    have cy_4_1 := cells4 Ry_4 1 _ rfl
    have cy_4_2 := cells4 Ry_4 2 _ rfl
    have cy_4_3 := cells4 Ry_4 3 _ rfl
    have cz_4_0 := cells4 Rz_4 0 _ rfl
    have cz_4_1 := cells4 Rz_4 1 _ rfl
    have cz_4_2 := cells4 Rz_4 2 _ rfl
    have cz_4_3 := cells4 Rz_4 3 _ rfl
    go_wp2_with fail
    refine (xmayM vb1 vs1 vt1 ve1 true M1.out _).mono ?_
    rintro r w5 ⟨rfl, b5⟩
    have B5 : Below w.heap.size w w5 := btr B4 b5
    have Rx_5 : w5.heap[w.heap.size]? = some (Obj.cells #[.bool b0, .string s0, .string t0, .int .i64 e0] 24) := heap_of b5 _ _ _ Rx_4
    have Ry_5 : w5.heap[w.heap.size + 1]? = some (Obj.cells #[.bool vb1, .string vs1, .string vt1, .int .i64 ve1] 24) := heap_of b5 _ _ _ Ry_4
    have Rz_5 : w5.heap[w.heap.size + 1 + 1]? = some (Obj.cells #[.bool vb2, .string vs2, .string vt2, .int .i64 ve2] 24) := heap_of b5 _ _ _ Rz_4
    clear b5 B4 Rx_4 cx_4_0 cx_4_1 cx_4_2 cx_4_3 Ry_4 cy_4_0 cy_4_1 cy_4_2 cy_4_3 Rz_4 cz_4_0 cz_4_1 cz_4_2 cz_4_3
    have cx_5_0 := cells4 Rx_5 0 _ rfl
    have cx_5_1 := cells4 Rx_5 1 _ rfl
    have cx_5_2 := cells4 Rx_5 2 _ rfl
    have cx_5_3 := cells4 Rx_5 3 _ rfl
    have cy_5_0 := cells4 Ry_5 0 _ rfl
    have cy_5_1 := cells4 Ry_5 1 _ rfl
    have cy_5_2 := cells4 Ry_5 2 _ rfl
    have cy_5_3 := cells4 Ry_5 3 _ rfl
    have cz_5_0 := cells4 Rz_5 0 _ rfl
    have cz_5_1 := cells4 Rz_5 1 _ rfl
    have cz_5_2 := cells4 Rz_5 2 _ rfl
    have cz_5_3 := cells4 Rz_5 3 _ rfl
    go_wp2_with fail
    refine (xmayM vb2 vs2 vt2 ve2 true M2.out _).mono ?_
    rintro r w6 ⟨rfl, b6⟩
    have B6 : Below w.heap.size w w6 := btr B5 b6
    have Rx_6 : w6.heap[w.heap.size]? = some (Obj.cells #[.bool b0, .string s0, .string t0, .int .i64 e0] 24) := heap_of b6 _ _ _ Rx_5
    have Ry_6 : w6.heap[w.heap.size + 1]? = some (Obj.cells #[.bool vb1, .string vs1, .string vt1, .int .i64 ve1] 24) := heap_of b6 _ _ _ Ry_5
    have Rz_6 : w6.heap[w.heap.size + 1 + 1]? = some (Obj.cells #[.bool vb2, .string vs2, .string vt2, .int .i64 ve2] 24) := heap_of b6 _ _ _ Rz_5
    clear b6 B5 Rx_5 cx_5_0 cx_5_1 cx_5_2 cx_5_3 Ry_5 cy_5_0 cy_5_1 cy_5_2 cy_5_3 Rz_5 cz_5_0 cz_5_1 cz_5_2 cz_5_3
    have cx_6_0 := cells4 Rx_6 0 _ rfl
    have cx_6_1 := cells4 Rx_6 1 _ rfl
    have cx_6_2 := cells4 Rx_6 2 _ rfl
    have cx_6_3 := cells4 Rx_6 3 _ rfl
    have cy_6_0 := cells4 Ry_6 0 _ rfl
    have cy_6_1 := cells4 Ry_6 1 _ rfl
    have cy_6_2 := cells4 Ry_6 2 _ rfl
    have cy_6_3 := cells4 Ry_6 3 _ rfl
    have cz_6_0 := cells4 Rz_6 0 _ rfl
    have cz_6_1 := cells4 Rz_6 1 _ rfl
    have cz_6_2 := cells4 Rz_6 2 _ rfl
    have cz_6_3 := cells4 Rz_6 3 _ rfl
    go_wp2_with fail
    refine (xalive _ (tabB TT.out B6)).mono ?_
    rintro r w7 ⟨rfl, b7⟩
    have B7 : Below w.heap.size w w7 := btr B6 b7
    have Rx_7 : w7.heap[w.heap.size]? = some (Obj.cells #[.bool b0, .string s0, .string t0, .int .i64 e0] 24) := heap_of b7 _ _ _ Rx_6
    have Ry_7 : w7.heap[w.heap.size + 1]? = some (Obj.cells #[.bool vb1, .string vs1, .string vt1, .int .i64 ve1] 24) := heap_of b7 _ _ _ Ry_6
    have Rz_7 : w7.heap[w.heap.size + 1 + 1]? = some (Obj.cells #[.bool vb2, .string vs2, .string vt2, .int .i64 ve2] 24) := heap_of b7 _ _ _ Rz_6
    clear b7 B6 Rx_6 cx_6_0 cx_6_1 cx_6_2 cx_6_3 Ry_6 cy_6_0 cy_6_1 cy_6_2 cy_6_3 Rz_6 cz_6_0 cz_6_1 cz_6_2 cz_6_3
    have cx_7_0 := cells4 Rx_7 0 _ rfl
    have cx_7_1 := cells4 Rx_7 1 _ rfl
    have cx_7_2 := cells4 Rx_7 2 _ rfl
    have cx_7_3 := cells4 Rx_7 3 _ rfl
    have cy_7_0 := cells4 Ry_7 0 _ rfl
    have cy_7_1 := cells4 Ry_7 1 _ rfl
    have cy_7_2 := cells4 Ry_7 2 _ rfl
    have cy_7_3 := cells4 Ry_7 3 _ rfl
    have cz_7_0 := cells4 Rz_7 0 _ rfl
    have cz_7_1 := cells4 Rz_7 1 _ rfl
    have cz_7_2 := cells4 Rz_7 2 _ rfl
    have cz_7_3 := cells4 Rz_7 3 _ rfl
    go_wp2
    go_ret
    exact ⟨rfl, B7⟩
  have dc11 : decide (ve1 < -900) = false := decide_eq_false c11
  by_cases c20 : (900 : Int) < ve2
  · have dc20 : decide ((900 : Int) < ve2) = true := decide_eq_true c20
    clear ho0 ho1 ho2 hm0 hm1 hm2 c20
    have Rx_0 : (((w.alloc (Obj.cells #[.bool b0, .string s0, .string t0, .int .i64 e0] 24)).alloc (Obj.cells #[.bool vb1, .string vs1, .string vt1, .int .i64 ve1] 24)).alloc (Obj.cells #[.bool vb2, .string vs2, .string vt2, .int .i64 ve2] 24)).heap[w.heap.size]? = some (Obj.cells #[.bool b0, .string s0, .string t0, .int .i64 e0] 24) := by rw [heap_below _ _ _ (by simp only [size_al]; omega), heap_below _ _ _ (by simp only [size_al]; omega)]; have := heap_alloc_last w (Obj.cells #[.bool b0, .string s0, .string t0, .int .i64 e0] 24); simpa only [size_al] using this
    have Ry_0 : (((w.alloc (Obj.cells #[.bool b0, .string s0, .string t0, .int .i64 e0] 24)).alloc (Obj.cells #[.bool vb1, .string vs1, .string vt1, .int .i64 ve1] 24)).alloc (Obj.cells #[.bool vb2, .string vs2, .string vt2, .int .i64 ve2] 24)).heap[w.heap.size + 1]? = some (Obj.cells #[.bool vb1, .string vs1, .string vt1, .int .i64 ve1] 24) := by rw [heap_below _ _ _ (by simp only [size_al]; omega)]; have := heap_alloc_last (w.alloc (Obj.cells #[.bool b0, .string s0, .string t0, .int .i64 e0] 24)) (Obj.cells #[.bool vb1, .string vs1, .string vt1, .int .i64 ve1] 24); simpa only [size_al] using this
    have Rz_0 : (((w.alloc (Obj.cells #[.bool b0, .string s0, .string t0, .int .i64 e0] 24)).alloc (Obj.cells #[.bool vb1, .string vs1, .string vt1, .int .i64 ve1] 24)).alloc (Obj.cells #[.bool vb2, .string vs2, .string vt2, .int .i64 ve2] 24)).heap[w.heap.size + 1 + 1]? = some (Obj.cells #[.bool vb2, .string vs2, .string vt2, .int .i64 ve2] 24) := by have := heap_alloc_last ((w.alloc (Obj.cells #[.bool b0, .string s0, .string t0, .int .i64 e0] 24)).alloc (Obj.cells #[.bool vb1, .string vs1, .string vt1, .int .i64 ve1] 24)) (Obj.cells #[.bool vb2, .string vs2, .string vt2, .int .i64 ve2] 24); simpa only [size_al] using this
    have B0 : Below w.heap.size w (((w.alloc (Obj.cells #[.bool b0, .string s0, .string t0, .int .i64 e0] 24)).alloc (Obj.cells #[.bool vb1, .string vs1, .string vt1, .int .i64 ve1] 24)).alloc (Obj.cells #[.bool vb2, .string vs2, .string vt2, .int .i64 ve2] 24)) := ((((Below.refl _ _).alloc (by first | omega | (simp only [size_al]; omega)) _).alloc (by first | omega | (simp only [size_al]; omega)) _).alloc (by first | omega | (simp only [size_al]; omega)) _)
    go_enter Tryd.func3, Tryd.ntmps3
    go_wp2_with fail
    refine (xshort b0 s0 t0 e0 20 20 true rfl H0.out _).mono ?_
    rintro r w1 ⟨rfl, b1⟩
    have B1 : Below w.heap.size w w1 := btr B0 b1
    have Rx_1 : w1.heap[w.heap.size]? = some (Obj.cells #[.bool b0, .string s0, .string t0, .int .i64 e0] 24) := heap_of b1 _ _ _ Rx_0
    have Ry_1 : w1.heap[w.heap.size + 1]? = some (Obj.cells #[.bool vb1, .string vs1, .string vt1, .int .i64 ve1] 24) := heap_of b1 _ _ _ Ry_0
    have Rz_1 : w1.heap[w.heap.size + 1 + 1]? = some (Obj.cells #[.bool vb2, .string vs2, .string vt2, .int .i64 ve2] 24) := heap_of b1 _ _ _ Rz_0
    clear b1 B0 Rx_0 Ry_0 Rz_0
    have cx_1_0 := cells4 Rx_1 0 _ rfl
    have cx_1_1 := cells4 Rx_1 1 _ rfl
    have cx_1_2 := cells4 Rx_1 2 _ rfl
    have cx_1_3 := cells4 Rx_1 3 _ rfl
    have cy_1_0 := cells4 Ry_1 0 _ rfl
    have cy_1_1 := cells4 Ry_1 1 _ rfl
    have cy_1_2 := cells4 Ry_1 2 _ rfl
    have cy_1_3 := cells4 Ry_1 3 _ rfl
    have cz_1_0 := cells4 Rz_1 0 _ rfl
    have cz_1_1 := cells4 Rz_1 1 _ rfl
    have cz_1_2 := cells4 Rz_1 2 _ rfl
    have cz_1_3 := cells4 Rz_1 3 _ rfl
    go_wp2_with fail
    refine (xshort vb1 vs1 vt1 ve1 20 20 true rfl H1.out _).mono ?_
    rintro r w2 ⟨rfl, b2⟩
    have B2 : Below w.heap.size w w2 := btr B1 b2
    have Rx_2 : w2.heap[w.heap.size]? = some (Obj.cells #[.bool b0, .string s0, .string t0, .int .i64 e0] 24) := heap_of b2 _ _ _ Rx_1
    have Ry_2 : w2.heap[w.heap.size + 1]? = some (Obj.cells #[.bool vb1, .string vs1, .string vt1, .int .i64 ve1] 24) := heap_of b2 _ _ _ Ry_1
    have Rz_2 : w2.heap[w.heap.size + 1 + 1]? = some (Obj.cells #[.bool vb2, .string vs2, .string vt2, .int .i64 ve2] 24) := heap_of b2 _ _ _ Rz_1
    clear b2 B1 Rx_1 cx_1_0 cx_1_1 cx_1_2 cx_1_3 Ry_1 cy_1_0 cy_1_1 cy_1_2 cy_1_3 Rz_1 cz_1_0 cz_1_1 cz_1_2 cz_1_3
    have cx_2_0 := cells4 Rx_2 0 _ rfl
    have cx_2_1 := cells4 Rx_2 1 _ rfl
    have cx_2_2 := cells4 Rx_2 2 _ rfl
    have cx_2_3 := cells4 Rx_2 3 _ rfl
    have cy_2_0 := cells4 Ry_2 0 _ rfl
    have cy_2_1 := cells4 Ry_2 1 _ rfl
    have cy_2_2 := cells4 Ry_2 2 _ rfl
    have cy_2_3 := cells4 Ry_2 3 _ rfl
    have cz_2_0 := cells4 Rz_2 0 _ rfl
    have cz_2_1 := cells4 Rz_2 1 _ rfl
    have cz_2_2 := cells4 Rz_2 2 _ rfl
    have cz_2_3 := cells4 Rz_2 3 _ rfl
    go_wp2_with fail
    refine (xshort vb2 vs2 vt2 ve2 20 20 true rfl H2.out _).mono ?_
    rintro r w3 ⟨rfl, b3⟩
    have B3 : Below w.heap.size w w3 := btr B2 b3
    have Rx_3 : w3.heap[w.heap.size]? = some (Obj.cells #[.bool b0, .string s0, .string t0, .int .i64 e0] 24) := heap_of b3 _ _ _ Rx_2
    have Ry_3 : w3.heap[w.heap.size + 1]? = some (Obj.cells #[.bool vb1, .string vs1, .string vt1, .int .i64 ve1] 24) := heap_of b3 _ _ _ Ry_2
    have Rz_3 : w3.heap[w.heap.size + 1 + 1]? = some (Obj.cells #[.bool vb2, .string vs2, .string vt2, .int .i64 ve2] 24) := heap_of b3 _ _ _ Rz_2
    clear b3 B2 Rx_2 cx_2_0 cx_2_1 cx_2_2 cx_2_3 Ry_2 cy_2_0 cy_2_1 cy_2_2 cy_2_3 Rz_2 cz_2_0 cz_2_1 cz_2_2 cz_2_3
    have cx_3_0 := cells4 Rx_3 0 _ rfl
    have cx_3_1 := cells4 Rx_3 1 _ rfl
    have cx_3_2 := cells4 Rx_3 2 _ rfl
    have cx_3_3 := cells4 Rx_3 3 _ rfl
    have cy_3_0 := cells4 Ry_3 0 _ rfl
    have cy_3_1 := cells4 Ry_3 1 _ rfl
    have cy_3_2 := cells4 Ry_3 2 _ rfl
    have cy_3_3 := cells4 Ry_3 3 _ rfl
    have cz_3_0 := cells4 Rz_3 0 _ rfl
    have cz_3_1 := cells4 Rz_3 1 _ rfl
    have cz_3_2 := cells4 Rz_3 2 _ rfl
    have cz_3_3 := cells4 Rz_3 3 _ rfl
    go_wp2_with fail
    refine (xmayM b0 s0 t0 e0 true M0.out _).mono ?_
    rintro r w4 ⟨rfl, b4⟩
    have B4 : Below w.heap.size w w4 := btr B3 b4
    have Rx_4 : w4.heap[w.heap.size]? = some (Obj.cells #[.bool b0, .string s0, .string t0, .int .i64 e0] 24) := heap_of b4 _ _ _ Rx_3
    have Ry_4 : w4.heap[w.heap.size + 1]? = some (Obj.cells #[.bool vb1, .string vs1, .string vt1, .int .i64 ve1] 24) := heap_of b4 _ _ _ Ry_3
    have Rz_4 : w4.heap[w.heap.size + 1 + 1]? = some (Obj.cells #[.bool vb2, .string vs2, .string vt2, .int .i64 ve2] 24) := heap_of b4 _ _ _ Rz_3
    clear b4 B3 Rx_3 cx_3_0 cx_3_1 cx_3_2 cx_3_3 Ry_3 cy_3_0 cy_3_1 cy_3_2 cy_3_3 Rz_3 cz_3_0 cz_3_1 cz_3_2 cz_3_3
    have cx_4_0 := cells4 Rx_4 0 _ rfl
    have cx_4_1 := cells4 Rx_4 1 _ rfl
    have cx_4_2 := cells4 Rx_4 2 _ rfl
    have cx_4_3 := cells4 Rx_4 3 _ rfl
    have cy_4_0 := cells4 Ry_4 0 _ rfl
    have cy_4_1 := cells4 Ry_4 1 _ rfl
    have cy_4_2 := cells4 Ry_4 2 _ rfl
    have cy_4_3 := cells4 Ry_4 3 _ rfl
    have cz_4_0 := cells4 Rz_4 0 _ rfl
    have cz_4_1 := cells4 Rz_4 1 _ rfl
    have cz_4_2 := cells4 Rz_4 2 _ rfl
    have cz_4_3 := cells4 Rz_4 3 _ rfl
    go_wp2_with fail
    refine (xmayM vb1 vs1 vt1 ve1 true M1.out _).mono ?_
    rintro r w5 ⟨rfl, b5⟩
    have B5 : Below w.heap.size w w5 := btr B4 b5
    have Rx_5 : w5.heap[w.heap.size]? = some (Obj.cells #[.bool b0, .string s0, .string t0, .int .i64 e0] 24) := heap_of b5 _ _ _ Rx_4
    have Ry_5 : w5.heap[w.heap.size + 1]? = some (Obj.cells #[.bool vb1, .string vs1, .string vt1, .int .i64 ve1] 24) := heap_of b5 _ _ _ Ry_4
    have Rz_5 : w5.heap[w.heap.size + 1 + 1]? = some (Obj.cells #[.bool vb2, .string vs2, .string vt2, .int .i64 ve2] 24) := heap_of b5 _ _ _ Rz_4
    clear b5 B4 Rx_4 cx_4_0 cx_4_1 cx_4_2 cx_4_3 Ry_4 cy_4_0 cy_4_1 cy_4_2 cy_4_3 Rz_4 cz_4_0 cz_4_1 cz_4_2 cz_4_3
    have cx_5_0 := cells4 Rx_5 0 _ rfl
    have cx_5_1 := cells4 Rx_5 1 _ rfl
    have cx_5_2 := cells4 Rx_5 2 _ rfl
    have cx_5_3 := cells4 Rx_5 3 _ rfl
    have cy_5_0 := cells4 Ry_5 0 _ rfl
    have cy_5_1 := cells4 Ry_5 1 _ rfl
    have cy_5_2 := cells4 Ry_5 2 _ rfl
    have cy_5_3 := cells4 Ry_5 3 _ rfl
    have cz_5_0 := cells4 Rz_5 0 _ rfl
    have cz_5_1 := cells4 Rz_5 1 _ rfl
    have cz_5_2 := cells4 Rz_5 2 _ rfl
    have cz_5_3 := cells4 Rz_5 3 _ rfl
    go_wp2_with fail
    refine (xmayM vb2 vs2 vt2 ve2 true M2.out _).mono ?_
    rintro r w6 ⟨rfl, b6⟩
    have B6 : Below w.heap.size w w6 := btr B5 b6
    have Rx_6 : w6.heap[w.heap.size]? = some (Obj.cells #[.bool b0, .string s0, .string t0, .int .i64 e0] 24) := heap_of b6 _ _ _ Rx_5
    have Ry_6 : w6.heap[w.heap.size + 1]? = some (Obj.cells #[.bool vb1, .string vs1, .string vt1, .int .i64 ve1] 24) := heap_of b6 _ _ _ Ry_5
    have Rz_6 : w6.heap[w.heap.size + 1 + 1]? = some (Obj.cells #[.bool vb2, .string vs2, .string vt2, .int .i64 ve2] 24) := heap_of b6 _ _ _ Rz_5
    clear b6 B5 Rx_5 cx_5_0 cx_5_1 cx_5_2 cx_5_3 Ry_5 cy_5_0 cy_5_1 cy_5_2 cy_5_3 Rz_5 cz_5_0 cz_5_1 cz_5_2 cz_5_3
    have cx_6_0 := cells4 Rx_6 0 _ rfl
    have cx_6_1 := cells4 Rx_6 1 _ rfl
    have cx_6_2 := cells4 Rx_6 2 _ rfl
    have cx_6_3 := cells4 Rx_6 3 _ rfl
    have cy_6_0 := cells4 Ry_6 0 _ rfl
    have cy_6_1 := cells4 Ry_6 1 _ rfl
    have cy_6_2 := cells4 Ry_6 2 _ rfl
    have cy_6_3 := cells4 Ry_6 3 _ rfl
    have cz_6_0 := cells4 Rz_6 0 _ rfl
    have cz_6_1 := cells4 Rz_6 1 _ rfl
    have cz_6_2 := cells4 Rz_6 2 _ rfl
    have cz_6_3 := cells4 Rz_6 3 _ rfl
    go_wp2_with fail
    refine (xalive _ (tabB TT.out B6)).mono ?_
    rintro r w7 ⟨rfl, b7⟩
    have B7 : Below w.heap.size w w7 := btr B6 b7
    have Rx_7 : w7.heap[w.heap.size]? = some (Obj.cells #[.bool b0, .string s0, .string t0, .int .i64 e0] 24) := heap_of b7 _ _ _ Rx_6
    have Ry_7 : w7.heap[w.heap.size + 1]? = some (Obj.cells #[.bool vb1, .string vs1, .string vt1, .int .i64 ve1] 24) := heap_of b7 _ _ _ Ry_6
    have Rz_7 : w7.heap[w.heap.size + 1 + 1]? = some (Obj.cells #[.bool vb2, .string vs2, .string vt2, .int .i64 ve2] 24) := heap_of b7 _ _ _ Rz_6
    clear b7 B6 Rx_6 cx_6_0 cx_6_1 cx_6_2 cx_6_3 Ry_6 cy_6_0 cy_6_1 cy_6_2 cy_6_3 Rz_6 cz_6_0 cz_6_1 cz_6_2 cz_6_3
    have cx_7_0 := cells4 Rx_7 0 _ rfl
    have cx_7_1 := cells4 Rx_7 1 _ rfl
    have cx_7_2 := cells4 Rx_7 2 _ rfl
    have cx_7_3 := cells4 Rx_7 3 _ rfl
    have cy_7_0 := cells4 Ry_7 0 _ rfl
    have cy_7_1 := cells4 Ry_7 1 _ rfl
    have cy_7_2 := cells4 Ry_7 2 _ rfl
    have cy_7_3 := cells4 Ry_7 3 _ rfl
    have cz_7_0 := cells4 Rz_7 0 _ rfl
    have cz_7_1 := cells4 Rz_7 1 _ rfl
    have cz_7_2 := cells4 Rz_7 2 _ rfl
    have cz_7_3 := cells4 Rz_7 3 _ rfl
    go_wp2
    go_ret
    exact ⟨rfl, B7⟩
  have dc20 : decide ((900 : Int) < ve2) = false := decide_eq_false c20
  by_cases c21 : ve2 < -900
  · have dc21 : decide (ve2 < -900) = true := decide_eq_true c21
    clear ho0 ho1 ho2 hm0 hm1 hm2 c21
    have Rx_0 : (((w.alloc (Obj.cells #[.bool b0, .string s0, .string t0, .int .i64 e0] 24)).alloc (Obj.cells #[.bool vb1, .string vs1, .string vt1, .int .i64 ve1] 24)).alloc (Obj.cells #[.bool vb2, .string vs2, .string vt2, .int .i64 ve2] 24)).heap[w.heap.size]? = some (Obj.cells #[.bool b0, .string s0, .string t0, .int .i64 e0] 24) := by rw [heap_below _ _ _ (by simp only [size_al]; omega), heap_below _ _ _ (by simp only [size_al]; omega)]; have := heap_alloc_last w (Obj.cells #[.bool b0, .string s0, .string t0, .int .i64 e0] 24); simpa only [size_al] using this
    have Ry_0 : (((w.alloc (Obj.cells #[.bool b0, .string s0, .string t0, .int .i64 e0] 24)).alloc (Obj.cells #[.bool vb1, .string vs1, .string vt1, .int .i64 ve1] 24)).alloc (Obj.cells #[.bool vb2, .string vs2, .string vt2, .int .i64 ve2] 24)).heap[w.heap.size + 1]? = some (Obj.cells #[.bool vb1, .string vs1, .string vt1, .int .i64 ve1] 24) := by rw [heap_below _ _ _ (by simp only [size_al]; omega)]; have := heap_alloc_last (w.alloc (Obj.cells #[.bool b0, .string s0, .string t0, .int .i64 e0] 24)) (Obj.cells #[.bool vb1, .string vs1, .string vt1, .int .i64 ve1] 24); simpa only [size_al] using this
    have Rz_0 : (((w.alloc (Obj.cells #[.bool b0, .string s0, .string t0, .int .i64 e0] 24)).alloc (Obj.cells #[.bool vb1, .string vs1, .string vt1, .int .i64 ve1] 24)).alloc (Obj.cells #[.bool vb2, .string vs2, .string vt2, .int .i64 ve2] 24)).heap[w.heap.size + 1 + 1]? = some (Obj.cells #[.bool vb2, .string vs2, .string vt2, .int .i64 ve2] 24) := by have := heap_alloc_last ((w.alloc (Obj.cells #[.bool b0, .string s0, .string t0, .int .i64 e0] 24)).alloc (Obj.cells #[.bool vb1, .string vs1, .string vt1, .int .i64 ve1] 24)) (Obj.cells #[.bool vb2, .string vs2, .string vt2, .int .i64 ve2] 24); simpa only [size_al] using this
    have B0 : Below w.heap.size w (((w.alloc (Obj.cells #[.bool b0, .string s0, .string t0, .int .i64 e0] 24)).alloc (Obj.cells #[.bool vb1, .string vs1, .string vt1, .int .i64 ve1] 24)).alloc (Obj.cells #[.bool vb2, .string vs2, .string vt2, .int .i64 ve2] 24)) := ((((Below.refl _ _).alloc (by first | omega | (simp only [size_al]; omega)) _).alloc (by first | omega | (simp only [size_al]; omega)) _).alloc (by first | omega | (simp only [size_al]; omega)) _)
    go_enter Tryd.func3, Tryd.ntmps3
    go_wp2_with fail
    refine (xshort b0 s0 t0 e0 20 20 true rfl H0.out _).mono ?_
    rintro r w1 ⟨rfl, b1⟩
    have B1 : Below w.heap.size w w1 := btr B0 b1
    have Rx_1 : w1.heap[w.heap.size]? = some (Obj.cells #[.bool b0, .string s0, .string t0, .int .i64 e0] 24) := heap_of b1 _ _ _ Rx_0
    have Ry_1 : w1.heap[w.heap.size + 1]? = some (Obj.cells #[.bool vb1, .string vs1, .string vt1, .int .i64 ve1] 24) := heap_of b1 _ _ _ Ry_0
    have Rz_1 : w1.heap[w.heap.size + 1 + 1]? = some (Obj.cells #[.bool vb2, .string vs2, .string vt2, .int .i64 ve2] 24) := heap_of b1 _ _ _ Rz_0
    clear b1 B0 Rx_0 Ry_0 Rz_0
    have cx_1_0 := cells4 Rx_1 0 _ rfl
    have cx_1_1 := cells4 Rx_1 1 _ rfl
    have cx_1_2 := cells4 Rx_1 2 _ rfl
    have cx_1_3 := cells4 Rx_1 3 _ rfl
    have cy_1_0 := cells4 Ry_1 0 _ rfl
    have cy_1_1 := cells4 Ry_1 1 _ rfl
    have cy_1_2 := cells4 Ry_1 2 _ rfl
    have cy_1_3 := cells4 Ry_1 3 _ rfl
    have cz_1_0 := cells4 Rz_1 0 _ rfl
    have cz_1_1 := cells4 Rz_1 1 _ rfl
    have cz_1_2 := cells4 Rz_1 2 _ rfl
    have cz_1_3 := cells4 Rz_1 3 _ rfl
    go_wp2_with fail
    refine (xshort vb1 vs1 vt1 ve1 20 20 true rfl H1.out _).mono ?_
    rintro r w2 ⟨rfl, b2⟩
    have B2 : Below w.heap.size w w2 := btr B1 b2
    have Rx_2 : w2.heap[w.heap.size]? = some (Obj.cells #[.bool b0, .string s0, .string t0, .int .i64 e0] 24) := heap_of b2 _ _ _ Rx_1
    have Ry_2 : w2.heap[w.heap.size + 1]? = some (Obj.cells #[.bool vb1, .string vs1, .string vt1, .int .i64 ve1] 24) := heap_of b2 _ _ _ Ry_1
    have Rz_2 : w2.heap[w.heap.size + 1 + 1]? = some (Obj.cells #[.bool vb2, .string vs2, .string vt2, .int .i64 ve2] 24) := heap_of b2 _ _ _ Rz_1
    clear b2 B1 Rx_1 cx_1_0 cx_1_1 cx_1_2 cx_1_3 Ry_1 cy_1_0 cy_1_1 cy_1_2 cy_1_3 Rz_1 cz_1_0 cz_1_1 cz_1_2 cz_1_3
    have cx_2_0 := cells4 Rx_2 0 _ rfl
    have cx_2_1 := cells4 Rx_2 1 _ rfl
    have cx_2_2 := cells4 Rx_2 2 _ rfl
    have cx_2_3 := cells4 Rx_2 3 _ rfl
    have cy_2_0 := cells4 Ry_2 0 _ rfl
    have cy_2_1 := cells4 Ry_2 1 _ rfl
    have cy_2_2 := cells4 Ry_2 2 _ rfl
    have cy_2_3 := cells4 Ry_2 3 _ rfl
    have cz_2_0 := cells4 Rz_2 0 _ rfl
    have cz_2_1 := cells4 Rz_2 1 _ rfl
    have cz_2_2 := cells4 Rz_2 2 _ rfl
    have cz_2_3 := cells4 Rz_2 3 _ rfl
    go_wp2_with fail
    refine (xshort vb2 vs2 vt2 ve2 20 20 true rfl H2.out _).mono ?_
    rintro r w3 ⟨rfl, b3⟩
    have B3 : Below w.heap.size w w3 := btr B2 b3
    have Rx_3 : w3.heap[w.heap.size]? = some (Obj.cells #[.bool b0, .string s0, .string t0, .int .i64 e0] 24) := heap_of b3 _ _ _ Rx_2
    have Ry_3 : w3.heap[w.heap.size + 1]? = some (Obj.cells #[.bool vb1, .string vs1, .string vt1, .int .i64 ve1] 24) := heap_of b3 _ _ _ Ry_2
    have Rz_3 : w3.heap[w.heap.size + 1 + 1]? = some (Obj.cells #[.bool vb2, .string vs2, .string vt2, .int .i64 ve2] 24) := heap_of b3 _ _ _ Rz_2
    clear b3 B2 Rx_2 cx_2_0 cx_2_1 cx_2_2 cx_2_3 Ry_2 cy_2_0 cy_2_1 cy_2_2 cy_2_3 Rz_2 cz_2_0 cz_2_1 cz_2_2 cz_2_3
    have cx_3_0 := cells4 Rx_3 0 _ rfl
    have cx_3_1 := cells4 Rx_3 1 _ rfl
    have cx_3_2 := cells4 Rx_3 2 _ rfl
    have cx_3_3 := cells4 Rx_3 3 _ rfl
    have cy_3_0 := cells4 Ry_3 0 _ rfl
    have cy_3_1 := cells4 Ry_3 1 _ rfl
    have cy_3_2 := cells4 Ry_3 2 _ rfl
    have cy_3_3 := cells4 Ry_3 3 _ rfl
    have cz_3_0 := cells4 Rz_3 0 _ rfl
    have cz_3_1 := cells4 Rz_3 1 _ rfl
    have cz_3_2 := cells4 Rz_3 2 _ rfl
    have cz_3_3 := cells4 Rz_3 3 _ rfl
    go_wp2_with fail
    refine (xmayM b0 s0 t0 e0 true M0.out _).mono ?_
    rintro r w4 ⟨rfl, b4⟩
    have B4 : Below w.heap.size w w4 := btr B3 b4
    have Rx_4 : w4.heap[w.heap.size]? = some (Obj.cells #[.bool b0, .string s0, .string t0, .int .i64 e0] 24) := heap_of b4 _ _ _ Rx_3
    have Ry_4 : w4.heap[w.heap.size + 1]? = some (Obj.cells #[.bool vb1, .string vs1, .string vt1, .int .i64 ve1] 24) := heap_of b4 _ _ _ Ry_3
    have Rz_4 : w4.heap[w.heap.size + 1 + 1]? = some (Obj.cells #[.bool vb2, .string vs2, .string vt2, .int .i64 ve2] 24) := heap_of b4 _ _ _ Rz_3
    clear b4 B3 Rx_3 cx_3_0 cx_3_1 cx_3_2 cx_3_3 Ry_3 cy_3_0 cy_3_1 cy_3_2 cy_3_3 Rz_3 cz_3_0 cz_3_1 cz_3_2 cz_3_3
    have cx_4_0 := cells4 Rx_4 0 _ rfl
    have cx_4_1 := cells4 Rx_4 1 _ rfl
    have cx_4_2 := cells4 Rx_4 2 _ rfl
    have cx_4_3 := cells4 Rx_4 3 _ rfl
    have cy_4_0 := cells4 Ry_4 0 _ rfl
    have cy_4_1 := cells4 Ry_4 1 _ rfl
    have cy_4_2 := cells4 Ry_4 2 _ rfl
    have cy_4_3 := cells4 Ry_4 3 _ rfl
    have cz_4_0 := cells4 Rz_4 0 _ rfl
    have cz_4_1 := cells4 Rz_4 1 _ rfl
    have cz_4_2 := cells4 Rz_4 2 _ rfl
    have cz_4_3 := cells4 Rz_4 3 _ rfl
    go_wp2_with fail
    refine (xmayM vb1 vs1 vt1 ve1 true M1.out _).mono ?_
    rintro r w5 ⟨rfl, b5⟩
    have B5 : Below w.heap.size w w5 := btr B4 b5
    have Rx_5 : w5.heap[w.heap.size]? = some (Obj.cells #[.bool b0, .string s0, .string t0, .int .i64 e0] 24) := heap_of b5 _ _ _ Rx_4
    have Ry_5 : w5.heap[w.heap.size + 1]? = some (Obj.cells #[.bool vb1, .string vs1, .string vt1, .int .i64 ve1] 24) := heap_of b5 _ _ _ Ry_4
    have Rz_5 : w5.heap[w.heap.size + 1 + 1]? = some (Obj.cells #[.bool vb2, .string vs2, .string vt2, .int .i64 ve2] 24) := heap_of b5 _ _ _ Rz_4
    clear b5 B4 Rx_4 cx_4_0 cx_4_1 cx_4_2 cx_4_3 Ry_4 cy_4_0 cy_4_1 cy_4_2 cy_4_3 Rz_4 cz_4_0 cz_4_1 cz_4_2 cz_4_3
    have cx_5_0 := cells4 Rx_5 0 _ rfl
    have cx_5_1 := cells4 Rx_5 1 _ rfl
    have cx_5_2 := cells4 Rx_5 2 _ rfl
    have cx_5_3 := cells4 Rx_5 3 _ rfl
    have cy_5_0 := cells4 Ry_5 0 _ rfl
    have cy_5_1 := cells4 Ry_5 1 _ rfl
    have cy_5_2 := cells4 Ry_5 2 _ rfl
    have cy_5_3 := cells4 Ry_5 3 _ rfl
    have cz_5_0 := cells4 Rz_5 0 _ rfl
    have cz_5_1 := cells4 Rz_5 1 _ rfl
    have cz_5_2 := cells4 Rz_5 2 _ rfl
    have cz_5_3 := cells4 Rz_5 3 _ rfl
    go_wp2_with fail
    refine (xmayM vb2 vs2 vt2 ve2 true M2.out _).mono ?_
    rintro r w6 ⟨rfl, b6⟩
    have B6 : Below w.heap.size w w6 := btr B5 b6
    have Rx_6 : w6.heap[w.heap.size]? = some (Obj.cells #[.bool b0, .string s0, .string t0, .int .i64 e0] 24) := heap_of b6 _ _ _ Rx_5
    have Ry_6 : w6.heap[w.heap.size + 1]? = some (Obj.cells #[.bool vb1, .string vs1, .string vt1, .int .i64 ve1] 24) := heap_of b6 _ _ _ Ry_5
    have Rz_6 : w6.heap[w.heap.size + 1 + 1]? = some (Obj.cells #[.bool vb2, .string vs2, .string vt2, .int .i64 ve2] 24) := heap_of b6 _ _ _ Rz_5
    clear b6 B5 Rx_5 cx_5_0 cx_5_1 cx_5_2 cx_5_3 Ry_5 cy_5_0 cy_5_1 cy_5_2 cy_5_3 Rz_5 cz_5_0 cz_5_1 cz_5_2 cz_5_3
    have cx_6_0 := cells4 Rx_6 0 _ rfl
    have cx_6_1 := cells4 Rx_6 1 _ rfl
    have cx_6_2 := cells4 Rx_6 2 _ rfl
    have cx_6_3 := cells4 Rx_6 3 _ rfl
    have cy_6_0 := cells4 Ry_6 0 _ rfl
    have cy_6_1 := cells4 Ry_6 1 _ rfl
    have cy_6_2 := cells4 Ry_6 2 _ rfl
    have cy_6_3 := cells4 Ry_6 3 _ rfl
    have cz_6_0 := cells4 Rz_6 0 _ rfl
    have cz_6_1 := cells4 Rz_6 1 _ rfl
    have cz_6_2 := cells4 Rz_6 2 _ rfl
    have cz_6_3 := cells4 Rz_6 3 _ rfl
    go_wp2_with fail
    refine (xalive _ (tabB TT.out B6)).mono ?_
    rintro r w7 ⟨rfl, b7⟩
    have B7 : Below w.heap.size w w7 := btr B6 b7
    have Rx_7 : w7.heap[w.heap.size]? = some (Obj.cells #[.bool b0, .string s0, .string t0, .int .i64 e0] 24) := heap_of b7 _ _ _ Rx_6
    have Ry_7 : w7.heap[w.heap.size + 1]? = some (Obj.cells #[.bool vb1, .string vs1, .string vt1, .int .i64 ve1] 24) := heap_of b7 _ _ _ Ry_6
    have Rz_7 : w7.heap[w.heap.size + 1 + 1]? = some (Obj.cells #[.bool vb2, .string vs2, .string vt2, .int .i64 ve2] 24) := heap_of b7 _ _ _ Rz_6
    clear b7 B6 Rx_6 cx_6_0 cx_6_1 cx_6_2 cx_6_3 Ry_6 cy_6_0 cy_6_1 cy_6_2 cy_6_3 Rz_6 cz_6_0 cz_6_1 cz_6_2 cz_6_3
    have cx_7_0 := cells4 Rx_7 0 _ rfl
    have cx_7_1 := cells4 Rx_7 1 _ rfl
    have cx_7_2 := cells4 Rx_7 2 _ rfl
    have cx_7_3 := cells4 Rx_7 3 _ rfl
    have cy_7_0 := cells4 Ry_7 0 _ rfl
    have cy_7_1 := cells4 Ry_7 1 _ rfl
    have cy_7_2 := cells4 Ry_7 2 _ rfl
    have cy_7_3 := cells4 Ry_7 3 _ rfl
    have cz_7_0 := cells4 Rz_7 0 _ rfl
    have cz_7_1 := cells4 Rz_7 1 _ rfl
    have cz_7_2 := cells4 Rz_7 2 _ rfl
    have cz_7_3 := cells4 Rz_7 3 _ rfl
    go_wp2
    go_ret
    exact ⟨rfl, B7⟩
  have dc21 : decide (ve2 < -900) = false := decide_eq_false c21
  obtain ⟨n0, f0, hs0, ht0, hx0⟩ := hm0.1 rfl
  obtain ⟨n1, f1, hs1, ht1, hx1⟩ := hm1.1 rfl
  obtain ⟨n2, f2, hs2, ht2, hx2⟩ := hm2.1 rfl
  have q0 := bd_of b0 n0 f0 e0 s0 t0 20 160 900 hs0 ht0 ho0 rfl (by omega) (by omega)
  have q1 := bd_of vb1 n1 f1 ve1 vs1 vt1 20 160 900 hs1 ht1 ho1 rfl (by omega) (by omega)
  have q2 := bd_of vb2 n2 f2 ve2 vs2 vt2 20 160 900 hs2 ht2 ho2 rfl (by omega) (by omega)
  obtain ⟨⟨sb, sn, sd, se⟩, ⟨pb, pn, pd, pe⟩, ⟨ab, an, ad, ae⟩, ⟨qb, qn, qd, qe⟩, g1, g2, g3, g4, r1, r2, r3, r4, r5, r6, r7⟩ := field_good (XN.mk b0 n0 f0 e0) (XN.mk vb1 n1 f1 ve1) (XN.mk vb2 n2 f2 ve2) hx0 hx1 hx2 q0 q1 q2
  obtain ⟨su, hsu⟩ : ∃ z, nbA sn = z := ⟨_, rfl⟩
  obtain ⟨sv, hsv⟩ : ∃ z, nbA sd = z := ⟨_, rfl⟩
  obtain ⟨pu, hpu⟩ : ∃ z, nbA pn = z := ⟨_, rfl⟩
  obtain ⟨pv, hpv⟩ : ∃ z, nbA pd = z := ⟨_, rfl⟩
  obtain ⟨au, hau⟩ : ∃ z, nbA an = z := ⟨_, rfl⟩
  obtain ⟨av, hav⟩ : ∃ z, nbA ad = z := ⟨_, rfl⟩
  obtain ⟨qu, hqu⟩ : ∃ z, nbA qn = z := ⟨_, rfl⟩
  obtain ⟨qv, hqv⟩ : ∃ z, nbA qd = z := ⟨_, rfl⟩
  have K1 := box (fun w hT => Addx_ok b0 n0 f0 e0 s0 t0 vb1 n1 f1 ve1 vs1 vt1 sb sn sd se 0 su sv hs0 ht0 hs1 ht1 hx0 hx1 r1 hsu hsv w hT)
  have K2 := box (fun w hT => Mulx_ok sb sn sd se su sv vb2 n2 f2 ve2 vs2 vt2 pb pn pd pe 0 pu pv hsu hsv hs2 ht2 g1 hx2 r2 hpu hpv w hT)
  have K3 := box (fun w hT => Mulx_ok b0 n0 f0 e0 s0 t0 vb2 n2 f2 ve2 vs2 vt2 ab an ad ae 0 au av hs0 ht0 hs2 ht2 hx0 hx2 r3 hau hav w hT)
  have K4 := box (fun w hT => Mulx_ok vb1 n1 f1 ve1 vs1 vt1 vb2 n2 f2 ve2 vs2 vt2 qb qn qd qe 0 qu qv hs1 ht1 hs2 ht2 hx1 hx2 r4 hqu hqv w hT)
  have K5 := box (fun w hT => Addx_ok ab an ad ae au av qb qn qd qe qu qv pb pn pd pe 0 pu pv hau hav hqu hqv g3 g4 r5 hpu hpv w hT)
  have K6 := box (fun w hT => Subx_ok sb sn sd se su sv vb1 n1 f1 ve1 vs1 vt1 b0 n0 f0 e0 0 s0 t0 hsu hsv hs1 ht1 g1 hx1 r6 hs0 ht0 w hT)
  have K7 : Box (n2 ≠ 0 → ∀ w, TabAt w → Calls Tryd.prog 12 #[.agg #[.bool ab, .string au, .string av, .int .i64 ae], .agg #[.bool vb2, .string vs2, .string vt2, .int .i64 ve2]] w fun r w' => r = .returned (.tuple #[.agg #[.bool b0, .string s0, .string t0, .int .i64 e0], .int .i64 0]) ∧ Below w.heap.size w w') := box (fun z0 w hT => Quox_ok ab an ad ae au av vb2 n2 f2 ve2 vs2 vt2 b0 n0 f0 e0 0 s0 t0 hau hav hs2 ht2 g3 hx2 (r7 z0) hs0 ht0 w hT)
  obtain ⟨c, hc⟩ : ∃ c, sg (XN.mk vb2 n2 f2 ve2) = c := ⟨_, rfl⟩
  have K8 := box (fun w hT => Signx_ok vb2 n2 f2 ve2 vs2 vt2 c hs2 ht2 hx2 hc w hT)
  have hsg : c = 0 ∨ (c ≠ 0 ∧ n2 ≠ 0) := by
    by_cases z0 : n2 = 0
    · left; rw [← hc]; unfold sg; rw [if_pos z0]
    · right
      exact ⟨by rw [← hc]; exact sg_ne _ _ _ _ z0, z0⟩
  clear ho0 ho1 ho2 hm0 hm1 hm2 hs0 ht0 hs1 ht1 hs2 ht2 hx0 hx1 hx2 q0 q1 q2 g1 g2 g3 g4 r1 r2 r3 r4 r5 r6 r7 hsu hsv hpu hpv hau hav hqu hqv hc c00 c01 c10 c11 c20 c21
  rcases hsg with rfl | ⟨hc0, z0⟩
  · clear K7
    have Rx_0 : (((w.alloc (Obj.cells #[.bool b0, .string s0, .string t0, .int .i64 e0] 24)).alloc (Obj.cells #[.bool vb1, .string vs1, .string vt1, .int .i64 ve1] 24)).alloc (Obj.cells #[.bool vb2, .string vs2, .string vt2, .int .i64 ve2] 24)).heap[w.heap.size]? = some (Obj.cells #[.bool b0, .string s0, .string t0, .int .i64 e0] 24) := by rw [heap_below _ _ _ (by simp only [size_al]; omega), heap_below _ _ _ (by simp only [size_al]; omega)]; have := heap_alloc_last w (Obj.cells #[.bool b0, .string s0, .string t0, .int .i64 e0] 24); simpa only [size_al] using this
    have Ry_0 : (((w.alloc (Obj.cells #[.bool b0, .string s0, .string t0, .int .i64 e0] 24)).alloc (Obj.cells #[.bool vb1, .string vs1, .string vt1, .int .i64 ve1] 24)).alloc (Obj.cells #[.bool vb2, .string vs2, .string vt2, .int .i64 ve2] 24)).heap[w.heap.size + 1]? = some (Obj.cells #[.bool vb1, .string vs1, .string vt1, .int .i64 ve1] 24) := by rw [heap_below _ _ _ (by simp only [size_al]; omega)]; have := heap_alloc_last (w.alloc (Obj.cells #[.bool b0, .string s0, .string t0, .int .i64 e0] 24)) (Obj.cells #[.bool vb1, .string vs1, .string vt1, .int .i64 ve1] 24); simpa only [size_al] using this
    have Rz_0 : (((w.alloc (Obj.cells #[.bool b0, .string s0, .string t0, .int .i64 e0] 24)).alloc (Obj.cells #[.bool vb1, .string vs1, .string vt1, .int .i64 ve1] 24)).alloc (Obj.cells #[.bool vb2, .string vs2, .string vt2, .int .i64 ve2] 24)).heap[w.heap.size + 1 + 1]? = some (Obj.cells #[.bool vb2, .string vs2, .string vt2, .int .i64 ve2] 24) := by have := heap_alloc_last ((w.alloc (Obj.cells #[.bool b0, .string s0, .string t0, .int .i64 e0] 24)).alloc (Obj.cells #[.bool vb1, .string vs1, .string vt1, .int .i64 ve1] 24)) (Obj.cells #[.bool vb2, .string vs2, .string vt2, .int .i64 ve2] 24); simpa only [size_al] using this
    have B0 : Below w.heap.size w (((w.alloc (Obj.cells #[.bool b0, .string s0, .string t0, .int .i64 e0] 24)).alloc (Obj.cells #[.bool vb1, .string vs1, .string vt1, .int .i64 ve1] 24)).alloc (Obj.cells #[.bool vb2, .string vs2, .string vt2, .int .i64 ve2] 24)) := ((((Below.refl _ _).alloc (by first | omega | (simp only [size_al]; omega)) _).alloc (by first | omega | (simp only [size_al]; omega)) _).alloc (by first | omega | (simp only [size_al]; omega)) _)
    go_enter Tryd.func3, Tryd.ntmps3
    go_wp2_with fail
    refine (xshort b0 s0 t0 e0 20 20 true rfl H0.out _).mono ?_
    rintro r w1 ⟨rfl, b1⟩
    have B1 : Below w.heap.size w w1 := btr B0 b1
    have Rx_1 : w1.heap[w.heap.size]? = some (Obj.cells #[.bool b0, .string s0, .string t0, .int .i64 e0] 24) := heap_of b1 _ _ _ Rx_0
    have Ry_1 : w1.heap[w.heap.size + 1]? = some (Obj.cells #[.bool vb1, .string vs1, .string vt1, .int .i64 ve1] 24) := heap_of b1 _ _ _ Ry_0
    have Rz_1 : w1.heap[w.heap.size + 1 + 1]? = some (Obj.cells #[.bool vb2, .string vs2, .string vt2, .int .i64 ve2] 24) := heap_of b1 _ _ _ Rz_0
    clear b1 B0 Rx_0 Ry_0 Rz_0
    have cx_1_0 := cells4 Rx_1 0 _ rfl
    have cx_1_1 := cells4 Rx_1 1 _ rfl
    have cx_1_2 := cells4 Rx_1 2 _ rfl
    have cx_1_3 := cells4 Rx_1 3 _ rfl
    have cy_1_0 := cells4 Ry_1 0 _ rfl
    have cy_1_1 := cells4 Ry_1 1 _ rfl
    have cy_1_2 := cells4 Ry_1 2 _ rfl
    have cy_1_3 := cells4 Ry_1 3 _ rfl
    have cz_1_0 := cells4 Rz_1 0 _ rfl
    have cz_1_1 := cells4 Rz_1 1 _ rfl
    have cz_1_2 := cells4 Rz_1 2 _ rfl
    have cz_1_3 := cells4 Rz_1 3 _ rfl
    go_wp2_with fail
    refine (xshort vb1 vs1 vt1 ve1 20 20 true rfl H1.out _).mono ?_
    rintro r w2 ⟨rfl, b2⟩
    have B2 : Below w.heap.size w w2 := btr B1 b2
    have Rx_2 : w2.heap[w.heap.size]? = some (Obj.cells #[.bool b0, .string s0, .string t0, .int .i64 e0] 24) := heap_of b2 _ _ _ Rx_1
    have Ry_2 : w2.heap[w.heap.size + 1]? = some (Obj.cells #[.bool vb1, .string vs1, .string vt1, .int .i64 ve1] 24) := heap_of b2 _ _ _ Ry_1
    have Rz_2 : w2.heap[w.heap.size + 1 + 1]? = some (Obj.cells #[.bool vb2, .string vs2, .string vt2, .int .i64 ve2] 24) := heap_of b2 _ _ _ Rz_1
    clear b2 B1 Rx_1 cx_1_0 cx_1_1 cx_1_2 cx_1_3 Ry_1 cy_1_0 cy_1_1 cy_1_2 cy_1_3 Rz_1 cz_1_0 cz_1_1 cz_1_2 cz_1_3
    have cx_2_0 := cells4 Rx_2 0 _ rfl
    have cx_2_1 := cells4 Rx_2 1 _ rfl
    have cx_2_2 := cells4 Rx_2 2 _ rfl
    have cx_2_3 := cells4 Rx_2 3 _ rfl
    have cy_2_0 := cells4 Ry_2 0 _ rfl
    have cy_2_1 := cells4 Ry_2 1 _ rfl
    have cy_2_2 := cells4 Ry_2 2 _ rfl
    have cy_2_3 := cells4 Ry_2 3 _ rfl
    have cz_2_0 := cells4 Rz_2 0 _ rfl
    have cz_2_1 := cells4 Rz_2 1 _ rfl
    have cz_2_2 := cells4 Rz_2 2 _ rfl
    have cz_2_3 := cells4 Rz_2 3 _ rfl
    go_wp2_with fail
    refine (xshort vb2 vs2 vt2 ve2 20 20 true rfl H2.out _).mono ?_
    rintro r w3 ⟨rfl, b3⟩
    have B3 : Below w.heap.size w w3 := btr B2 b3
    have Rx_3 : w3.heap[w.heap.size]? = some (Obj.cells #[.bool b0, .string s0, .string t0, .int .i64 e0] 24) := heap_of b3 _ _ _ Rx_2
    have Ry_3 : w3.heap[w.heap.size + 1]? = some (Obj.cells #[.bool vb1, .string vs1, .string vt1, .int .i64 ve1] 24) := heap_of b3 _ _ _ Ry_2
    have Rz_3 : w3.heap[w.heap.size + 1 + 1]? = some (Obj.cells #[.bool vb2, .string vs2, .string vt2, .int .i64 ve2] 24) := heap_of b3 _ _ _ Rz_2
    clear b3 B2 Rx_2 cx_2_0 cx_2_1 cx_2_2 cx_2_3 Ry_2 cy_2_0 cy_2_1 cy_2_2 cy_2_3 Rz_2 cz_2_0 cz_2_1 cz_2_2 cz_2_3
    have cx_3_0 := cells4 Rx_3 0 _ rfl
    have cx_3_1 := cells4 Rx_3 1 _ rfl
    have cx_3_2 := cells4 Rx_3 2 _ rfl
    have cx_3_3 := cells4 Rx_3 3 _ rfl
    have cy_3_0 := cells4 Ry_3 0 _ rfl
    have cy_3_1 := cells4 Ry_3 1 _ rfl
    have cy_3_2 := cells4 Ry_3 2 _ rfl
    have cy_3_3 := cells4 Ry_3 3 _ rfl
    have cz_3_0 := cells4 Rz_3 0 _ rfl
    have cz_3_1 := cells4 Rz_3 1 _ rfl
    have cz_3_2 := cells4 Rz_3 2 _ rfl
    have cz_3_3 := cells4 Rz_3 3 _ rfl
    go_wp2_with fail
    refine (xmayM b0 s0 t0 e0 true M0.out _).mono ?_
    rintro r w4 ⟨rfl, b4⟩
    have B4 : Below w.heap.size w w4 := btr B3 b4
    have Rx_4 : w4.heap[w.heap.size]? = some (Obj.cells #[.bool b0, .string s0, .string t0, .int .i64 e0] 24) := heap_of b4 _ _ _ Rx_3
    have Ry_4 : w4.heap[w.heap.size + 1]? = some (Obj.cells #[.bool vb1, .string vs1, .string vt1, .int .i64 ve1] 24) := heap_of b4 _ _ _ Ry_3
    have Rz_4 : w4.heap[w.heap.size + 1 + 1]? = some (Obj.cells #[.bool vb2, .string vs2, .string vt2, .int .i64 ve2] 24) := heap_of b4 _ _ _ Rz_3
    clear b4 B3 Rx_3 cx_3_0 cx_3_1 cx_3_2 cx_3_3 Ry_3 cy_3_0 cy_3_1 cy_3_2 cy_3_3 Rz_3 cz_3_0 cz_3_1 cz_3_2 cz_3_3
    have cx_4_0 := cells4 Rx_4 0 _ rfl
    have cx_4_1 := cells4 Rx_4 1 _ rfl
    have cx_4_2 := cells4 Rx_4 2 _ rfl
    have cx_4_3 := cells4 Rx_4 3 _ rfl
    have cy_4_0 := cells4 Ry_4 0 _ rfl
    have cy_4_1 := cells4 Ry_4 1 _ rfl
    have cy_4_2 := cells4 Ry_4 2 _ rfl
    have cy_4_3 := cells4 Ry_4 3 _ rfl
    have cz_4_0 := cells4 Rz_4 0 _ rfl
    have cz_4_1 := cells4 Rz_4 1 _ rfl
    have cz_4_2 := cells4 Rz_4 2 _ rfl
    have cz_4_3 := cells4 Rz_4 3 _ rfl
    go_wp2_with fail
    refine (xmayM vb1 vs1 vt1 ve1 true M1.out _).mono ?_
    rintro r w5 ⟨rfl, b5⟩
    have B5 : Below w.heap.size w w5 := btr B4 b5
    have Rx_5 : w5.heap[w.heap.size]? = some (Obj.cells #[.bool b0, .string s0, .string t0, .int .i64 e0] 24) := heap_of b5 _ _ _ Rx_4
    have Ry_5 : w5.heap[w.heap.size + 1]? = some (Obj.cells #[.bool vb1, .string vs1, .string vt1, .int .i64 ve1] 24) := heap_of b5 _ _ _ Ry_4
    have Rz_5 : w5.heap[w.heap.size + 1 + 1]? = some (Obj.cells #[.bool vb2, .string vs2, .string vt2, .int .i64 ve2] 24) := heap_of b5 _ _ _ Rz_4
    clear b5 B4 Rx_4 cx_4_0 cx_4_1 cx_4_2 cx_4_3 Ry_4 cy_4_0 cy_4_1 cy_4_2 cy_4_3 Rz_4 cz_4_0 cz_4_1 cz_4_2 cz_4_3
    have cx_5_0 := cells4 Rx_5 0 _ rfl
    have cx_5_1 := cells4 Rx_5 1 _ rfl
    have cx_5_2 := cells4 Rx_5 2 _ rfl
    have cx_5_3 := cells4 Rx_5 3 _ rfl
    have cy_5_0 := cells4 Ry_5 0 _ rfl
    have cy_5_1 := cells4 Ry_5 1 _ rfl
    have cy_5_2 := cells4 Ry_5 2 _ rfl
    have cy_5_3 := cells4 Ry_5 3 _ rfl
    have cz_5_0 := cells4 Rz_5 0 _ rfl
    have cz_5_1 := cells4 Rz_5 1 _ rfl
    have cz_5_2 := cells4 Rz_5 2 _ rfl
    have cz_5_3 := cells4 Rz_5 3 _ rfl
    go_wp2_with fail
    refine (xmayM vb2 vs2 vt2 ve2 true M2.out _).mono ?_
    rintro r w6 ⟨rfl, b6⟩
    have B6 : Below w.heap.size w w6 := btr B5 b6
    have Rx_6 : w6.heap[w.heap.size]? = some (Obj.cells #[.bool b0, .string s0, .string t0, .int .i64 e0] 24) := heap_of b6 _ _ _ Rx_5
    have Ry_6 : w6.heap[w.heap.size + 1]? = some (Obj.cells #[.bool vb1, .string vs1, .string vt1, .int .i64 ve1] 24) := heap_of b6 _ _ _ Ry_5
    have Rz_6 : w6.heap[w.heap.size + 1 + 1]? = some (Obj.cells #[.bool vb2, .string vs2, .string vt2, .int .i64 ve2] 24) := heap_of b6 _ _ _ Rz_5
    clear b6 B5 Rx_5 cx_5_0 cx_5_1 cx_5_2 cx_5_3 Ry_5 cy_5_0 cy_5_1 cy_5_2 cy_5_3 Rz_5 cz_5_0 cz_5_1 cz_5_2 cz_5_3
    have cx_6_0 := cells4 Rx_6 0 _ rfl
    have cx_6_1 := cells4 Rx_6 1 _ rfl
    have cx_6_2 := cells4 Rx_6 2 _ rfl
    have cx_6_3 := cells4 Rx_6 3 _ rfl
    have cy_6_0 := cells4 Ry_6 0 _ rfl
    have cy_6_1 := cells4 Ry_6 1 _ rfl
    have cy_6_2 := cells4 Ry_6 2 _ rfl
    have cy_6_3 := cells4 Ry_6 3 _ rfl
    have cz_6_0 := cells4 Rz_6 0 _ rfl
    have cz_6_1 := cells4 Rz_6 1 _ rfl
    have cz_6_2 := cells4 Rz_6 2 _ rfl
    have cz_6_3 := cells4 Rz_6 3 _ rfl
    go_wp2_with fail
    refine (K1.out _ (tabB TT.out B6)).mono ?_
    rintro r w7 ⟨rfl, b7⟩
    have B7 : Below w.heap.size w w7 := btr B6 b7
    have Rx_7 : w7.heap[w.heap.size]? = some (Obj.cells #[.bool b0, .string s0, .string t0, .int .i64 e0] 24) := heap_of b7 _ _ _ Rx_6
    have Ry_7 : w7.heap[w.heap.size + 1]? = some (Obj.cells #[.bool vb1, .string vs1, .string vt1, .int .i64 ve1] 24) := heap_of b7 _ _ _ Ry_6
    have Rz_7 : w7.heap[w.heap.size + 1 + 1]? = some (Obj.cells #[.bool vb2, .string vs2, .string vt2, .int .i64 ve2] 24) := heap_of b7 _ _ _ Rz_6
    clear b7 B6 Rx_6 cx_6_0 cx_6_1 cx_6_2 cx_6_3 Ry_6 cy_6_0 cy_6_1 cy_6_2 cy_6_3 Rz_6 cz_6_0 cz_6_1 cz_6_2 cz_6_3
    have cx_7_0 := cells4 Rx_7 0 _ rfl
    have cx_7_1 := cells4 Rx_7 1 _ rfl
    have cx_7_2 := cells4 Rx_7 2 _ rfl
    have cx_7_3 := cells4 Rx_7 3 _ rfl
    have cy_7_0 := cells4 Ry_7 0 _ rfl
    have cy_7_1 := cells4 Ry_7 1 _ rfl
    have cy_7_2 := cells4 Ry_7 2 _ rfl
    have cy_7_3 := cells4 Ry_7 3 _ rfl
    have cz_7_0 := cells4 Rz_7 0 _ rfl
    have cz_7_1 := cells4 Rz_7 1 _ rfl
    have cz_7_2 := cells4 Rz_7 2 _ rfl
    have cz_7_3 := cells4 Rz_7 3 _ rfl
    have S8 := box B7.size
    have Lx_8 : Box (w.heap.size < w7.heap.size) := box (Array.getElem?_eq_some_iff.1 Rx_7).1
    have Ly_8 : Box (w.heap.size + 1 < w7.heap.size) := box (Array.getElem?_eq_some_iff.1 Ry_7).1
    have Lz_8 : Box (w.heap.size + 1 + 1 < w7.heap.size) := box (Array.getElem?_eq_some_iff.1 Rz_7).1
    have B8 : Below w.heap.size w (w7.alloc (Obj.cells #[.bool sb, .string su, .string sv, .int .i64 se] 24)) := btr B7 (bal _ _)
    have Rx_8 : (w7.alloc (Obj.cells #[.bool sb, .string su, .string sv, .int .i64 se] 24)).heap[w.heap.size]? = some (Obj.cells #[.bool b0, .string s0, .string t0, .int .i64 e0] 24) := heap_of (bal _ _) _ _ _ Rx_7
    have Ry_8 : (w7.alloc (Obj.cells #[.bool sb, .string su, .string sv, .int .i64 se] 24)).heap[w.heap.size + 1]? = some (Obj.cells #[.bool vb1, .string vs1, .string vt1, .int .i64 ve1] 24) := heap_of (bal _ _) _ _ _ Ry_7
    have Rz_8 : (w7.alloc (Obj.cells #[.bool sb, .string su, .string sv, .int .i64 se] 24)).heap[w.heap.size + 1 + 1]? = some (Obj.cells #[.bool vb2, .string vs2, .string vt2, .int .i64 ve2] 24) := heap_of (bal _ _) _ _ _ Rz_7
    have Rs_8 : (w7.alloc (Obj.cells #[.bool sb, .string su, .string sv, .int .i64 se] 24)).heap[w7.heap.size]? = some (Obj.cells #[.bool sb, .string su, .string sv, .int .i64 se] 24) := heap_alloc_last _ _
    clear B7 Rx_7 cx_7_0 cx_7_1 cx_7_2 cx_7_3 Ry_7 cy_7_0 cy_7_1 cy_7_2 cy_7_3 Rz_7 cz_7_0 cz_7_1 cz_7_2 cz_7_3
    have cx_8_0 := cells4 Rx_8 0 _ rfl
    have cx_8_1 := cells4 Rx_8 1 _ rfl
    have cx_8_2 := cells4 Rx_8 2 _ rfl
    have cx_8_3 := cells4 Rx_8 3 _ rfl
    have cy_8_0 := cells4 Ry_8 0 _ rfl
    have cy_8_1 := cells4 Ry_8 1 _ rfl
    have cy_8_2 := cells4 Ry_8 2 _ rfl
    have cy_8_3 := cells4 Ry_8 3 _ rfl
    have cz_8_0 := cells4 Rz_8 0 _ rfl
    have cz_8_1 := cells4 Rz_8 1 _ rfl
    have cz_8_2 := cells4 Rz_8 2 _ rfl
    have cz_8_3 := cells4 Rz_8 3 _ rfl
    have cs_8_0 := cells4 Rs_8 0 _ rfl
    have cs_8_1 := cells4 Rs_8 1 _ rfl
    have cs_8_2 := cells4 Rs_8 2 _ rfl
    have cs_8_3 := cells4 Rs_8 3 _ rfl
    go_wp2_with fail
    refine (K2.out _ (tabB TT.out B8)).mono ?_
    rintro r w9 ⟨rfl, b9⟩
    have B9 : Below w.heap.size w w9 := btr B8 b9
    have Rx_9 : w9.heap[w.heap.size]? = some (Obj.cells #[.bool b0, .string s0, .string t0, .int .i64 e0] 24) := heap_of b9 _ _ _ Rx_8
    have Ry_9 : w9.heap[w.heap.size + 1]? = some (Obj.cells #[.bool vb1, .string vs1, .string vt1, .int .i64 ve1] 24) := heap_of b9 _ _ _ Ry_8
    have Rz_9 : w9.heap[w.heap.size + 1 + 1]? = some (Obj.cells #[.bool vb2, .string vs2, .string vt2, .int .i64 ve2] 24) := heap_of b9 _ _ _ Rz_8
    have Rs_9 : w9.heap[w7.heap.size]? = some (Obj.cells #[.bool sb, .string su, .string sv, .int .i64 se] 24) := heap_of b9 _ _ _ Rs_8
    clear b9 B8 Rx_8 cx_8_0 cx_8_1 cx_8_2 cx_8_3 Ry_8 cy_8_0 cy_8_1 cy_8_2 cy_8_3 Rz_8 cz_8_0 cz_8_1 cz_8_2 cz_8_3 Rs_8 cs_8_0 cs_8_1 cs_8_2 cs_8_3
    have cx_9_0 := cells4 Rx_9 0 _ rfl
    have cx_9_1 := cells4 Rx_9 1 _ rfl
    have cx_9_2 := cells4 Rx_9 2 _ rfl
    have cx_9_3 := cells4 Rx_9 3 _ rfl
    have cy_9_0 := cells4 Ry_9 0 _ rfl
    have cy_9_1 := cells4 Ry_9 1 _ rfl
    have cy_9_2 := cells4 Ry_9 2 _ rfl
    have cy_9_3 := cells4 Ry_9 3 _ rfl
    have cz_9_0 := cells4 Rz_9 0 _ rfl
    have cz_9_1 := cells4 Rz_9 1 _ rfl
    have cz_9_2 := cells4 Rz_9 2 _ rfl
    have cz_9_3 := cells4 Rz_9 3 _ rfl
    have cs_9_0 := cells4 Rs_9 0 _ rfl
    have cs_9_1 := cells4 Rs_9 1 _ rfl
    have cs_9_2 := cells4 Rs_9 2 _ rfl
    have cs_9_3 := cells4 Rs_9 3 _ rfl
    have S10 := box B9.size
    have Lx_10 : Box (w.heap.size < w9.heap.size) := box (Array.getElem?_eq_some_iff.1 Rx_9).1
    have Ly_10 : Box (w.heap.size + 1 < w9.heap.size) := box (Array.getElem?_eq_some_iff.1 Ry_9).1
    have Lz_10 : Box (w.heap.size + 1 + 1 < w9.heap.size) := box (Array.getElem?_eq_some_iff.1 Rz_9).1
    have Ls_10 : Box (w7.heap.size < w9.heap.size) := box (Array.getElem?_eq_some_iff.1 Rs_9).1
    have B10 : Below w.heap.size w (w9.alloc (Obj.cells #[.bool pb, .string pu, .string pv, .int .i64 pe] 24)) := btr B9 (bal _ _)
    have Rx_10 : (w9.alloc (Obj.cells #[.bool pb, .string pu, .string pv, .int .i64 pe] 24)).heap[w.heap.size]? = some (Obj.cells #[.bool b0, .string s0, .string t0, .int .i64 e0] 24) := heap_of (bal _ _) _ _ _ Rx_9
    have Ry_10 : (w9.alloc (Obj.cells #[.bool pb, .string pu, .string pv, .int .i64 pe] 24)).heap[w.heap.size + 1]? = some (Obj.cells #[.bool vb1, .string vs1, .string vt1, .int .i64 ve1] 24) := heap_of (bal _ _) _ _ _ Ry_9
    have Rz_10 : (w9.alloc (Obj.cells #[.bool pb, .string pu, .string pv, .int .i64 pe] 24)).heap[w.heap.size + 1 + 1]? = some (Obj.cells #[.bool vb2, .string vs2, .string vt2, .int .i64 ve2] 24) := heap_of (bal _ _) _ _ _ Rz_9
    have Rs_10 : (w9.alloc (Obj.cells #[.bool pb, .string pu, .string pv, .int .i64 pe] 24)).heap[w7.heap.size]? = some (Obj.cells #[.bool sb, .string su, .string sv, .int .i64 se] 24) := heap_of (bal _ _) _ _ _ Rs_9
    have Rp_10 : (w9.alloc (Obj.cells #[.bool pb, .string pu, .string pv, .int .i64 pe] 24)).heap[w9.heap.size]? = some (Obj.cells #[.bool pb, .string pu, .string pv, .int .i64 pe] 24) := heap_alloc_last _ _
    clear B9 Rx_9 cx_9_0 cx_9_1 cx_9_2 cx_9_3 Ry_9 cy_9_0 cy_9_1 cy_9_2 cy_9_3 Rz_9 cz_9_0 cz_9_1 cz_9_2 cz_9_3 Rs_9 cs_9_0 cs_9_1 cs_9_2 cs_9_3
    have cx_10_0 := cells4 Rx_10 0 _ rfl
    have cx_10_1 := cells4 Rx_10 1 _ rfl
    have cx_10_2 := cells4 Rx_10 2 _ rfl
    have cx_10_3 := cells4 Rx_10 3 _ rfl
    have cy_10_0 := cells4 Ry_10 0 _ rfl
    have cy_10_1 := cells4 Ry_10 1 _ rfl
    have cy_10_2 := cells4 Ry_10 2 _ rfl
    have cy_10_3 := cells4 Ry_10 3 _ rfl
    have cz_10_0 := cells4 Rz_10 0 _ rfl
    have cz_10_1 := cells4 Rz_10 1 _ rfl
    have cz_10_2 := cells4 Rz_10 2 _ rfl
    have cz_10_3 := cells4 Rz_10 3 _ rfl
    have cs_10_0 := cells4 Rs_10 0 _ rfl
    have cs_10_1 := cells4 Rs_10 1 _ rfl
    have cs_10_2 := cells4 Rs_10 2 _ rfl
    have cs_10_3 := cells4 Rs_10 3 _ rfl
    have cp_10_0 := cells4 Rp_10 0 _ rfl
    have cp_10_1 := cells4 Rp_10 1 _ rfl
    have cp_10_2 := cells4 Rp_10 2 _ rfl
    have cp_10_3 := cells4 Rp_10 3 _ rfl
    clear cp_10_0 cp_10_1 cp_10_2 cp_10_3
    go_wp2_with fail
    refine (K3.out _ (tabB TT.out B10)).mono ?_
    rintro r w11 ⟨rfl, b11⟩
    have B11 : Below w.heap.size w w11 := btr B10 b11
    have Rx_11 : w11.heap[w.heap.size]? = some (Obj.cells #[.bool b0, .string s0, .string t0, .int .i64 e0] 24) := heap_of b11 _ _ _ Rx_10
    have Ry_11 : w11.heap[w.heap.size + 1]? = some (Obj.cells #[.bool vb1, .string vs1, .string vt1, .int .i64 ve1] 24) := heap_of b11 _ _ _ Ry_10
    have Rz_11 : w11.heap[w.heap.size + 1 + 1]? = some (Obj.cells #[.bool vb2, .string vs2, .string vt2, .int .i64 ve2] 24) := heap_of b11 _ _ _ Rz_10
    have Rs_11 : w11.heap[w7.heap.size]? = some (Obj.cells #[.bool sb, .string su, .string sv, .int .i64 se] 24) := heap_of b11 _ _ _ Rs_10
    have Rp_11 : w11.heap[w9.heap.size]? = some (Obj.cells #[.bool pb, .string pu, .string pv, .int .i64 pe] 24) := heap_of b11 _ _ _ Rp_10
    clear b11 B10 Rx_10 cx_10_0 cx_10_1 cx_10_2 cx_10_3 Ry_10 cy_10_0 cy_10_1 cy_10_2 cy_10_3 Rz_10 cz_10_0 cz_10_1 cz_10_2 cz_10_3 Rs_10 cs_10_0 cs_10_1 cs_10_2 cs_10_3 Rp_10
    have cx_11_0 := cells4 Rx_11 0 _ rfl
    have cx_11_1 := cells4 Rx_11 1 _ rfl
    have cx_11_2 := cells4 Rx_11 2 _ rfl
    have cx_11_3 := cells4 Rx_11 3 _ rfl
    have cy_11_0 := cells4 Ry_11 0 _ rfl
    have cy_11_1 := cells4 Ry_11 1 _ rfl
    have cy_11_2 := cells4 Ry_11 2 _ rfl
    have cy_11_3 := cells4 Ry_11 3 _ rfl
    have cz_11_0 := cells4 Rz_11 0 _ rfl
    have cz_11_1 := cells4 Rz_11 1 _ rfl
    have cz_11_2 := cells4 Rz_11 2 _ rfl
    have cz_11_3 := cells4 Rz_11 3 _ rfl
    have cs_11_0 := cells4 Rs_11 0 _ rfl
    have cs_11_1 := cells4 Rs_11 1 _ rfl
    have cs_11_2 := cells4 Rs_11 2 _ rfl
    have cs_11_3 := cells4 Rs_11 3 _ rfl
    have S12 := box B11.size
    have Lx_12 : Box (w.heap.size < w11.heap.size) := box (Array.getElem?_eq_some_iff.1 Rx_11).1
    have Ly_12 : Box (w.heap.size + 1 < w11.heap.size) := box (Array.getElem?_eq_some_iff.1 Ry_11).1
    have Lz_12 : Box (w.heap.size + 1 + 1 < w11.heap.size) := box (Array.getElem?_eq_some_iff.1 Rz_11).1
    have Ls_12 : Box (w7.heap.size < w11.heap.size) := box (Array.getElem?_eq_some_iff.1 Rs_11).1
    have Lp_12 : Box (w9.heap.size < w11.heap.size) := box (Array.getElem?_eq_some_iff.1 Rp_11).1
    have B12 : Below w.heap.size w (w11.alloc (Obj.cells #[.bool ab, .string au, .string av, .int .i64 ae] 24)) := btr B11 (bal _ _)
    have Rx_12 : (w11.alloc (Obj.cells #[.bool ab, .string au, .string av, .int .i64 ae] 24)).heap[w.heap.size]? = some (Obj.cells #[.bool b0, .string s0, .string t0, .int .i64 e0] 24) := heap_of (bal _ _) _ _ _ Rx_11
    have Ry_12 : (w11.alloc (Obj.cells #[.bool ab, .string au, .string av, .int .i64 ae] 24)).heap[w.heap.size + 1]? = some (Obj.cells #[.bool vb1, .string vs1, .string vt1, .int .i64 ve1] 24) := heap_of (bal _ _) _ _ _ Ry_11
    have Rz_12 : (w11.alloc (Obj.cells #[.bool ab, .string au, .string av, .int .i64 ae] 24)).heap[w.heap.size + 1 + 1]? = some (Obj.cells #[.bool vb2, .string vs2, .string vt2, .int .i64 ve2] 24) := heap_of (bal _ _) _ _ _ Rz_11
    have Rs_12 : (w11.alloc (Obj.cells #[.bool ab, .string au, .string av, .int .i64 ae] 24)).heap[w7.heap.size]? = some (Obj.cells #[.bool sb, .string su, .string sv, .int .i64 se] 24) := heap_of (bal _ _) _ _ _ Rs_11
    have Rp_12 : (w11.alloc (Obj.cells #[.bool ab, .string au, .string av, .int .i64 ae] 24)).heap[w9.heap.size]? = some (Obj.cells #[.bool pb, .string pu, .string pv, .int .i64 pe] 24) := heap_of (bal _ _) _ _ _ Rp_11
    have Ra_12 : (w11.alloc (Obj.cells #[.bool ab, .string au, .string av, .int .i64 ae] 24)).heap[w11.heap.size]? = some (Obj.cells #[.bool ab, .string au, .string av, .int .i64 ae] 24) := heap_alloc_last _ _
    clear B11 Rx_11 cx_11_0 cx_11_1 cx_11_2 cx_11_3 Ry_11 cy_11_0 cy_11_1 cy_11_2 cy_11_3 Rz_11 cz_11_0 cz_11_1 cz_11_2 cz_11_3 Rs_11 cs_11_0 cs_11_1 cs_11_2 cs_11_3 Rp_11
    have cx_12_0 := cells4 Rx_12 0 _ rfl
    have cx_12_1 := cells4 Rx_12 1 _ rfl
    have cx_12_2 := cells4 Rx_12 2 _ rfl
    have cx_12_3 := cells4 Rx_12 3 _ rfl
    have cy_12_0 := cells4 Ry_12 0 _ rfl
    have cy_12_1 := cells4 Ry_12 1 _ rfl
    have cy_12_2 := cells4 Ry_12 2 _ rfl
    have cy_12_3 := cells4 Ry_12 3 _ rfl
    have cz_12_0 := cells4 Rz_12 0 _ rfl
    have cz_12_1 := cells4 Rz_12 1 _ rfl
    have cz_12_2 := cells4 Rz_12 2 _ rfl
    have cz_12_3 := cells4 Rz_12 3 _ rfl
    have cs_12_0 := cells4 Rs_12 0 _ rfl
    have cs_12_1 := cells4 Rs_12 1 _ rfl
    have cs_12_2 := cells4 Rs_12 2 _ rfl
    have cs_12_3 := cells4 Rs_12 3 _ rfl
    have ca_12_0 := cells4 Ra_12 0 _ rfl
    have ca_12_1 := cells4 Ra_12 1 _ rfl
    have ca_12_2 := cells4 Ra_12 2 _ rfl
    have ca_12_3 := cells4 Ra_12 3 _ rfl
    clear cs_12_0 cs_12_1 cs_12_2 cs_12_3
    go_wp2_with fail
    refine (K4.out _ (tabB TT.out B12)).mono ?_
    rintro r w13 ⟨rfl, b13⟩
    have B13 : Below w.heap.size w w13 := btr B12 b13
    have Rx_13 : w13.heap[w.heap.size]? = some (Obj.cells #[.bool b0, .string s0, .string t0, .int .i64 e0] 24) := heap_of b13 _ _ _ Rx_12
    have Ry_13 : w13.heap[w.heap.size + 1]? = some (Obj.cells #[.bool vb1, .string vs1, .string vt1, .int .i64 ve1] 24) := heap_of b13 _ _ _ Ry_12
    have Rz_13 : w13.heap[w.heap.size + 1 + 1]? = some (Obj.cells #[.bool vb2, .string vs2, .string vt2, .int .i64 ve2] 24) := heap_of b13 _ _ _ Rz_12
    have Rs_13 : w13.heap[w7.heap.size]? = some (Obj.cells #[.bool sb, .string su, .string sv, .int .i64 se] 24) := heap_of b13 _ _ _ Rs_12
    have Rp_13 : w13.heap[w9.heap.size]? = some (Obj.cells #[.bool pb, .string pu, .string pv, .int .i64 pe] 24) := heap_of b13 _ _ _ Rp_12
    have Ra_13 : w13.heap[w11.heap.size]? = some (Obj.cells #[.bool ab, .string au, .string av, .int .i64 ae] 24) := heap_of b13 _ _ _ Ra_12
    clear b13 B12 Rx_12 cx_12_0 cx_12_1 cx_12_2 cx_12_3 Ry_12 cy_12_0 cy_12_1 cy_12_2 cy_12_3 Rz_12 cz_12_0 cz_12_1 cz_12_2 cz_12_3 Rs_12 Rp_12 Ra_12 ca_12_0 ca_12_1 ca_12_2 ca_12_3
    have cx_13_0 := cells4 Rx_13 0 _ rfl
    have cx_13_1 := cells4 Rx_13 1 _ rfl
    have cx_13_2 := cells4 Rx_13 2 _ rfl
    have cx_13_3 := cells4 Rx_13 3 _ rfl
    have cy_13_0 := cells4 Ry_13 0 _ rfl
    have cy_13_1 := cells4 Ry_13 1 _ rfl
    have cy_13_2 := cells4 Ry_13 2 _ rfl
    have cy_13_3 := cells4 Ry_13 3 _ rfl
    have cz_13_0 := cells4 Rz_13 0 _ rfl
    have cz_13_1 := cells4 Rz_13 1 _ rfl
    have cz_13_2 := cells4 Rz_13 2 _ rfl
    have cz_13_3 := cells4 Rz_13 3 _ rfl
    have ca_13_0 := cells4 Ra_13 0 _ rfl
    have ca_13_1 := cells4 Ra_13 1 _ rfl
    have ca_13_2 := cells4 Ra_13 2 _ rfl
    have ca_13_3 := cells4 Ra_13 3 _ rfl
    have S14 := box B13.size
    have Lx_14 : Box (w.heap.size < w13.heap.size) := box (Array.getElem?_eq_some_iff.1 Rx_13).1
    have Ly_14 : Box (w.heap.size + 1 < w13.heap.size) := box (Array.getElem?_eq_some_iff.1 Ry_13).1
    have Lz_14 : Box (w.heap.size + 1 + 1 < w13.heap.size) := box (Array.getElem?_eq_some_iff.1 Rz_13).1
    have Ls_14 : Box (w7.heap.size < w13.heap.size) := box (Array.getElem?_eq_some_iff.1 Rs_13).1
    have Lp_14 : Box (w9.heap.size < w13.heap.size) := box (Array.getElem?_eq_some_iff.1 Rp_13).1
    have La_14 : Box (w11.heap.size < w13.heap.size) := box (Array.getElem?_eq_some_iff.1 Ra_13).1
    have B14 : Below w.heap.size w (w13.alloc (Obj.cells #[.bool qb, .string qu, .string qv, .int .i64 qe] 24)) := btr B13 (bal _ _)
    have Rx_14 : (w13.alloc (Obj.cells #[.bool qb, .string qu, .string qv, .int .i64 qe] 24)).heap[w.heap.size]? = some (Obj.cells #[.bool b0, .string s0, .string t0, .int .i64 e0] 24) := heap_of (bal _ _) _ _ _ Rx_13
    have Ry_14 : (w13.alloc (Obj.cells #[.bool qb, .string qu, .string qv, .int .i64 qe] 24)).heap[w.heap.size + 1]? = some (Obj.cells #[.bool vb1, .string vs1, .string vt1, .int .i64 ve1] 24) := heap_of (bal _ _) _ _ _ Ry_13
    have Rz_14 : (w13.alloc (Obj.cells #[.bool qb, .string qu, .string qv, .int .i64 qe] 24)).heap[w.heap.size + 1 + 1]? = some (Obj.cells #[.bool vb2, .string vs2, .string vt2, .int .i64 ve2] 24) := heap_of (bal _ _) _ _ _ Rz_13
    have Rs_14 : (w13.alloc (Obj.cells #[.bool qb, .string qu, .string qv, .int .i64 qe] 24)).heap[w7.heap.size]? = some (Obj.cells #[.bool sb, .string su, .string sv, .int .i64 se] 24) := heap_of (bal _ _) _ _ _ Rs_13
    have Rp_14 : (w13.alloc (Obj.cells #[.bool qb, .string qu, .string qv, .int .i64 qe] 24)).heap[w9.heap.size]? = some (Obj.cells #[.bool pb, .string pu, .string pv, .int .i64 pe] 24) := heap_of (bal _ _) _ _ _ Rp_13
    have Ra_14 : (w13.alloc (Obj.cells #[.bool qb, .string qu, .string qv, .int .i64 qe] 24)).heap[w11.heap.size]? = some (Obj.cells #[.bool ab, .string au, .string av, .int .i64 ae] 24) := heap_of (bal _ _) _ _ _ Ra_13
    have Rb_14 : (w13.alloc (Obj.cells #[.bool qb, .string qu, .string qv, .int .i64 qe] 24)).heap[w13.heap.size]? = some (Obj.cells #[.bool qb, .string qu, .string qv, .int .i64 qe] 24) := heap_alloc_last _ _
    clear B13 Rx_13 cx_13_0 cx_13_1 cx_13_2 cx_13_3 Ry_13 cy_13_0 cy_13_1 cy_13_2 cy_13_3 Rz_13 cz_13_0 cz_13_1 cz_13_2 cz_13_3 Rs_13 Rp_13 Ra_13 ca_13_0 ca_13_1 ca_13_2 ca_13_3
    have cx_14_0 := cells4 Rx_14 0 _ rfl
    have cx_14_1 := cells4 Rx_14 1 _ rfl
    have cx_14_2 := cells4 Rx_14 2 _ rfl
    have cx_14_3 := cells4 Rx_14 3 _ rfl
    have cy_14_0 := cells4 Ry_14 0 _ rfl
    have cy_14_1 := cells4 Ry_14 1 _ rfl
    have cy_14_2 := cells4 Ry_14 2 _ rfl
    have cy_14_3 := cells4 Ry_14 3 _ rfl
    have cz_14_0 := cells4 Rz_14 0 _ rfl
    have cz_14_1 := cells4 Rz_14 1 _ rfl
    have cz_14_2 := cells4 Rz_14 2 _ rfl
    have cz_14_3 := cells4 Rz_14 3 _ rfl
    have ca_14_0 := cells4 Ra_14 0 _ rfl
    have ca_14_1 := cells4 Ra_14 1 _ rfl
    have ca_14_2 := cells4 Ra_14 2 _ rfl
    have ca_14_3 := cells4 Ra_14 3 _ rfl
    have cb_14_0 := cells4 Rb_14 0 _ rfl
    have cb_14_1 := cells4 Rb_14 1 _ rfl
    have cb_14_2 := cells4 Rb_14 2 _ rfl
    have cb_14_3 := cells4 Rb_14 3 _ rfl
    go_wp2_with fail
    refine (K5.out _ (tabB TT.out B14)).mono ?_
    rintro r w15 ⟨rfl, b15⟩
    have B15 : Below w.heap.size w w15 := btr B14 b15
    have Rx_15 : w15.heap[w.heap.size]? = some (Obj.cells #[.bool b0, .string s0, .string t0, .int .i64 e0] 24) := heap_of b15 _ _ _ Rx_14
    have Ry_15 : w15.heap[w.heap.size + 1]? = some (Obj.cells #[.bool vb1, .string vs1, .string vt1, .int .i64 ve1] 24) := heap_of b15 _ _ _ Ry_14
    have Rz_15 : w15.heap[w.heap.size + 1 + 1]? = some (Obj.cells #[.bool vb2, .string vs2, .string vt2, .int .i64 ve2] 24) := heap_of b15 _ _ _ Rz_14
    have Rs_15 : w15.heap[w7.heap.size]? = some (Obj.cells #[.bool sb, .string su, .string sv, .int .i64 se] 24) := heap_of b15 _ _ _ Rs_14
    have Rp_15 : w15.heap[w9.heap.size]? = some (Obj.cells #[.bool pb, .string pu, .string pv, .int .i64 pe] 24) := heap_of b15 _ _ _ Rp_14
    have Ra_15 : w15.heap[w11.heap.size]? = some (Obj.cells #[.bool ab, .string au, .string av, .int .i64 ae] 24) := heap_of b15 _ _ _ Ra_14
    have Rb_15 : w15.heap[w13.heap.size]? = some (Obj.cells #[.bool qb, .string qu, .string qv, .int .i64 qe] 24) := heap_of b15 _ _ _ Rb_14
    clear b15 B14 Rx_14 cx_14_0 cx_14_1 cx_14_2 cx_14_3 Ry_14 cy_14_0 cy_14_1 cy_14_2 cy_14_3 Rz_14 cz_14_0 cz_14_1 cz_14_2 cz_14_3 Rs_14 Rp_14 Ra_14 ca_14_0 ca_14_1 ca_14_2 ca_14_3 Rb_14 cb_14_0 cb_14_1 cb_14_2 cb_14_3
    have cx_15_0 := cells4 Rx_15 0 _ rfl
    have cx_15_1 := cells4 Rx_15 1 _ rfl
    have cx_15_2 := cells4 Rx_15 2 _ rfl
    have cx_15_3 := cells4 Rx_15 3 _ rfl
    have cy_15_0 := cells4 Ry_15 0 _ rfl
    have cy_15_1 := cells4 Ry_15 1 _ rfl
    have cy_15_2 := cells4 Ry_15 2 _ rfl
    have cy_15_3 := cells4 Ry_15 3 _ rfl
    have cz_15_0 := cells4 Rz_15 0 _ rfl
    have cz_15_1 := cells4 Rz_15 1 _ rfl
    have cz_15_2 := cells4 Rz_15 2 _ rfl
    have cz_15_3 := cells4 Rz_15 3 _ rfl
    have ca_15_0 := cells4 Ra_15 0 _ rfl
    have ca_15_1 := cells4 Ra_15 1 _ rfl
    have ca_15_2 := cells4 Ra_15 2 _ rfl
    have ca_15_3 := cells4 Ra_15 3 _ rfl
    have cb_15_0 := cells4 Rb_15 0 _ rfl
    have cb_15_1 := cells4 Rb_15 1 _ rfl
    have cb_15_2 := cells4 Rb_15 2 _ rfl
    have cb_15_3 := cells4 Rb_15 3 _ rfl
    clear Rb_15 cb_15_0 cb_15_1 cb_15_2 cb_15_3
    have S16 := box B15.size
    have Lx_16 : Box (w.heap.size < w15.heap.size) := box (Array.getElem?_eq_some_iff.1 Rx_15).1
    have Ly_16 : Box (w.heap.size + 1 < w15.heap.size) := box (Array.getElem?_eq_some_iff.1 Ry_15).1
    have Lz_16 : Box (w.heap.size + 1 + 1 < w15.heap.size) := box (Array.getElem?_eq_some_iff.1 Rz_15).1
    have Ls_16 : Box (w7.heap.size < w15.heap.size) := box (Array.getElem?_eq_some_iff.1 Rs_15).1
    have Lp_16 : Box (w9.heap.size < w15.heap.size) := box (Array.getElem?_eq_some_iff.1 Rp_15).1
    have La_16 : Box (w11.heap.size < w15.heap.size) := box (Array.getElem?_eq_some_iff.1 Ra_15).1
    have B16 : Below w.heap.size w (w15.alloc (Obj.cells #[.bool pb, .string pu, .string pv, .int .i64 pe] 24)) := btr B15 (bal _ _)
    have Rx_16 : (w15.alloc (Obj.cells #[.bool pb, .string pu, .string pv, .int .i64 pe] 24)).heap[w.heap.size]? = some (Obj.cells #[.bool b0, .string s0, .string t0, .int .i64 e0] 24) := heap_of (bal _ _) _ _ _ Rx_15
    have Ry_16 : (w15.alloc (Obj.cells #[.bool pb, .string pu, .string pv, .int .i64 pe] 24)).heap[w.heap.size + 1]? = some (Obj.cells #[.bool vb1, .string vs1, .string vt1, .int .i64 ve1] 24) := heap_of (bal _ _) _ _ _ Ry_15
    have Rz_16 : (w15.alloc (Obj.cells #[.bool pb, .string pu, .string pv, .int .i64 pe] 24)).heap[w.heap.size + 1 + 1]? = some (Obj.cells #[.bool vb2, .string vs2, .string vt2, .int .i64 ve2] 24) := heap_of (bal _ _) _ _ _ Rz_15
    have Rs_16 : (w15.alloc (Obj.cells #[.bool pb, .string pu, .string pv, .int .i64 pe] 24)).heap[w7.heap.size]? = some (Obj.cells #[.bool sb, .string su, .string sv, .int .i64 se] 24) := heap_of (bal _ _) _ _ _ Rs_15
    have Rp_16 : (w15.alloc (Obj.cells #[.bool pb, .string pu, .string pv, .int .i64 pe] 24)).heap[w9.heap.size]? = some (Obj.cells #[.bool pb, .string pu, .string pv, .int .i64 pe] 24) := heap_of (bal _ _) _ _ _ Rp_15
    have Ra_16 : (w15.alloc (Obj.cells #[.bool pb, .string pu, .string pv, .int .i64 pe] 24)).heap[w11.heap.size]? = some (Obj.cells #[.bool ab, .string au, .string av, .int .i64 ae] 24) := heap_of (bal _ _) _ _ _ Ra_15
    have Rq_16 : (w15.alloc (Obj.cells #[.bool pb, .string pu, .string pv, .int .i64 pe] 24)).heap[w15.heap.size]? = some (Obj.cells #[.bool pb, .string pu, .string pv, .int .i64 pe] 24) := heap_alloc_last _ _
    clear B15 Rx_15 cx_15_0 cx_15_1 cx_15_2 cx_15_3 Ry_15 cy_15_0 cy_15_1 cy_15_2 cy_15_3 Rz_15 cz_15_0 cz_15_1 cz_15_2 cz_15_3 Rs_15 Rp_15 Ra_15 ca_15_0 ca_15_1 ca_15_2 ca_15_3
    have cx_16_0 := cells4 Rx_16 0 _ rfl
    have cx_16_1 := cells4 Rx_16 1 _ rfl
    have cx_16_2 := cells4 Rx_16 2 _ rfl
    have cx_16_3 := cells4 Rx_16 3 _ rfl
    have cy_16_0 := cells4 Ry_16 0 _ rfl
    have cy_16_1 := cells4 Ry_16 1 _ rfl
    have cy_16_2 := cells4 Ry_16 2 _ rfl
    have cy_16_3 := cells4 Ry_16 3 _ rfl
    have cz_16_0 := cells4 Rz_16 0 _ rfl
    have cz_16_1 := cells4 Rz_16 1 _ rfl
    have cz_16_2 := cells4 Rz_16 2 _ rfl
    have cz_16_3 := cells4 Rz_16 3 _ rfl
    have ca_16_0 := cells4 Ra_16 0 _ rfl
    have ca_16_1 := cells4 Ra_16 1 _ rfl
    have ca_16_2 := cells4 Ra_16 2 _ rfl
    have ca_16_3 := cells4 Ra_16 3 _ rfl
    have cq_16_0 := cells4 Rq_16 0 _ rfl
    have cq_16_1 := cells4 Rq_16 1 _ rfl
    have cq_16_2 := cells4 Rq_16 2 _ rfl
    have cq_16_3 := cells4 Rq_16 3 _ rfl
    clear cq_16_0 cq_16_1 cq_16_2 cq_16_3
    clear ca_16_0 ca_16_1 ca_16_2 ca_16_3
    have cs_16_0 := cells4 Rs_16 0 _ rfl
    have cs_16_1 := cells4 Rs_16 1 _ rfl
    have cs_16_2 := cells4 Rs_16 2 _ rfl
    have cs_16_3 := cells4 Rs_16 3 _ rfl
    go_wp2_with fail
    refine (K6.out _ (tabB TT.out B16)).mono ?_
    rintro r w17 ⟨rfl, b17⟩
    have B17 : Below w.heap.size w w17 := btr B16 b17
    have Rx_17 : w17.heap[w.heap.size]? = some (Obj.cells #[.bool b0, .string s0, .string t0, .int .i64 e0] 24) := heap_of b17 _ _ _ Rx_16
    have Ry_17 : w17.heap[w.heap.size + 1]? = some (Obj.cells #[.bool vb1, .string vs1, .string vt1, .int .i64 ve1] 24) := heap_of b17 _ _ _ Ry_16
    have Rz_17 : w17.heap[w.heap.size + 1 + 1]? = some (Obj.cells #[.bool vb2, .string vs2, .string vt2, .int .i64 ve2] 24) := heap_of b17 _ _ _ Rz_16
    have Rs_17 : w17.heap[w7.heap.size]? = some (Obj.cells #[.bool sb, .string su, .string sv, .int .i64 se] 24) := heap_of b17 _ _ _ Rs_16
    have Rp_17 : w17.heap[w9.heap.size]? = some (Obj.cells #[.bool pb, .string pu, .string pv, .int .i64 pe] 24) := heap_of b17 _ _ _ Rp_16
    have Ra_17 : w17.heap[w11.heap.size]? = some (Obj.cells #[.bool ab, .string au, .string av, .int .i64 ae] 24) := heap_of b17 _ _ _ Ra_16
    have Rq_17 : w17.heap[w15.heap.size]? = some (Obj.cells #[.bool pb, .string pu, .string pv, .int .i64 pe] 24) := heap_of b17 _ _ _ Rq_16
    clear b17 B16 Rx_16 cx_16_0 cx_16_1 cx_16_2 cx_16_3 Ry_16 cy_16_0 cy_16_1 cy_16_2 cy_16_3 Rz_16 cz_16_0 cz_16_1 cz_16_2 cz_16_3 Rs_16 cs_16_0 cs_16_1 cs_16_2 cs_16_3 Rp_16 Ra_16 Rq_16
    have cx_17_0 := cells4 Rx_17 0 _ rfl
    have cx_17_1 := cells4 Rx_17 1 _ rfl
    have cx_17_2 := cells4 Rx_17 2 _ rfl
    have cx_17_3 := cells4 Rx_17 3 _ rfl
    have cy_17_0 := cells4 Ry_17 0 _ rfl
    have cy_17_1 := cells4 Ry_17 1 _ rfl
    have cy_17_2 := cells4 Ry_17 2 _ rfl
    have cy_17_3 := cells4 Ry_17 3 _ rfl
    have cz_17_0 := cells4 Rz_17 0 _ rfl
    have cz_17_1 := cells4 Rz_17 1 _ rfl
    have cz_17_2 := cells4 Rz_17 2 _ rfl
    have cz_17_3 := cells4 Rz_17 3 _ rfl
    have cs_17_0 := cells4 Rs_17 0 _ rfl
    have cs_17_1 := cells4 Rs_17 1 _ rfl
    have cs_17_2 := cells4 Rs_17 2 _ rfl
    have cs_17_3 := cells4 Rs_17 3 _ rfl
    clear Rs_17 cs_17_0 cs_17_1 cs_17_2 cs_17_3
    clear Ry_17 cy_17_0 cy_17_1 cy_17_2 cy_17_3
    have S18 := box B17.size
    have Lx_18 : Box (w.heap.size < w17.heap.size) := box (Array.getElem?_eq_some_iff.1 Rx_17).1
    have Lz_18 : Box (w.heap.size + 1 + 1 < w17.heap.size) := box (Array.getElem?_eq_some_iff.1 Rz_17).1
    have Lp_18 : Box (w9.heap.size < w17.heap.size) := box (Array.getElem?_eq_some_iff.1 Rp_17).1
    have La_18 : Box (w11.heap.size < w17.heap.size) := box (Array.getElem?_eq_some_iff.1 Ra_17).1
    have Lq_18 : Box (w15.heap.size < w17.heap.size) := box (Array.getElem?_eq_some_iff.1 Rq_17).1
    have B18 : Below w.heap.size w (w17.alloc (Obj.cells #[.bool b0, .string s0, .string t0, .int .i64 e0] 24)) := btr B17 (bal _ _)
    have Rx_18 : (w17.alloc (Obj.cells #[.bool b0, .string s0, .string t0, .int .i64 e0] 24)).heap[w.heap.size]? = some (Obj.cells #[.bool b0, .string s0, .string t0, .int .i64 e0] 24) := heap_of (bal _ _) _ _ _ Rx_17
    have Rz_18 : (w17.alloc (Obj.cells #[.bool b0, .string s0, .string t0, .int .i64 e0] 24)).heap[w.heap.size + 1 + 1]? = some (Obj.cells #[.bool vb2, .string vs2, .string vt2, .int .i64 ve2] 24) := heap_of (bal _ _) _ _ _ Rz_17
    have Rp_18 : (w17.alloc (Obj.cells #[.bool b0, .string s0, .string t0, .int .i64 e0] 24)).heap[w9.heap.size]? = some (Obj.cells #[.bool pb, .string pu, .string pv, .int .i64 pe] 24) := heap_of (bal _ _) _ _ _ Rp_17
    have Ra_18 : (w17.alloc (Obj.cells #[.bool b0, .string s0, .string t0, .int .i64 e0] 24)).heap[w11.heap.size]? = some (Obj.cells #[.bool ab, .string au, .string av, .int .i64 ae] 24) := heap_of (bal _ _) _ _ _ Ra_17
    have Rq_18 : (w17.alloc (Obj.cells #[.bool b0, .string s0, .string t0, .int .i64 e0] 24)).heap[w15.heap.size]? = some (Obj.cells #[.bool pb, .string pu, .string pv, .int .i64 pe] 24) := heap_of (bal _ _) _ _ _ Rq_17
    have Rd_18 : (w17.alloc (Obj.cells #[.bool b0, .string s0, .string t0, .int .i64 e0] 24)).heap[w17.heap.size]? = some (Obj.cells #[.bool b0, .string s0, .string t0, .int .i64 e0] 24) := heap_alloc_last _ _
    clear B17 Rx_17 cx_17_0 cx_17_1 cx_17_2 cx_17_3 Rz_17 cz_17_0 cz_17_1 cz_17_2 cz_17_3 Rp_17 Ra_17 Rq_17
    have cx_18_0 := cells4 Rx_18 0 _ rfl
    have cx_18_1 := cells4 Rx_18 1 _ rfl
    have cx_18_2 := cells4 Rx_18 2 _ rfl
    have cx_18_3 := cells4 Rx_18 3 _ rfl
    have cz_18_0 := cells4 Rz_18 0 _ rfl
    have cz_18_1 := cells4 Rz_18 1 _ rfl
    have cz_18_2 := cells4 Rz_18 2 _ rfl
    have cz_18_3 := cells4 Rz_18 3 _ rfl
    have cd_18_0 := cells4 Rd_18 0 _ rfl
    have cd_18_1 := cells4 Rd_18 1 _ rfl
    have cd_18_2 := cells4 Rd_18 2 _ rfl
    have cd_18_3 := cells4 Rd_18 3 _ rfl
    have cp_18_0 := cells4 Rp_18 0 _ rfl
    have cp_18_1 := cells4 Rp_18 1 _ rfl
    have cp_18_2 := cells4 Rp_18 2 _ rfl
    have cp_18_3 := cells4 Rp_18 3 _ rfl
    have cq_18_0 := cells4 Rq_18 0 _ rfl
    have cq_18_1 := cells4 Rq_18 1 _ rfl
    have cq_18_2 := cells4 Rq_18 2 _ rfl
    have cq_18_3 := cells4 Rq_18 3 _ rfl
    go_wp2_with fail
    refine (K8.out _ (tabB TT.out B18)).mono ?_
    rintro r w19 ⟨rfl, b19⟩
    have B19 : Below w.heap.size w w19 := btr B18 b19
    have Rx_19 : w19.heap[w.heap.size]? = some (Obj.cells #[.bool b0, .string s0, .string t0, .int .i64 e0] 24) := heap_of b19 _ _ _ Rx_18
    have Rz_19 : w19.heap[w.heap.size + 1 + 1]? = some (Obj.cells #[.bool vb2, .string vs2, .string vt2, .int .i64 ve2] 24) := heap_of b19 _ _ _ Rz_18
    have Rp_19 : w19.heap[w9.heap.size]? = some (Obj.cells #[.bool pb, .string pu, .string pv, .int .i64 pe] 24) := heap_of b19 _ _ _ Rp_18
    have Ra_19 : w19.heap[w11.heap.size]? = some (Obj.cells #[.bool ab, .string au, .string av, .int .i64 ae] 24) := heap_of b19 _ _ _ Ra_18
    have Rq_19 : w19.heap[w15.heap.size]? = some (Obj.cells #[.bool pb, .string pu, .string pv, .int .i64 pe] 24) := heap_of b19 _ _ _ Rq_18
    have Rd_19 : w19.heap[w17.heap.size]? = some (Obj.cells #[.bool b0, .string s0, .string t0, .int .i64 e0] 24) := heap_of b19 _ _ _ Rd_18
    clear b19 B18 Rx_18 cx_18_0 cx_18_1 cx_18_2 cx_18_3 Rz_18 cz_18_0 cz_18_1 cz_18_2 cz_18_3 Rp_18 cp_18_0 cp_18_1 cp_18_2 cp_18_3 Ra_18 Rq_18 cq_18_0 cq_18_1 cq_18_2 cq_18_3 Rd_18 cd_18_0 cd_18_1 cd_18_2 cd_18_3
    have cx_19_0 := cells4 Rx_19 0 _ rfl
    have cx_19_1 := cells4 Rx_19 1 _ rfl
    have cx_19_2 := cells4 Rx_19 2 _ rfl
    have cx_19_3 := cells4 Rx_19 3 _ rfl
    have cz_19_0 := cells4 Rz_19 0 _ rfl
    have cz_19_1 := cells4 Rz_19 1 _ rfl
    have cz_19_2 := cells4 Rz_19 2 _ rfl
    have cz_19_3 := cells4 Rz_19 3 _ rfl
    have cp_19_0 := cells4 Rp_19 0 _ rfl
    have cp_19_1 := cells4 Rp_19 1 _ rfl
    have cp_19_2 := cells4 Rp_19 2 _ rfl
    have cp_19_3 := cells4 Rp_19 3 _ rfl
    have cq_19_0 := cells4 Rq_19 0 _ rfl
    have cq_19_1 := cells4 Rq_19 1 _ rfl
    have cq_19_2 := cells4 Rq_19 2 _ rfl
    have cq_19_3 := cells4 Rq_19 3 _ rfl
    have cd_19_0 := cells4 Rd_19 0 _ rfl
    have cd_19_1 := cells4 Rd_19 1 _ rfl
    have cd_19_2 := cells4 Rd_19 2 _ rfl
    have cd_19_3 := cells4 Rd_19 3 _ rfl
    go_wp2_with fail
    refine (xalive _ (tabB TT.out B19)).mono ?_
    rintro r w20 ⟨rfl, b20⟩
    have B20 : Below w.heap.size w w20 := btr B19 b20
    have Rx_20 : w20.heap[w.heap.size]? = some (Obj.cells #[.bool b0, .string s0, .string t0, .int .i64 e0] 24) := heap_of b20 _ _ _ Rx_19
    have Rz_20 : w20.heap[w.heap.size + 1 + 1]? = some (Obj.cells #[.bool vb2, .string vs2, .string vt2, .int .i64 ve2] 24) := heap_of b20 _ _ _ Rz_19
    have Rp_20 : w20.heap[w9.heap.size]? = some (Obj.cells #[.bool pb, .string pu, .string pv, .int .i64 pe] 24) := heap_of b20 _ _ _ Rp_19
    have Ra_20 : w20.heap[w11.heap.size]? = some (Obj.cells #[.bool ab, .string au, .string av, .int .i64 ae] 24) := heap_of b20 _ _ _ Ra_19
    have Rq_20 : w20.heap[w15.heap.size]? = some (Obj.cells #[.bool pb, .string pu, .string pv, .int .i64 pe] 24) := heap_of b20 _ _ _ Rq_19
    have Rd_20 : w20.heap[w17.heap.size]? = some (Obj.cells #[.bool b0, .string s0, .string t0, .int .i64 e0] 24) := heap_of b20 _ _ _ Rd_19
    clear b20 B19 Rx_19 cx_19_0 cx_19_1 cx_19_2 cx_19_3 Rz_19 cz_19_0 cz_19_1 cz_19_2 cz_19_3 Rp_19 cp_19_0 cp_19_1 cp_19_2 cp_19_3 Ra_19 Rq_19 cq_19_0 cq_19_1 cq_19_2 cq_19_3 Rd_19 cd_19_0 cd_19_1 cd_19_2 cd_19_3
    have cx_20_0 := cells4 Rx_20 0 _ rfl
    have cx_20_1 := cells4 Rx_20 1 _ rfl
    have cx_20_2 := cells4 Rx_20 2 _ rfl
    have cx_20_3 := cells4 Rx_20 3 _ rfl
    have cz_20_0 := cells4 Rz_20 0 _ rfl
    have cz_20_1 := cells4 Rz_20 1 _ rfl
    have cz_20_2 := cells4 Rz_20 2 _ rfl
    have cz_20_3 := cells4 Rz_20 3 _ rfl
    have cp_20_0 := cells4 Rp_20 0 _ rfl
    have cp_20_1 := cells4 Rp_20 1 _ rfl
    have cp_20_2 := cells4 Rp_20 2 _ rfl
    have cp_20_3 := cells4 Rp_20 3 _ rfl
    have cq_20_0 := cells4 Rq_20 0 _ rfl
    have cq_20_1 := cells4 Rq_20 1 _ rfl
    have cq_20_2 := cells4 Rq_20 2 _ rfl
    have cq_20_3 := cells4 Rq_20 3 _ rfl
    have cd_20_0 := cells4 Rd_20 0 _ rfl
    have cd_20_1 := cells4 Rd_20 1 _ rfl
    have cd_20_2 := cells4 Rd_20 2 _ rfl
    have cd_20_3 := cells4 Rd_20 3 _ rfl
    go_wp2
    go_ret
    exact ⟨rfl, B20⟩
  · have K9 := box (K7.out z0)
    have dc : (c == 0) = false := by rw [Bool.eq_false_iff]; intro h; exact hc0 (by simpa using h)
    have dc2 : decide (c = 0) = false := decide_eq_false hc0
    clear K7 hc0 z0
    have Rx_0 : (((w.alloc (Obj.cells #[.bool b0, .string s0, .string t0, .int .i64 e0] 24)).alloc (Obj.cells #[.bool vb1, .string vs1, .string vt1, .int .i64 ve1] 24)).alloc (Obj.cells #[.bool vb2, .string vs2, .string vt2, .int .i64 ve2] 24)).heap[w.heap.size]? = some (Obj.cells #[.bool b0, .string s0, .string t0, .int .i64 e0] 24) := by rw [heap_below _ _ _ (by simp only [size_al]; omega), heap_below _ _ _ (by simp only [size_al]; omega)]; have := heap_alloc_last w (Obj.cells #[.bool b0, .string s0, .string t0, .int .i64 e0] 24); simpa only [size_al] using this
    have Ry_0 : (((w.alloc (Obj.cells #[.bool b0, .string s0, .string t0, .int .i64 e0] 24)).alloc (Obj.cells #[.bool vb1, .string vs1, .string vt1, .int .i64 ve1] 24)).alloc (Obj.cells #[.bool vb2, .string vs2, .string vt2, .int .i64 ve2] 24)).heap[w.heap.size + 1]? = some (Obj.cells #[.bool vb1, .string vs1, .string vt1, .int .i64 ve1] 24) := by rw [heap_below _ _ _ (by simp only [size_al]; omega)]; have := heap_alloc_last (w.alloc (Obj.cells #[.bool b0, .string s0, .string t0, .int .i64 e0] 24)) (Obj.cells #[.bool vb1, .string vs1, .string vt1, .int .i64 ve1] 24); simpa only [size_al] using this
    have Rz_0 : (((w.alloc (Obj.cells #[.bool b0, .string s0, .string t0, .int .i64 e0] 24)).alloc (Obj.cells #[.bool vb1, .string vs1, .string vt1, .int .i64 ve1] 24)).alloc (Obj.cells #[.bool vb2, .string vs2, .string vt2, .int .i64 ve2] 24)).heap[w.heap.size + 1 + 1]? = some (Obj.cells #[.bool vb2, .string vs2, .string vt2, .int .i64 ve2] 24) := by have := heap_alloc_last ((w.alloc (Obj.cells #[.bool b0, .string s0, .string t0, .int .i64 e0] 24)).alloc (Obj.cells #[.bool vb1, .string vs1, .string vt1, .int .i64 ve1] 24)) (Obj.cells #[.bool vb2, .string vs2, .string vt2, .int .i64 ve2] 24); simpa only [size_al] using this
    have B0 : Below w.heap.size w (((w.alloc (Obj.cells #[.bool b0, .string s0, .string t0, .int .i64 e0] 24)).alloc (Obj.cells #[.bool vb1, .string vs1, .string vt1, .int .i64 ve1] 24)).alloc (Obj.cells #[.bool vb2, .string vs2, .string vt2, .int .i64 ve2] 24)) := ((((Below.refl _ _).alloc (by first | omega | (simp only [size_al]; omega)) _).alloc (by first | omega | (simp only [size_al]; omega)) _).alloc (by first | omega | (simp only [size_al]; omega)) _)
    go_enter Tryd.func3, Tryd.ntmps3
    go_wp2_with fail
    refine (xshort b0 s0 t0 e0 20 20 true rfl H0.out _).mono ?_
    rintro r w1 ⟨rfl, b1⟩
    have B1 : Below w.heap.size w w1 := btr B0 b1
    have Rx_1 : w1.heap[w.heap.size]? = some (Obj.cells #[.bool b0, .string s0, .string t0, .int .i64 e0] 24) := heap_of b1 _ _ _ Rx_0
    have Ry_1 : w1.heap[w.heap.size + 1]? = some (Obj.cells #[.bool vb1, .string vs1, .string vt1, .int .i64 ve1] 24) := heap_of b1 _ _ _ Ry_0
    have Rz_1 : w1.heap[w.heap.size + 1 + 1]? = some (Obj.cells #[.bool vb2, .string vs2, .string vt2, .int .i64 ve2] 24) := heap_of b1 _ _ _ Rz_0
    clear b1 B0 Rx_0 Ry_0 Rz_0
    have cx_1_0 := cells4 Rx_1 0 _ rfl
    have cx_1_1 := cells4 Rx_1 1 _ rfl
    have cx_1_2 := cells4 Rx_1 2 _ rfl
    have cx_1_3 := cells4 Rx_1 3 _ rfl
    have cy_1_0 := cells4 Ry_1 0 _ rfl
    have cy_1_1 := cells4 Ry_1 1 _ rfl
    have cy_1_2 := cells4 Ry_1 2 _ rfl
    have cy_1_3 := cells4 Ry_1 3 _ rfl
    have cz_1_0 := cells4 Rz_1 0 _ rfl
    have cz_1_1 := cells4 Rz_1 1 _ rfl
    have cz_1_2 := cells4 Rz_1 2 _ rfl
    have cz_1_3 := cells4 Rz_1 3 _ rfl
    go_wp2_with fail
    refine (xshort vb1 vs1 vt1 ve1 20 20 true rfl H1.out _).mono ?_
    rintro r w2 ⟨rfl, b2⟩
    have B2 : Below w.heap.size w w2 := btr B1 b2
    have Rx_2 : w2.heap[w.heap.size]? = some (Obj.cells #[.bool b0, .string s0, .string t0, .int .i64 e0] 24) := heap_of b2 _ _ _ Rx_1
    have Ry_2 : w2.heap[w.heap.size + 1]? = some (Obj.cells #[.bool vb1, .string vs1, .string vt1, .int .i64 ve1] 24) := heap_of b2 _ _ _ Ry_1
    have Rz_2 : w2.heap[w.heap.size + 1 + 1]? = some (Obj.cells #[.bool vb2, .string vs2, .string vt2, .int .i64 ve2] 24) := heap_of b2 _ _ _ Rz_1
    clear b2 B1 Rx_1 cx_1_0 cx_1_1 cx_1_2 cx_1_3 Ry_1 cy_1_0 cy_1_1 cy_1_2 cy_1_3 Rz_1 cz_1_0 cz_1_1 cz_1_2 cz_1_3
    have cx_2_0 := cells4 Rx_2 0 _ rfl
    have cx_2_1 := cells4 Rx_2 1 _ rfl
    have cx_2_2 := cells4 Rx_2 2 _ rfl
    have cx_2_3 := cells4 Rx_2 3 _ rfl
    have cy_2_0 := cells4 Ry_2 0 _ rfl
    have cy_2_1 := cells4 Ry_2 1 _ rfl
    have cy_2_2 := cells4 Ry_2 2 _ rfl
    have cy_2_3 := cells4 Ry_2 3 _ rfl
    have cz_2_0 := cells4 Rz_2 0 _ rfl
    have cz_2_1 := cells4 Rz_2 1 _ rfl
    have cz_2_2 := cells4 Rz_2 2 _ rfl
    have cz_2_3 := cells4 Rz_2 3 _ rfl
    go_wp2_with fail
    refine (xshort vb2 vs2 vt2 ve2 20 20 true rfl H2.out _).mono ?_
    rintro r w3 ⟨rfl, b3⟩
    have B3 : Below w.heap.size w w3 := btr B2 b3
    have Rx_3 : w3.heap[w.heap.size]? = some (Obj.cells #[.bool b0, .string s0, .string t0, .int .i64 e0] 24) := heap_of b3 _ _ _ Rx_2
    have Ry_3 : w3.heap[w.heap.size + 1]? = some (Obj.cells #[.bool vb1, .string vs1, .string vt1, .int .i64 ve1] 24) := heap_of b3 _ _ _ Ry_2
    have Rz_3 : w3.heap[w.heap.size + 1 + 1]? = some (Obj.cells #[.bool vb2, .string vs2, .string vt2, .int .i64 ve2] 24) := heap_of b3 _ _ _ Rz_2
    clear b3 B2 Rx_2 cx_2_0 cx_2_1 cx_2_2 cx_2_3 Ry_2 cy_2_0 cy_2_1 cy_2_2 cy_2_3 Rz_2 cz_2_0 cz_2_1 cz_2_2 cz_2_3
    have cx_3_0 := cells4 Rx_3 0 _ rfl
    have cx_3_1 := cells4 Rx_3 1 _ rfl
    have cx_3_2 := cells4 Rx_3 2 _ rfl
    have cx_3_3 := cells4 Rx_3 3 _ rfl
    have cy_3_0 := cells4 Ry_3 0 _ rfl
    have cy_3_1 := cells4 Ry_3 1 _ rfl
    have cy_3_2 := cells4 Ry_3 2 _ rfl
    have cy_3_3 := cells4 Ry_3 3 _ rfl
    have cz_3_0 := cells4 Rz_3 0 _ rfl
    have cz_3_1 := cells4 Rz_3 1 _ rfl
    have cz_3_2 := cells4 Rz_3 2 _ rfl
    have cz_3_3 := cells4 Rz_3 3 _ rfl
    go_wp2_with fail
    refine (xmayM b0 s0 t0 e0 true M0.out _).mono ?_
    rintro r w4 ⟨rfl, b4⟩
    have B4 : Below w.heap.size w w4 := btr B3 b4
    have Rx_4 : w4.heap[w.heap.size]? = some (Obj.cells #[.bool b0, .string s0, .string t0, .int .i64 e0] 24) := heap_of b4 _ _ _ Rx_3
    have Ry_4 : w4.heap[w.heap.size + 1]? = some (Obj.cells #[.bool vb1, .string vs1, .string vt1, .int .i64 ve1] 24) := heap_of b4 _ _ _ Ry_3
    have Rz_4 : w4.heap[w.heap.size + 1 + 1]? = some (Obj.cells #[.bool vb2, .string vs2, .string vt2, .int .i64 ve2] 24) := heap_of b4 _ _ _ Rz_3
    clear b4 B3 Rx_3 cx_3_0 cx_3_1 cx_3_2 cx_3_3 Ry_3 cy_3_0 cy_3_1 cy_3_2 cy_3_3 Rz_3 cz_3_0 cz_3_1 cz_3_2 cz_3_3
    have cx_4_0 := cells4 Rx_4 0 _ rfl
    have cx_4_1 := cells4 Rx_4 1 _ rfl
    have cx_4_2 := cells4 Rx_4 2 _ rfl
    have cx_4_3 := cells4 Rx_4 3 _ rfl
    have cy_4_0 := cells4 Ry_4 0 _ rfl
    have cy_4_1 := cells4 Ry_4 1 _ rfl
    have cy_4_2 := cells4 Ry_4 2 _ rfl
    have cy_4_3 := cells4 Ry_4 3 _ rfl
    have cz_4_0 := cells4 Rz_4 0 _ rfl
    have cz_4_1 := cells4 Rz_4 1 _ rfl
    have cz_4_2 := cells4 Rz_4 2 _ rfl
    have cz_4_3 := cells4 Rz_4 3 _ rfl
    go_wp2_with fail
    refine (xmayM vb1 vs1 vt1 ve1 true M1.out _).mono ?_
    rintro r w5 ⟨rfl, b5⟩
    have B5 : Below w.heap.size w w5 := btr B4 b5
    have Rx_5 : w5.heap[w.heap.size]? = some (Obj.cells #[.bool b0, .string s0, .string t0, .int .i64 e0] 24) := heap_of b5 _ _ _ Rx_4
    have Ry_5 : w5.heap[w.heap.size + 1]? = some (Obj.cells #[.bool vb1, .string vs1, .string vt1, .int .i64 ve1] 24) := heap_of b5 _ _ _ Ry_4
    have Rz_5 : w5.heap[w.heap.size + 1 + 1]? = some (Obj.cells #[.bool vb2, .string vs2, .string vt2, .int .i64 ve2] 24) := heap_of b5 _ _ _ Rz_4
    clear b5 B4 Rx_4 cx_4_0 cx_4_1 cx_4_2 cx_4_3 Ry_4 cy_4_0 cy_4_1 cy_4_2 cy_4_3 Rz_4 cz_4_0 cz_4_1 cz_4_2 cz_4_3
    have cx_5_0 := cells4 Rx_5 0 _ rfl
    have cx_5_1 := cells4 Rx_5 1 _ rfl
    have cx_5_2 := cells4 Rx_5 2 _ rfl
    have cx_5_3 := cells4 Rx_5 3 _ rfl
    have cy_5_0 := cells4 Ry_5 0 _ rfl
    have cy_5_1 := cells4 Ry_5 1 _ rfl
    have cy_5_2 := cells4 Ry_5 2 _ rfl
    have cy_5_3 := cells4 Ry_5 3 _ rfl
    have cz_5_0 := cells4 Rz_5 0 _ rfl
    have cz_5_1 := cells4 Rz_5 1 _ rfl
    have cz_5_2 := cells4 Rz_5 2 _ rfl
    have cz_5_3 := cells4 Rz_5 3 _ rfl
    go_wp2_with fail
    refine (xmayM vb2 vs2 vt2 ve2 true M2.out _).mono ?_
    rintro r w6 ⟨rfl, b6⟩
    have B6 : Below w.heap.size w w6 := btr B5 b6
    have Rx_6 : w6.heap[w.heap.size]? = some (Obj.cells #[.bool b0, .string s0, .string t0, .int .i64 e0] 24) := heap_of b6 _ _ _ Rx_5
    have Ry_6 : w6.heap[w.heap.size + 1]? = some (Obj.cells #[.bool vb1, .string vs1, .string vt1, .int .i64 ve1] 24) := heap_of b6 _ _ _ Ry_5
    have Rz_6 : w6.heap[w.heap.size + 1 + 1]? = some (Obj.cells #[.bool vb2, .string vs2, .string vt2, .int .i64 ve2] 24) := heap_of b6 _ _ _ Rz_5
    clear b6 B5 Rx_5 cx_5_0 cx_5_1 cx_5_2 cx_5_3 Ry_5 cy_5_0 cy_5_1 cy_5_2 cy_5_3 Rz_5 cz_5_0 cz_5_1 cz_5_2 cz_5_3
    have cx_6_0 := cells4 Rx_6 0 _ rfl
    have cx_6_1 := cells4 Rx_6 1 _ rfl
    have cx_6_2 := cells4 Rx_6 2 _ rfl
    have cx_6_3 := cells4 Rx_6 3 _ rfl
    have cy_6_0 := cells4 Ry_6 0 _ rfl
    have cy_6_1 := cells4 Ry_6 1 _ rfl
    have cy_6_2 := cells4 Ry_6 2 _ rfl
    have cy_6_3 := cells4 Ry_6 3 _ rfl
    have cz_6_0 := cells4 Rz_6 0 _ rfl
    have cz_6_1 := cells4 Rz_6 1 _ rfl
    have cz_6_2 := cells4 Rz_6 2 _ rfl
    have cz_6_3 := cells4 Rz_6 3 _ rfl
    go_wp2_with fail
    refine (K1.out _ (tabB TT.out B6)).mono ?_
    rintro r w7 ⟨rfl, b7⟩
    have B7 : Below w.heap.size w w7 := btr B6 b7
    have Rx_7 : w7.heap[w.heap.size]? = some (Obj.cells #[.bool b0, .string s0, .string t0, .int .i64 e0] 24) := heap_of b7 _ _ _ Rx_6
    have Ry_7 : w7.heap[w.heap.size + 1]? = some (Obj.cells #[.bool vb1, .string vs1, .string vt1, .int .i64 ve1] 24) := heap_of b7 _ _ _ Ry_6
    have Rz_7 : w7.heap[w.heap.size + 1 + 1]? = some (Obj.cells #[.bool vb2, .string vs2, .string vt2, .int .i64 ve2] 24) := heap_of b7 _ _ _ Rz_6
    clear b7 B6 Rx_6 cx_6_0 cx_6_1 cx_6_2 cx_6_3 Ry_6 cy_6_0 cy_6_1 cy_6_2 cy_6_3 Rz_6 cz_6_0 cz_6_1 cz_6_2 cz_6_3
    have cx_7_0 := cells4 Rx_7 0 _ rfl
    have cx_7_1 := cells4 Rx_7 1 _ rfl
    have cx_7_2 := cells4 Rx_7 2 _ rfl
    have cx_7_3 := cells4 Rx_7 3 _ rfl
    have cy_7_0 := cells4 Ry_7 0 _ rfl
    have cy_7_1 := cells4 Ry_7 1 _ rfl
    have cy_7_2 := cells4 Ry_7 2 _ rfl
    have cy_7_3 := cells4 Ry_7 3 _ rfl
    have cz_7_0 := cells4 Rz_7 0 _ rfl
    have cz_7_1 := cells4 Rz_7 1 _ rfl
    have cz_7_2 := cells4 Rz_7 2 _ rfl
    have cz_7_3 := cells4 Rz_7 3 _ rfl
    have S8 := box B7.size
    have Lx_8 : Box (w.heap.size < w7.heap.size) := box (Array.getElem?_eq_some_iff.1 Rx_7).1
    have Ly_8 : Box (w.heap.size + 1 < w7.heap.size) := box (Array.getElem?_eq_some_iff.1 Ry_7).1
    have Lz_8 : Box (w.heap.size + 1 + 1 < w7.heap.size) := box (Array.getElem?_eq_some_iff.1 Rz_7).1
    have B8 : Below w.heap.size w (w7.alloc (Obj.cells #[.bool sb, .string su, .string sv, .int .i64 se] 24)) := btr B7 (bal _ _)
    have Rx_8 : (w7.alloc (Obj.cells #[.bool sb, .string su, .string sv, .int .i64 se] 24)).heap[w.heap.size]? = some (Obj.cells #[.bool b0, .string s0, .string t0, .int .i64 e0] 24) := heap_of (bal _ _) _ _ _ Rx_7
    have Ry_8 : (w7.alloc (Obj.cells #[.bool sb, .string su, .string sv, .int .i64 se] 24)).heap[w.heap.size + 1]? = some (Obj.cells #[.bool vb1, .string vs1, .string vt1, .int .i64 ve1] 24) := heap_of (bal _ _) _ _ _ Ry_7
    have Rz_8 : (w7.alloc (Obj.cells #[.bool sb, .string su, .string sv, .int .i64 se] 24)).heap[w.heap.size + 1 + 1]? = some (Obj.cells #[.bool vb2, .string vs2, .string vt2, .int .i64 ve2] 24) := heap_of (bal _ _) _ _ _ Rz_7
    have Rs_8 : (w7.alloc (Obj.cells #[.bool sb, .string su, .string sv, .int .i64 se] 24)).heap[w7.heap.size]? = some (Obj.cells #[.bool sb, .string su, .string sv, .int .i64 se] 24) := heap_alloc_last _ _
    clear B7 Rx_7 cx_7_0 cx_7_1 cx_7_2 cx_7_3 Ry_7 cy_7_0 cy_7_1 cy_7_2 cy_7_3 Rz_7 cz_7_0 cz_7_1 cz_7_2 cz_7_3
    have cx_8_0 := cells4 Rx_8 0 _ rfl
    have cx_8_1 := cells4 Rx_8 1 _ rfl
    have cx_8_2 := cells4 Rx_8 2 _ rfl
    have cx_8_3 := cells4 Rx_8 3 _ rfl
    have cy_8_0 := cells4 Ry_8 0 _ rfl
    have cy_8_1 := cells4 Ry_8 1 _ rfl
    have cy_8_2 := cells4 Ry_8 2 _ rfl
    have cy_8_3 := cells4 Ry_8 3 _ rfl
    have cz_8_0 := cells4 Rz_8 0 _ rfl
    have cz_8_1 := cells4 Rz_8 1 _ rfl
    have cz_8_2 := cells4 Rz_8 2 _ rfl
    have cz_8_3 := cells4 Rz_8 3 _ rfl
    have cs_8_0 := cells4 Rs_8 0 _ rfl
    have cs_8_1 := cells4 Rs_8 1 _ rfl
    have cs_8_2 := cells4 Rs_8 2 _ rfl
    have cs_8_3 := cells4 Rs_8 3 _ rfl
    go_wp2_with fail
    refine (K2.out _ (tabB TT.out B8)).mono ?_
    rintro r w9 ⟨rfl, b9⟩
    have B9 : Below w.heap.size w w9 := btr B8 b9
    have Rx_9 : w9.heap[w.heap.size]? = some (Obj.cells #[.bool b0, .string s0, .string t0, .int .i64 e0] 24) := heap_of b9 _ _ _ Rx_8
    have Ry_9 : w9.heap[w.heap.size + 1]? = some (Obj.cells #[.bool vb1, .string vs1, .string vt1, .int .i64 ve1] 24) := heap_of b9 _ _ _ Ry_8
    have Rz_9 : w9.heap[w.heap.size + 1 + 1]? = some (Obj.cells #[.bool vb2, .string vs2, .string vt2, .int .i64 ve2] 24) := heap_of b9 _ _ _ Rz_8
    have Rs_9 : w9.heap[w7.heap.size]? = some (Obj.cells #[.bool sb, .string su, .string sv, .int .i64 se] 24) := heap_of b9 _ _ _ Rs_8
    clear b9 B8 Rx_8 cx_8_0 cx_8_1 cx_8_2 cx_8_3 Ry_8 cy_8_0 cy_8_1 cy_8_2 cy_8_3 Rz_8 cz_8_0 cz_8_1 cz_8_2 cz_8_3 Rs_8 cs_8_0 cs_8_1 cs_8_2 cs_8_3
    have cx_9_0 := cells4 Rx_9 0 _ rfl
    have cx_9_1 := cells4 Rx_9 1 _ rfl
    have cx_9_2 := cells4 Rx_9 2 _ rfl
    have cx_9_3 := cells4 Rx_9 3 _ rfl
    have cy_9_0 := cells4 Ry_9 0 _ rfl
    have cy_9_1 := cells4 Ry_9 1 _ rfl
    have cy_9_2 := cells4 Ry_9 2 _ rfl
    have cy_9_3 := cells4 Ry_9 3 _ rfl
    have cz_9_0 := cells4 Rz_9 0 _ rfl
    have cz_9_1 := cells4 Rz_9 1 _ rfl
    have cz_9_2 := cells4 Rz_9 2 _ rfl
    have cz_9_3 := cells4 Rz_9 3 _ rfl
    have cs_9_0 := cells4 Rs_9 0 _ rfl
    have cs_9_1 := cells4 Rs_9 1 _ rfl
    have cs_9_2 := cells4 Rs_9 2 _ rfl
    have cs_9_3 := cells4 Rs_9 3 _ rfl
    have S10 := box B9.size
    have Lx_10 : Box (w.heap.size < w9.heap.size) := box (Array.getElem?_eq_some_iff.1 Rx_9).1
    have Ly_10 : Box (w.heap.size + 1 < w9.heap.size) := box (Array.getElem?_eq_some_iff.1 Ry_9).1
    have Lz_10 : Box (w.heap.size + 1 + 1 < w9.heap.size) := box (Array.getElem?_eq_some_iff.1 Rz_9).1
    have Ls_10 : Box (w7.heap.size < w9.heap.size) := box (Array.getElem?_eq_some_iff.1 Rs_9).1
    have B10 : Below w.heap.size w (w9.alloc (Obj.cells #[.bool pb, .string pu, .string pv, .int .i64 pe] 24)) := btr B9 (bal _ _)
    have Rx_10 : (w9.alloc (Obj.cells #[.bool pb, .string pu, .string pv, .int .i64 pe] 24)).heap[w.heap.size]? = some (Obj.cells #[.bool b0, .string s0, .string t0, .int .i64 e0] 24) := heap_of (bal _ _) _ _ _ Rx_9
    have Ry_10 : (w9.alloc (Obj.cells #[.bool pb, .string pu, .string pv, .int .i64 pe] 24)).heap[w.heap.size + 1]? = some (Obj.cells #[.bool vb1, .string vs1, .string vt1, .int .i64 ve1] 24) := heap_of (bal _ _) _ _ _ Ry_9
    have Rz_10 : (w9.alloc (Obj.cells #[.bool pb, .string pu, .string pv, .int .i64 pe] 24)).heap[w.heap.size + 1 + 1]? = some (Obj.cells #[.bool vb2, .string vs2, .string vt2, .int .i64 ve2] 24) := heap_of (bal _ _) _ _ _ Rz_9
    have Rs_10 : (w9.alloc (Obj.cells #[.bool pb, .string pu, .string pv, .int .i64 pe] 24)).heap[w7.heap.size]? = some (Obj.cells #[.bool sb, .string su, .string sv, .int .i64 se] 24) := heap_of (bal _ _) _ _ _ Rs_9
    have Rp_10 : (w9.alloc (Obj.cells #[.bool pb, .string pu, .string pv, .int .i64 pe] 24)).heap[w9.heap.size]? = some (Obj.cells #[.bool pb, .string pu, .string pv, .int .i64 pe] 24) := heap_alloc_last _ _
    clear B9 Rx_9 cx_9_0 cx_9_1 cx_9_2 cx_9_3 Ry_9 cy_9_0 cy_9_1 cy_9_2 cy_9_3 Rz_9 cz_9_0 cz_9_1 cz_9_2 cz_9_3 Rs_9 cs_9_0 cs_9_1 cs_9_2 cs_9_3
    have cx_10_0 := cells4 Rx_10 0 _ rfl
    have cx_10_1 := cells4 Rx_10 1 _ rfl
    have cx_10_2 := cells4 Rx_10 2 _ rfl
    have cx_10_3 := cells4 Rx_10 3 _ rfl
    have cy_10_0 := cells4 Ry_10 0 _ rfl
    have cy_10_1 := cells4 Ry_10 1 _ rfl
    have cy_10_2 := cells4 Ry_10 2 _ rfl
    have cy_10_3 := cells4 Ry_10 3 _ rfl
    have cz_10_0 := cells4 Rz_10 0 _ rfl
    have cz_10_1 := cells4 Rz_10 1 _ rfl
    have cz_10_2 := cells4 Rz_10 2 _ rfl
    have cz_10_3 := cells4 Rz_10 3 _ rfl
    have cs_10_0 := cells4 Rs_10 0 _ rfl
    have cs_10_1 := cells4 Rs_10 1 _ rfl
    have cs_10_2 := cells4 Rs_10 2 _ rfl
    have cs_10_3 := cells4 Rs_10 3 _ rfl
    have cp_10_0 := cells4 Rp_10 0 _ rfl
    have cp_10_1 := cells4 Rp_10 1 _ rfl
    have cp_10_2 := cells4 Rp_10 2 _ rfl
    have cp_10_3 := cells4 Rp_10 3 _ rfl
    clear cp_10_0 cp_10_1 cp_10_2 cp_10_3
    go_wp2_with fail
    refine (K3.out _ (tabB TT.out B10)).mono ?_
    rintro r w11 ⟨rfl, b11⟩
    have B11 : Below w.heap.size w w11 := btr B10 b11
    have Rx_11 : w11.heap[w.heap.size]? = some (Obj.cells #[.bool b0, .string s0, .string t0, .int .i64 e0] 24) := heap_of b11 _ _ _ Rx_10
    have Ry_11 : w11.heap[w.heap.size + 1]? = some (Obj.cells #[.bool vb1, .string vs1, .string vt1, .int .i64 ve1] 24) := heap_of b11 _ _ _ Ry_10
    have Rz_11 : w11.heap[w.heap.size + 1 + 1]? = some (Obj.cells #[.bool vb2, .string vs2, .string vt2, .int .i64 ve2] 24) := heap_of b11 _ _ _ Rz_10
    have Rs_11 : w11.heap[w7.heap.size]? = some (Obj.cells #[.bool sb, .string su, .string sv, .int .i64 se] 24) := heap_of b11 _ _ _ Rs_10
    have Rp_11 : w11.heap[w9.heap.size]? = some (Obj.cells #[.bool pb, .string pu, .string pv, .int .i64 pe] 24) := heap_of b11 _ _ _ Rp_10
    clear b11 B10 Rx_10 cx_10_0 cx_10_1 cx_10_2 cx_10_3 Ry_10 cy_10_0 cy_10_1 cy_10_2 cy_10_3 Rz_10 cz_10_0 cz_10_1 cz_10_2 cz_10_3 Rs_10 cs_10_0 cs_10_1 cs_10_2 cs_10_3 Rp_10
    have cx_11_0 := cells4 Rx_11 0 _ rfl
    have cx_11_1 := cells4 Rx_11 1 _ rfl
    have cx_11_2 := cells4 Rx_11 2 _ rfl
    have cx_11_3 := cells4 Rx_11 3 _ rfl
    have cy_11_0 := cells4 Ry_11 0 _ rfl
    have cy_11_1 := cells4 Ry_11 1 _ rfl
    have cy_11_2 := cells4 Ry_11 2 _ rfl
    have cy_11_3 := cells4 Ry_11 3 _ rfl
    have cz_11_0 := cells4 Rz_11 0 _ rfl
    have cz_11_1 := cells4 Rz_11 1 _ rfl
    have cz_11_2 := cells4 Rz_11 2 _ rfl
    have cz_11_3 := cells4 Rz_11 3 _ rfl
    have cs_11_0 := cells4 Rs_11 0 _ rfl
    have cs_11_1 := cells4 Rs_11 1 _ rfl
    have cs_11_2 := cells4 Rs_11 2 _ rfl
    have cs_11_3 := cells4 Rs_11 3 _ rfl
    have S12 := box B11.size
    have Lx_12 : Box (w.heap.size < w11.heap.size) := box (Array.getElem?_eq_some_iff.1 Rx_11).1
    have Ly_12 : Box (w.heap.size + 1 < w11.heap.size) := box (Array.getElem?_eq_some_iff.1 Ry_11).1
    have Lz_12 : Box (w.heap.size + 1 + 1 < w11.heap.size) := box (Array.getElem?_eq_some_iff.1 Rz_11).1
    have Ls_12 : Box (w7.heap.size < w11.heap.size) := box (Array.getElem?_eq_some_iff.1 Rs_11).1
    have Lp_12 : Box (w9.heap.size < w11.heap.size) := box (Array.getElem?_eq_some_iff.1 Rp_11).1
    have B12 : Below w.heap.size w (w11.alloc (Obj.cells #[.bool ab, .string au, .string av, .int .i64 ae] 24)) := btr B11 (bal _ _)
    have Rx_12 : (w11.alloc (Obj.cells #[.bool ab, .string au, .string av, .int .i64 ae] 24)).heap[w.heap.size]? = some (Obj.cells #[.bool b0, .string s0, .string t0, .int .i64 e0] 24) := heap_of (bal _ _) _ _ _ Rx_11
    have Ry_12 : (w11.alloc (Obj.cells #[.bool ab, .string au, .string av, .int .i64 ae] 24)).heap[w.heap.size + 1]? = some (Obj.cells #[.bool vb1, .string vs1, .string vt1, .int .i64 ve1] 24) := heap_of (bal _ _) _ _ _ Ry_11
    have Rz_12 : (w11.alloc (Obj.cells #[.bool ab, .string au, .string av, .int .i64 ae] 24)).heap[w.heap.size + 1 + 1]? = some (Obj.cells #[.bool vb2, .string vs2, .string vt2, .int .i64 ve2] 24) := heap_of (bal _ _) _ _ _ Rz_11
    have Rs_12 : (w11.alloc (Obj.cells #[.bool ab, .string au, .string av, .int .i64 ae] 24)).heap[w7.heap.size]? = some (Obj.cells #[.bool sb, .string su, .string sv, .int .i64 se] 24) := heap_of (bal _ _) _ _ _ Rs_11
    have Rp_12 : (w11.alloc (Obj.cells #[.bool ab, .string au, .string av, .int .i64 ae] 24)).heap[w9.heap.size]? = some (Obj.cells #[.bool pb, .string pu, .string pv, .int .i64 pe] 24) := heap_of (bal _ _) _ _ _ Rp_11
    have Ra_12 : (w11.alloc (Obj.cells #[.bool ab, .string au, .string av, .int .i64 ae] 24)).heap[w11.heap.size]? = some (Obj.cells #[.bool ab, .string au, .string av, .int .i64 ae] 24) := heap_alloc_last _ _
    clear B11 Rx_11 cx_11_0 cx_11_1 cx_11_2 cx_11_3 Ry_11 cy_11_0 cy_11_1 cy_11_2 cy_11_3 Rz_11 cz_11_0 cz_11_1 cz_11_2 cz_11_3 Rs_11 cs_11_0 cs_11_1 cs_11_2 cs_11_3 Rp_11
    have cx_12_0 := cells4 Rx_12 0 _ rfl
    have cx_12_1 := cells4 Rx_12 1 _ rfl
    have cx_12_2 := cells4 Rx_12 2 _ rfl
    have cx_12_3 := cells4 Rx_12 3 _ rfl
    have cy_12_0 := cells4 Ry_12 0 _ rfl
    have cy_12_1 := cells4 Ry_12 1 _ rfl
    have cy_12_2 := cells4 Ry_12 2 _ rfl
    have cy_12_3 := cells4 Ry_12 3 _ rfl
    have cz_12_0 := cells4 Rz_12 0 _ rfl
    have cz_12_1 := cells4 Rz_12 1 _ rfl
    have cz_12_2 := cells4 Rz_12 2 _ rfl
    have cz_12_3 := cells4 Rz_12 3 _ rfl
    have cs_12_0 := cells4 Rs_12 0 _ rfl
    have cs_12_1 := cells4 Rs_12 1 _ rfl
    have cs_12_2 := cells4 Rs_12 2 _ rfl
    have cs_12_3 := cells4 Rs_12 3 _ rfl
    have ca_12_0 := cells4 Ra_12 0 _ rfl
    have ca_12_1 := cells4 Ra_12 1 _ rfl
    have ca_12_2 := cells4 Ra_12 2 _ rfl
    have ca_12_3 := cells4 Ra_12 3 _ rfl
    clear cs_12_0 cs_12_1 cs_12_2 cs_12_3
    go_wp2_with fail
    refine (K4.out _ (tabB TT.out B12)).mono ?_
    rintro r w13 ⟨rfl, b13⟩
    have B13 : Below w.heap.size w w13 := btr B12 b13
    have Rx_13 : w13.heap[w.heap.size]? = some (Obj.cells #[.bool b0, .string s0, .string t0, .int .i64 e0] 24) := heap_of b13 _ _ _ Rx_12
    have Ry_13 : w13.heap[w.heap.size + 1]? = some (Obj.cells #[.bool vb1, .string vs1, .string vt1, .int .i64 ve1] 24) := heap_of b13 _ _ _ Ry_12
    have Rz_13 : w13.heap[w.heap.size + 1 + 1]? = some (Obj.cells #[.bool vb2, .string vs2, .string vt2, .int .i64 ve2] 24) := heap_of b13 _ _ _ Rz_12
    have Rs_13 : w13.heap[w7.heap.size]? = some (Obj.cells #[.bool sb, .string su, .string sv, .int .i64 se] 24) := heap_of b13 _ _ _ Rs_12
    have Rp_13 : w13.heap[w9.heap.size]? = some (Obj.cells #[.bool pb, .string pu, .string pv, .int .i64 pe] 24) := heap_of b13 _ _ _ Rp_12
    have Ra_13 : w13.heap[w11.heap.size]? = some (Obj.cells #[.bool ab, .string au, .string av, .int .i64 ae] 24) := heap_of b13 _ _ _ Ra_12
    clear b13 B12 Rx_12 cx_12_0 cx_12_1 cx_12_2 cx_12_3 Ry_12 cy_12_0 cy_12_1 cy_12_2 cy_12_3 Rz_12 cz_12_0 cz_12_1 cz_12_2 cz_12_3 Rs_12 Rp_12 Ra_12 ca_12_0 ca_12_1 ca_12_2 ca_12_3
    have cx_13_0 := cells4 Rx_13 0 _ rfl
    have cx_13_1 := cells4 Rx_13 1 _ rfl
    have cx_13_2 := cells4 Rx_13 2 _ rfl
    have cx_13_3 := cells4 Rx_13 3 _ rfl
    have cy_13_0 := cells4 Ry_13 0 _ rfl
    have cy_13_1 := cells4 Ry_13 1 _ rfl
    have cy_13_2 := cells4 Ry_13 2 _ rfl
    have cy_13_3 := cells4 Ry_13 3 _ rfl
    have cz_13_0 := cells4 Rz_13 0 _ rfl
    have cz_13_1 := cells4 Rz_13 1 _ rfl
    have cz_13_2 := cells4 Rz_13 2 _ rfl
    have cz_13_3 := cells4 Rz_13 3 _ rfl
    have ca_13_0 := cells4 Ra_13 0 _ rfl
    have ca_13_1 := cells4 Ra_13 1 _ rfl
    have ca_13_2 := cells4 Ra_13 2 _ rfl
    have ca_13_3 := cells4 Ra_13 3 _ rfl
    have S14 := box B13.size
    have Lx_14 : Box (w.heap.size < w13.heap.size) := box (Array.getElem?_eq_some_iff.1 Rx_13).1
    have Ly_14 : Box (w.heap.size + 1 < w13.heap.size) := box (Array.getElem?_eq_some_iff.1 Ry_13).1
    have Lz_14 : Box (w.heap.size + 1 + 1 < w13.heap.size) := box (Array.getElem?_eq_some_iff.1 Rz_13).1
    have Ls_14 : Box (w7.heap.size < w13.heap.size) := box (Array.getElem?_eq_some_iff.1 Rs_13).1
    have Lp_14 : Box (w9.heap.size < w13.heap.size) := box (Array.getElem?_eq_some_iff.1 Rp_13).1
    have La_14 : Box (w11.heap.size < w13.heap.size) := box (Array.getElem?_eq_some_iff.1 Ra_13).1
    have B14 : Below w.heap.size w (w13.alloc (Obj.cells #[.bool qb, .string qu, .string qv, .int .i64 qe] 24)) := btr B13 (bal _ _)
    have Rx_14 : (w13.alloc (Obj.cells #[.bool qb, .string qu, .string qv, .int .i64 qe] 24)).heap[w.heap.size]? = some (Obj.cells #[.bool b0, .string s0, .string t0, .int .i64 e0] 24) := heap_of (bal _ _) _ _ _ Rx_13
    have Ry_14 : (w13.alloc (Obj.cells #[.bool qb, .string qu, .string qv, .int .i64 qe] 24)).heap[w.heap.size + 1]? = some (Obj.cells #[.bool vb1, .string vs1, .string vt1, .int .i64 ve1] 24) := heap_of (bal _ _) _ _ _ Ry_13
    have Rz_14 : (w13.alloc (Obj.cells #[.bool qb, .string qu, .string qv, .int .i64 qe] 24)).heap[w.heap.size + 1 + 1]? = some (Obj.cells #[.bool vb2, .string vs2, .string vt2, .int .i64 ve2] 24) := heap_of (bal _ _) _ _ _ Rz_13
    have Rs_14 : (w13.alloc (Obj.cells #[.bool qb, .string qu, .string qv, .int .i64 qe] 24)).heap[w7.heap.size]? = some (Obj.cells #[.bool sb, .string su, .string sv, .int .i64 se] 24) := heap_of (bal _ _) _ _ _ Rs_13
    have Rp_14 : (w13.alloc (Obj.cells #[.bool qb, .string qu, .string qv, .int .i64 qe] 24)).heap[w9.heap.size]? = some (Obj.cells #[.bool pb, .string pu, .string pv, .int .i64 pe] 24) := heap_of (bal _ _) _ _ _ Rp_13
    have Ra_14 : (w13.alloc (Obj.cells #[.bool qb, .string qu, .string qv, .int .i64 qe] 24)).heap[w11.heap.size]? = some (Obj.cells #[.bool ab, .string au, .string av, .int .i64 ae] 24) := heap_of (bal _ _) _ _ _ Ra_13
    have Rb_14 : (w13.alloc (Obj.cells #[.bool qb, .string qu, .string qv, .int .i64 qe] 24)).heap[w13.heap.size]? = some (Obj.cells #[.bool qb, .string qu, .string qv, .int .i64 qe] 24) := heap_alloc_last _ _
    clear B13 Rx_13 cx_13_0 cx_13_1 cx_13_2 cx_13_3 Ry_13 cy_13_0 cy_13_1 cy_13_2 cy_13_3 Rz_13 cz_13_0 cz_13_1 cz_13_2 cz_13_3 Rs_13 Rp_13 Ra_13 ca_13_0 ca_13_1 ca_13_2 ca_13_3
    have cx_14_0 := cells4 Rx_14 0 _ rfl
    have cx_14_1 := cells4 Rx_14 1 _ rfl
    have cx_14_2 := cells4 Rx_14 2 _ rfl
    have cx_14_3 := cells4 Rx_14 3 _ rfl
    have cy_14_0 := cells4 Ry_14 0 _ rfl
    have cy_14_1 := cells4 Ry_14 1 _ rfl
    have cy_14_2 := cells4 Ry_14 2 _ rfl
    have cy_14_3 := cells4 Ry_14 3 _ rfl
    have cz_14_0 := cells4 Rz_14 0 _ rfl
    have cz_14_1 := cells4 Rz_14 1 _ rfl
    have cz_14_2 := cells4 Rz_14 2 _ rfl
    have cz_14_3 := cells4 Rz_14 3 _ rfl
    have ca_14_0 := cells4 Ra_14 0 _ rfl
    have ca_14_1 := cells4 Ra_14 1 _ rfl
    have ca_14_2 := cells4 Ra_14 2 _ rfl
    have ca_14_3 := cells4 Ra_14 3 _ rfl
    have cb_14_0 := cells4 Rb_14 0 _ rfl
    have cb_14_1 := cells4 Rb_14 1 _ rfl
    have cb_14_2 := cells4 Rb_14 2 _ rfl
    have cb_14_3 := cells4 Rb_14 3 _ rfl
    go_wp2_with fail
    refine (K5.out _ (tabB TT.out B14)).mono ?_
    rintro r w15 ⟨rfl, b15⟩
    have B15 : Below w.heap.size w w15 := btr B14 b15
    have Rx_15 : w15.heap[w.heap.size]? = some (Obj.cells #[.bool b0, .string s0, .string t0, .int .i64 e0] 24) := heap_of b15 _ _ _ Rx_14
    have Ry_15 : w15.heap[w.heap.size + 1]? = some (Obj.cells #[.bool vb1, .string vs1, .string vt1, .int .i64 ve1] 24) := heap_of b15 _ _ _ Ry_14
    have Rz_15 : w15.heap[w.heap.size + 1 + 1]? = some (Obj.cells #[.bool vb2, .string vs2, .string vt2, .int .i64 ve2] 24) := heap_of b15 _ _ _ Rz_14
    have Rs_15 : w15.heap[w7.heap.size]? = some (Obj.cells #[.bool sb, .string su, .string sv, .int .i64 se] 24) := heap_of b15 _ _ _ Rs_14
    have Rp_15 : w15.heap[w9.heap.size]? = some (Obj.cells #[.bool pb, .string pu, .string pv, .int .i64 pe] 24) := heap_of b15 _ _ _ Rp_14
    have Ra_15 : w15.heap[w11.heap.size]? = some (Obj.cells #[.bool ab, .string au, .string av, .int .i64 ae] 24) := heap_of b15 _ _ _ Ra_14
    have Rb_15 : w15.heap[w13.heap.size]? = some (Obj.cells #[.bool qb, .string qu, .string qv, .int .i64 qe] 24) := heap_of b15 _ _ _ Rb_14
    clear b15 B14 Rx_14 cx_14_0 cx_14_1 cx_14_2 cx_14_3 Ry_14 cy_14_0 cy_14_1 cy_14_2 cy_14_3 Rz_14 cz_14_0 cz_14_1 cz_14_2 cz_14_3 Rs_14 Rp_14 Ra_14 ca_14_0 ca_14_1 ca_14_2 ca_14_3 Rb_14 cb_14_0 cb_14_1 cb_14_2 cb_14_3
    have cx_15_0 := cells4 Rx_15 0 _ rfl
    have cx_15_1 := cells4 Rx_15 1 _ rfl
    have cx_15_2 := cells4 Rx_15 2 _ rfl
    have cx_15_3 := cells4 Rx_15 3 _ rfl
    have cy_15_0 := cells4 Ry_15 0 _ rfl
    have cy_15_1 := cells4 Ry_15 1 _ rfl
    have cy_15_2 := cells4 Ry_15 2 _ rfl
    have cy_15_3 := cells4 Ry_15 3 _ rfl
    have cz_15_0 := cells4 Rz_15 0 _ rfl
    have cz_15_1 := cells4 Rz_15 1 _ rfl
    have cz_15_2 := cells4 Rz_15 2 _ rfl
    have cz_15_3 := cells4 Rz_15 3 _ rfl
    have ca_15_0 := cells4 Ra_15 0 _ rfl
    have ca_15_1 := cells4 Ra_15 1 _ rfl
    have ca_15_2 := cells4 Ra_15 2 _ rfl
    have ca_15_3 := cells4 Ra_15 3 _ rfl
    have cb_15_0 := cells4 Rb_15 0 _ rfl
    have cb_15_1 := cells4 Rb_15 1 _ rfl
    have cb_15_2 := cells4 Rb_15 2 _ rfl
    have cb_15_3 := cells4 Rb_15 3 _ rfl
    clear Rb_15 cb_15_0 cb_15_1 cb_15_2 cb_15_3
    have S16 := box B15.size
    have Lx_16 : Box (w.heap.size < w15.heap.size) := box (Array.getElem?_eq_some_iff.1 Rx_15).1
    have Ly_16 : Box (w.heap.size + 1 < w15.heap.size) := box (Array.getElem?_eq_some_iff.1 Ry_15).1
    have Lz_16 : Box (w.heap.size + 1 + 1 < w15.heap.size) := box (Array.getElem?_eq_some_iff.1 Rz_15).1
    have Ls_16 : Box (w7.heap.size < w15.heap.size) := box (Array.getElem?_eq_some_iff.1 Rs_15).1
    have Lp_16 : Box (w9.heap.size < w15.heap.size) := box (Array.getElem?_eq_some_iff.1 Rp_15).1
    have La_16 : Box (w11.heap.size < w15.heap.size) := box (Array.getElem?_eq_some_iff.1 Ra_15).1
    have B16 : Below w.heap.size w (w15.alloc (Obj.cells #[.bool pb, .string pu, .string pv, .int .i64 pe] 24)) := btr B15 (bal _ _)
    have Rx_16 : (w15.alloc (Obj.cells #[.bool pb, .string pu, .string pv, .int .i64 pe] 24)).heap[w.heap.size]? = some (Obj.cells #[.bool b0, .string s0, .string t0, .int .i64 e0] 24) := heap_of (bal _ _) _ _ _ Rx_15
    have Ry_16 : (w15.alloc (Obj.cells #[.bool pb, .string pu, .string pv, .int .i64 pe] 24)).heap[w.heap.size + 1]? = some (Obj.cells #[.bool vb1, .string vs1, .string vt1, .int .i64 ve1] 24) := heap_of (bal _ _) _ _ _ Ry_15
    have Rz_16 : (w15.alloc (Obj.cells #[.bool pb, .string pu, .string pv, .int .i64 pe] 24)).heap[w.heap.size + 1 + 1]? = some (Obj.cells #[.bool vb2, .string vs2, .string vt2, .int .i64 ve2] 24) := heap_of (bal _ _) _ _ _ Rz_15
    have Rs_16 : (w15.alloc (Obj.cells #[.bool pb, .string pu, .string pv, .int .i64 pe] 24)).heap[w7.heap.size]? = some (Obj.cells #[.bool sb, .string su, .string sv, .int .i64 se] 24) := heap_of (bal _ _) _ _ _ Rs_15
    have Rp_16 : (w15.alloc (Obj.cells #[.bool pb, .string pu, .string pv, .int .i64 pe] 24)).heap[w9.heap.size]? = some (Obj.cells #[.bool pb, .string pu, .string pv, .int .i64 pe] 24) := heap_of (bal _ _) _ _ _ Rp_15
    have Ra_16 : (w15.alloc (Obj.cells #[.bool pb, .string pu, .string pv, .int .i64 pe] 24)).heap[w11.heap.size]? = some (Obj.cells #[.bool ab, .string au, .string av, .int .i64 ae] 24) := heap_of (bal _ _) _ _ _ Ra_15
    have Rq_16 : (w15.alloc (Obj.cells #[.bool pb, .string pu, .string pv, .int .i64 pe] 24)).heap[w15.heap.size]? = some (Obj.cells #[.bool pb, .string pu, .string pv, .int .i64 pe] 24) := heap_alloc_last _ _
    clear B15 Rx_15 cx_15_0 cx_15_1 cx_15_2 cx_15_3 Ry_15 cy_15_0 cy_15_1 cy_15_2 cy_15_3 Rz_15 cz_15_0 cz_15_1 cz_15_2 cz_15_3 Rs_15 Rp_15 Ra_15 ca_15_0 ca_15_1 ca_15_2 ca_15_3
    have cx_16_0 := cells4 Rx_16 0 _ rfl
    have cx_16_1 := cells4 Rx_16 1 _ rfl
    have cx_16_2 := cells4 Rx_16 2 _ rfl
    have cx_16_3 := cells4 Rx_16 3 _ rfl
    have cy_16_0 := cells4 Ry_16 0 _ rfl
    have cy_16_1 := cells4 Ry_16 1 _ rfl
    have cy_16_2 := cells4 Ry_16 2 _ rfl
    have cy_16_3 := cells4 Ry_16 3 _ rfl
    have cz_16_0 := cells4 Rz_16 0 _ rfl
    have cz_16_1 := cells4 Rz_16 1 _ rfl
    have cz_16_2 := cells4 Rz_16 2 _ rfl
    have cz_16_3 := cells4 Rz_16 3 _ rfl
    have ca_16_0 := cells4 Ra_16 0 _ rfl
    have ca_16_1 := cells4 Ra_16 1 _ rfl
    have ca_16_2 := cells4 Ra_16 2 _ rfl
    have ca_16_3 := cells4 Ra_16 3 _ rfl
    have cq_16_0 := cells4 Rq_16 0 _ rfl
    have cq_16_1 := cells4 Rq_16 1 _ rfl
    have cq_16_2 := cells4 Rq_16 2 _ rfl
    have cq_16_3 := cells4 Rq_16 3 _ rfl
    clear cq_16_0 cq_16_1 cq_16_2 cq_16_3
    clear ca_16_0 ca_16_1 ca_16_2 ca_16_3
    have cs_16_0 := cells4 Rs_16 0 _ rfl
    have cs_16_1 := cells4 Rs_16 1 _ rfl
    have cs_16_2 := cells4 Rs_16 2 _ rfl
    have cs_16_3 := cells4 Rs_16 3 _ rfl
    go_wp2_with fail
    refine (K6.out _ (tabB TT.out B16)).mono ?_
    rintro r w17 ⟨rfl, b17⟩
    have B17 : Below w.heap.size w w17 := btr B16 b17
    have Rx_17 : w17.heap[w.heap.size]? = some (Obj.cells #[.bool b0, .string s0, .string t0, .int .i64 e0] 24) := heap_of b17 _ _ _ Rx_16
    have Ry_17 : w17.heap[w.heap.size + 1]? = some (Obj.cells #[.bool vb1, .string vs1, .string vt1, .int .i64 ve1] 24) := heap_of b17 _ _ _ Ry_16
    have Rz_17 : w17.heap[w.heap.size + 1 + 1]? = some (Obj.cells #[.bool vb2, .string vs2, .string vt2, .int .i64 ve2] 24) := heap_of b17 _ _ _ Rz_16
    have Rs_17 : w17.heap[w7.heap.size]? = some (Obj.cells #[.bool sb, .string su, .string sv, .int .i64 se] 24) := heap_of b17 _ _ _ Rs_16
    have Rp_17 : w17.heap[w9.heap.size]? = some (Obj.cells #[.bool pb, .string pu, .string pv, .int .i64 pe] 24) := heap_of b17 _ _ _ Rp_16
    have Ra_17 : w17.heap[w11.heap.size]? = some (Obj.cells #[.bool ab, .string au, .string av, .int .i64 ae] 24) := heap_of b17 _ _ _ Ra_16
    have Rq_17 : w17.heap[w15.heap.size]? = some (Obj.cells #[.bool pb, .string pu, .string pv, .int .i64 pe] 24) := heap_of b17 _ _ _ Rq_16
    clear b17 B16 Rx_16 cx_16_0 cx_16_1 cx_16_2 cx_16_3 Ry_16 cy_16_0 cy_16_1 cy_16_2 cy_16_3 Rz_16 cz_16_0 cz_16_1 cz_16_2 cz_16_3 Rs_16 cs_16_0 cs_16_1 cs_16_2 cs_16_3 Rp_16 Ra_16 Rq_16
    have cx_17_0 := cells4 Rx_17 0 _ rfl
    have cx_17_1 := cells4 Rx_17 1 _ rfl
    have cx_17_2 := cells4 Rx_17 2 _ rfl
    have cx_17_3 := cells4 Rx_17 3 _ rfl
    have cy_17_0 := cells4 Ry_17 0 _ rfl
    have cy_17_1 := cells4 Ry_17 1 _ rfl
    have cy_17_2 := cells4 Ry_17 2 _ rfl
    have cy_17_3 := cells4 Ry_17 3 _ rfl
    have cz_17_0 := cells4 Rz_17 0 _ rfl
    have cz_17_1 := cells4 Rz_17 1 _ rfl
    have cz_17_2 := cells4 Rz_17 2 _ rfl
    have cz_17_3 := cells4 Rz_17 3 _ rfl
    have cs_17_0 := cells4 Rs_17 0 _ rfl
    have cs_17_1 := cells4 Rs_17 1 _ rfl
    have cs_17_2 := cells4 Rs_17 2 _ rfl
    have cs_17_3 := cells4 Rs_17 3 _ rfl
    clear Rs_17 cs_17_0 cs_17_1 cs_17_2 cs_17_3
    clear Ry_17 cy_17_0 cy_17_1 cy_17_2 cy_17_3
    have S18 := box B17.size
    have Lx_18 : Box (w.heap.size < w17.heap.size) := box (Array.getElem?_eq_some_iff.1 Rx_17).1
    have Lz_18 : Box (w.heap.size + 1 + 1 < w17.heap.size) := box (Array.getElem?_eq_some_iff.1 Rz_17).1
    have Lp_18 : Box (w9.heap.size < w17.heap.size) := box (Array.getElem?_eq_some_iff.1 Rp_17).1
    have La_18 : Box (w11.heap.size < w17.heap.size) := box (Array.getElem?_eq_some_iff.1 Ra_17).1
    have Lq_18 : Box (w15.heap.size < w17.heap.size) := box (Array.getElem?_eq_some_iff.1 Rq_17).1
    have B18 : Below w.heap.size w (w17.alloc (Obj.cells #[.bool b0, .string s0, .string t0, .int .i64 e0] 24)) := btr B17 (bal _ _)
    have Rx_18 : (w17.alloc (Obj.cells #[.bool b0, .string s0, .string t0, .int .i64 e0] 24)).heap[w.heap.size]? = some (Obj.cells #[.bool b0, .string s0, .string t0, .int .i64 e0] 24) := heap_of (bal _ _) _ _ _ Rx_17
    have Rz_18 : (w17.alloc (Obj.cells #[.bool b0, .string s0, .string t0, .int .i64 e0] 24)).heap[w.heap.size + 1 + 1]? = some (Obj.cells #[.bool vb2, .string vs2, .string vt2, .int .i64 ve2] 24) := heap_of (bal _ _) _ _ _ Rz_17
    have Rp_18 : (w17.alloc (Obj.cells #[.bool b0, .string s0, .string t0, .int .i64 e0] 24)).heap[w9.heap.size]? = some (Obj.cells #[.bool pb, .string pu, .string pv, .int .i64 pe] 24) := heap_of (bal _ _) _ _ _ Rp_17
    have Ra_18 : (w17.alloc (Obj.cells #[.bool b0, .string s0, .string t0, .int .i64 e0] 24)).heap[w11.heap.size]? = some (Obj.cells #[.bool ab, .string au, .string av, .int .i64 ae] 24) := heap_of (bal _ _) _ _ _ Ra_17
    have Rq_18 : (w17.alloc (Obj.cells #[.bool b0, .string s0, .string t0, .int .i64 e0] 24)).heap[w15.heap.size]? = some (Obj.cells #[.bool pb, .string pu, .string pv, .int .i64 pe] 24) := heap_of (bal _ _) _ _ _ Rq_17
    have Rd_18 : (w17.alloc (Obj.cells #[.bool b0, .string s0, .string t0, .int .i64 e0] 24)).heap[w17.heap.size]? = some (Obj.cells #[.bool b0, .string s0, .string t0, .int .i64 e0] 24) := heap_alloc_last _ _
    clear B17 Rx_17 cx_17_0 cx_17_1 cx_17_2 cx_17_3 Rz_17 cz_17_0 cz_17_1 cz_17_2 cz_17_3 Rp_17 Ra_17 Rq_17
    have cx_18_0 := cells4 Rx_18 0 _ rfl
    have cx_18_1 := cells4 Rx_18 1 _ rfl
    have cx_18_2 := cells4 Rx_18 2 _ rfl
    have cx_18_3 := cells4 Rx_18 3 _ rfl
    have cz_18_0 := cells4 Rz_18 0 _ rfl
    have cz_18_1 := cells4 Rz_18 1 _ rfl
    have cz_18_2 := cells4 Rz_18 2 _ rfl
    have cz_18_3 := cells4 Rz_18 3 _ rfl
    have cd_18_0 := cells4 Rd_18 0 _ rfl
    have cd_18_1 := cells4 Rd_18 1 _ rfl
    have cd_18_2 := cells4 Rd_18 2 _ rfl
    have cd_18_3 := cells4 Rd_18 3 _ rfl
    have cp_18_0 := cells4 Rp_18 0 _ rfl
    have cp_18_1 := cells4 Rp_18 1 _ rfl
    have cp_18_2 := cells4 Rp_18 2 _ rfl
    have cp_18_3 := cells4 Rp_18 3 _ rfl
    have cq_18_0 := cells4 Rq_18 0 _ rfl
    have cq_18_1 := cells4 Rq_18 1 _ rfl
    have cq_18_2 := cells4 Rq_18 2 _ rfl
    have cq_18_3 := cells4 Rq_18 3 _ rfl
    go_wp2_with fail
    refine (K8.out _ (tabB TT.out B18)).mono ?_
    rintro r w19 ⟨rfl, b19⟩
    have B19 : Below w.heap.size w w19 := btr B18 b19
    have Rx_19 : w19.heap[w.heap.size]? = some (Obj.cells #[.bool b0, .string s0, .string t0, .int .i64 e0] 24) := heap_of b19 _ _ _ Rx_18
    have Rz_19 : w19.heap[w.heap.size + 1 + 1]? = some (Obj.cells #[.bool vb2, .string vs2, .string vt2, .int .i64 ve2] 24) := heap_of b19 _ _ _ Rz_18
    have Rp_19 : w19.heap[w9.heap.size]? = some (Obj.cells #[.bool pb, .string pu, .string pv, .int .i64 pe] 24) := heap_of b19 _ _ _ Rp_18
    have Ra_19 : w19.heap[w11.heap.size]? = some (Obj.cells #[.bool ab, .string au, .string av, .int .i64 ae] 24) := heap_of b19 _ _ _ Ra_18
    have Rq_19 : w19.heap[w15.heap.size]? = some (Obj.cells #[.bool pb, .string pu, .string pv, .int .i64 pe] 24) := heap_of b19 _ _ _ Rq_18
    have Rd_19 : w19.heap[w17.heap.size]? = some (Obj.cells #[.bool b0, .string s0, .string t0, .int .i64 e0] 24) := heap_of b19 _ _ _ Rd_18
    clear b19 B18 Rx_18 cx_18_0 cx_18_1 cx_18_2 cx_18_3 Rz_18 cz_18_0 cz_18_1 cz_18_2 cz_18_3 Rp_18 cp_18_0 cp_18_1 cp_18_2 cp_18_3 Ra_18 Rq_18 cq_18_0 cq_18_1 cq_18_2 cq_18_3 Rd_18 cd_18_0 cd_18_1 cd_18_2 cd_18_3
    have cx_19_0 := cells4 Rx_19 0 _ rfl
    have cx_19_1 := cells4 Rx_19 1 _ rfl
    have cx_19_2 := cells4 Rx_19 2 _ rfl
    have cx_19_3 := cells4 Rx_19 3 _ rfl
    have cz_19_0 := cells4 Rz_19 0 _ rfl
    have cz_19_1 := cells4 Rz_19 1 _ rfl
    have cz_19_2 := cells4 Rz_19 2 _ rfl
    have cz_19_3 := cells4 Rz_19 3 _ rfl
    have cp_19_0 := cells4 Rp_19 0 _ rfl
    have cp_19_1 := cells4 Rp_19 1 _ rfl
    have cp_19_2 := cells4 Rp_19 2 _ rfl
    have cp_19_3 := cells4 Rp_19 3 _ rfl
    have cq_19_0 := cells4 Rq_19 0 _ rfl
    have cq_19_1 := cells4 Rq_19 1 _ rfl
    have cq_19_2 := cells4 Rq_19 2 _ rfl
    have cq_19_3 := cells4 Rq_19 3 _ rfl
    have cd_19_0 := cells4 Rd_19 0 _ rfl
    have cd_19_1 := cells4 Rd_19 1 _ rfl
    have cd_19_2 := cells4 Rd_19 2 _ rfl
    have cd_19_3 := cells4 Rd_19 3 _ rfl
    clear Rp_19 cp_19_0 cp_19_1 cp_19_2 cp_19_3
    clear Rq_19 cq_19_0 cq_19_1 cq_19_2 cq_19_3
    clear Rd_19 cd_19_0 cd_19_1 cd_19_2 cd_19_3
    have ca_19_0 := cells4 Ra_19 0 _ rfl
    have ca_19_1 := cells4 Ra_19 1 _ rfl
    have ca_19_2 := cells4 Ra_19 2 _ rfl
    have ca_19_3 := cells4 Ra_19 3 _ rfl
    go_wp2_with fail
    refine (K9.out _ (tabB TT.out B19)).mono ?_
    rintro r w20 ⟨rfl, b20⟩
    have B20 : Below w.heap.size w w20 := btr B19 b20
    have Rx_20 : w20.heap[w.heap.size]? = some (Obj.cells #[.bool b0, .string s0, .string t0, .int .i64 e0] 24) := heap_of b20 _ _ _ Rx_19
    have Rz_20 : w20.heap[w.heap.size + 1 + 1]? = some (Obj.cells #[.bool vb2, .string vs2, .string vt2, .int .i64 ve2] 24) := heap_of b20 _ _ _ Rz_19
    have Ra_20 : w20.heap[w11.heap.size]? = some (Obj.cells #[.bool ab, .string au, .string av, .int .i64 ae] 24) := heap_of b20 _ _ _ Ra_19
    clear b20 B19 Rx_19 cx_19_0 cx_19_1 cx_19_2 cx_19_3 Rz_19 cz_19_0 cz_19_1 cz_19_2 cz_19_3 Ra_19 ca_19_0 ca_19_1 ca_19_2 ca_19_3
    have cx_20_0 := cells4 Rx_20 0 _ rfl
    have cx_20_1 := cells4 Rx_20 1 _ rfl
    have cx_20_2 := cells4 Rx_20 2 _ rfl
    have cx_20_3 := cells4 Rx_20 3 _ rfl
    have cz_20_0 := cells4 Rz_20 0 _ rfl
    have cz_20_1 := cells4 Rz_20 1 _ rfl
    have cz_20_2 := cells4 Rz_20 2 _ rfl
    have cz_20_3 := cells4 Rz_20 3 _ rfl
    have ca_20_0 := cells4 Ra_20 0 _ rfl
    have ca_20_1 := cells4 Ra_20 1 _ rfl
    have ca_20_2 := cells4 Ra_20 2 _ rfl
    have ca_20_3 := cells4 Ra_20 3 _ rfl
    have S21 := box B20.size
    have Lx_21 : Box (w.heap.size < w20.heap.size) := box (Array.getElem?_eq_some_iff.1 Rx_20).1
    have Lz_21 : Box (w.heap.size + 1 + 1 < w20.heap.size) := box (Array.getElem?_eq_some_iff.1 Rz_20).1
    have La_21 : Box (w11.heap.size < w20.heap.size) := box (Array.getElem?_eq_some_iff.1 Ra_20).1
    have B21 : Below w.heap.size w (w20.alloc (Obj.cells #[.bool b0, .string s0, .string t0, .int .i64 e0] 24)) := btr B20 (bal _ _)
    have Rx_21 : (w20.alloc (Obj.cells #[.bool b0, .string s0, .string t0, .int .i64 e0] 24)).heap[w.heap.size]? = some (Obj.cells #[.bool b0, .string s0, .string t0, .int .i64 e0] 24) := heap_of (bal _ _) _ _ _ Rx_20
    have Rz_21 : (w20.alloc (Obj.cells #[.bool b0, .string s0, .string t0, .int .i64 e0] 24)).heap[w.heap.size + 1 + 1]? = some (Obj.cells #[.bool vb2, .string vs2, .string vt2, .int .i64 ve2] 24) := heap_of (bal _ _) _ _ _ Rz_20
    have Ra_21 : (w20.alloc (Obj.cells #[.bool b0, .string s0, .string t0, .int .i64 e0] 24)).heap[w11.heap.size]? = some (Obj.cells #[.bool ab, .string au, .string av, .int .i64 ae] 24) := heap_of (bal _ _) _ _ _ Ra_20
    have Rr_21 : (w20.alloc (Obj.cells #[.bool b0, .string s0, .string t0, .int .i64 e0] 24)).heap[w20.heap.size]? = some (Obj.cells #[.bool b0, .string s0, .string t0, .int .i64 e0] 24) := heap_alloc_last _ _
    clear B20 Rx_20 cx_20_0 cx_20_1 cx_20_2 cx_20_3 Rz_20 cz_20_0 cz_20_1 cz_20_2 cz_20_3 Ra_20 ca_20_0 ca_20_1 ca_20_2 ca_20_3
    have cx_21_0 := cells4 Rx_21 0 _ rfl
    have cx_21_1 := cells4 Rx_21 1 _ rfl
    have cx_21_2 := cells4 Rx_21 2 _ rfl
    have cx_21_3 := cells4 Rx_21 3 _ rfl
    have cz_21_0 := cells4 Rz_21 0 _ rfl
    have cz_21_1 := cells4 Rz_21 1 _ rfl
    have cz_21_2 := cells4 Rz_21 2 _ rfl
    have cz_21_3 := cells4 Rz_21 3 _ rfl
    have ca_21_0 := cells4 Ra_21 0 _ rfl
    have ca_21_1 := cells4 Ra_21 1 _ rfl
    have ca_21_2 := cells4 Ra_21 2 _ rfl
    have ca_21_3 := cells4 Ra_21 3 _ rfl
    have cr_21_0 := cells4 Rr_21 0 _ rfl
    have cr_21_1 := cells4 Rr_21 1 _ rfl
    have cr_21_2 := cells4 Rr_21 2 _ rfl
    have cr_21_3 := cells4 Rr_21 3 _ rfl
    go_wp2_with fail
    refine (xalive _ (tabB TT.out B21)).mono ?_
    rintro r w22 ⟨rfl, b22⟩
    have B22 : Below w.heap.size w w22 := btr B21 b22
    have Rx_22 : w22.heap[w.heap.size]? = some (Obj.cells #[.bool b0, .string s0, .string t0, .int .i64 e0] 24) := heap_of b22 _ _ _ Rx_21
    have Rz_22 : w22.heap[w.heap.size + 1 + 1]? = some (Obj.cells #[.bool vb2, .string vs2, .string vt2, .int .i64 ve2] 24) := heap_of b22 _ _ _ Rz_21
    have Ra_22 : w22.heap[w11.heap.size]? = some (Obj.cells #[.bool ab, .string au, .string av, .int .i64 ae] 24) := heap_of b22 _ _ _ Ra_21
    have Rr_22 : w22.heap[w20.heap.size]? = some (Obj.cells #[.bool b0, .string s0, .string t0, .int .i64 e0] 24) := heap_of b22 _ _ _ Rr_21
    clear b22 B21 Rx_21 cx_21_0 cx_21_1 cx_21_2 cx_21_3 Rz_21 cz_21_0 cz_21_1 cz_21_2 cz_21_3 Ra_21 ca_21_0 ca_21_1 ca_21_2 ca_21_3 Rr_21 cr_21_0 cr_21_1 cr_21_2 cr_21_3
    have cx_22_0 := cells4 Rx_22 0 _ rfl
    have cx_22_1 := cells4 Rx_22 1 _ rfl
    have cx_22_2 := cells4 Rx_22 2 _ rfl
    have cx_22_3 := cells4 Rx_22 3 _ rfl
    have cz_22_0 := cells4 Rz_22 0 _ rfl
    have cz_22_1 := cells4 Rz_22 1 _ rfl
    have cz_22_2 := cells4 Rz_22 2 _ rfl
    have cz_22_3 := cells4 Rz_22 3 _ rfl
    have ca_22_0 := cells4 Ra_22 0 _ rfl
    have ca_22_1 := cells4 Ra_22 1 _ rfl
    have ca_22_2 := cells4 Ra_22 2 _ rfl
    have ca_22_3 := cells4 Ra_22 3 _ rfl
    have cr_22_0 := cells4 Rr_22 0 _ rfl
    have cr_22_1 := cells4 Rr_22 1 _ rfl
    have cr_22_2 := cells4 Rr_22 2 _ rfl
    have cr_22_3 := cells4 Rr_22 3 _ rfl
    go_wp2
    go_ret
    exact ⟨rfl, B22⟩

def tabZ : List Int := [0, 1, 56, 2, 57, 49, 28, 3, 61, 58, 42, 50, 38, 29, 17, 4, 62, 47, 59, 36, 45, 43, 51, 22, 53, 39, 33, 30, 24, 18, 12, 5, 63, 55, 48, 27, 60, 41, 37, 16, 46, 35, 44, 21, 52, 32, 23, 11, 54, 26, 40, 15, 34, 20, 31, 10, 25, 14, 19, 9, 13, 8, 7, 6]
def laid1 : List (String × DataW Unit) := [("math/bits.deBruijn64tab", Rows.laid_math_bits_deBruijn64tab)]
theorem gTab : Tryd.prog.globalNamed "math/bits.deBruijn64tab" = some 0 := by kernel_rfl
theorem gType : (Tryd.prog.globals[0]?).map (·.type) = some 110 := by kernel_rfl
theorem cells5 : Tryd.prog.cellsOf 5 = 1 := by kernel_rfl
theorem cellsT : Tryd.prog.cellsOf 110 = 64 := by kernel_rfl
theorem tab_at : ∀ i : Fin 64, tabZ.getD i.val 0 = ((Lib.deBruijn64tab.getD i.val 0 : Nat) : Int) := by decide +kernel

theorem of_laid {W : World} (h : laidMetH Tryd.prog laid1 W) : TabAt W := by
  rw [MakeChecks.laidMetH_plain _ _ _ (by kernel_rfl)] at h
  have h' : laidMet Tryd.prog (("math/bits.deBruijn64tab", Lib.tabData .u8 tabZ) :: []) W := h
  have hT := Lib.tabIs_of_head gTab gType Tryd.underlying110 Tryd.underlying5 cells5 cellsT h'
  intro i hi
  have hc := hT.cell gTab i (show i < tabZ.length from hi)
  rw [tab_at ⟨i, hi⟩] at hc
  exact hc

theorem door_met (os : Os) (args : Array Value) : laidMetH Tryd.prog laid1 ((World.doorLaid Tryd.prog 400 os).forCall (fun _ _ => 0) ⟨#[], args, []⟩).memory :=
  laidMetH_of_parts3 (fuel := 8) (laidMet_of_run' 8 (by kernel_rfl) (by kernel_rfl)) (by kernel_rfl) (by kernel_rfl)

set_option maxRecDepth 100000 in
theorem lifted (os : Os) (started : os.Started) (H : Type) (enc : TypeId × Value → H) :
    ReturnsInHanded {} Tryd.checked os 3 .any (fun w args => (Rows.exactFieldSpec.pre enc Tryd.prog Tryd.f3 [] false w args ∧ laidMetH Tryd.prog laid1 w) ∧ sizedMet enc Tryd.prog Tryd.f3 (OpenSpec.ofChange Rows.exactFieldSpec) false w args)
      (Rows.exactFieldSpec.post enc Tryd.prog Tryd.f3 false true false false) := by
  refine returnsInHanded_of_change_and (C := Tryd.checked) (X := fun w _ => laidMetH Tryd.prog laid1 w) (fun _ _ _ hh h => h.of_heap hh) own started (by kernel_rfl) Tryd.func3
    (ChangeSpec.witness_shaped (enc := enc) (C := Tryd.checked) (os := os) (X := fun w _ => laidMetH Tryd.prog laid1 w) false (World.doorLaid Tryd.prog 400 os) #[.agg #[.bool false, .string ⟨#[]⟩, .string ⟨#[]⟩, .int .i64 0], .agg #[.bool false, .string ⟨#[]⟩, .string ⟨#[]⟩, .int .i64 0], .agg #[.bool false, .string ⟨#[]⟩, .string ⟨#[]⟩, .int .i64 0]] 8 rfl (World.shaped_of_RefB (by kernel_rfl) (by kernel_rfl)) (by kernel_rfl) (by kernel_rfl) (by kernel_rfl) (door_met os _)) ?_
  intro W base args ds gs before hval0 hW _ _ hL _
  have hval : ∀ (j : Nat) t v, Tryd.f3.params[j]? = some t → args[j]? = some v → Value.okWide Tryd.prog W .any base t v := hval0
  have hW' := hW
  obtain ⟨p, q, hA0, hV, rfl, hfz, hnd⟩ := hW
  have hA : DataW.TrodAll enc Tryd.prog W 0 (fun _ => true) true Tryd.f3.params.toList args.toList ds p := hA0
  rw [Tryd.params3] at hA hval
  obtain ⟨v0, vs0, d0, ds0, p0, q0, hargs, rfl, rfl, k0, r0⟩ := trodAll_cons hA
  obtain ⟨v1, vs1, d1, ds1, p1, q1, rfl, rfl, rfl, k1, r1⟩ := trodAll_cons r0
  obtain ⟨v2, vs2, d2, ds2, p2, q2, rfl, rfl, rfl, k2, r2⟩ := trodAll_cons r1
  obtain ⟨rfl, rfl, rfl⟩ := trodAll_nil r2
  obtain rfl : args = #[v0, v1, v2] := by cases args; simp_all
  obtain ⟨rfl, rfl⟩ := trodVars_none hV
  obtain ⟨b0, s0, t0, e0, rfl, rfl, rfl, h0⟩ := open_exact (hval 0 24 v0 rfl rfl) k0
  obtain ⟨vb1, vs1, vt1, ve1, rfl, rfl, rfl, h1⟩ := open_exact (hval 1 24 v1 rfl rfl) k1
  obtain ⟨vb2, vs2, vt2, ve2, rfl, rfl, rfl, h2⟩ := open_exact (hval 2 24 v2 rfl rfl) k2
  clear hA0 hval0
  simp only [List.append_nil] at hW'
  refine (walk b0 s0 t0 e0 vb1 vs1 vt1 ve1 vb2 vs2 vt2 ve2 h0 h1 h2 W (of_laid hL)).mono fun e W' ⟨he, hg⟩ => ?_
  subst he
  exact ⟨_, rfl, post_plain hW' (fun _ _ _ => trodAll_mk1 (shut_bool Tryd.underlying4 _)) (fun sp => (trodAll_cons_mk (shut_exact h0) (trodAll_cons_mk (shut_exact h1) (trodAll_cons_mk (shut_exact h2) trodAll_mk0)))) (fun _ => rfl) hg (ok_one (by kernel_rfl) rfl (okWide_bool_mk Tryd.underlying4 _))⟩

theorem over : Rows.ExactFieldSaid :=
  OpenClaim.holds_of_wide 3 Tryd.f3 rfl rfl rfl rfl rfl rfl rfl ⟨rfl, rfl, rfl, rfl, rfl⟩ rfl rfl rfl rfl rfl (by kernel_rfl) Tryd.func3 (by kernel_rfl)
    (of_decide_eq_true (by kernel_rfl)) (by unfold Func.isWrapper; first | (rw [if_pos (by decide +kernel)]; kernel_rfl) | (rw [if_neg (by decide +kernel)]; exact ⟨rfl, rfl⟩))
    (fun os started H enc _ => lifted os started H enc)

theorem proved : Rows.ExactFieldCardSaid :=
  Claim7.holds_tied_plain_at .later [] [.data] true (true, "e04ddc4fb5213d886478bf6f722161bec4d9ac43a27781a69a1f354446019d10") false
    over (fun _ h => by cases h) (by kernel_rfl) (fun _ h => by cases h) exactField_row_tie rfl ⟨rfl, rfl⟩ (by kernel_rfl) rfl
    (fun f fn hf hfn => by
      obtain rfl : f = 3 := Option.some.inj ((show Tryd.prog.funcNamed "abacus/abacuslaw06.ExactField" = some 3 by kernel_rfl).symm.trans hf) |>.symm
      obtain rfl : fn = Tryd.f3 := (Option.some.inj (Tryd.func3.symm.trans hfn)).symm
      exact ⟨by kernel_rfl, fun j t ht => by
        rw [Tryd.params3] at ht
        have h3 : t = 24 := by
          rcases j with _ | _ | _ | j
          · exact (by simpa using ht.symm)
          · exact (by simpa using ht.symm)
          · exact (by simpa using ht.symm)
          · simp at ht
        rcases h3 with rfl
        · exact (show Tryd.prog.wantsStandIn 24 = false by kernel_rfl)⟩)
    (by kernel_rfl)
#print axioms proved
end Go.Proofs.YthiongcednmjiabDoor.exactField
