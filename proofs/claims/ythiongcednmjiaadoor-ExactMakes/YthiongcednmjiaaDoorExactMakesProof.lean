/-
  ExactMakes returns true for every exact number, sign, numerator, denominator, exponent and every two whole numbers: which may be, and what is made, is as the document says.
-/
import Derived.Test.YthiongcednmjiaaDoorRows
import Derived.Test.YthiongcednmjiaaDoorTie
import Derived.Test.YthiongcednmjiaaDoorCards
import Derived.WalkKit
import Derived.ProofKit
import Derived.OpenShut
import Derived.LaidMore
import Derived.Stop.Joined
import Derived.Lib.LaidTab
import Derived.SevenTiedAt
import Derived.Test.YthiongcednmjiaaDoorFrame6
import Derived.Test.YthiongcednmjiaaDoorXL
import Derived.Test.YthiongcednmjiaaDoorXB
import Derived.Test.YthiongcednmjiaaDoorFrameX
import Derived.ChangeMaps5
namespace Go.Proofs.YthiongcednmjiaaDoor.exactMakes
open WMath XMath
open Go.ChangeShapes Go.WideShapes Go.ChangeAt Go.RowKit
open Go.ChangeMaps (open_string shut_string)
set_option linter.unusedVariables false

theorem own : ownKnob Tryd.prog.godebug = none := by kernel_rfl

set_option maxRecDepth 100000 in
set_option maxHeartbeats 4000000 in
theorem walk (b0 : Bool) (s0 t0 : ByteArray) (e0 : Int) (a1 : Bool) (a2 : ByteArray) (a3 : ByteArray) (a4 : Int) (a5 : Int) (a6 : Int) (h0 : s0.size ≤ maxLen ∧ t0.size ≤ maxLen ∧ (Lit.int .i64 e0).wf = true)  (h2 : a2.size ≤ maxLen) (h3 : a3.size ≤ maxLen) (h4 : (Lit.int .i64 a4).wf = true) (h5 : (Lit.int .i64 a5).wf = true) (h6 : (Lit.int .u64 a6).wf = true) (w : World) (hT : TabAt w) :
    Calls Tryd.prog 3 #[.agg #[.bool b0, .string s0, .string t0, .int .i64 e0], .bool a1, .string a2, .string a3, .int .i64 a4, .int .i64 a5, .int .u64 a6] w fun e w' => e = .returned (.bool true) ∧ Below w.heap.size w w' := by
  have TT := box hT
  clear hT
  obtain ⟨o, ho⟩ : ∃ o, (decide (s0.size ≤ 80) && decide (t0.size ≤ 80)) = o := ⟨_, rfl⟩
  have HO := box ho
  have hb4 := bounds_i64 h4
  have hb5 := bounds_i64 h5
  obtain ⟨k, hk, rfl⟩ := nat_u64 h6
  obtain ⟨rb, u, v, re, err, G1, G2⟩ := make_both a1 a2 a3 a4
  obtain ⟨pb, pu, pv, pe, G3, G4⟩ := whole_both a5 (by omega) (by omega)
  obtain ⟨qb, qu, qv, qe, G5, G6⟩ := word_both k hk
  have K1 := box G1
  have K2 := box G2
  have K3 := box G3
  have K4 := box G4
  have K5 := box G5
  have K6 := box G6
  clear ho h0 h2 h3 h4 h5 h6 hb4 hb5 hk G1 G2 G3 G4 G5 G6
  cases o
  · have Rx_0 : (w.alloc (Obj.cells #[.bool b0, .string s0, .string t0, .int .i64 e0] 24)).heap[w.heap.size]? = some (Obj.cells #[.bool b0, .string s0, .string t0, .int .i64 e0] 24) := by have := heap_alloc_last w (Obj.cells #[.bool b0, .string s0, .string t0, .int .i64 e0] 24); simpa only [size_al] using this
    have B0 : Below w.heap.size w (w.alloc (Obj.cells #[.bool b0, .string s0, .string t0, .int .i64 e0] 24)) := ((Below.refl _ _).alloc (by first | omega | (simp only [size_al]; omega)) _)
    go_enter Tryd.func3, Tryd.ntmps3
    go_wp2_with fail
    refine (xshort b0 s0 t0 e0 80 80 false rfl HO.out _).mono ?_
    rintro r w1 ⟨rfl, b1⟩
    have B1 : Below w.heap.size w w1 := btr B0 b1
    have Rx_1 : w1.heap[w.heap.size]? = some (Obj.cells #[.bool b0, .string s0, .string t0, .int .i64 e0] 24) := heap_of b1 _ _ _ Rx_0
    clear b1 B0 Rx_0
    have cx_1_0 := cells4 Rx_1 0 _ rfl
    have cx_1_1 := cells4 Rx_1 1 _ rfl
    have cx_1_2 := cells4 Rx_1 2 _ rfl
    have cx_1_3 := cells4 Rx_1 3 _ rfl
    go_wp2_with fail
    refine (xalive _ (tabB TT.out B1)).mono ?_
    rintro r w2 ⟨rfl, b2⟩
    have B2 : Below w.heap.size w w2 := btr B1 b2
    have Rx_2 : w2.heap[w.heap.size]? = some (Obj.cells #[.bool b0, .string s0, .string t0, .int .i64 e0] 24) := heap_of b2 _ _ _ Rx_1
    clear b2 B1 Rx_1 cx_1_0 cx_1_1 cx_1_2 cx_1_3
    have cx_2_0 := cells4 Rx_2 0 _ rfl
    have cx_2_1 := cells4 Rx_2 1 _ rfl
    have cx_2_2 := cells4 Rx_2 2 _ rfl
    have cx_2_3 := cells4 Rx_2 3 _ rfl
    go_wp2
    go_ret
    exact ⟨rfl, B2⟩
  by_cases l2 : a2.size ≤ 80
  · have d2 : decide ((80 : Int) < (a2.size : Int)) = false := decide_eq_false (by omega)
    have d2' : decide (80 < a2.size) = false := decide_eq_false (by omega)
    by_cases l3 : a3.size ≤ 80
    · have d3 : decide ((80 : Int) < (a3.size : Int)) = false := decide_eq_false (by omega)
      have d3' : decide (80 < a3.size) = false := decide_eq_false (by omega)
      clear l2 l3
      by_cases hm : MayX b0 s0 t0 e0
      · have M1 : Box (IsM true b0 s0 t0 e0) := box ⟨fun _ => hm, fun _ => rfl⟩
        clear hm
        have Rx_0 : (w.alloc (Obj.cells #[.bool b0, .string s0, .string t0, .int .i64 e0] 24)).heap[w.heap.size]? = some (Obj.cells #[.bool b0, .string s0, .string t0, .int .i64 e0] 24) := by have := heap_alloc_last w (Obj.cells #[.bool b0, .string s0, .string t0, .int .i64 e0] 24); simpa only [size_al] using this
        have B0 : Below w.heap.size w (w.alloc (Obj.cells #[.bool b0, .string s0, .string t0, .int .i64 e0] 24)) := ((Below.refl _ _).alloc (by first | omega | (simp only [size_al]; omega)) _)
        go_enter Tryd.func3, Tryd.ntmps3
        go_wp2_with fail
        refine (xshort b0 s0 t0 e0 80 80 true rfl HO.out _).mono ?_
        rintro r w1 ⟨rfl, b1⟩
        have B1 : Below w.heap.size w w1 := btr B0 b1
        have Rx_1 : w1.heap[w.heap.size]? = some (Obj.cells #[.bool b0, .string s0, .string t0, .int .i64 e0] 24) := heap_of b1 _ _ _ Rx_0
        clear b1 B0 Rx_0
        have cx_1_0 := cells4 Rx_1 0 _ rfl
        have cx_1_1 := cells4 Rx_1 1 _ rfl
        have cx_1_2 := cells4 Rx_1 2 _ rfl
        have cx_1_3 := cells4 Rx_1 3 _ rfl
        go_wp2_with fail
        refine (xcheckM b0 s0 t0 e0 true M1.out 0 rfl _ (tabB TT.out B1)).mono ?_
        rintro r w2 ⟨rfl, b2⟩
        have B2 : Below w.heap.size w w2 := btr B1 b2
        have Rx_2 : w2.heap[w.heap.size]? = some (Obj.cells #[.bool b0, .string s0, .string t0, .int .i64 e0] 24) := heap_of b2 _ _ _ Rx_1
        clear b2 B1 Rx_1 cx_1_0 cx_1_1 cx_1_2 cx_1_3
        have cx_2_0 := cells4 Rx_2 0 _ rfl
        have cx_2_1 := cells4 Rx_2 1 _ rfl
        have cx_2_2 := cells4 Rx_2 2 _ rfl
        have cx_2_3 := cells4 Rx_2 3 _ rfl
        go_wp2_with fail
        refine (xmayM b0 s0 t0 e0 true M1.out _).mono ?_
        rintro r w3 ⟨rfl, b3⟩
        have B3 : Below w.heap.size w w3 := btr B2 b3
        have Rx_3 : w3.heap[w.heap.size]? = some (Obj.cells #[.bool b0, .string s0, .string t0, .int .i64 e0] 24) := heap_of b3 _ _ _ Rx_2
        clear b3 B2 Rx_2 cx_2_0 cx_2_1 cx_2_2 cx_2_3
        have cx_3_0 := cells4 Rx_3 0 _ rfl
        have cx_3_1 := cells4 Rx_3 1 _ rfl
        have cx_3_2 := cells4 Rx_3 2 _ rfl
        have cx_3_3 := cells4 Rx_3 3 _ rfl
        go_wp2_with fail
        refine (K1.out _ (tabB TT.out B3)).mono ?_
        rintro r w4 ⟨rfl, b4⟩
        have B4 : Below w.heap.size w w4 := btr B3 b4
        have Rx_4 : w4.heap[w.heap.size]? = some (Obj.cells #[.bool b0, .string s0, .string t0, .int .i64 e0] 24) := heap_of b4 _ _ _ Rx_3
        clear b4 B3 Rx_3 cx_3_0 cx_3_1 cx_3_2 cx_3_3
        have cx_4_0 := cells4 Rx_4 0 _ rfl
        have cx_4_1 := cells4 Rx_4 1 _ rfl
        have cx_4_2 := cells4 Rx_4 2 _ rfl
        have cx_4_3 := cells4 Rx_4 3 _ rfl
        have S5 := box B4.size
        have Lx_5 : Box (w.heap.size < w4.heap.size) := box (Array.getElem?_eq_some_iff.1 Rx_4).1
        have B5 : Below w.heap.size w (w4.alloc (Obj.cells #[.bool rb, .string u, .string v, .int .i64 re] 24)) := btr B4 (bal _ _)
        have Rx_5 : (w4.alloc (Obj.cells #[.bool rb, .string u, .string v, .int .i64 re] 24)).heap[w.heap.size]? = some (Obj.cells #[.bool b0, .string s0, .string t0, .int .i64 e0] 24) := heap_of (bal _ _) _ _ _ Rx_4
        have Ry_5 : (w4.alloc (Obj.cells #[.bool rb, .string u, .string v, .int .i64 re] 24)).heap[w4.heap.size]? = some (Obj.cells #[.bool rb, .string u, .string v, .int .i64 re] 24) := heap_alloc_last _ _
        clear B4 Rx_4 cx_4_0 cx_4_1 cx_4_2 cx_4_3
        have cx_5_0 := cells4 Rx_5 0 _ rfl
        have cx_5_1 := cells4 Rx_5 1 _ rfl
        have cx_5_2 := cells4 Rx_5 2 _ rfl
        have cx_5_3 := cells4 Rx_5 3 _ rfl
        have cy_5_0 := cells4 Ry_5 0 _ rfl
        have cy_5_1 := cells4 Ry_5 1 _ rfl
        have cy_5_2 := cells4 Ry_5 2 _ rfl
        have cy_5_3 := cells4 Ry_5 3 _ rfl
        go_wp2_with fail
        refine (K2.out _).mono ?_
        rintro r w6 ⟨rfl, b6⟩
        have B6 : Below w.heap.size w w6 := btr B5 b6
        have Rx_6 : w6.heap[w.heap.size]? = some (Obj.cells #[.bool b0, .string s0, .string t0, .int .i64 e0] 24) := heap_of b6 _ _ _ Rx_5
        have Ry_6 : w6.heap[w4.heap.size]? = some (Obj.cells #[.bool rb, .string u, .string v, .int .i64 re] 24) := heap_of b6 _ _ _ Ry_5
        clear b6 B5 Rx_5 cx_5_0 cx_5_1 cx_5_2 cx_5_3 Ry_5 cy_5_0 cy_5_1 cy_5_2 cy_5_3
        have cx_6_0 := cells4 Rx_6 0 _ rfl
        have cx_6_1 := cells4 Rx_6 1 _ rfl
        have cx_6_2 := cells4 Rx_6 2 _ rfl
        have cx_6_3 := cells4 Rx_6 3 _ rfl
        have cy_6_0 := cells4 Ry_6 0 _ rfl
        have cy_6_1 := cells4 Ry_6 1 _ rfl
        have cy_6_2 := cells4 Ry_6 2 _ rfl
        have cy_6_3 := cells4 Ry_6 3 _ rfl
        have S7 := box B6.size
        have Lx_7 : Box (w.heap.size < w6.heap.size) := box (Array.getElem?_eq_some_iff.1 Rx_6).1
        have Ly_7 : Box (w4.heap.size < w6.heap.size) := box (Array.getElem?_eq_some_iff.1 Ry_6).1
        have B7 : Below w.heap.size w (w6.alloc (Obj.cells #[.bool rb, .string u, .string v, .int .i64 re] 24)) := btr B6 (bal _ _)
        have Rx_7 : (w6.alloc (Obj.cells #[.bool rb, .string u, .string v, .int .i64 re] 24)).heap[w.heap.size]? = some (Obj.cells #[.bool b0, .string s0, .string t0, .int .i64 e0] 24) := heap_of (bal _ _) _ _ _ Rx_6
        have Ry_7 : (w6.alloc (Obj.cells #[.bool rb, .string u, .string v, .int .i64 re] 24)).heap[w4.heap.size]? = some (Obj.cells #[.bool rb, .string u, .string v, .int .i64 re] 24) := heap_of (bal _ _) _ _ _ Ry_6
        have Rz_7 : (w6.alloc (Obj.cells #[.bool rb, .string u, .string v, .int .i64 re] 24)).heap[w6.heap.size]? = some (Obj.cells #[.bool rb, .string u, .string v, .int .i64 re] 24) := heap_alloc_last _ _
        clear B6 Rx_6 cx_6_0 cx_6_1 cx_6_2 cx_6_3 Ry_6 cy_6_0 cy_6_1 cy_6_2 cy_6_3
        have cx_7_0 := cells4 Rx_7 0 _ rfl
        have cx_7_1 := cells4 Rx_7 1 _ rfl
        have cx_7_2 := cells4 Rx_7 2 _ rfl
        have cx_7_3 := cells4 Rx_7 3 _ rfl
        have cy_7_0 := cells4 Ry_7 0 _ rfl
        have cy_7_1 := cells4 Ry_7 1 _ rfl
        have cy_7_2 := cells4 Ry_7 2 _ rfl
        have cy_7_3 := cells4 Ry_7 3 _ rfl
        have cz_7_0 := cells4 Rz_7 0 _ rfl
        have cz_7_1 := cells4 Rz_7 1 _ rfl
        have cz_7_2 := cells4 Rz_7 2 _ rfl
        have cz_7_3 := cells4 Rz_7 3 _ rfl
        go_wp2_with fail
        refine (K3.out _ (tabB TT.out B7)).mono ?_
        rintro r w8 ⟨rfl, b8⟩
        have B8 : Below w.heap.size w w8 := btr B7 b8
        have Rx_8 : w8.heap[w.heap.size]? = some (Obj.cells #[.bool b0, .string s0, .string t0, .int .i64 e0] 24) := heap_of b8 _ _ _ Rx_7
        have Ry_8 : w8.heap[w4.heap.size]? = some (Obj.cells #[.bool rb, .string u, .string v, .int .i64 re] 24) := heap_of b8 _ _ _ Ry_7
        have Rz_8 : w8.heap[w6.heap.size]? = some (Obj.cells #[.bool rb, .string u, .string v, .int .i64 re] 24) := heap_of b8 _ _ _ Rz_7
        clear b8 B7 Rx_7 cx_7_0 cx_7_1 cx_7_2 cx_7_3 Ry_7 cy_7_0 cy_7_1 cy_7_2 cy_7_3 Rz_7 cz_7_0 cz_7_1 cz_7_2 cz_7_3
        have cx_8_0 := cells4 Rx_8 0 _ rfl
        have cx_8_1 := cells4 Rx_8 1 _ rfl
        have cx_8_2 := cells4 Rx_8 2 _ rfl
        have cx_8_3 := cells4 Rx_8 3 _ rfl
        have cy_8_0 := cells4 Ry_8 0 _ rfl
        have cy_8_1 := cells4 Ry_8 1 _ rfl
        have cy_8_2 := cells4 Ry_8 2 _ rfl
        have cy_8_3 := cells4 Ry_8 3 _ rfl
        have cz_8_0 := cells4 Rz_8 0 _ rfl
        have cz_8_1 := cells4 Rz_8 1 _ rfl
        have cz_8_2 := cells4 Rz_8 2 _ rfl
        have cz_8_3 := cells4 Rz_8 3 _ rfl
        go_wp2_with fail
        refine (K4.out _).mono ?_
        rintro r w9 ⟨rfl, b9⟩
        have B9 : Below w.heap.size w w9 := btr B8 b9
        have Rx_9 : w9.heap[w.heap.size]? = some (Obj.cells #[.bool b0, .string s0, .string t0, .int .i64 e0] 24) := heap_of b9 _ _ _ Rx_8
        have Ry_9 : w9.heap[w4.heap.size]? = some (Obj.cells #[.bool rb, .string u, .string v, .int .i64 re] 24) := heap_of b9 _ _ _ Ry_8
        have Rz_9 : w9.heap[w6.heap.size]? = some (Obj.cells #[.bool rb, .string u, .string v, .int .i64 re] 24) := heap_of b9 _ _ _ Rz_8
        clear b9 B8 Rx_8 cx_8_0 cx_8_1 cx_8_2 cx_8_3 Ry_8 cy_8_0 cy_8_1 cy_8_2 cy_8_3 Rz_8 cz_8_0 cz_8_1 cz_8_2 cz_8_3
        have cx_9_0 := cells4 Rx_9 0 _ rfl
        have cx_9_1 := cells4 Rx_9 1 _ rfl
        have cx_9_2 := cells4 Rx_9 2 _ rfl
        have cx_9_3 := cells4 Rx_9 3 _ rfl
        have cy_9_0 := cells4 Ry_9 0 _ rfl
        have cy_9_1 := cells4 Ry_9 1 _ rfl
        have cy_9_2 := cells4 Ry_9 2 _ rfl
        have cy_9_3 := cells4 Ry_9 3 _ rfl
        have cz_9_0 := cells4 Rz_9 0 _ rfl
        have cz_9_1 := cells4 Rz_9 1 _ rfl
        have cz_9_2 := cells4 Rz_9 2 _ rfl
        have cz_9_3 := cells4 Rz_9 3 _ rfl
        go_wp2_with fail
        refine (K5.out _ (tabB TT.out B9)).mono ?_
        rintro r w10 ⟨rfl, b10⟩
        have B10 : Below w.heap.size w w10 := btr B9 b10
        have Rx_10 : w10.heap[w.heap.size]? = some (Obj.cells #[.bool b0, .string s0, .string t0, .int .i64 e0] 24) := heap_of b10 _ _ _ Rx_9
        have Ry_10 : w10.heap[w4.heap.size]? = some (Obj.cells #[.bool rb, .string u, .string v, .int .i64 re] 24) := heap_of b10 _ _ _ Ry_9
        have Rz_10 : w10.heap[w6.heap.size]? = some (Obj.cells #[.bool rb, .string u, .string v, .int .i64 re] 24) := heap_of b10 _ _ _ Rz_9
        clear b10 B9 Rx_9 cx_9_0 cx_9_1 cx_9_2 cx_9_3 Ry_9 cy_9_0 cy_9_1 cy_9_2 cy_9_3 Rz_9 cz_9_0 cz_9_1 cz_9_2 cz_9_3
        have cx_10_0 := cells4 Rx_10 0 _ rfl
        have cx_10_1 := cells4 Rx_10 1 _ rfl
        have cx_10_2 := cells4 Rx_10 2 _ rfl
        have cx_10_3 := cells4 Rx_10 3 _ rfl
        have cy_10_0 := cells4 Ry_10 0 _ rfl
        have cy_10_1 := cells4 Ry_10 1 _ rfl
        have cy_10_2 := cells4 Ry_10 2 _ rfl
        have cy_10_3 := cells4 Ry_10 3 _ rfl
        have cz_10_0 := cells4 Rz_10 0 _ rfl
        have cz_10_1 := cells4 Rz_10 1 _ rfl
        have cz_10_2 := cells4 Rz_10 2 _ rfl
        have cz_10_3 := cells4 Rz_10 3 _ rfl
        go_wp2_with fail
        refine (K6.out _).mono ?_
        rintro r w11 ⟨rfl, b11⟩
        have B11 : Below w.heap.size w w11 := btr B10 b11
        have Rx_11 : w11.heap[w.heap.size]? = some (Obj.cells #[.bool b0, .string s0, .string t0, .int .i64 e0] 24) := heap_of b11 _ _ _ Rx_10
        have Ry_11 : w11.heap[w4.heap.size]? = some (Obj.cells #[.bool rb, .string u, .string v, .int .i64 re] 24) := heap_of b11 _ _ _ Ry_10
        have Rz_11 : w11.heap[w6.heap.size]? = some (Obj.cells #[.bool rb, .string u, .string v, .int .i64 re] 24) := heap_of b11 _ _ _ Rz_10
        clear b11 B10 Rx_10 cx_10_0 cx_10_1 cx_10_2 cx_10_3 Ry_10 cy_10_0 cy_10_1 cy_10_2 cy_10_3 Rz_10 cz_10_0 cz_10_1 cz_10_2 cz_10_3
        have cx_11_0 := cells4 Rx_11 0 _ rfl
        have cx_11_1 := cells4 Rx_11 1 _ rfl
        have cx_11_2 := cells4 Rx_11 2 _ rfl
        have cx_11_3 := cells4 Rx_11 3 _ rfl
        have cy_11_0 := cells4 Ry_11 0 _ rfl
        have cy_11_1 := cells4 Ry_11 1 _ rfl
        have cy_11_2 := cells4 Ry_11 2 _ rfl
        have cy_11_3 := cells4 Ry_11 3 _ rfl
        have cz_11_0 := cells4 Rz_11 0 _ rfl
        have cz_11_1 := cells4 Rz_11 1 _ rfl
        have cz_11_2 := cells4 Rz_11 2 _ rfl
        have cz_11_3 := cells4 Rz_11 3 _ rfl
        go_wp2_with fail
        refine (xalive _ (tabB TT.out B11)).mono ?_
        rintro r w12 ⟨rfl, b12⟩
        have B12 : Below w.heap.size w w12 := btr B11 b12
        have Rx_12 : w12.heap[w.heap.size]? = some (Obj.cells #[.bool b0, .string s0, .string t0, .int .i64 e0] 24) := heap_of b12 _ _ _ Rx_11
        have Ry_12 : w12.heap[w4.heap.size]? = some (Obj.cells #[.bool rb, .string u, .string v, .int .i64 re] 24) := heap_of b12 _ _ _ Ry_11
        have Rz_12 : w12.heap[w6.heap.size]? = some (Obj.cells #[.bool rb, .string u, .string v, .int .i64 re] 24) := heap_of b12 _ _ _ Rz_11
        clear b12 B11 Rx_11 cx_11_0 cx_11_1 cx_11_2 cx_11_3 Ry_11 cy_11_0 cy_11_1 cy_11_2 cy_11_3 Rz_11 cz_11_0 cz_11_1 cz_11_2 cz_11_3
        have cx_12_0 := cells4 Rx_12 0 _ rfl
        have cx_12_1 := cells4 Rx_12 1 _ rfl
        have cx_12_2 := cells4 Rx_12 2 _ rfl
        have cx_12_3 := cells4 Rx_12 3 _ rfl
        have cy_12_0 := cells4 Ry_12 0 _ rfl
        have cy_12_1 := cells4 Ry_12 1 _ rfl
        have cy_12_2 := cells4 Ry_12 2 _ rfl
        have cy_12_3 := cells4 Ry_12 3 _ rfl
        have cz_12_0 := cells4 Rz_12 0 _ rfl
        have cz_12_1 := cells4 Rz_12 1 _ rfl
        have cz_12_2 := cells4 Rz_12 2 _ rfl
        have cz_12_3 := cells4 Rz_12 3 _ rfl
        go_wp2
        go_ret
        exact ⟨rfl, B12⟩
      · have M1 : Box (IsM false b0 s0 t0 e0) := box (may_no hm)
        clear hm
        have Rx_0 : (w.alloc (Obj.cells #[.bool b0, .string s0, .string t0, .int .i64 e0] 24)).heap[w.heap.size]? = some (Obj.cells #[.bool b0, .string s0, .string t0, .int .i64 e0] 24) := by have := heap_alloc_last w (Obj.cells #[.bool b0, .string s0, .string t0, .int .i64 e0] 24); simpa only [size_al] using this
        have B0 : Below w.heap.size w (w.alloc (Obj.cells #[.bool b0, .string s0, .string t0, .int .i64 e0] 24)) := ((Below.refl _ _).alloc (by first | omega | (simp only [size_al]; omega)) _)
        go_enter Tryd.func3, Tryd.ntmps3
        go_wp2_with fail
        refine (xshort b0 s0 t0 e0 80 80 true rfl HO.out _).mono ?_
        rintro r w1 ⟨rfl, b1⟩
        have B1 : Below w.heap.size w w1 := btr B0 b1
        have Rx_1 : w1.heap[w.heap.size]? = some (Obj.cells #[.bool b0, .string s0, .string t0, .int .i64 e0] 24) := heap_of b1 _ _ _ Rx_0
        clear b1 B0 Rx_0
        have cx_1_0 := cells4 Rx_1 0 _ rfl
        have cx_1_1 := cells4 Rx_1 1 _ rfl
        have cx_1_2 := cells4 Rx_1 2 _ rfl
        have cx_1_3 := cells4 Rx_1 3 _ rfl
        go_wp2_with fail
        refine (xcheckM b0 s0 t0 e0 false M1.out 2 rfl _ (tabB TT.out B1)).mono ?_
        rintro r w2 ⟨rfl, b2⟩
        have B2 : Below w.heap.size w w2 := btr B1 b2
        have Rx_2 : w2.heap[w.heap.size]? = some (Obj.cells #[.bool b0, .string s0, .string t0, .int .i64 e0] 24) := heap_of b2 _ _ _ Rx_1
        clear b2 B1 Rx_1 cx_1_0 cx_1_1 cx_1_2 cx_1_3
        have cx_2_0 := cells4 Rx_2 0 _ rfl
        have cx_2_1 := cells4 Rx_2 1 _ rfl
        have cx_2_2 := cells4 Rx_2 2 _ rfl
        have cx_2_3 := cells4 Rx_2 3 _ rfl
        go_wp2_with fail
        refine (xmayM b0 s0 t0 e0 false M1.out _).mono ?_
        rintro r w3 ⟨rfl, b3⟩
        have B3 : Below w.heap.size w w3 := btr B2 b3
        have Rx_3 : w3.heap[w.heap.size]? = some (Obj.cells #[.bool b0, .string s0, .string t0, .int .i64 e0] 24) := heap_of b3 _ _ _ Rx_2
        clear b3 B2 Rx_2 cx_2_0 cx_2_1 cx_2_2 cx_2_3
        have cx_3_0 := cells4 Rx_3 0 _ rfl
        have cx_3_1 := cells4 Rx_3 1 _ rfl
        have cx_3_2 := cells4 Rx_3 2 _ rfl
        have cx_3_3 := cells4 Rx_3 3 _ rfl
        go_wp2_with fail
        refine (K1.out _ (tabB TT.out B3)).mono ?_
        rintro r w4 ⟨rfl, b4⟩
        have B4 : Below w.heap.size w w4 := btr B3 b4
        have Rx_4 : w4.heap[w.heap.size]? = some (Obj.cells #[.bool b0, .string s0, .string t0, .int .i64 e0] 24) := heap_of b4 _ _ _ Rx_3
        clear b4 B3 Rx_3 cx_3_0 cx_3_1 cx_3_2 cx_3_3
        have cx_4_0 := cells4 Rx_4 0 _ rfl
        have cx_4_1 := cells4 Rx_4 1 _ rfl
        have cx_4_2 := cells4 Rx_4 2 _ rfl
        have cx_4_3 := cells4 Rx_4 3 _ rfl
        have S5 := box B4.size
        have Lx_5 : Box (w.heap.size < w4.heap.size) := box (Array.getElem?_eq_some_iff.1 Rx_4).1
        have B5 : Below w.heap.size w (w4.alloc (Obj.cells #[.bool rb, .string u, .string v, .int .i64 re] 24)) := btr B4 (bal _ _)
        have Rx_5 : (w4.alloc (Obj.cells #[.bool rb, .string u, .string v, .int .i64 re] 24)).heap[w.heap.size]? = some (Obj.cells #[.bool b0, .string s0, .string t0, .int .i64 e0] 24) := heap_of (bal _ _) _ _ _ Rx_4
        have Ry_5 : (w4.alloc (Obj.cells #[.bool rb, .string u, .string v, .int .i64 re] 24)).heap[w4.heap.size]? = some (Obj.cells #[.bool rb, .string u, .string v, .int .i64 re] 24) := heap_alloc_last _ _
        clear B4 Rx_4 cx_4_0 cx_4_1 cx_4_2 cx_4_3
        have cx_5_0 := cells4 Rx_5 0 _ rfl
        have cx_5_1 := cells4 Rx_5 1 _ rfl
        have cx_5_2 := cells4 Rx_5 2 _ rfl
        have cx_5_3 := cells4 Rx_5 3 _ rfl
        have cy_5_0 := cells4 Ry_5 0 _ rfl
        have cy_5_1 := cells4 Ry_5 1 _ rfl
        have cy_5_2 := cells4 Ry_5 2 _ rfl
        have cy_5_3 := cells4 Ry_5 3 _ rfl
        go_wp2_with fail
        refine (K2.out _).mono ?_
        rintro r w6 ⟨rfl, b6⟩
        have B6 : Below w.heap.size w w6 := btr B5 b6
        have Rx_6 : w6.heap[w.heap.size]? = some (Obj.cells #[.bool b0, .string s0, .string t0, .int .i64 e0] 24) := heap_of b6 _ _ _ Rx_5
        have Ry_6 : w6.heap[w4.heap.size]? = some (Obj.cells #[.bool rb, .string u, .string v, .int .i64 re] 24) := heap_of b6 _ _ _ Ry_5
        clear b6 B5 Rx_5 cx_5_0 cx_5_1 cx_5_2 cx_5_3 Ry_5 cy_5_0 cy_5_1 cy_5_2 cy_5_3
        have cx_6_0 := cells4 Rx_6 0 _ rfl
        have cx_6_1 := cells4 Rx_6 1 _ rfl
        have cx_6_2 := cells4 Rx_6 2 _ rfl
        have cx_6_3 := cells4 Rx_6 3 _ rfl
        have cy_6_0 := cells4 Ry_6 0 _ rfl
        have cy_6_1 := cells4 Ry_6 1 _ rfl
        have cy_6_2 := cells4 Ry_6 2 _ rfl
        have cy_6_3 := cells4 Ry_6 3 _ rfl
        have S7 := box B6.size
        have Lx_7 : Box (w.heap.size < w6.heap.size) := box (Array.getElem?_eq_some_iff.1 Rx_6).1
        have Ly_7 : Box (w4.heap.size < w6.heap.size) := box (Array.getElem?_eq_some_iff.1 Ry_6).1
        have B7 : Below w.heap.size w (w6.alloc (Obj.cells #[.bool rb, .string u, .string v, .int .i64 re] 24)) := btr B6 (bal _ _)
        have Rx_7 : (w6.alloc (Obj.cells #[.bool rb, .string u, .string v, .int .i64 re] 24)).heap[w.heap.size]? = some (Obj.cells #[.bool b0, .string s0, .string t0, .int .i64 e0] 24) := heap_of (bal _ _) _ _ _ Rx_6
        have Ry_7 : (w6.alloc (Obj.cells #[.bool rb, .string u, .string v, .int .i64 re] 24)).heap[w4.heap.size]? = some (Obj.cells #[.bool rb, .string u, .string v, .int .i64 re] 24) := heap_of (bal _ _) _ _ _ Ry_6
        have Rz_7 : (w6.alloc (Obj.cells #[.bool rb, .string u, .string v, .int .i64 re] 24)).heap[w6.heap.size]? = some (Obj.cells #[.bool rb, .string u, .string v, .int .i64 re] 24) := heap_alloc_last _ _
        clear B6 Rx_6 cx_6_0 cx_6_1 cx_6_2 cx_6_3 Ry_6 cy_6_0 cy_6_1 cy_6_2 cy_6_3
        have cx_7_0 := cells4 Rx_7 0 _ rfl
        have cx_7_1 := cells4 Rx_7 1 _ rfl
        have cx_7_2 := cells4 Rx_7 2 _ rfl
        have cx_7_3 := cells4 Rx_7 3 _ rfl
        have cy_7_0 := cells4 Ry_7 0 _ rfl
        have cy_7_1 := cells4 Ry_7 1 _ rfl
        have cy_7_2 := cells4 Ry_7 2 _ rfl
        have cy_7_3 := cells4 Ry_7 3 _ rfl
        have cz_7_0 := cells4 Rz_7 0 _ rfl
        have cz_7_1 := cells4 Rz_7 1 _ rfl
        have cz_7_2 := cells4 Rz_7 2 _ rfl
        have cz_7_3 := cells4 Rz_7 3 _ rfl
        go_wp2_with fail
        refine (K3.out _ (tabB TT.out B7)).mono ?_
        rintro r w8 ⟨rfl, b8⟩
        have B8 : Below w.heap.size w w8 := btr B7 b8
        have Rx_8 : w8.heap[w.heap.size]? = some (Obj.cells #[.bool b0, .string s0, .string t0, .int .i64 e0] 24) := heap_of b8 _ _ _ Rx_7
        have Ry_8 : w8.heap[w4.heap.size]? = some (Obj.cells #[.bool rb, .string u, .string v, .int .i64 re] 24) := heap_of b8 _ _ _ Ry_7
        have Rz_8 : w8.heap[w6.heap.size]? = some (Obj.cells #[.bool rb, .string u, .string v, .int .i64 re] 24) := heap_of b8 _ _ _ Rz_7
        clear b8 B7 Rx_7 cx_7_0 cx_7_1 cx_7_2 cx_7_3 Ry_7 cy_7_0 cy_7_1 cy_7_2 cy_7_3 Rz_7 cz_7_0 cz_7_1 cz_7_2 cz_7_3
        have cx_8_0 := cells4 Rx_8 0 _ rfl
        have cx_8_1 := cells4 Rx_8 1 _ rfl
        have cx_8_2 := cells4 Rx_8 2 _ rfl
        have cx_8_3 := cells4 Rx_8 3 _ rfl
        have cy_8_0 := cells4 Ry_8 0 _ rfl
        have cy_8_1 := cells4 Ry_8 1 _ rfl
        have cy_8_2 := cells4 Ry_8 2 _ rfl
        have cy_8_3 := cells4 Ry_8 3 _ rfl
        have cz_8_0 := cells4 Rz_8 0 _ rfl
        have cz_8_1 := cells4 Rz_8 1 _ rfl
        have cz_8_2 := cells4 Rz_8 2 _ rfl
        have cz_8_3 := cells4 Rz_8 3 _ rfl
        go_wp2_with fail
        refine (K4.out _).mono ?_
        rintro r w9 ⟨rfl, b9⟩
        have B9 : Below w.heap.size w w9 := btr B8 b9
        have Rx_9 : w9.heap[w.heap.size]? = some (Obj.cells #[.bool b0, .string s0, .string t0, .int .i64 e0] 24) := heap_of b9 _ _ _ Rx_8
        have Ry_9 : w9.heap[w4.heap.size]? = some (Obj.cells #[.bool rb, .string u, .string v, .int .i64 re] 24) := heap_of b9 _ _ _ Ry_8
        have Rz_9 : w9.heap[w6.heap.size]? = some (Obj.cells #[.bool rb, .string u, .string v, .int .i64 re] 24) := heap_of b9 _ _ _ Rz_8
        clear b9 B8 Rx_8 cx_8_0 cx_8_1 cx_8_2 cx_8_3 Ry_8 cy_8_0 cy_8_1 cy_8_2 cy_8_3 Rz_8 cz_8_0 cz_8_1 cz_8_2 cz_8_3
        have cx_9_0 := cells4 Rx_9 0 _ rfl
        have cx_9_1 := cells4 Rx_9 1 _ rfl
        have cx_9_2 := cells4 Rx_9 2 _ rfl
        have cx_9_3 := cells4 Rx_9 3 _ rfl
        have cy_9_0 := cells4 Ry_9 0 _ rfl
        have cy_9_1 := cells4 Ry_9 1 _ rfl
        have cy_9_2 := cells4 Ry_9 2 _ rfl
        have cy_9_3 := cells4 Ry_9 3 _ rfl
        have cz_9_0 := cells4 Rz_9 0 _ rfl
        have cz_9_1 := cells4 Rz_9 1 _ rfl
        have cz_9_2 := cells4 Rz_9 2 _ rfl
        have cz_9_3 := cells4 Rz_9 3 _ rfl
        go_wp2_with fail
        refine (K5.out _ (tabB TT.out B9)).mono ?_
        rintro r w10 ⟨rfl, b10⟩
        have B10 : Below w.heap.size w w10 := btr B9 b10
        have Rx_10 : w10.heap[w.heap.size]? = some (Obj.cells #[.bool b0, .string s0, .string t0, .int .i64 e0] 24) := heap_of b10 _ _ _ Rx_9
        have Ry_10 : w10.heap[w4.heap.size]? = some (Obj.cells #[.bool rb, .string u, .string v, .int .i64 re] 24) := heap_of b10 _ _ _ Ry_9
        have Rz_10 : w10.heap[w6.heap.size]? = some (Obj.cells #[.bool rb, .string u, .string v, .int .i64 re] 24) := heap_of b10 _ _ _ Rz_9
        clear b10 B9 Rx_9 cx_9_0 cx_9_1 cx_9_2 cx_9_3 Ry_9 cy_9_0 cy_9_1 cy_9_2 cy_9_3 Rz_9 cz_9_0 cz_9_1 cz_9_2 cz_9_3
        have cx_10_0 := cells4 Rx_10 0 _ rfl
        have cx_10_1 := cells4 Rx_10 1 _ rfl
        have cx_10_2 := cells4 Rx_10 2 _ rfl
        have cx_10_3 := cells4 Rx_10 3 _ rfl
        have cy_10_0 := cells4 Ry_10 0 _ rfl
        have cy_10_1 := cells4 Ry_10 1 _ rfl
        have cy_10_2 := cells4 Ry_10 2 _ rfl
        have cy_10_3 := cells4 Ry_10 3 _ rfl
        have cz_10_0 := cells4 Rz_10 0 _ rfl
        have cz_10_1 := cells4 Rz_10 1 _ rfl
        have cz_10_2 := cells4 Rz_10 2 _ rfl
        have cz_10_3 := cells4 Rz_10 3 _ rfl
        go_wp2_with fail
        refine (K6.out _).mono ?_
        rintro r w11 ⟨rfl, b11⟩
        have B11 : Below w.heap.size w w11 := btr B10 b11
        have Rx_11 : w11.heap[w.heap.size]? = some (Obj.cells #[.bool b0, .string s0, .string t0, .int .i64 e0] 24) := heap_of b11 _ _ _ Rx_10
        have Ry_11 : w11.heap[w4.heap.size]? = some (Obj.cells #[.bool rb, .string u, .string v, .int .i64 re] 24) := heap_of b11 _ _ _ Ry_10
        have Rz_11 : w11.heap[w6.heap.size]? = some (Obj.cells #[.bool rb, .string u, .string v, .int .i64 re] 24) := heap_of b11 _ _ _ Rz_10
        clear b11 B10 Rx_10 cx_10_0 cx_10_1 cx_10_2 cx_10_3 Ry_10 cy_10_0 cy_10_1 cy_10_2 cy_10_3 Rz_10 cz_10_0 cz_10_1 cz_10_2 cz_10_3
        have cx_11_0 := cells4 Rx_11 0 _ rfl
        have cx_11_1 := cells4 Rx_11 1 _ rfl
        have cx_11_2 := cells4 Rx_11 2 _ rfl
        have cx_11_3 := cells4 Rx_11 3 _ rfl
        have cy_11_0 := cells4 Ry_11 0 _ rfl
        have cy_11_1 := cells4 Ry_11 1 _ rfl
        have cy_11_2 := cells4 Ry_11 2 _ rfl
        have cy_11_3 := cells4 Ry_11 3 _ rfl
        have cz_11_0 := cells4 Rz_11 0 _ rfl
        have cz_11_1 := cells4 Rz_11 1 _ rfl
        have cz_11_2 := cells4 Rz_11 2 _ rfl
        have cz_11_3 := cells4 Rz_11 3 _ rfl
        go_wp2_with fail
        refine (xalive _ (tabB TT.out B11)).mono ?_
        rintro r w12 ⟨rfl, b12⟩
        have B12 : Below w.heap.size w w12 := btr B11 b12
        have Rx_12 : w12.heap[w.heap.size]? = some (Obj.cells #[.bool b0, .string s0, .string t0, .int .i64 e0] 24) := heap_of b12 _ _ _ Rx_11
        have Ry_12 : w12.heap[w4.heap.size]? = some (Obj.cells #[.bool rb, .string u, .string v, .int .i64 re] 24) := heap_of b12 _ _ _ Ry_11
        have Rz_12 : w12.heap[w6.heap.size]? = some (Obj.cells #[.bool rb, .string u, .string v, .int .i64 re] 24) := heap_of b12 _ _ _ Rz_11
        clear b12 B11 Rx_11 cx_11_0 cx_11_1 cx_11_2 cx_11_3 Ry_11 cy_11_0 cy_11_1 cy_11_2 cy_11_3 Rz_11 cz_11_0 cz_11_1 cz_11_2 cz_11_3
        have cx_12_0 := cells4 Rx_12 0 _ rfl
        have cx_12_1 := cells4 Rx_12 1 _ rfl
        have cx_12_2 := cells4 Rx_12 2 _ rfl
        have cx_12_3 := cells4 Rx_12 3 _ rfl
        have cy_12_0 := cells4 Ry_12 0 _ rfl
        have cy_12_1 := cells4 Ry_12 1 _ rfl
        have cy_12_2 := cells4 Ry_12 2 _ rfl
        have cy_12_3 := cells4 Ry_12 3 _ rfl
        have cz_12_0 := cells4 Rz_12 0 _ rfl
        have cz_12_1 := cells4 Rz_12 1 _ rfl
        have cz_12_2 := cells4 Rz_12 2 _ rfl
        have cz_12_3 := cells4 Rz_12 3 _ rfl
        go_wp2
        go_ret
        exact ⟨rfl, B12⟩
    · have d3 : decide ((80 : Int) < (a3.size : Int)) = true := decide_eq_true (by omega)
      have d3' : decide (80 < a3.size) = true := decide_eq_true (by omega)
      clear l2 l3
      have Rx_0 : (w.alloc (Obj.cells #[.bool b0, .string s0, .string t0, .int .i64 e0] 24)).heap[w.heap.size]? = some (Obj.cells #[.bool b0, .string s0, .string t0, .int .i64 e0] 24) := by have := heap_alloc_last w (Obj.cells #[.bool b0, .string s0, .string t0, .int .i64 e0] 24); simpa only [size_al] using this
      have B0 : Below w.heap.size w (w.alloc (Obj.cells #[.bool b0, .string s0, .string t0, .int .i64 e0] 24)) := ((Below.refl _ _).alloc (by first | omega | (simp only [size_al]; omega)) _)
      go_enter Tryd.func3, Tryd.ntmps3
      go_wp2_with fail
      refine (xshort b0 s0 t0 e0 80 80 true rfl HO.out _).mono ?_
      rintro r w1 ⟨rfl, b1⟩
      have B1 : Below w.heap.size w w1 := btr B0 b1
      have Rx_1 : w1.heap[w.heap.size]? = some (Obj.cells #[.bool b0, .string s0, .string t0, .int .i64 e0] 24) := heap_of b1 _ _ _ Rx_0
      clear b1 B0 Rx_0
      have cx_1_0 := cells4 Rx_1 0 _ rfl
      have cx_1_1 := cells4 Rx_1 1 _ rfl
      have cx_1_2 := cells4 Rx_1 2 _ rfl
      have cx_1_3 := cells4 Rx_1 3 _ rfl
      go_wp2_with fail
      refine (xalive _ (tabB TT.out B1)).mono ?_
      rintro r w2 ⟨rfl, b2⟩
      have B2 : Below w.heap.size w w2 := btr B1 b2
      have Rx_2 : w2.heap[w.heap.size]? = some (Obj.cells #[.bool b0, .string s0, .string t0, .int .i64 e0] 24) := heap_of b2 _ _ _ Rx_1
      clear b2 B1 Rx_1 cx_1_0 cx_1_1 cx_1_2 cx_1_3
      have cx_2_0 := cells4 Rx_2 0 _ rfl
      have cx_2_1 := cells4 Rx_2 1 _ rfl
      have cx_2_2 := cells4 Rx_2 2 _ rfl
      have cx_2_3 := cells4 Rx_2 3 _ rfl
      go_wp2
      go_ret
      exact ⟨rfl, B2⟩
  · have d2 : decide ((80 : Int) < (a2.size : Int)) = true := decide_eq_true (by omega)
    have d2' : decide (80 < a2.size) = true := decide_eq_true (by omega)
    clear l2
    have Rx_0 : (w.alloc (Obj.cells #[.bool b0, .string s0, .string t0, .int .i64 e0] 24)).heap[w.heap.size]? = some (Obj.cells #[.bool b0, .string s0, .string t0, .int .i64 e0] 24) := by have := heap_alloc_last w (Obj.cells #[.bool b0, .string s0, .string t0, .int .i64 e0] 24); simpa only [size_al] using this
    have B0 : Below w.heap.size w (w.alloc (Obj.cells #[.bool b0, .string s0, .string t0, .int .i64 e0] 24)) := ((Below.refl _ _).alloc (by first | omega | (simp only [size_al]; omega)) _)
    go_enter Tryd.func3, Tryd.ntmps3
    go_wp2_with fail
    refine (xshort b0 s0 t0 e0 80 80 true rfl HO.out _).mono ?_
    rintro r w1 ⟨rfl, b1⟩
    have B1 : Below w.heap.size w w1 := btr B0 b1
    have Rx_1 : w1.heap[w.heap.size]? = some (Obj.cells #[.bool b0, .string s0, .string t0, .int .i64 e0] 24) := heap_of b1 _ _ _ Rx_0
    clear b1 B0 Rx_0
    have cx_1_0 := cells4 Rx_1 0 _ rfl
    have cx_1_1 := cells4 Rx_1 1 _ rfl
    have cx_1_2 := cells4 Rx_1 2 _ rfl
    have cx_1_3 := cells4 Rx_1 3 _ rfl
    go_wp2_with fail
    refine (xalive _ (tabB TT.out B1)).mono ?_
    rintro r w2 ⟨rfl, b2⟩
    have B2 : Below w.heap.size w w2 := btr B1 b2
    have Rx_2 : w2.heap[w.heap.size]? = some (Obj.cells #[.bool b0, .string s0, .string t0, .int .i64 e0] 24) := heap_of b2 _ _ _ Rx_1
    clear b2 B1 Rx_1 cx_1_0 cx_1_1 cx_1_2 cx_1_3
    have cx_2_0 := cells4 Rx_2 0 _ rfl
    have cx_2_1 := cells4 Rx_2 1 _ rfl
    have cx_2_2 := cells4 Rx_2 2 _ rfl
    have cx_2_3 := cells4 Rx_2 3 _ rfl
    go_wp2
    go_ret
    exact ⟨rfl, B2⟩

def tabZ : List Int := [0, 1, 56, 2, 57, 49, 28, 3, 61, 58, 42, 50, 38, 29, 17, 4, 62, 47, 59, 36, 45, 43, 51, 22, 53, 39, 33, 30, 24, 18, 12, 5, 63, 55, 48, 27, 60, 41, 37, 16, 46, 35, 44, 21, 52, 32, 23, 11, 54, 26, 40, 15, 34, 20, 31, 10, 25, 14, 19, 9, 13, 8, 7, 6]
def laid1 : List (String × DataW Unit) := [("math/bits.deBruijn64tab", Rows.laid_math_bits_deBruijn64tab)]
theorem gTab : Tryd.prog.globalNamed "math/bits.deBruijn64tab" = some 0 := by kernel_rfl
theorem gType : (Tryd.prog.globals[0]?).map (·.type) = some 128 := by kernel_rfl
theorem cells5 : Tryd.prog.cellsOf 5 = 1 := by kernel_rfl
theorem cellsT : Tryd.prog.cellsOf 128 = 64 := by kernel_rfl
theorem tab_at : ∀ i : Fin 64, tabZ.getD i.val 0 = ((Lib.deBruijn64tab.getD i.val 0 : Nat) : Int) := by decide +kernel

theorem of_laid {W : World} (h : laidMetH Tryd.prog laid1 W) : TabAt W := by
  rw [MakeChecks.laidMetH_plain _ _ _ (by kernel_rfl)] at h
  have h' : laidMet Tryd.prog (("math/bits.deBruijn64tab", Lib.tabData .u8 tabZ) :: []) W := h
  have hT := Lib.tabIs_of_head gTab gType Tryd.underlying128 Tryd.underlying5 cells5 cellsT h'
  intro i hi
  have hc := hT.cell gTab i (show i < tabZ.length from hi)
  rw [tab_at ⟨i, hi⟩] at hc
  exact hc

theorem door_met (os : Os) (args : Array Value) : laidMetH Tryd.prog laid1 ((World.doorLaid Tryd.prog 400 os).forCall (fun _ _ => 0) ⟨#[], args, []⟩).memory :=
  laidMetH_of_parts3 (fuel := 8) (laidMet_of_run' 8 (by kernel_rfl) (by kernel_rfl)) (by kernel_rfl) (by kernel_rfl)

set_option maxRecDepth 100000 in
theorem lifted (os : Os) (started : os.Started) (H : Type) (enc : TypeId × Value → H) :
    ReturnsInHanded {} Tryd.checked os 3 .any (fun w args => (Rows.exactMakesSpec.pre enc Tryd.prog Tryd.f3 [] false w args ∧ laidMetH Tryd.prog laid1 w) ∧ sizedMet enc Tryd.prog Tryd.f3 (OpenSpec.ofChange Rows.exactMakesSpec) false w args)
      (Rows.exactMakesSpec.post enc Tryd.prog Tryd.f3 false true false false) := by
  refine returnsInHanded_of_change_and (C := Tryd.checked) (X := fun w _ => laidMetH Tryd.prog laid1 w) (fun _ _ _ hh h => h.of_heap hh) own started (by kernel_rfl) Tryd.func3
    (ChangeSpec.witness_shaped (enc := enc) (C := Tryd.checked) (os := os) (X := fun w _ => laidMetH Tryd.prog laid1 w) false (World.doorLaid Tryd.prog 400 os) #[.agg #[.bool false, .string ⟨#[]⟩, .string ⟨#[]⟩, .int .i64 0], .bool false, .string ⟨#[]⟩, .string ⟨#[]⟩, .int .i64 0, .int .i64 0, .int .u64 0] 8 rfl (World.shaped_of_RefB (by kernel_rfl) (by kernel_rfl)) (by kernel_rfl) (by kernel_rfl) (by kernel_rfl) (door_met os _)) ?_
  intro W base args ds gs before hval0 hW _ _ hL _
  have hval : ∀ (j : Nat) t v, Tryd.f3.params[j]? = some t → args[j]? = some v → Value.okWide Tryd.prog W .any base t v := hval0
  have hW' := hW
  obtain ⟨p, q, hA0, hV, rfl, hfz, hnd⟩ := hW
  have hA : DataW.TrodAll enc Tryd.prog W 0 (fun _ => true) true Tryd.f3.params.toList args.toList ds p := hA0
  rw [Tryd.params3] at hA hval
  obtain ⟨v0, vs0, d0, ds0, p0, q0, hargs, rfl, rfl, k0, r0⟩ := trodAll_cons hA
  obtain ⟨v1, vs1, d1, ds1, p1, q1, rfl, rfl, rfl, k1, r1⟩ := trodAll_cons r0
  obtain ⟨v2, vs2, d2, ds2, p2, q2, rfl, rfl, rfl, k2, r2⟩ := trodAll_cons r1
  obtain ⟨v3, vs3, d3, ds3, p3, q3, rfl, rfl, rfl, k3, r3⟩ := trodAll_cons r2
  obtain ⟨v4, vs4, d4, ds4, p4, q4, rfl, rfl, rfl, k4, r4⟩ := trodAll_cons r3
  obtain ⟨v5, vs5, d5, ds5, p5, q5, rfl, rfl, rfl, k5, r5⟩ := trodAll_cons r4
  obtain ⟨v6, vs6, d6, ds6, p6, q6, rfl, rfl, rfl, k6, r6⟩ := trodAll_cons r5
  obtain ⟨rfl, rfl, rfl⟩ := trodAll_nil r6
  obtain rfl : args = #[v0, v1, v2, v3, v4, v5, v6] := by cases args; simp_all
  obtain ⟨rfl, rfl⟩ := trodVars_none hV
  obtain ⟨b0, s0, t0, e0, rfl, rfl, rfl, h0⟩ := open_exact (hval 0 24 v0 rfl rfl) k0
  obtain ⟨a1, rfl, rfl, rfl⟩ := open_bool Tryd.underlying4 (hval 1 4 v1 rfl rfl) k1
  obtain ⟨a2, rfl, rfl, rfl, h2⟩ := open_string Tryd.underlying22 (hval 2 22 v2 rfl rfl) k2
  obtain ⟨a3, rfl, rfl, rfl, h3⟩ := open_string Tryd.underlying22 (hval 3 22 v3 rfl rfl) k3
  obtain ⟨a4, rfl, rfl, rfl, h4⟩ := open_int Tryd.underlying3 (hval 4 3 v4 rfl rfl) k4
  obtain ⟨a5, rfl, rfl, rfl, h5⟩ := open_int Tryd.underlying2 (hval 5 2 v5 rfl rfl) k5
  obtain ⟨a6, rfl, rfl, rfl, h6⟩ := open_int Tryd.underlying25 (hval 6 25 v6 rfl rfl) k6
  clear hA0 hval0
  simp only [List.append_nil] at hW'
  refine (walk b0 s0 t0 e0 a1 a2 a3 a4 a5 a6 h0 h2 h3 h4 h5 h6 W (of_laid hL)).mono fun e W' ⟨he, hg⟩ => ?_
  subst he
  exact ⟨_, rfl, post_plain hW' (fun _ _ _ => trodAll_mk1 (shut_bool Tryd.underlying4 _)) (fun sp => (trodAll_cons_mk (shut_exact h0) (trodAll_cons_mk (shut_bool Tryd.underlying4 _) (trodAll_cons_mk (shut_string Tryd.underlying22 h2) (trodAll_cons_mk (shut_string Tryd.underlying22 h3) (trodAll_cons_mk (shut_int Tryd.underlying3 h4) (trodAll_cons_mk (shut_int Tryd.underlying2 h5) (trodAll_cons_mk (shut_int Tryd.underlying25 h6) trodAll_mk0)))))))) (fun _ => rfl) hg (ok_one (by kernel_rfl) rfl (okWide_bool_mk Tryd.underlying4 _))⟩

theorem over : Rows.ExactMakesSaid :=
  OpenClaim.holds_of_wide 3 Tryd.f3 rfl rfl rfl rfl rfl rfl rfl ⟨rfl, rfl, rfl, rfl, rfl⟩ rfl rfl rfl rfl rfl (by kernel_rfl) Tryd.func3 (by kernel_rfl)
    (of_decide_eq_true (by kernel_rfl)) (by unfold Func.isWrapper; first | (rw [if_pos (by decide +kernel)]; kernel_rfl) | (rw [if_neg (by decide +kernel)]; exact ⟨rfl, rfl⟩))
    (fun os started H enc _ => lifted os started H enc)

theorem proved : Rows.ExactMakesCardSaid :=
  Claim7.holds_tied_plain_at .later [] [.data] true (true, "3e8d1fd3fa54bd73b2e4f17310d30ae8075bb6bb7b260c1ab5917f0247a466ea") false
    over (fun _ h => by cases h) (by kernel_rfl) (fun _ h => by cases h) exactMakes_row_tie rfl ⟨rfl, rfl⟩ (by kernel_rfl) rfl
    (fun f fn hf hfn => by
      obtain rfl : f = 3 := Option.some.inj ((show Tryd.prog.funcNamed "abacus/abacuslaw06.ExactMakes" = some 3 by kernel_rfl).symm.trans hf) |>.symm
      obtain rfl : fn = Tryd.f3 := (Option.some.inj (Tryd.func3.symm.trans hfn)).symm
      exact ⟨by kernel_rfl, fun j t ht => by
        rw [Tryd.params3] at ht
        have h3 : t = 24 ∨ t = 4 ∨ t = 22 ∨ t = 3 ∨ t = 2 ∨ t = 25 := by
          rcases j with _ | _ | _ | _ | _ | _ | _ | j
          · exact (Or.inl (by simpa using ht.symm))
          · exact (Or.inr (Or.inl (by simpa using ht.symm)))
          · exact (Or.inr (Or.inr (Or.inl (by simpa using ht.symm))))
          · exact (Or.inr (Or.inr (Or.inl (by simpa using ht.symm))))
          · exact (Or.inr (Or.inr (Or.inr (Or.inl (by simpa using ht.symm)))))
          · exact (Or.inr (Or.inr (Or.inr (Or.inr (Or.inl (by simpa using ht.symm))))))
          · exact (Or.inr (Or.inr (Or.inr (Or.inr (Or.inr (by simpa using ht.symm))))))
          · simp at ht
        rcases h3 with rfl | rfl | rfl | rfl | rfl | rfl
        · exact (show Tryd.prog.wantsStandIn 24 = false by kernel_rfl)
        · exact (show Tryd.prog.wantsStandIn 4 = false by kernel_rfl)
        · exact (show Tryd.prog.wantsStandIn 22 = false by kernel_rfl)
        · exact (show Tryd.prog.wantsStandIn 3 = false by kernel_rfl)
        · exact (show Tryd.prog.wantsStandIn 2 = false by kernel_rfl)
        · exact (show Tryd.prog.wantsStandIn 25 = false by kernel_rfl)⟩)
    (by kernel_rfl)
#print axioms proved
end Go.Proofs.YthiongcednmjiaaDoor.exactMakes
