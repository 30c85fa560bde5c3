/-
  ExactProducts returns true for every two exact numbers, whether they may be or not: products and quotients are the document's.
-/
import Derived.Test.YthiongcednmjiaaDoorRows
import Derived.Test.YthiongcednmjiaaDoorTie
import Derived.Test.YthiongcednmjiaaDoorCards
import Derived.WalkKit
import Derived.ProofKit
import Derived.OpenShut
import Derived.LaidMore
import Derived.Stop.Joined
import Derived.Lib.LaidTab
import Derived.SevenTiedAt
import Derived.Test.YthiongcednmjiaaDoorFrame6
import Derived.Test.YthiongcednmjiaaDoorXL
import Derived.Test.YthiongcednmjiaaDoorX8
import Derived.Test.YthiongcednmjiaaDoorY3
import Derived.Test.YthiongcednmjiaaDoorFrameX
namespace Go.Proofs.YthiongcednmjiaaDoor.exactProducts
open WMath XMath
open Go.ChangeShapes Go.WideShapes Go.ChangeAt Go.RowKit
set_option linter.unusedVariables false

theorem own : ownKnob Tryd.prog.godebug = none := by kernel_rfl

set_option maxRecDepth 100000 in
set_option maxHeartbeats 4000000 in
theorem walk (b0 : Bool) (s0 t0 : ByteArray) (e0 : Int) (vb1 : Bool) (vs1 vt1 : ByteArray) (ve1 : Int) (h0 : s0.size ≤ maxLen ∧ t0.size ≤ maxLen ∧ (Lit.int .i64 e0).wf = true) (h1 : vs1.size ≤ maxLen ∧ vt1.size ≤ maxLen ∧ (Lit.int .i64 ve1).wf = true) (w : World) (hT : TabAt w) :
    Calls Tryd.prog 5 #[.agg #[.bool b0, .string s0, .string t0, .int .i64 e0], .agg #[.bool vb1, .string vs1, .string vt1, .int .i64 ve1]] w fun e w' => e = .returned (.bool true) ∧ Below w.heap.size w w' := by
  have TT := box hT
  clear hT
  obtain ⟨o, ho⟩ : ∃ o, (decide (s0.size ≤ 60) && decide (t0.size ≤ 60)) = o := ⟨_, rfl⟩
  obtain ⟨p, hp⟩ : ∃ o, (decide (vs1.size ≤ 60) && decide (vt1.size ≤ 60)) = o := ⟨_, rfl⟩
  have HO := box ho
  have HP := box hp
  clear ho hp h0 h1
  cases o
  · have Rx_0 : ((w.alloc (Obj.cells #[.bool b0, .string s0, .string t0, .int .i64 e0] 24)).alloc (Obj.cells #[.bool vb1, .string vs1, .string vt1, .int .i64 ve1] 24)).heap[w.heap.size]? = some (Obj.cells #[.bool b0, .string s0, .string t0, .int .i64 e0] 24) := by rw [heap_below _ _ _ (by simp only [size_al]; omega)]; have := heap_alloc_last w (Obj.cells #[.bool b0, .string s0, .string t0, .int .i64 e0] 24); simpa only [size_al] using this
    have Ry_0 : ((w.alloc (Obj.cells #[.bool b0, .string s0, .string t0, .int .i64 e0] 24)).alloc (Obj.cells #[.bool vb1, .string vs1, .string vt1, .int .i64 ve1] 24)).heap[w.heap.size + 1]? = some (Obj.cells #[.bool vb1, .string vs1, .string vt1, .int .i64 ve1] 24) := by have := heap_alloc_last (w.alloc (Obj.cells #[.bool b0, .string s0, .string t0, .int .i64 e0] 24)) (Obj.cells #[.bool vb1, .string vs1, .string vt1, .int .i64 ve1] 24); simpa only [size_al] using this
    have B0 : Below w.heap.size w ((w.alloc (Obj.cells #[.bool b0, .string s0, .string t0, .int .i64 e0] 24)).alloc (Obj.cells #[.bool vb1, .string vs1, .string vt1, .int .i64 ve1] 24)) := (((Below.refl _ _).alloc (by first | omega | (simp only [size_al]; omega)) _).alloc (by first | omega | (simp only [size_al]; omega)) _)
    go_enter Tryd.func5, Tryd.ntmps5
    go_wp2_with fail
    refine (xshort b0 s0 t0 e0 60 60 false rfl HO.out _).mono ?_
    rintro r w1 ⟨rfl, b1⟩
    have B1 : Below w.heap.size w w1 := btr B0 b1
    have Rx_1 : w1.heap[w.heap.size]? = some (Obj.cells #[.bool b0, .string s0, .string t0, .int .i64 e0] 24) := heap_of b1 _ _ _ Rx_0
    have Ry_1 : w1.heap[w.heap.size + 1]? = some (Obj.cells #[.bool vb1, .string vs1, .string vt1, .int .i64 ve1] 24) := heap_of b1 _ _ _ Ry_0
    clear b1 B0 Rx_0 Ry_0
    have cx_1_0 := cells4 Rx_1 0 _ rfl
    have cx_1_1 := cells4 Rx_1 1 _ rfl
    have cx_1_2 := cells4 Rx_1 2 _ rfl
    have cx_1_3 := cells4 Rx_1 3 _ rfl
    have cy_1_0 := cells4 Ry_1 0 _ rfl
    have cy_1_1 := cells4 Ry_1 1 _ rfl
    have cy_1_2 := cells4 Ry_1 2 _ rfl
    have cy_1_3 := cells4 Ry_1 3 _ rfl
    go_wp2_with fail
    refine (xalive _ (tabB TT.out B1)).mono ?_
    rintro r w2 ⟨rfl, b2⟩
    have B2 : Below w.heap.size w w2 := btr B1 b2
    have Rx_2 : w2.heap[w.heap.size]? = some (Obj.cells #[.bool b0, .string s0, .string t0, .int .i64 e0] 24) := heap_of b2 _ _ _ Rx_1
    have Ry_2 : w2.heap[w.heap.size + 1]? = some (Obj.cells #[.bool vb1, .string vs1, .string vt1, .int .i64 ve1] 24) := heap_of b2 _ _ _ Ry_1
    clear b2 B1 Rx_1 cx_1_0 cx_1_1 cx_1_2 cx_1_3 Ry_1 cy_1_0 cy_1_1 cy_1_2 cy_1_3
    have cx_2_0 := cells4 Rx_2 0 _ rfl
    have cx_2_1 := cells4 Rx_2 1 _ rfl
    have cx_2_2 := cells4 Rx_2 2 _ rfl
    have cx_2_3 := cells4 Rx_2 3 _ rfl
    have cy_2_0 := cells4 Ry_2 0 _ rfl
    have cy_2_1 := cells4 Ry_2 1 _ rfl
    have cy_2_2 := cells4 Ry_2 2 _ rfl
    have cy_2_3 := cells4 Ry_2 3 _ rfl
    go_wp2
    go_ret
    exact ⟨rfl, B2⟩
  cases p
  · have Rx_0 : ((w.alloc (Obj.cells #[.bool b0, .string s0, .string t0, .int .i64 e0] 24)).alloc (Obj.cells #[.bool vb1, .string vs1, .string vt1, .int .i64 ve1] 24)).heap[w.heap.size]? = some (Obj.cells #[.bool b0, .string s0, .string t0, .int .i64 e0] 24) := by rw [heap_below _ _ _ (by simp only [size_al]; omega)]; have := heap_alloc_last w (Obj.cells #[.bool b0, .string s0, .string t0, .int .i64 e0] 24); simpa only [size_al] using this
    have Ry_0 : ((w.alloc (Obj.cells #[.bool b0, .string s0, .string t0, .int .i64 e0] 24)).alloc (Obj.cells #[.bool vb1, .string vs1, .string vt1, .int .i64 ve1] 24)).heap[w.heap.size + 1]? = some (Obj.cells #[.bool vb1, .string vs1, .string vt1, .int .i64 ve1] 24) := by have := heap_alloc_last (w.alloc (Obj.cells #[.bool b0, .string s0, .string t0, .int .i64 e0] 24)) (Obj.cells #[.bool vb1, .string vs1, .string vt1, .int .i64 ve1] 24); simpa only [size_al] using this
    have B0 : Below w.heap.size w ((w.alloc (Obj.cells #[.bool b0, .string s0, .string t0, .int .i64 e0] 24)).alloc (Obj.cells #[.bool vb1, .string vs1, .string vt1, .int .i64 ve1] 24)) := (((Below.refl _ _).alloc (by first | omega | (simp only [size_al]; omega)) _).alloc (by first | omega | (simp only [size_al]; omega)) _)
    go_enter Tryd.func5, Tryd.ntmps5
    go_wp2_with fail
    refine (xshort b0 s0 t0 e0 60 60 true rfl HO.out _).mono ?_
    rintro r w1 ⟨rfl, b1⟩
    have B1 : Below w.heap.size w w1 := btr B0 b1
    have Rx_1 : w1.heap[w.heap.size]? = some (Obj.cells #[.bool b0, .string s0, .string t0, .int .i64 e0] 24) := heap_of b1 _ _ _ Rx_0
    have Ry_1 : w1.heap[w.heap.size + 1]? = some (Obj.cells #[.bool vb1, .string vs1, .string vt1, .int .i64 ve1] 24) := heap_of b1 _ _ _ Ry_0
    clear b1 B0 Rx_0 Ry_0
    have cx_1_0 := cells4 Rx_1 0 _ rfl
    have cx_1_1 := cells4 Rx_1 1 _ rfl
    have cx_1_2 := cells4 Rx_1 2 _ rfl
    have cx_1_3 := cells4 Rx_1 3 _ rfl
    have cy_1_0 := cells4 Ry_1 0 _ rfl
    have cy_1_1 := cells4 Ry_1 1 _ rfl
    have cy_1_2 := cells4 Ry_1 2 _ rfl
    have cy_1_3 := cells4 Ry_1 3 _ rfl
    go_wp2_with fail
    refine (xshort vb1 vs1 vt1 ve1 60 60 false rfl HP.out _).mono ?_
    rintro r w2 ⟨rfl, b2⟩
    have B2 : Below w.heap.size w w2 := btr B1 b2
    have Rx_2 : w2.heap[w.heap.size]? = some (Obj.cells #[.bool b0, .string s0, .string t0, .int .i64 e0] 24) := heap_of b2 _ _ _ Rx_1
    have Ry_2 : w2.heap[w.heap.size + 1]? = some (Obj.cells #[.bool vb1, .string vs1, .string vt1, .int .i64 ve1] 24) := heap_of b2 _ _ _ Ry_1
    clear b2 B1 Rx_1 cx_1_0 cx_1_1 cx_1_2 cx_1_3 Ry_1 cy_1_0 cy_1_1 cy_1_2 cy_1_3
    have cx_2_0 := cells4 Rx_2 0 _ rfl
    have cx_2_1 := cells4 Rx_2 1 _ rfl
    have cx_2_2 := cells4 Rx_2 2 _ rfl
    have cx_2_3 := cells4 Rx_2 3 _ rfl
    have cy_2_0 := cells4 Ry_2 0 _ rfl
    have cy_2_1 := cells4 Ry_2 1 _ rfl
    have cy_2_2 := cells4 Ry_2 2 _ rfl
    have cy_2_3 := cells4 Ry_2 3 _ rfl
    go_wp2_with fail
    refine (xalive _ (tabB TT.out B2)).mono ?_
    rintro r w3 ⟨rfl, b3⟩
    have B3 : Below w.heap.size w w3 := btr B2 b3
    have Rx_3 : w3.heap[w.heap.size]? = some (Obj.cells #[.bool b0, .string s0, .string t0, .int .i64 e0] 24) := heap_of b3 _ _ _ Rx_2
    have Ry_3 : w3.heap[w.heap.size + 1]? = some (Obj.cells #[.bool vb1, .string vs1, .string vt1, .int .i64 ve1] 24) := heap_of b3 _ _ _ Ry_2
    clear b3 B2 Rx_2 cx_2_0 cx_2_1 cx_2_2 cx_2_3 Ry_2 cy_2_0 cy_2_1 cy_2_2 cy_2_3
    have cx_3_0 := cells4 Rx_3 0 _ rfl
    have cx_3_1 := cells4 Rx_3 1 _ rfl
    have cx_3_2 := cells4 Rx_3 2 _ rfl
    have cx_3_3 := cells4 Rx_3 3 _ rfl
    have cy_3_0 := cells4 Ry_3 0 _ rfl
    have cy_3_1 := cells4 Ry_3 1 _ rfl
    have cy_3_2 := cells4 Ry_3 2 _ rfl
    have cy_3_3 := cells4 Ry_3 3 _ rfl
    go_wp2
    go_ret
    exact ⟨rfl, B3⟩
  by_cases m1 : MayX b0 s0 t0 e0
  · by_cases m2 : MayX vb1 vs1 vt1 ve1
    · have M1 : Box (IsM true b0 s0 t0 e0) := box ⟨fun _ => m1, fun _ => rfl⟩
      have M2 : Box (IsM true vb1 vs1 vt1 ve1) := box ⟨fun _ => m2, fun _ => rfl⟩
      obtain ⟨n, d, hs, ht, hx⟩ := m1
      obtain ⟨m, f, hu, hv, hy⟩ := m2
      obtain ⟨⟨⟨pb, pn, pd, pe⟩, pr⟩, hr⟩ : ∃ q, mulX (XN.mk b0 n d e0) (XN.mk vb1 m f ve1) = q := ⟨_, rfl⟩
      obtain ⟨⟨⟨qb, qn, qd, qe⟩, qr⟩, hq⟩ : ∃ q, quoX (XN.mk b0 n d e0) (XN.mk vb1 m f ve1) = q := ⟨_, rfl⟩
      obtain ⟨pu, hpu⟩ : ∃ z, nbA pn = z := ⟨_, rfl⟩
      obtain ⟨pv, hpv⟩ : ∃ z, nbA pd = z := ⟨_, rfl⟩
      obtain ⟨qu, hqu⟩ : ∃ z, nbA qn = z := ⟨_, rfl⟩
      obtain ⟨qv, hqv⟩ : ∃ z, nbA qd = z := ⟨_, rfl⟩
      have K1 := box (fun w hT => Mulx_ok b0 n d e0 s0 t0 vb1 m f ve1 vs1 vt1 pb pn pd pe pr pu pv hs ht hu hv hx hy hr hpu hpv w hT)
      have K2 := box (fun w hT => Quox_ok b0 n d e0 s0 t0 vb1 m f ve1 vs1 vt1 qb qn qd qe qr qu qv hs ht hu hv hx hy hq hqu hqv w hT)
      have K3 := box (fun w => rMul_ok b0 n d e0 s0 t0 vb1 m f ve1 vs1 vt1 pb pn pd pe pr pu pv hs ht hu hv hx hy hr hpu hpv w)
      have K4 := box (fun w => rQuo_ok b0 n d e0 s0 t0 vb1 m f ve1 vs1 vt1 qb qn qd qe qr qu qv hs ht hu hv hx hy hq hqu hqv w)
      clear hs ht hx hu hv hy hr hq hpu hpv hqu hqv
      have Rx_0 : ((w.alloc (Obj.cells #[.bool b0, .string s0, .string t0, .int .i64 e0] 24)).alloc (Obj.cells #[.bool vb1, .string vs1, .string vt1, .int .i64 ve1] 24)).heap[w.heap.size]? = some (Obj.cells #[.bool b0, .string s0, .string t0, .int .i64 e0] 24) := by rw [heap_below _ _ _ (by simp only [size_al]; omega)]; have := heap_alloc_last w (Obj.cells #[.bool b0, .string s0, .string t0, .int .i64 e0] 24); simpa only [size_al] using this
      have Ry_0 : ((w.alloc (Obj.cells #[.bool b0, .string s0, .string t0, .int .i64 e0] 24)).alloc (Obj.cells #[.bool vb1, .string vs1, .string vt1, .int .i64 ve1] 24)).heap[w.heap.size + 1]? = some (Obj.cells #[.bool vb1, .string vs1, .string vt1, .int .i64 ve1] 24) := by have := heap_alloc_last (w.alloc (Obj.cells #[.bool b0, .string s0, .string t0, .int .i64 e0] 24)) (Obj.cells #[.bool vb1, .string vs1, .string vt1, .int .i64 ve1] 24); simpa only [size_al] using this
      have B0 : Below w.heap.size w ((w.alloc (Obj.cells #[.bool b0, .string s0, .string t0, .int .i64 e0] 24)).alloc (Obj.cells #[.bool vb1, .string vs1, .string vt1, .int .i64 ve1] 24)) := (((Below.refl _ _).alloc (by first | omega | (simp only [size_al]; omega)) _).alloc (by first | omega | (simp only [size_al]; omega)) _)
      go_enter Tryd.func5, Tryd.ntmps5
      go_wp2_with fail
      refine (xshort b0 s0 t0 e0 60 60 true rfl HO.out _).mono ?_
      rintro r w1 ⟨rfl, b1⟩
      have B1 : Below w.heap.size w w1 := btr B0 b1
      have Rx_1 : w1.heap[w.heap.size]? = some (Obj.cells #[.bool b0, .string s0, .string t0, .int .i64 e0] 24) := heap_of b1 _ _ _ Rx_0
      have Ry_1 : w1.heap[w.heap.size + 1]? = some (Obj.cells #[.bool vb1, .string vs1, .string vt1, .int .i64 ve1] 24) := heap_of b1 _ _ _ Ry_0
      clear b1 B0 Rx_0 Ry_0
      have cx_1_0 := cells4 Rx_1 0 _ rfl
      have cx_1_1 := cells4 Rx_1 1 _ rfl
      have cx_1_2 := cells4 Rx_1 2 _ rfl
      have cx_1_3 := cells4 Rx_1 3 _ rfl
      have cy_1_0 := cells4 Ry_1 0 _ rfl
      have cy_1_1 := cells4 Ry_1 1 _ rfl
      have cy_1_2 := cells4 Ry_1 2 _ rfl
      have cy_1_3 := cells4 Ry_1 3 _ rfl
      go_wp2_with fail
      refine (xshort vb1 vs1 vt1 ve1 60 60 true rfl HP.out _).mono ?_
      rintro r w2 ⟨rfl, b2⟩
      have B2 : Below w.heap.size w w2 := btr B1 b2
      have Rx_2 : w2.heap[w.heap.size]? = some (Obj.cells #[.bool b0, .string s0, .string t0, .int .i64 e0] 24) := heap_of b2 _ _ _ Rx_1
      have Ry_2 : w2.heap[w.heap.size + 1]? = some (Obj.cells #[.bool vb1, .string vs1, .string vt1, .int .i64 ve1] 24) := heap_of b2 _ _ _ Ry_1
      clear b2 B1 Rx_1 cx_1_0 cx_1_1 cx_1_2 cx_1_3 Ry_1 cy_1_0 cy_1_1 cy_1_2 cy_1_3
      have cx_2_0 := cells4 Rx_2 0 _ rfl
      have cx_2_1 := cells4 Rx_2 1 _ rfl
      have cx_2_2 := cells4 Rx_2 2 _ rfl
      have cx_2_3 := cells4 Rx_2 3 _ rfl
      have cy_2_0 := cells4 Ry_2 0 _ rfl
      have cy_2_1 := cells4 Ry_2 1 _ rfl
      have cy_2_2 := cells4 Ry_2 2 _ rfl
      have cy_2_3 := cells4 Ry_2 3 _ rfl
      go_wp2_with fail
      refine (K1.out _ (tabB TT.out B2)).mono ?_
      rintro r w3 ⟨rfl, b3⟩
      have B3 : Below w.heap.size w w3 := btr B2 b3
      have Rx_3 : w3.heap[w.heap.size]? = some (Obj.cells #[.bool b0, .string s0, .string t0, .int .i64 e0] 24) := heap_of b3 _ _ _ Rx_2
      have Ry_3 : w3.heap[w.heap.size + 1]? = some (Obj.cells #[.bool vb1, .string vs1, .string vt1, .int .i64 ve1] 24) := heap_of b3 _ _ _ Ry_2
      clear b3 B2 Rx_2 cx_2_0 cx_2_1 cx_2_2 cx_2_3 Ry_2 cy_2_0 cy_2_1 cy_2_2 cy_2_3
      have cx_3_0 := cells4 Rx_3 0 _ rfl
      have cx_3_1 := cells4 Rx_3 1 _ rfl
      have cx_3_2 := cells4 Rx_3 2 _ rfl
      have cx_3_3 := cells4 Rx_3 3 _ rfl
      have cy_3_0 := cells4 Ry_3 0 _ rfl
      have cy_3_1 := cells4 Ry_3 1 _ rfl
      have cy_3_2 := cells4 Ry_3 2 _ rfl
      have cy_3_3 := cells4 Ry_3 3 _ rfl
      have S4 := box B3.size
      have Lx_4 : Box (w.heap.size < w3.heap.size) := box (Array.getElem?_eq_some_iff.1 Rx_3).1
      have Ly_4 : Box (w.heap.size + 1 < w3.heap.size) := box (Array.getElem?_eq_some_iff.1 Ry_3).1
      have B4 : Below w.heap.size w (w3.alloc (Obj.cells #[.bool pb, .string pu, .string pv, .int .i64 pe] 24)) := btr B3 (bal _ _)
      have Rx_4 : (w3.alloc (Obj.cells #[.bool pb, .string pu, .string pv, .int .i64 pe] 24)).heap[w.heap.size]? = some (Obj.cells #[.bool b0, .string s0, .string t0, .int .i64 e0] 24) := heap_of (bal _ _) _ _ _ Rx_3
      have Ry_4 : (w3.alloc (Obj.cells #[.bool pb, .string pu, .string pv, .int .i64 pe] 24)).heap[w.heap.size + 1]? = some (Obj.cells #[.bool vb1, .string vs1, .string vt1, .int .i64 ve1] 24) := heap_of (bal _ _) _ _ _ Ry_3
      have Rp_4 : (w3.alloc (Obj.cells #[.bool pb, .string pu, .string pv, .int .i64 pe] 24)).heap[w3.heap.size]? = some (Obj.cells #[.bool pb, .string pu, .string pv, .int .i64 pe] 24) := heap_alloc_last _ _
      clear B3 Rx_3 cx_3_0 cx_3_1 cx_3_2 cx_3_3 Ry_3 cy_3_0 cy_3_1 cy_3_2 cy_3_3
      have cx_4_0 := cells4 Rx_4 0 _ rfl
      have cx_4_1 := cells4 Rx_4 1 _ rfl
      have cx_4_2 := cells4 Rx_4 2 _ rfl
      have cx_4_3 := cells4 Rx_4 3 _ rfl
      have cy_4_0 := cells4 Ry_4 0 _ rfl
      have cy_4_1 := cells4 Ry_4 1 _ rfl
      have cy_4_2 := cells4 Ry_4 2 _ rfl
      have cy_4_3 := cells4 Ry_4 3 _ rfl
      have cp_4_0 := cells4 Rp_4 0 _ rfl
      have cp_4_1 := cells4 Rp_4 1 _ rfl
      have cp_4_2 := cells4 Rp_4 2 _ rfl
      have cp_4_3 := cells4 Rp_4 3 _ rfl
      clear cp_4_0 cp_4_1 cp_4_2 cp_4_3
      go_wp2_with fail
      refine (K2.out _ (tabB TT.out B4)).mono ?_
      rintro r w5 ⟨rfl, b5⟩
      have B5 : Below w.heap.size w w5 := btr B4 b5
      have Rx_5 : w5.heap[w.heap.size]? = some (Obj.cells #[.bool b0, .string s0, .string t0, .int .i64 e0] 24) := heap_of b5 _ _ _ Rx_4
      have Ry_5 : w5.heap[w.heap.size + 1]? = some (Obj.cells #[.bool vb1, .string vs1, .string vt1, .int .i64 ve1] 24) := heap_of b5 _ _ _ Ry_4
      have Rp_5 : w5.heap[w3.heap.size]? = some (Obj.cells #[.bool pb, .string pu, .string pv, .int .i64 pe] 24) := heap_of b5 _ _ _ Rp_4
      clear b5 B4 Rx_4 cx_4_0 cx_4_1 cx_4_2 cx_4_3 Ry_4 cy_4_0 cy_4_1 cy_4_2 cy_4_3 Rp_4
      have cx_5_0 := cells4 Rx_5 0 _ rfl
      have cx_5_1 := cells4 Rx_5 1 _ rfl
      have cx_5_2 := cells4 Rx_5 2 _ rfl
      have cx_5_3 := cells4 Rx_5 3 _ rfl
      have cy_5_0 := cells4 Ry_5 0 _ rfl
      have cy_5_1 := cells4 Ry_5 1 _ rfl
      have cy_5_2 := cells4 Ry_5 2 _ rfl
      have cy_5_3 := cells4 Ry_5 3 _ rfl
      have S6 := box B5.size
      have Lx_6 : Box (w.heap.size < w5.heap.size) := box (Array.getElem?_eq_some_iff.1 Rx_5).1
      have Ly_6 : Box (w.heap.size + 1 < w5.heap.size) := box (Array.getElem?_eq_some_iff.1 Ry_5).1
      have Lp_6 : Box (w3.heap.size < w5.heap.size) := box (Array.getElem?_eq_some_iff.1 Rp_5).1
      have B6 : Below w.heap.size w (w5.alloc (Obj.cells #[.bool qb, .string qu, .string qv, .int .i64 qe] 24)) := btr B5 (bal _ _)
      have Rx_6 : (w5.alloc (Obj.cells #[.bool qb, .string qu, .string qv, .int .i64 qe] 24)).heap[w.heap.size]? = some (Obj.cells #[.bool b0, .string s0, .string t0, .int .i64 e0] 24) := heap_of (bal _ _) _ _ _ Rx_5
      have Ry_6 : (w5.alloc (Obj.cells #[.bool qb, .string qu, .string qv, .int .i64 qe] 24)).heap[w.heap.size + 1]? = some (Obj.cells #[.bool vb1, .string vs1, .string vt1, .int .i64 ve1] 24) := heap_of (bal _ _) _ _ _ Ry_5
      have Rp_6 : (w5.alloc (Obj.cells #[.bool qb, .string qu, .string qv, .int .i64 qe] 24)).heap[w3.heap.size]? = some (Obj.cells #[.bool pb, .string pu, .string pv, .int .i64 pe] 24) := heap_of (bal _ _) _ _ _ Rp_5
      have Rq_6 : (w5.alloc (Obj.cells #[.bool qb, .string qu, .string qv, .int .i64 qe] 24)).heap[w5.heap.size]? = some (Obj.cells #[.bool qb, .string qu, .string qv, .int .i64 qe] 24) := heap_alloc_last _ _
      clear B5 Rx_5 cx_5_0 cx_5_1 cx_5_2 cx_5_3 Ry_5 cy_5_0 cy_5_1 cy_5_2 cy_5_3 Rp_5
      have cx_6_0 := cells4 Rx_6 0 _ rfl
      have cx_6_1 := cells4 Rx_6 1 _ rfl
      have cx_6_2 := cells4 Rx_6 2 _ rfl
      have cx_6_3 := cells4 Rx_6 3 _ rfl
      have cy_6_0 := cells4 Ry_6 0 _ rfl
      have cy_6_1 := cells4 Ry_6 1 _ rfl
      have cy_6_2 := cells4 Ry_6 2 _ rfl
      have cy_6_3 := cells4 Ry_6 3 _ rfl
      have cq_6_0 := cells4 Rq_6 0 _ rfl
      have cq_6_1 := cells4 Rq_6 1 _ rfl
      have cq_6_2 := cells4 Rq_6 2 _ rfl
      have cq_6_3 := cells4 Rq_6 3 _ rfl
      clear cq_6_0 cq_6_1 cq_6_2 cq_6_3
      go_wp2_with fail
      refine (xmayM b0 s0 t0 e0 true M1.out _).mono ?_
      rintro r w7 ⟨rfl, b7⟩
      have B7 : Below w.heap.size w w7 := btr B6 b7
      have Rx_7 : w7.heap[w.heap.size]? = some (Obj.cells #[.bool b0, .string s0, .string t0, .int .i64 e0] 24) := heap_of b7 _ _ _ Rx_6
      have Ry_7 : w7.heap[w.heap.size + 1]? = some (Obj.cells #[.bool vb1, .string vs1, .string vt1, .int .i64 ve1] 24) := heap_of b7 _ _ _ Ry_6
      have Rp_7 : w7.heap[w3.heap.size]? = some (Obj.cells #[.bool pb, .string pu, .string pv, .int .i64 pe] 24) := heap_of b7 _ _ _ Rp_6
      have Rq_7 : w7.heap[w5.heap.size]? = some (Obj.cells #[.bool qb, .string qu, .string qv, .int .i64 qe] 24) := heap_of b7 _ _ _ Rq_6
      clear b7 B6 Rx_6 cx_6_0 cx_6_1 cx_6_2 cx_6_3 Ry_6 cy_6_0 cy_6_1 cy_6_2 cy_6_3 Rp_6 Rq_6
      have cx_7_0 := cells4 Rx_7 0 _ rfl
      have cx_7_1 := cells4 Rx_7 1 _ rfl
      have cx_7_2 := cells4 Rx_7 2 _ rfl
      have cx_7_3 := cells4 Rx_7 3 _ rfl
      have cy_7_0 := cells4 Ry_7 0 _ rfl
      have cy_7_1 := cells4 Ry_7 1 _ rfl
      have cy_7_2 := cells4 Ry_7 2 _ rfl
      have cy_7_3 := cells4 Ry_7 3 _ rfl
      go_wp2_with fail
      refine (xmayM vb1 vs1 vt1 ve1 true M2.out _).mono ?_
      rintro r w8 ⟨rfl, b8⟩
      have B8 : Below w.heap.size w w8 := btr B7 b8
      have Rx_8 : w8.heap[w.heap.size]? = some (Obj.cells #[.bool b0, .string s0, .string t0, .int .i64 e0] 24) := heap_of b8 _ _ _ Rx_7
      have Ry_8 : w8.heap[w.heap.size + 1]? = some (Obj.cells #[.bool vb1, .string vs1, .string vt1, .int .i64 ve1] 24) := heap_of b8 _ _ _ Ry_7
      have Rp_8 : w8.heap[w3.heap.size]? = some (Obj.cells #[.bool pb, .string pu, .string pv, .int .i64 pe] 24) := heap_of b8 _ _ _ Rp_7
      have Rq_8 : w8.heap[w5.heap.size]? = some (Obj.cells #[.bool qb, .string qu, .string qv, .int .i64 qe] 24) := heap_of b8 _ _ _ Rq_7
      clear b8 B7 Rx_7 cx_7_0 cx_7_1 cx_7_2 cx_7_3 Ry_7 cy_7_0 cy_7_1 cy_7_2 cy_7_3 Rp_7 Rq_7
      have cx_8_0 := cells4 Rx_8 0 _ rfl
      have cx_8_1 := cells4 Rx_8 1 _ rfl
      have cx_8_2 := cells4 Rx_8 2 _ rfl
      have cx_8_3 := cells4 Rx_8 3 _ rfl
      have cy_8_0 := cells4 Ry_8 0 _ rfl
      have cy_8_1 := cells4 Ry_8 1 _ rfl
      have cy_8_2 := cells4 Ry_8 2 _ rfl
      have cy_8_3 := cells4 Ry_8 3 _ rfl
      go_wp2_with fail
      refine (K3.out _).mono ?_
      rintro r w9 ⟨rfl, b9⟩
      have B9 : Below w.heap.size w w9 := btr B8 b9
      have Rx_9 : w9.heap[w.heap.size]? = some (Obj.cells #[.bool b0, .string s0, .string t0, .int .i64 e0] 24) := heap_of b9 _ _ _ Rx_8
      have Ry_9 : w9.heap[w.heap.size + 1]? = some (Obj.cells #[.bool vb1, .string vs1, .string vt1, .int .i64 ve1] 24) := heap_of b9 _ _ _ Ry_8
      have Rp_9 : w9.heap[w3.heap.size]? = some (Obj.cells #[.bool pb, .string pu, .string pv, .int .i64 pe] 24) := heap_of b9 _ _ _ Rp_8
      have Rq_9 : w9.heap[w5.heap.size]? = some (Obj.cells #[.bool qb, .string qu, .string qv, .int .i64 qe] 24) := heap_of b9 _ _ _ Rq_8
      clear b9 B8 Rx_8 cx_8_0 cx_8_1 cx_8_2 cx_8_3 Ry_8 cy_8_0 cy_8_1 cy_8_2 cy_8_3 Rp_8 Rq_8
      have cx_9_0 := cells4 Rx_9 0 _ rfl
      have cx_9_1 := cells4 Rx_9 1 _ rfl
      have cx_9_2 := cells4 Rx_9 2 _ rfl
      have cx_9_3 := cells4 Rx_9 3 _ rfl
      have cy_9_0 := cells4 Ry_9 0 _ rfl
      have cy_9_1 := cells4 Ry_9 1 _ rfl
      have cy_9_2 := cells4 Ry_9 2 _ rfl
      have cy_9_3 := cells4 Ry_9 3 _ rfl
      have S10 := box B9.size
      have Lx_10 : Box (w.heap.size < w9.heap.size) := box (Array.getElem?_eq_some_iff.1 Rx_9).1
      have Ly_10 : Box (w.heap.size + 1 < w9.heap.size) := box (Array.getElem?_eq_some_iff.1 Ry_9).1
      have Lp_10 : Box (w3.heap.size < w9.heap.size) := box (Array.getElem?_eq_some_iff.1 Rp_9).1
      have Lq_10 : Box (w5.heap.size < w9.heap.size) := box (Array.getElem?_eq_some_iff.1 Rq_9).1
      have B10 : Below w.heap.size w (w9.alloc (Obj.cells #[.bool pb, .string pu, .string pv, .int .i64 pe] 24)) := btr B9 (bal _ _)
      have Rx_10 : (w9.alloc (Obj.cells #[.bool pb, .string pu, .string pv, .int .i64 pe] 24)).heap[w.heap.size]? = some (Obj.cells #[.bool b0, .string s0, .string t0, .int .i64 e0] 24) := heap_of (bal _ _) _ _ _ Rx_9
      have Ry_10 : (w9.alloc (Obj.cells #[.bool pb, .string pu, .string pv, .int .i64 pe] 24)).heap[w.heap.size + 1]? = some (Obj.cells #[.bool vb1, .string vs1, .string vt1, .int .i64 ve1] 24) := heap_of (bal _ _) _ _ _ Ry_9
      have Rp_10 : (w9.alloc (Obj.cells #[.bool pb, .string pu, .string pv, .int .i64 pe] 24)).heap[w3.heap.size]? = some (Obj.cells #[.bool pb, .string pu, .string pv, .int .i64 pe] 24) := heap_of (bal _ _) _ _ _ Rp_9
      have Rq_10 : (w9.alloc (Obj.cells #[.bool pb, .string pu, .string pv, .int .i64 pe] 24)).heap[w5.heap.size]? = some (Obj.cells #[.bool qb, .string qu, .string qv, .int .i64 qe] 24) := heap_of (bal _ _) _ _ _ Rq_9
      have Rr_10 : (w9.alloc (Obj.cells #[.bool pb, .string pu, .string pv, .int .i64 pe] 24)).heap[w9.heap.size]? = some (Obj.cells #[.bool pb, .string pu, .string pv, .int .i64 pe] 24) := heap_alloc_last _ _
      clear B9 Rx_9 cx_9_0 cx_9_1 cx_9_2 cx_9_3 Ry_9 cy_9_0 cy_9_1 cy_9_2 cy_9_3 Rp_9 Rq_9
      have cx_10_0 := cells4 Rx_10 0 _ rfl
      have cx_10_1 := cells4 Rx_10 1 _ rfl
      have cx_10_2 := cells4 Rx_10 2 _ rfl
      have cx_10_3 := cells4 Rx_10 3 _ rfl
      have cy_10_0 := cells4 Ry_10 0 _ rfl
      have cy_10_1 := cells4 Ry_10 1 _ rfl
      have cy_10_2 := cells4 Ry_10 2 _ rfl
      have cy_10_3 := cells4 Ry_10 3 _ rfl
      have cr_10_0 := cells4 Rr_10 0 _ rfl
      have cr_10_1 := cells4 Rr_10 1 _ rfl
      have cr_10_2 := cells4 Rr_10 2 _ rfl
      have cr_10_3 := cells4 Rr_10 3 _ rfl
      clear cr_10_0 cr_10_1 cr_10_2 cr_10_3
      go_wp2_with fail
      refine (K4.out _).mono ?_
      rintro r w11 ⟨rfl, b11⟩
      have B11 : Below w.heap.size w w11 := btr B10 b11
      have Rx_11 : w11.heap[w.heap.size]? = some (Obj.cells #[.bool b0, .string s0, .string t0, .int .i64 e0] 24) := heap_of b11 _ _ _ Rx_10
      have Ry_11 : w11.heap[w.heap.size + 1]? = some (Obj.cells #[.bool vb1, .string vs1, .string vt1, .int .i64 ve1] 24) := heap_of b11 _ _ _ Ry_10
      have Rp_11 : w11.heap[w3.heap.size]? = some (Obj.cells #[.bool pb, .string pu, .string pv, .int .i64 pe] 24) := heap_of b11 _ _ _ Rp_10
      have Rq_11 : w11.heap[w5.heap.size]? = some (Obj.cells #[.bool qb, .string qu, .string qv, .int .i64 qe] 24) := heap_of b11 _ _ _ Rq_10
      have Rr_11 : w11.heap[w9.heap.size]? = some (Obj.cells #[.bool pb, .string pu, .string pv, .int .i64 pe] 24) := heap_of b11 _ _ _ Rr_10
      clear b11 B10 Rx_10 cx_10_0 cx_10_1 cx_10_2 cx_10_3 Ry_10 cy_10_0 cy_10_1 cy_10_2 cy_10_3 Rp_10 Rq_10 Rr_10
      have cx_11_0 := cells4 Rx_11 0 _ rfl
      have cx_11_1 := cells4 Rx_11 1 _ rfl
      have cx_11_2 := cells4 Rx_11 2 _ rfl
      have cx_11_3 := cells4 Rx_11 3 _ rfl
      have cy_11_0 := cells4 Ry_11 0 _ rfl
      have cy_11_1 := cells4 Ry_11 1 _ rfl
      have cy_11_2 := cells4 Ry_11 2 _ rfl
      have cy_11_3 := cells4 Ry_11 3 _ rfl
      have S12 := box B11.size
      have Lx_12 : Box (w.heap.size < w11.heap.size) := box (Array.getElem?_eq_some_iff.1 Rx_11).1
      have Ly_12 : Box (w.heap.size + 1 < w11.heap.size) := box (Array.getElem?_eq_some_iff.1 Ry_11).1
      have Lp_12 : Box (w3.heap.size < w11.heap.size) := box (Array.getElem?_eq_some_iff.1 Rp_11).1
      have Lq_12 : Box (w5.heap.size < w11.heap.size) := box (Array.getElem?_eq_some_iff.1 Rq_11).1
      have Lr_12 : Box (w9.heap.size < w11.heap.size) := box (Array.getElem?_eq_some_iff.1 Rr_11).1
      have B12 : Below w.heap.size w (w11.alloc (Obj.cells #[.bool qb, .string qu, .string qv, .int .i64 qe] 24)) := btr B11 (bal _ _)
      have Rx_12 : (w11.alloc (Obj.cells #[.bool qb, .string qu, .string qv, .int .i64 qe] 24)).heap[w.heap.size]? = some (Obj.cells #[.bool b0, .string s0, .string t0, .int .i64 e0] 24) := heap_of (bal _ _) _ _ _ Rx_11
      have Ry_12 : (w11.alloc (Obj.cells #[.bool qb, .string qu, .string qv, .int .i64 qe] 24)).heap[w.heap.size + 1]? = some (Obj.cells #[.bool vb1, .string vs1, .string vt1, .int .i64 ve1] 24) := heap_of (bal _ _) _ _ _ Ry_11
      have Rp_12 : (w11.alloc (Obj.cells #[.bool qb, .string qu, .string qv, .int .i64 qe] 24)).heap[w3.heap.size]? = some (Obj.cells #[.bool pb, .string pu, .string pv, .int .i64 pe] 24) := heap_of (bal _ _) _ _ _ Rp_11
      have Rq_12 : (w11.alloc (Obj.cells #[.bool qb, .string qu, .string qv, .int .i64 qe] 24)).heap[w5.heap.size]? = some (Obj.cells #[.bool qb, .string qu, .string qv, .int .i64 qe] 24) := heap_of (bal _ _) _ _ _ Rq_11
      have Rr_12 : (w11.alloc (Obj.cells #[.bool qb, .string qu, .string qv, .int .i64 qe] 24)).heap[w9.heap.size]? = some (Obj.cells #[.bool pb, .string pu, .string pv, .int .i64 pe] 24) := heap_of (bal _ _) _ _ _ Rr_11
      have Rs_12 : (w11.alloc (Obj.cells #[.bool qb, .string qu, .string qv, .int .i64 qe] 24)).heap[w11.heap.size]? = some (Obj.cells #[.bool qb, .string qu, .string qv, .int .i64 qe] 24) := heap_alloc_last _ _
      clear B11 Rx_11 cx_11_0 cx_11_1 cx_11_2 cx_11_3 Ry_11 cy_11_0 cy_11_1 cy_11_2 cy_11_3 Rp_11 Rq_11 Rr_11
      have cx_12_0 := cells4 Rx_12 0 _ rfl
      have cx_12_1 := cells4 Rx_12 1 _ rfl
      have cx_12_2 := cells4 Rx_12 2 _ rfl
      have cx_12_3 := cells4 Rx_12 3 _ rfl
      have cy_12_0 := cells4 Ry_12 0 _ rfl
      have cy_12_1 := cells4 Ry_12 1 _ rfl
      have cy_12_2 := cells4 Ry_12 2 _ rfl
      have cy_12_3 := cells4 Ry_12 3 _ rfl
      have cs_12_0 := cells4 Rs_12 0 _ rfl
      have cs_12_1 := cells4 Rs_12 1 _ rfl
      have cs_12_2 := cells4 Rs_12 2 _ rfl
      have cs_12_3 := cells4 Rs_12 3 _ rfl
      clear Rx_12 cx_12_0 cx_12_1 cx_12_2 cx_12_3
      clear Ry_12 cy_12_0 cy_12_1 cy_12_2 cy_12_3
      have cp_12_0 := cells4 Rp_12 0 _ rfl
      have cp_12_1 := cells4 Rp_12 1 _ rfl
      have cp_12_2 := cells4 Rp_12 2 _ rfl
      have cp_12_3 := cells4 Rp_12 3 _ rfl
      have cq_12_0 := cells4 Rq_12 0 _ rfl
      have cq_12_1 := cells4 Rq_12 1 _ rfl
      have cq_12_2 := cells4 Rq_12 2 _ rfl
      have cq_12_3 := cells4 Rq_12 3 _ rfl
      have cr_12_0 := cells4 Rr_12 0 _ rfl
      have cr_12_1 := cells4 Rr_12 1 _ rfl
      have cr_12_2 := cells4 Rr_12 2 _ rfl
      have cr_12_3 := cells4 Rr_12 3 _ rfl
      go_wp2_with fail
      refine (xalive _ (tabB TT.out B12)).mono ?_
      rintro r w13 ⟨rfl, b13⟩
      have B13 : Below w.heap.size w w13 := btr B12 b13
      have Rp_13 : w13.heap[w3.heap.size]? = some (Obj.cells #[.bool pb, .string pu, .string pv, .int .i64 pe] 24) := heap_of b13 _ _ _ Rp_12
      have Rq_13 : w13.heap[w5.heap.size]? = some (Obj.cells #[.bool qb, .string qu, .string qv, .int .i64 qe] 24) := heap_of b13 _ _ _ Rq_12
      have Rr_13 : w13.heap[w9.heap.size]? = some (Obj.cells #[.bool pb, .string pu, .string pv, .int .i64 pe] 24) := heap_of b13 _ _ _ Rr_12
      have Rs_13 : w13.heap[w11.heap.size]? = some (Obj.cells #[.bool qb, .string qu, .string qv, .int .i64 qe] 24) := heap_of b13 _ _ _ Rs_12
      clear b13 B12 Rp_12 cp_12_0 cp_12_1 cp_12_2 cp_12_3 Rq_12 cq_12_0 cq_12_1 cq_12_2 cq_12_3 Rr_12 cr_12_0 cr_12_1 cr_12_2 cr_12_3 Rs_12 cs_12_0 cs_12_1 cs_12_2 cs_12_3
      have cp_13_0 := cells4 Rp_13 0 _ rfl
      have cp_13_1 := cells4 Rp_13 1 _ rfl
      have cp_13_2 := cells4 Rp_13 2 _ rfl
      have cp_13_3 := cells4 Rp_13 3 _ rfl
      have cq_13_0 := cells4 Rq_13 0 _ rfl
      have cq_13_1 := cells4 Rq_13 1 _ rfl
      have cq_13_2 := cells4 Rq_13 2 _ rfl
      have cq_13_3 := cells4 Rq_13 3 _ rfl
      have cr_13_0 := cells4 Rr_13 0 _ rfl
      have cr_13_1 := cells4 Rr_13 1 _ rfl
      have cr_13_2 := cells4 Rr_13 2 _ rfl
      have cr_13_3 := cells4 Rr_13 3 _ rfl
      have cs_13_0 := cells4 Rs_13 0 _ rfl
      have cs_13_1 := cells4 Rs_13 1 _ rfl
      have cs_13_2 := cells4 Rs_13 2 _ rfl
      have cs_13_3 := cells4 Rs_13 3 _ rfl
      go_wp2
      go_ret
      exact ⟨rfl, B13⟩
    · have M1 : Box (IsM true b0 s0 t0 e0) := box ⟨fun _ => m1, fun _ => rfl⟩
      have M2 : Box (IsM false vb1 vs1 vt1 ve1) := box (may_no m2)
      have K1 := box (fun w hT => Mulx_no b0 e0 s0 t0 vb1 ve1 vs1 vt1 true false M1.out M2.out rfl w hT)
      have K2 := box (fun w hT => Quox_no b0 e0 s0 t0 vb1 ve1 vs1 vt1 true false M1.out M2.out rfl w hT)
      clear m1 m2
      have Rx_0 : ((w.alloc (Obj.cells #[.bool b0, .string s0, .string t0, .int .i64 e0] 24)).alloc (Obj.cells #[.bool vb1, .string vs1, .string vt1, .int .i64 ve1] 24)).heap[w.heap.size]? = some (Obj.cells #[.bool b0, .string s0, .string t0, .int .i64 e0] 24) := by rw [heap_below _ _ _ (by simp only [size_al]; omega)]; have := heap_alloc_last w (Obj.cells #[.bool b0, .string s0, .string t0, .int .i64 e0] 24); simpa only [size_al] using this
      have Ry_0 : ((w.alloc (Obj.cells #[.bool b0, .string s0, .string t0, .int .i64 e0] 24)).alloc (Obj.cells #[.bool vb1, .string vs1, .string vt1, .int .i64 ve1] 24)).heap[w.heap.size + 1]? = some (Obj.cells #[.bool vb1, .string vs1, .string vt1, .int .i64 ve1] 24) := by have := heap_alloc_last (w.alloc (Obj.cells #[.bool b0, .string s0, .string t0, .int .i64 e0] 24)) (Obj.cells #[.bool vb1, .string vs1, .string vt1, .int .i64 ve1] 24); simpa only [size_al] using this
      have B0 : Below w.heap.size w ((w.alloc (Obj.cells #[.bool b0, .string s0, .string t0, .int .i64 e0] 24)).alloc (Obj.cells #[.bool vb1, .string vs1, .string vt1, .int .i64 ve1] 24)) := (((Below.refl _ _).alloc (by first | omega | (simp only [size_al]; omega)) _).alloc (by first | omega | (simp only [size_al]; omega)) _)
      go_enter Tryd.func5, Tryd.ntmps5
      go_wp2_with fail
      refine (xshort b0 s0 t0 e0 60 60 true rfl HO.out _).mono ?_
      rintro r w1 ⟨rfl, b1⟩
      have B1 : Below w.heap.size w w1 := btr B0 b1
      have Rx_1 : w1.heap[w.heap.size]? = some (Obj.cells #[.bool b0, .string s0, .string t0, .int .i64 e0] 24) := heap_of b1 _ _ _ Rx_0
      have Ry_1 : w1.heap[w.heap.size + 1]? = some (Obj.cells #[.bool vb1, .string vs1, .string vt1, .int .i64 ve1] 24) := heap_of b1 _ _ _ Ry_0
      clear b1 B0 Rx_0 Ry_0
      have cx_1_0 := cells4 Rx_1 0 _ rfl
      have cx_1_1 := cells4 Rx_1 1 _ rfl
      have cx_1_2 := cells4 Rx_1 2 _ rfl
      have cx_1_3 := cells4 Rx_1 3 _ rfl
      have cy_1_0 := cells4 Ry_1 0 _ rfl
      have cy_1_1 := cells4 Ry_1 1 _ rfl
      have cy_1_2 := cells4 Ry_1 2 _ rfl
      have cy_1_3 := cells4 Ry_1 3 _ rfl
      go_wp2_with fail
      refine (xshort vb1 vs1 vt1 ve1 60 60 true rfl HP.out _).mono ?_
      rintro r w2 ⟨rfl, b2⟩
      have B2 : Below w.heap.size w w2 := btr B1 b2
      have Rx_2 : w2.heap[w.heap.size]? = some (Obj.cells #[.bool b0, .string s0, .string t0, .int .i64 e0] 24) := heap_of b2 _ _ _ Rx_1
      have Ry_2 : w2.heap[w.heap.size + 1]? = some (Obj.cells #[.bool vb1, .string vs1, .string vt1, .int .i64 ve1] 24) := heap_of b2 _ _ _ Ry_1
      clear b2 B1 Rx_1 cx_1_0 cx_1_1 cx_1_2 cx_1_3 Ry_1 cy_1_0 cy_1_1 cy_1_2 cy_1_3
      have cx_2_0 := cells4 Rx_2 0 _ rfl
      have cx_2_1 := cells4 Rx_2 1 _ rfl
      have cx_2_2 := cells4 Rx_2 2 _ rfl
      have cx_2_3 := cells4 Rx_2 3 _ rfl
      have cy_2_0 := cells4 Ry_2 0 _ rfl
      have cy_2_1 := cells4 Ry_2 1 _ rfl
      have cy_2_2 := cells4 Ry_2 2 _ rfl
      have cy_2_3 := cells4 Ry_2 3 _ rfl
      go_wp2_with fail
      refine (K1.out _ (tabB TT.out B2)).mono ?_
      rintro r w3 ⟨rfl, b3⟩
      have B3 : Below w.heap.size w w3 := btr B2 b3
      have Rx_3 : w3.heap[w.heap.size]? = some (Obj.cells #[.bool b0, .string s0, .string t0, .int .i64 e0] 24) := heap_of b3 _ _ _ Rx_2
      have Ry_3 : w3.heap[w.heap.size + 1]? = some (Obj.cells #[.bool vb1, .string vs1, .string vt1, .int .i64 ve1] 24) := heap_of b3 _ _ _ Ry_2
      clear b3 B2 Rx_2 cx_2_0 cx_2_1 cx_2_2 cx_2_3 Ry_2 cy_2_0 cy_2_1 cy_2_2 cy_2_3
      have cx_3_0 := cells4 Rx_3 0 _ rfl
      have cx_3_1 := cells4 Rx_3 1 _ rfl
      have cx_3_2 := cells4 Rx_3 2 _ rfl
      have cx_3_3 := cells4 Rx_3 3 _ rfl
      have cy_3_0 := cells4 Ry_3 0 _ rfl
      have cy_3_1 := cells4 Ry_3 1 _ rfl
      have cy_3_2 := cells4 Ry_3 2 _ rfl
      have cy_3_3 := cells4 Ry_3 3 _ rfl
      have S4 := box B3.size
      have Lx_4 : Box (w.heap.size < w3.heap.size) := box (Array.getElem?_eq_some_iff.1 Rx_3).1
      have Ly_4 : Box (w.heap.size + 1 < w3.heap.size) := box (Array.getElem?_eq_some_iff.1 Ry_3).1
      have B4 : Below w.heap.size w (w3.alloc (Obj.cells #[.bool false, .string ⟨#[]⟩, .string ⟨#[]⟩, .int .i64 0] 24)) := btr B3 (bal _ _)
      have Rx_4 : (w3.alloc (Obj.cells #[.bool false, .string ⟨#[]⟩, .string ⟨#[]⟩, .int .i64 0] 24)).heap[w.heap.size]? = some (Obj.cells #[.bool b0, .string s0, .string t0, .int .i64 e0] 24) := heap_of (bal _ _) _ _ _ Rx_3
      have Ry_4 : (w3.alloc (Obj.cells #[.bool false, .string ⟨#[]⟩, .string ⟨#[]⟩, .int .i64 0] 24)).heap[w.heap.size + 1]? = some (Obj.cells #[.bool vb1, .string vs1, .string vt1, .int .i64 ve1] 24) := heap_of (bal _ _) _ _ _ Ry_3
      have Rp_4 : (w3.alloc (Obj.cells #[.bool false, .string ⟨#[]⟩, .string ⟨#[]⟩, .int .i64 0] 24)).heap[w3.heap.size]? = some (Obj.cells #[.bool false, .string ⟨#[]⟩, .string ⟨#[]⟩, .int .i64 0] 24) := heap_alloc_last _ _
      clear B3 Rx_3 cx_3_0 cx_3_1 cx_3_2 cx_3_3 Ry_3 cy_3_0 cy_3_1 cy_3_2 cy_3_3
      have cx_4_0 := cells4 Rx_4 0 _ rfl
      have cx_4_1 := cells4 Rx_4 1 _ rfl
      have cx_4_2 := cells4 Rx_4 2 _ rfl
      have cx_4_3 := cells4 Rx_4 3 _ rfl
      have cy_4_0 := cells4 Ry_4 0 _ rfl
      have cy_4_1 := cells4 Ry_4 1 _ rfl
      have cy_4_2 := cells4 Ry_4 2 _ rfl
      have cy_4_3 := cells4 Ry_4 3 _ rfl
      have cp_4_0 := cells4 Rp_4 0 _ rfl
      have cp_4_1 := cells4 Rp_4 1 _ rfl
      have cp_4_2 := cells4 Rp_4 2 _ rfl
      have cp_4_3 := cells4 Rp_4 3 _ rfl
      clear cp_4_0 cp_4_1 cp_4_2 cp_4_3
      go_wp2_with fail
      refine (K2.out _ (tabB TT.out B4)).mono ?_
      rintro r w5 ⟨rfl, b5⟩
      have B5 : Below w.heap.size w w5 := btr B4 b5
      have Rx_5 : w5.heap[w.heap.size]? = some (Obj.cells #[.bool b0, .string s0, .string t0, .int .i64 e0] 24) := heap_of b5 _ _ _ Rx_4
      have Ry_5 : w5.heap[w.heap.size + 1]? = some (Obj.cells #[.bool vb1, .string vs1, .string vt1, .int .i64 ve1] 24) := heap_of b5 _ _ _ Ry_4
      have Rp_5 : w5.heap[w3.heap.size]? = some (Obj.cells #[.bool false, .string ⟨#[]⟩, .string ⟨#[]⟩, .int .i64 0] 24) := heap_of b5 _ _ _ Rp_4
      clear b5 B4 Rx_4 cx_4_0 cx_4_1 cx_4_2 cx_4_3 Ry_4 cy_4_0 cy_4_1 cy_4_2 cy_4_3 Rp_4
      have cx_5_0 := cells4 Rx_5 0 _ rfl
      have cx_5_1 := cells4 Rx_5 1 _ rfl
      have cx_5_2 := cells4 Rx_5 2 _ rfl
      have cx_5_3 := cells4 Rx_5 3 _ rfl
      have cy_5_0 := cells4 Ry_5 0 _ rfl
      have cy_5_1 := cells4 Ry_5 1 _ rfl
      have cy_5_2 := cells4 Ry_5 2 _ rfl
      have cy_5_3 := cells4 Ry_5 3 _ rfl
      have S6 := box B5.size
      have Lx_6 : Box (w.heap.size < w5.heap.size) := box (Array.getElem?_eq_some_iff.1 Rx_5).1
      have Ly_6 : Box (w.heap.size + 1 < w5.heap.size) := box (Array.getElem?_eq_some_iff.1 Ry_5).1
      have Lp_6 : Box (w3.heap.size < w5.heap.size) := box (Array.getElem?_eq_some_iff.1 Rp_5).1
      have B6 : Below w.heap.size w (w5.alloc (Obj.cells #[.bool false, .string ⟨#[]⟩, .string ⟨#[]⟩, .int .i64 0] 24)) := btr B5 (bal _ _)
      have Rx_6 : (w5.alloc (Obj.cells #[.bool false, .string ⟨#[]⟩, .string ⟨#[]⟩, .int .i64 0] 24)).heap[w.heap.size]? = some (Obj.cells #[.bool b0, .string s0, .string t0, .int .i64 e0] 24) := heap_of (bal _ _) _ _ _ Rx_5
      have Ry_6 : (w5.alloc (Obj.cells #[.bool false, .string ⟨#[]⟩, .string ⟨#[]⟩, .int .i64 0] 24)).heap[w.heap.size + 1]? = some (Obj.cells #[.bool vb1, .string vs1, .string vt1, .int .i64 ve1] 24) := heap_of (bal _ _) _ _ _ Ry_5
      have Rp_6 : (w5.alloc (Obj.cells #[.bool false, .string ⟨#[]⟩, .string ⟨#[]⟩, .int .i64 0] 24)).heap[w3.heap.size]? = some (Obj.cells #[.bool false, .string ⟨#[]⟩, .string ⟨#[]⟩, .int .i64 0] 24) := heap_of (bal _ _) _ _ _ Rp_5
      have Rq_6 : (w5.alloc (Obj.cells #[.bool false, .string ⟨#[]⟩, .string ⟨#[]⟩, .int .i64 0] 24)).heap[w5.heap.size]? = some (Obj.cells #[.bool false, .string ⟨#[]⟩, .string ⟨#[]⟩, .int .i64 0] 24) := heap_alloc_last _ _
      clear B5 Rx_5 cx_5_0 cx_5_1 cx_5_2 cx_5_3 Ry_5 cy_5_0 cy_5_1 cy_5_2 cy_5_3 Rp_5
      have cx_6_0 := cells4 Rx_6 0 _ rfl
      have cx_6_1 := cells4 Rx_6 1 _ rfl
      have cx_6_2 := cells4 Rx_6 2 _ rfl
      have cx_6_3 := cells4 Rx_6 3 _ rfl
      have cy_6_0 := cells4 Ry_6 0 _ rfl
      have cy_6_1 := cells4 Ry_6 1 _ rfl
      have cy_6_2 := cells4 Ry_6 2 _ rfl
      have cy_6_3 := cells4 Ry_6 3 _ rfl
      have cq_6_0 := cells4 Rq_6 0 _ rfl
      have cq_6_1 := cells4 Rq_6 1 _ rfl
      have cq_6_2 := cells4 Rq_6 2 _ rfl
      have cq_6_3 := cells4 Rq_6 3 _ rfl
      clear cq_6_0 cq_6_1 cq_6_2 cq_6_3
      go_wp2_with fail
      refine (xmayM b0 s0 t0 e0 true M1.out _).mono ?_
      rintro r w7 ⟨rfl, b7⟩
      have B7 : Below w.heap.size w w7 := btr B6 b7
      have Rx_7 : w7.heap[w.heap.size]? = some (Obj.cells #[.bool b0, .string s0, .string t0, .int .i64 e0] 24) := heap_of b7 _ _ _ Rx_6
      have Ry_7 : w7.heap[w.heap.size + 1]? = some (Obj.cells #[.bool vb1, .string vs1, .string vt1, .int .i64 ve1] 24) := heap_of b7 _ _ _ Ry_6
      have Rp_7 : w7.heap[w3.heap.size]? = some (Obj.cells #[.bool false, .string ⟨#[]⟩, .string ⟨#[]⟩, .int .i64 0] 24) := heap_of b7 _ _ _ Rp_6
      have Rq_7 : w7.heap[w5.heap.size]? = some (Obj.cells #[.bool false, .string ⟨#[]⟩, .string ⟨#[]⟩, .int .i64 0] 24) := heap_of b7 _ _ _ Rq_6
      clear b7 B6 Rx_6 cx_6_0 cx_6_1 cx_6_2 cx_6_3 Ry_6 cy_6_0 cy_6_1 cy_6_2 cy_6_3 Rp_6 Rq_6
      have cx_7_0 := cells4 Rx_7 0 _ rfl
      have cx_7_1 := cells4 Rx_7 1 _ rfl
      have cx_7_2 := cells4 Rx_7 2 _ rfl
      have cx_7_3 := cells4 Rx_7 3 _ rfl
      have cy_7_0 := cells4 Ry_7 0 _ rfl
      have cy_7_1 := cells4 Ry_7 1 _ rfl
      have cy_7_2 := cells4 Ry_7 2 _ rfl
      have cy_7_3 := cells4 Ry_7 3 _ rfl
      go_wp2_with fail
      refine (xmayM vb1 vs1 vt1 ve1 false M2.out _).mono ?_
      rintro r w8 ⟨rfl, b8⟩
      have B8 : Below w.heap.size w w8 := btr B7 b8
      have Rx_8 : w8.heap[w.heap.size]? = some (Obj.cells #[.bool b0, .string s0, .string t0, .int .i64 e0] 24) := heap_of b8 _ _ _ Rx_7
      have Ry_8 : w8.heap[w.heap.size + 1]? = some (Obj.cells #[.bool vb1, .string vs1, .string vt1, .int .i64 ve1] 24) := heap_of b8 _ _ _ Ry_7
      have Rp_8 : w8.heap[w3.heap.size]? = some (Obj.cells #[.bool false, .string ⟨#[]⟩, .string ⟨#[]⟩, .int .i64 0] 24) := heap_of b8 _ _ _ Rp_7
      have Rq_8 : w8.heap[w5.heap.size]? = some (Obj.cells #[.bool false, .string ⟨#[]⟩, .string ⟨#[]⟩, .int .i64 0] 24) := heap_of b8 _ _ _ Rq_7
      clear b8 B7 Rx_7 cx_7_0 cx_7_1 cx_7_2 cx_7_3 Ry_7 cy_7_0 cy_7_1 cy_7_2 cy_7_3 Rp_7 Rq_7
      have cx_8_0 := cells4 Rx_8 0 _ rfl
      have cx_8_1 := cells4 Rx_8 1 _ rfl
      have cx_8_2 := cells4 Rx_8 2 _ rfl
      have cx_8_3 := cells4 Rx_8 3 _ rfl
      have cy_8_0 := cells4 Ry_8 0 _ rfl
      have cy_8_1 := cells4 Ry_8 1 _ rfl
      have cy_8_2 := cells4 Ry_8 2 _ rfl
      have cy_8_3 := cells4 Ry_8 3 _ rfl
      clear Rx_8 cx_8_0 cx_8_1 cx_8_2 cx_8_3
      clear Ry_8 cy_8_0 cy_8_1 cy_8_2 cy_8_3
      have cp_8_0 := cells4 Rp_8 0 _ rfl
      have cp_8_1 := cells4 Rp_8 1 _ rfl
      have cp_8_2 := cells4 Rp_8 2 _ rfl
      have cp_8_3 := cells4 Rp_8 3 _ rfl
      have cq_8_0 := cells4 Rq_8 0 _ rfl
      have cq_8_1 := cells4 Rq_8 1 _ rfl
      have cq_8_2 := cells4 Rq_8 2 _ rfl
      have cq_8_3 := cells4 Rq_8 3 _ rfl
      go_wp2_with fail
      refine (xalive _ (tabB TT.out B8)).mono ?_
      rintro r w9 ⟨rfl, b9⟩
      have B9 : Below w.heap.size w w9 := btr B8 b9
      have Rp_9 : w9.heap[w3.heap.size]? = some (Obj.cells #[.bool false, .string ⟨#[]⟩, .string ⟨#[]⟩, .int .i64 0] 24) := heap_of b9 _ _ _ Rp_8
      have Rq_9 : w9.heap[w5.heap.size]? = some (Obj.cells #[.bool false, .string ⟨#[]⟩, .string ⟨#[]⟩, .int .i64 0] 24) := heap_of b9 _ _ _ Rq_8
      clear b9 B8 Rp_8 cp_8_0 cp_8_1 cp_8_2 cp_8_3 Rq_8 cq_8_0 cq_8_1 cq_8_2 cq_8_3
      have cp_9_0 := cells4 Rp_9 0 _ rfl
      have cp_9_1 := cells4 Rp_9 1 _ rfl
      have cp_9_2 := cells4 Rp_9 2 _ rfl
      have cp_9_3 := cells4 Rp_9 3 _ rfl
      have cq_9_0 := cells4 Rq_9 0 _ rfl
      have cq_9_1 := cells4 Rq_9 1 _ rfl
      have cq_9_2 := cells4 Rq_9 2 _ rfl
      have cq_9_3 := cells4 Rq_9 3 _ rfl
      go_wp2
      go_ret
      exact ⟨rfl, B9⟩
  · have M1 : Box (IsM false b0 s0 t0 e0) := box (may_no m1)
    obtain ⟨o2, M2⟩ : ∃ o2, Box (IsM o2 vb1 vs1 vt1 ve1) := by
      by_cases m2 : MayX vb1 vs1 vt1 ve1
      · exact ⟨true, box ⟨fun _ => m2, fun _ => rfl⟩⟩
      · exact ⟨false, box (may_no m2)⟩
    have K1 := box (fun w hT => Mulx_no b0 e0 s0 t0 vb1 ve1 vs1 vt1 false o2 M1.out M2.out rfl w hT)
    have K2 := box (fun w hT => Quox_no b0 e0 s0 t0 vb1 ve1 vs1 vt1 false o2 M1.out M2.out rfl w hT)
    clear m1
    have Rx_0 : ((w.alloc (Obj.cells #[.bool b0, .string s0, .string t0, .int .i64 e0] 24)).alloc (Obj.cells #[.bool vb1, .string vs1, .string vt1, .int .i64 ve1] 24)).heap[w.heap.size]? = some (Obj.cells #[.bool b0, .string s0, .string t0, .int .i64 e0] 24) := by rw [heap_below _ _ _ (by simp only [size_al]; omega)]; have := heap_alloc_last w (Obj.cells #[.bool b0, .string s0, .string t0, .int .i64 e0] 24); simpa only [size_al] using this
    have Ry_0 : ((w.alloc (Obj.cells #[.bool b0, .string s0, .string t0, .int .i64 e0] 24)).alloc (Obj.cells #[.bool vb1, .string vs1, .string vt1, .int .i64 ve1] 24)).heap[w.heap.size + 1]? = some (Obj.cells #[.bool vb1, .string vs1, .string vt1, .int .i64 ve1] 24) := by have := heap_alloc_last (w.alloc (Obj.cells #[.bool b0, .string s0, .string t0, .int .i64 e0] 24)) (Obj.cells #[.bool vb1, .string vs1, .string vt1, .int .i64 ve1] 24); simpa only [size_al] using this
    have B0 : Below w.heap.size w ((w.alloc (Obj.cells #[.bool b0, .string s0, .string t0, .int .i64 e0] 24)).alloc (Obj.cells #[.bool vb1, .string vs1, .string vt1, .int .i64 ve1] 24)) := (((Below.refl _ _).alloc (by first | omega | (simp only [size_al]; omega)) _).alloc (by first | omega | (simp only [size_al]; omega)) _)
    go_enter Tryd.func5, Tryd.ntmps5
    go_wp2_with fail
    refine (xshort b0 s0 t0 e0 60 60 true rfl HO.out _).mono ?_
    rintro r w1 ⟨rfl, b1⟩
    have B1 : Below w.heap.size w w1 := btr B0 b1
    have Rx_1 : w1.heap[w.heap.size]? = some (Obj.cells #[.bool b0, .string s0, .string t0, .int .i64 e0] 24) := heap_of b1 _ _ _ Rx_0
    have Ry_1 : w1.heap[w.heap.size + 1]? = some (Obj.cells #[.bool vb1, .string vs1, .string vt1, .int .i64 ve1] 24) := heap_of b1 _ _ _ Ry_0
    clear b1 B0 Rx_0 Ry_0
    have cx_1_0 := cells4 Rx_1 0 _ rfl
    have cx_1_1 := cells4 Rx_1 1 _ rfl
    have cx_1_2 := cells4 Rx_1 2 _ rfl
    have cx_1_3 := cells4 Rx_1 3 _ rfl
    have cy_1_0 := cells4 Ry_1 0 _ rfl
    have cy_1_1 := cells4 Ry_1 1 _ rfl
    have cy_1_2 := cells4 Ry_1 2 _ rfl
    have cy_1_3 := cells4 Ry_1 3 _ rfl
    go_wp2_with fail
    refine (xshort vb1 vs1 vt1 ve1 60 60 true rfl HP.out _).mono ?_
    rintro r w2 ⟨rfl, b2⟩
    have B2 : Below w.heap.size w w2 := btr B1 b2
    have Rx_2 : w2.heap[w.heap.size]? = some (Obj.cells #[.bool b0, .string s0, .string t0, .int .i64 e0] 24) := heap_of b2 _ _ _ Rx_1
    have Ry_2 : w2.heap[w.heap.size + 1]? = some (Obj.cells #[.bool vb1, .string vs1, .string vt1, .int .i64 ve1] 24) := heap_of b2 _ _ _ Ry_1
    clear b2 B1 Rx_1 cx_1_0 cx_1_1 cx_1_2 cx_1_3 Ry_1 cy_1_0 cy_1_1 cy_1_2 cy_1_3
    have cx_2_0 := cells4 Rx_2 0 _ rfl
    have cx_2_1 := cells4 Rx_2 1 _ rfl
    have cx_2_2 := cells4 Rx_2 2 _ rfl
    have cx_2_3 := cells4 Rx_2 3 _ rfl
    have cy_2_0 := cells4 Ry_2 0 _ rfl
    have cy_2_1 := cells4 Ry_2 1 _ rfl
    have cy_2_2 := cells4 Ry_2 2 _ rfl
    have cy_2_3 := cells4 Ry_2 3 _ rfl
    go_wp2_with fail
    refine (K1.out _ (tabB TT.out B2)).mono ?_
    rintro r w3 ⟨rfl, b3⟩
    have B3 : Below w.heap.size w w3 := btr B2 b3
    have Rx_3 : w3.heap[w.heap.size]? = some (Obj.cells #[.bool b0, .string s0, .string t0, .int .i64 e0] 24) := heap_of b3 _ _ _ Rx_2
    have Ry_3 : w3.heap[w.heap.size + 1]? = some (Obj.cells #[.bool vb1, .string vs1, .string vt1, .int .i64 ve1] 24) := heap_of b3 _ _ _ Ry_2
    clear b3 B2 Rx_2 cx_2_0 cx_2_1 cx_2_2 cx_2_3 Ry_2 cy_2_0 cy_2_1 cy_2_2 cy_2_3
    have cx_3_0 := cells4 Rx_3 0 _ rfl
    have cx_3_1 := cells4 Rx_3 1 _ rfl
    have cx_3_2 := cells4 Rx_3 2 _ rfl
    have cx_3_3 := cells4 Rx_3 3 _ rfl
    have cy_3_0 := cells4 Ry_3 0 _ rfl
    have cy_3_1 := cells4 Ry_3 1 _ rfl
    have cy_3_2 := cells4 Ry_3 2 _ rfl
    have cy_3_3 := cells4 Ry_3 3 _ rfl
    have S4 := box B3.size
    have Lx_4 : Box (w.heap.size < w3.heap.size) := box (Array.getElem?_eq_some_iff.1 Rx_3).1
    have Ly_4 : Box (w.heap.size + 1 < w3.heap.size) := box (Array.getElem?_eq_some_iff.1 Ry_3).1
    have B4 : Below w.heap.size w (w3.alloc (Obj.cells #[.bool false, .string ⟨#[]⟩, .string ⟨#[]⟩, .int .i64 0] 24)) := btr B3 (bal _ _)
    have Rx_4 : (w3.alloc (Obj.cells #[.bool false, .string ⟨#[]⟩, .string ⟨#[]⟩, .int .i64 0] 24)).heap[w.heap.size]? = some (Obj.cells #[.bool b0, .string s0, .string t0, .int .i64 e0] 24) := heap_of (bal _ _) _ _ _ Rx_3
    have Ry_4 : (w3.alloc (Obj.cells #[.bool false, .string ⟨#[]⟩, .string ⟨#[]⟩, .int .i64 0] 24)).heap[w.heap.size + 1]? = some (Obj.cells #[.bool vb1, .string vs1, .string vt1, .int .i64 ve1] 24) := heap_of (bal _ _) _ _ _ Ry_3
    have Rp_4 : (w3.alloc (Obj.cells #[.bool false, .string ⟨#[]⟩, .string ⟨#[]⟩, .int .i64 0] 24)).heap[w3.heap.size]? = some (Obj.cells #[.bool false, .string ⟨#[]⟩, .string ⟨#[]⟩, .int .i64 0] 24) := heap_alloc_last _ _
    clear B3 Rx_3 cx_3_0 cx_3_1 cx_3_2 cx_3_3 Ry_3 cy_3_0 cy_3_1 cy_3_2 cy_3_3
    have cx_4_0 := cells4 Rx_4 0 _ rfl
    have cx_4_1 := cells4 Rx_4 1 _ rfl
    have cx_4_2 := cells4 Rx_4 2 _ rfl
    have cx_4_3 := cells4 Rx_4 3 _ rfl
    have cy_4_0 := cells4 Ry_4 0 _ rfl
    have cy_4_1 := cells4 Ry_4 1 _ rfl
    have cy_4_2 := cells4 Ry_4 2 _ rfl
    have cy_4_3 := cells4 Ry_4 3 _ rfl
    have cp_4_0 := cells4 Rp_4 0 _ rfl
    have cp_4_1 := cells4 Rp_4 1 _ rfl
    have cp_4_2 := cells4 Rp_4 2 _ rfl
    have cp_4_3 := cells4 Rp_4 3 _ rfl
    clear cp_4_0 cp_4_1 cp_4_2 cp_4_3
    go_wp2_with fail
    refine (K2.out _ (tabB TT.out B4)).mono ?_
    rintro r w5 ⟨rfl, b5⟩
    have B5 : Below w.heap.size w w5 := btr B4 b5
    have Rx_5 : w5.heap[w.heap.size]? = some (Obj.cells #[.bool b0, .string s0, .string t0, .int .i64 e0] 24) := heap_of b5 _ _ _ Rx_4
    have Ry_5 : w5.heap[w.heap.size + 1]? = some (Obj.cells #[.bool vb1, .string vs1, .string vt1, .int .i64 ve1] 24) := heap_of b5 _ _ _ Ry_4
    have Rp_5 : w5.heap[w3.heap.size]? = some (Obj.cells #[.bool false, .string ⟨#[]⟩, .string ⟨#[]⟩, .int .i64 0] 24) := heap_of b5 _ _ _ Rp_4
    clear b5 B4 Rx_4 cx_4_0 cx_4_1 cx_4_2 cx_4_3 Ry_4 cy_4_0 cy_4_1 cy_4_2 cy_4_3 Rp_4
    have cx_5_0 := cells4 Rx_5 0 _ rfl
    have cx_5_1 := cells4 Rx_5 1 _ rfl
    have cx_5_2 := cells4 Rx_5 2 _ rfl
    have cx_5_3 := cells4 Rx_5 3 _ rfl
    have cy_5_0 := cells4 Ry_5 0 _ rfl
    have cy_5_1 := cells4 Ry_5 1 _ rfl
    have cy_5_2 := cells4 Ry_5 2 _ rfl
    have cy_5_3 := cells4 Ry_5 3 _ rfl
    have S6 := box B5.size
    have Lx_6 : Box (w.heap.size < w5.heap.size) := box (Array.getElem?_eq_some_iff.1 Rx_5).1
    have Ly_6 : Box (w.heap.size + 1 < w5.heap.size) := box (Array.getElem?_eq_some_iff.1 Ry_5).1
    have Lp_6 : Box (w3.heap.size < w5.heap.size) := box (Array.getElem?_eq_some_iff.1 Rp_5).1
    have B6 : Below w.heap.size w (w5.alloc (Obj.cells #[.bool false, .string ⟨#[]⟩, .string ⟨#[]⟩, .int .i64 0] 24)) := btr B5 (bal _ _)
    have Rx_6 : (w5.alloc (Obj.cells #[.bool false, .string ⟨#[]⟩, .string ⟨#[]⟩, .int .i64 0] 24)).heap[w.heap.size]? = some (Obj.cells #[.bool b0, .string s0, .string t0, .int .i64 e0] 24) := heap_of (bal _ _) _ _ _ Rx_5
    have Ry_6 : (w5.alloc (Obj.cells #[.bool false, .string ⟨#[]⟩, .string ⟨#[]⟩, .int .i64 0] 24)).heap[w.heap.size + 1]? = some (Obj.cells #[.bool vb1, .string vs1, .string vt1, .int .i64 ve1] 24) := heap_of (bal _ _) _ _ _ Ry_5
    have Rp_6 : (w5.alloc (Obj.cells #[.bool false, .string ⟨#[]⟩, .string ⟨#[]⟩, .int .i64 0] 24)).heap[w3.heap.size]? = some (Obj.cells #[.bool false, .string ⟨#[]⟩, .string ⟨#[]⟩, .int .i64 0] 24) := heap_of (bal _ _) _ _ _ Rp_5
    have Rq_6 : (w5.alloc (Obj.cells #[.bool false, .string ⟨#[]⟩, .string ⟨#[]⟩, .int .i64 0] 24)).heap[w5.heap.size]? = some (Obj.cells #[.bool false, .string ⟨#[]⟩, .string ⟨#[]⟩, .int .i64 0] 24) := heap_alloc_last _ _
    clear B5 Rx_5 cx_5_0 cx_5_1 cx_5_2 cx_5_3 Ry_5 cy_5_0 cy_5_1 cy_5_2 cy_5_3 Rp_5
    have cx_6_0 := cells4 Rx_6 0 _ rfl
    have cx_6_1 := cells4 Rx_6 1 _ rfl
    have cx_6_2 := cells4 Rx_6 2 _ rfl
    have cx_6_3 := cells4 Rx_6 3 _ rfl
    have cy_6_0 := cells4 Ry_6 0 _ rfl
    have cy_6_1 := cells4 Ry_6 1 _ rfl
    have cy_6_2 := cells4 Ry_6 2 _ rfl
    have cy_6_3 := cells4 Ry_6 3 _ rfl
    have cq_6_0 := cells4 Rq_6 0 _ rfl
    have cq_6_1 := cells4 Rq_6 1 _ rfl
    have cq_6_2 := cells4 Rq_6 2 _ rfl
    have cq_6_3 := cells4 Rq_6 3 _ rfl
    clear cq_6_0 cq_6_1 cq_6_2 cq_6_3
    go_wp2_with fail
    refine (xmayM b0 s0 t0 e0 false M1.out _).mono ?_
    rintro r w7 ⟨rfl, b7⟩
    have B7 : Below w.heap.size w w7 := btr B6 b7
    have Rx_7 : w7.heap[w.heap.size]? = some (Obj.cells #[.bool b0, .string s0, .string t0, .int .i64 e0] 24) := heap_of b7 _ _ _ Rx_6
    have Ry_7 : w7.heap[w.heap.size + 1]? = some (Obj.cells #[.bool vb1, .string vs1, .string vt1, .int .i64 ve1] 24) := heap_of b7 _ _ _ Ry_6
    have Rp_7 : w7.heap[w3.heap.size]? = some (Obj.cells #[.bool false, .string ⟨#[]⟩, .string ⟨#[]⟩, .int .i64 0] 24) := heap_of b7 _ _ _ Rp_6
    have Rq_7 : w7.heap[w5.heap.size]? = some (Obj.cells #[.bool false, .string ⟨#[]⟩, .string ⟨#[]⟩, .int .i64 0] 24) := heap_of b7 _ _ _ Rq_6
    clear b7 B6 Rx_6 cx_6_0 cx_6_1 cx_6_2 cx_6_3 Ry_6 cy_6_0 cy_6_1 cy_6_2 cy_6_3 Rp_6 Rq_6
    have cx_7_0 := cells4 Rx_7 0 _ rfl
    have cx_7_1 := cells4 Rx_7 1 _ rfl
    have cx_7_2 := cells4 Rx_7 2 _ rfl
    have cx_7_3 := cells4 Rx_7 3 _ rfl
    have cy_7_0 := cells4 Ry_7 0 _ rfl
    have cy_7_1 := cells4 Ry_7 1 _ rfl
    have cy_7_2 := cells4 Ry_7 2 _ rfl
    have cy_7_3 := cells4 Ry_7 3 _ rfl
    clear Rx_7 cx_7_0 cx_7_1 cx_7_2 cx_7_3
    clear Ry_7 cy_7_0 cy_7_1 cy_7_2 cy_7_3
    have cp_7_0 := cells4 Rp_7 0 _ rfl
    have cp_7_1 := cells4 Rp_7 1 _ rfl
    have cp_7_2 := cells4 Rp_7 2 _ rfl
    have cp_7_3 := cells4 Rp_7 3 _ rfl
    have cq_7_0 := cells4 Rq_7 0 _ rfl
    have cq_7_1 := cells4 Rq_7 1 _ rfl
    have cq_7_2 := cells4 Rq_7 2 _ rfl
    have cq_7_3 := cells4 Rq_7 3 _ rfl
    go_wp2_with fail
    refine (xalive _ (tabB TT.out B7)).mono ?_
    rintro r w8 ⟨rfl, b8⟩
    have B8 : Below w.heap.size w w8 := btr B7 b8
    have Rp_8 : w8.heap[w3.heap.size]? = some (Obj.cells #[.bool false, .string ⟨#[]⟩, .string ⟨#[]⟩, .int .i64 0] 24) := heap_of b8 _ _ _ Rp_7
    have Rq_8 : w8.heap[w5.heap.size]? = some (Obj.cells #[.bool false, .string ⟨#[]⟩, .string ⟨#[]⟩, .int .i64 0] 24) := heap_of b8 _ _ _ Rq_7
    clear b8 B7 Rp_7 cp_7_0 cp_7_1 cp_7_2 cp_7_3 Rq_7 cq_7_0 cq_7_1 cq_7_2 cq_7_3
    have cp_8_0 := cells4 Rp_8 0 _ rfl
    have cp_8_1 := cells4 Rp_8 1 _ rfl
    have cp_8_2 := cells4 Rp_8 2 _ rfl
    have cp_8_3 := cells4 Rp_8 3 _ rfl
    have cq_8_0 := cells4 Rq_8 0 _ rfl
    have cq_8_1 := cells4 Rq_8 1 _ rfl
    have cq_8_2 := cells4 Rq_8 2 _ rfl
    have cq_8_3 := cells4 Rq_8 3 _ rfl
    go_wp2
    go_ret
    exact ⟨rfl, B8⟩

def tabZ : List Int := [0, 1, 56, 2, 57, 49, 28, 3, 61, 58, 42, 50, 38, 29, 17, 4, 62, 47, 59, 36, 45, 43, 51, 22, 53, 39, 33, 30, 24, 18, 12, 5, 63, 55, 48, 27, 60, 41, 37, 16, 46, 35, 44, 21, 52, 32, 23, 11, 54, 26, 40, 15, 34, 20, 31, 10, 25, 14, 19, 9, 13, 8, 7, 6]
def laid1 : List (String × DataW Unit) := [("math/bits.deBruijn64tab", Rows.laid_math_bits_deBruijn64tab)]
theorem gTab : Tryd.prog.globalNamed "math/bits.deBruijn64tab" = some 0 := by kernel_rfl
theorem gType : (Tryd.prog.globals[0]?).map (·.type) = some 128 := by kernel_rfl
theorem cells5 : Tryd.prog.cellsOf 5 = 1 := by kernel_rfl
theorem cellsT : Tryd.prog.cellsOf 128 = 64 := by kernel_rfl
theorem tab_at : ∀ i : Fin 64, tabZ.getD i.val 0 = ((Lib.deBruijn64tab.getD i.val 0 : Nat) : Int) := by decide +kernel

theorem of_laid {W : World} (h : laidMetH Tryd.prog laid1 W) : TabAt W := by
  rw [MakeChecks.laidMetH_plain _ _ _ (by kernel_rfl)] at h
  have h' : laidMet Tryd.prog (("math/bits.deBruijn64tab", Lib.tabData .u8 tabZ) :: []) W := h
  have hT := Lib.tabIs_of_head gTab gType Tryd.underlying128 Tryd.underlying5 cells5 cellsT h'
  intro i hi
  have hc := hT.cell gTab i (show i < tabZ.length from hi)
  rw [tab_at ⟨i, hi⟩] at hc
  exact hc

theorem door_met (os : Os) (args : Array Value) : laidMetH Tryd.prog laid1 ((World.doorLaid Tryd.prog 400 os).forCall (fun _ _ => 0) ⟨#[], args, []⟩).memory :=
  laidMetH_of_parts3 (fuel := 8) (laidMet_of_run' 8 (by kernel_rfl) (by kernel_rfl)) (by kernel_rfl) (by kernel_rfl)

set_option maxRecDepth 100000 in
theorem lifted (os : Os) (started : os.Started) (H : Type) (enc : TypeId × Value → H) :
    ReturnsInHanded {} Tryd.checked os 5 .any (fun w args => (Rows.exactProductsSpec.pre enc Tryd.prog Tryd.f5 [] false w args ∧ laidMetH Tryd.prog laid1 w) ∧ sizedMet enc Tryd.prog Tryd.f5 (OpenSpec.ofChange Rows.exactProductsSpec) false w args)
      (Rows.exactProductsSpec.post enc Tryd.prog Tryd.f5 false true false false) := by
  refine returnsInHanded_of_change_and (C := Tryd.checked) (X := fun w _ => laidMetH Tryd.prog laid1 w) (fun _ _ _ hh h => h.of_heap hh) own started (by kernel_rfl) Tryd.func5
    (ChangeSpec.witness_shaped (enc := enc) (C := Tryd.checked) (os := os) (X := fun w _ => laidMetH Tryd.prog laid1 w) false (World.doorLaid Tryd.prog 400 os) #[.agg #[.bool false, .string ⟨#[]⟩, .string ⟨#[]⟩, .int .i64 0], .agg #[.bool false, .string ⟨#[]⟩, .string ⟨#[]⟩, .int .i64 0]] 8 rfl (World.shaped_of_RefB (by kernel_rfl) (by kernel_rfl)) (by kernel_rfl) (by kernel_rfl) (by kernel_rfl) (door_met os _)) ?_
  intro W base args ds gs before hval0 hW _ _ hL _
  have hval : ∀ (j : Nat) t v, Tryd.f5.params[j]? = some t → args[j]? = some v → Value.okWide Tryd.prog W .any base t v := hval0
  have hW' := hW
  obtain ⟨p, q, hA0, hV, rfl, hfz, hnd⟩ := hW
  have hA : DataW.TrodAll enc Tryd.prog W 0 (fun _ => true) true Tryd.f5.params.toList args.toList ds p := hA0
  rw [Tryd.params5] at hA hval
  obtain ⟨v0, vs0, d0, ds0, p0, q0, hargs, rfl, rfl, k0, r0⟩ := trodAll_cons hA
  obtain ⟨v1, vs1, d1, ds1, p1, q1, rfl, rfl, rfl, k1, r1⟩ := trodAll_cons r0
  obtain ⟨rfl, rfl, rfl⟩ := trodAll_nil r1
  obtain rfl : args = #[v0, v1] := by cases args; simp_all
  obtain ⟨rfl, rfl⟩ := trodVars_none hV
  obtain ⟨b0, s0, t0, e0, rfl, rfl, rfl, h0⟩ := open_exact (hval 0 24 v0 rfl rfl) k0
  obtain ⟨vb1, vs1, vt1, ve1, rfl, rfl, rfl, h1⟩ := open_exact (hval 1 24 v1 rfl rfl) k1
  clear hA0 hval0
  simp only [List.append_nil] at hW'
  refine (walk b0 s0 t0 e0 vb1 vs1 vt1 ve1 h0 h1 W (of_laid hL)).mono fun e W' ⟨he, hg⟩ => ?_
  subst he
  exact ⟨_, rfl, post_plain hW' (fun _ _ _ => trodAll_mk1 (shut_bool Tryd.underlying4 _)) (fun sp => (trodAll_cons_mk (shut_exact h0) (trodAll_cons_mk (shut_exact h1) trodAll_mk0))) (fun _ => rfl) hg (ok_one (by kernel_rfl) rfl (okWide_bool_mk Tryd.underlying4 _))⟩

theorem over : Rows.ExactProductsSaid :=
  OpenClaim.holds_of_wide 5 Tryd.f5 rfl rfl rfl rfl rfl rfl rfl ⟨rfl, rfl, rfl, rfl, rfl⟩ rfl rfl rfl rfl rfl (by kernel_rfl) Tryd.func5 (by kernel_rfl)
    (of_decide_eq_true (by kernel_rfl)) (by unfold Func.isWrapper; first | (rw [if_pos (by decide +kernel)]; kernel_rfl) | (rw [if_neg (by decide +kernel)]; exact ⟨rfl, rfl⟩))
    (fun os started H enc _ => lifted os started H enc)

theorem proved : Rows.ExactProductsCardSaid :=
  Claim7.holds_tied_plain_at .later [] [.data] true (true, "3e8d1fd3fa54bd73b2e4f17310d30ae8075bb6bb7b260c1ab5917f0247a466ea") false
    over (fun _ h => by cases h) (by kernel_rfl) (fun _ h => by cases h) exactProducts_row_tie rfl ⟨rfl, rfl⟩ (by kernel_rfl) rfl
    (fun f fn hf hfn => by
      obtain rfl : f = 5 := Option.some.inj ((show Tryd.prog.funcNamed "abacus/abacuslaw06.ExactProducts" = some 5 by kernel_rfl).symm.trans hf) |>.symm
      obtain rfl : fn = Tryd.f5 := (Option.some.inj (Tryd.func5.symm.trans hfn)).symm
      exact ⟨by kernel_rfl, fun j t ht => by
        rw [Tryd.params5] at ht
        have h3 : t = 24 := by
          rcases j with _ | _ | j
          · exact (by simpa using ht.symm)
          · exact (by simpa using ht.symm)
          · simp at ht
        rcases h3 with rfl
        · exact (show Tryd.prog.wantsStandIn 24 = false by kernel_rfl)⟩)
    (by kernel_rfl)
#print axioms proved
end Go.Proofs.YthiongcednmjiaaDoor.exactProducts
