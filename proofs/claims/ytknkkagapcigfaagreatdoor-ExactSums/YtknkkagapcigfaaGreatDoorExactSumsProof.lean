/-
  ExactSums returns true for every two exact numbers, whether they may be or not: sums, differences and which is greater are the document's.
-/
import Derived.Test.YtknkkagapcigfaaGreatDoorRows
import Derived.Test.YtknkkagapcigfaaGreatDoorTie
import Derived.Test.YtknkkagapcigfaaGreatDoorCards
import Derived.WalkKit
import Derived.ProofKit
import Derived.OpenShut
import Derived.LaidMore
import Derived.Stop.Joined
import Derived.Lib.LaidTab
import Derived.SevenTiedAt
import Derived.Test.YtknkkagapcigfaaGreatDoorFrame6
import Derived.Test.YtknkkagapcigfaaGreatDoorXL
import Derived.Test.YtknkkagapcigfaaGreatDoorXG
import Derived.Test.YtknkkagapcigfaaGreatDoorX13
import Derived.Test.YtknkkagapcigfaaGreatDoorY6
import Derived.Test.YtknkkagapcigfaaGreatDoorFrameX
namespace Go.Proofs.YtknkkagapcigfaaGreatDoor.exactSums
open WMath XMath
open Go.ChangeShapes Go.WideShapes Go.ChangeAt Go.RowKit
set_option linter.unusedVariables false

theorem own : ownKnob Tryz.prog.godebug = none := by kernel_rfl

set_option maxRecDepth 100000 in
set_option maxHeartbeats 4000000 in
theorem walk (b0 : Bool) (s0 t0 : ByteArray) (e0 : Int) (vb1 : Bool) (vs1 vt1 : ByteArray) (ve1 : Int) (h0 : s0.size ≤ maxLen ∧ t0.size ≤ maxLen ∧ (Lit.int .i64 e0).wf = true) (h1 : vs1.size ≤ maxLen ∧ vt1.size ≤ maxLen ∧ (Lit.int .i64 ve1).wf = true) (w : World) (hT : TabAt w) :
    Calls Tryz.prog 3 #[.agg #[.bool b0, .string s0, .string t0, .int .i64 e0], .agg #[.bool vb1, .string vs1, .string vt1, .int .i64 ve1]] w fun e w' => e = .returned (.bool true) ∧ Below w.heap.size w w' := by
  have TT := box hT
  clear hT
  obtain ⟨o, ho⟩ : ∃ o, (decide (s0.size ≤ 60) && decide (t0.size ≤ 60)) = o := ⟨_, rfl⟩
  obtain ⟨p, hp⟩ : ∃ o, (decide (vs1.size ≤ 60) && decide (vt1.size ≤ 60)) = o := ⟨_, rfl⟩
  have HO := box ho
  have HP := box hp
  clear ho hp h0 h1
  cases o
  · have Rx_0 : ((w.alloc (Obj.cells #[.bool b0, .string s0, .string t0, .int .i64 e0] 24)).alloc (Obj.cells #[.bool vb1, .string vs1, .string vt1, .int .i64 ve1] 24)).heap[w.heap.size]? = some (Obj.cells #[.bool b0, .string s0, .string t0, .int .i64 e0] 24) := by rw [heap_below _ _ _ (by simp only [size_al]; omega)]; have := heap_alloc_last w (Obj.cells #[.bool b0, .string s0, .string t0, .int .i64 e0] 24); simpa only [size_al] using this
    have Ry_0 : ((w.alloc (Obj.cells #[.bool b0, .string s0, .string t0, .int .i64 e0] 24)).alloc (Obj.cells #[.bool vb1, .string vs1, .string vt1, .int .i64 ve1] 24)).heap[w.heap.size + 1]? = some (Obj.cells #[.bool vb1, .string vs1, .string vt1, .int .i64 ve1] 24) := by have := heap_alloc_last (w.alloc (Obj.cells #[.bool b0, .string s0, .string t0, .int .i64 e0] 24)) (Obj.cells #[.bool vb1, .string vs1, .string vt1, .int .i64 ve1] 24); simpa only [size_al] using this
    have B0 : Below w.heap.size w ((w.alloc (Obj.cells #[.bool b0, .string s0, .string t0, .int .i64 e0] 24)).alloc (Obj.cells #[.bool vb1, .string vs1, .string vt1, .int .i64 ve1] 24)) := (((Below.refl _ _).alloc (by first | omega | (simp only [size_al]; omega)) _).alloc (by first | omega | (simp only [size_al]; omega)) _)
    go_enter Tryz.func3, Tryz.ntmps3
    go_wp2_with fail
    refine (xshort b0 s0 t0 e0 60 60 false rfl HO.out _).mono ?_
    rintro r w1 ⟨rfl, b1⟩
    have B1 : Below w.heap.size w w1 := btr B0 b1
    have Rx_1 : w1.heap[w.heap.size]? = some (Obj.cells #[.bool b0, .string s0, .string t0, .int .i64 e0] 24) := heap_of b1 _ _ _ Rx_0
    have Ry_1 : w1.heap[w.heap.size + 1]? = some (Obj.cells #[.bool vb1, .string vs1, .string vt1, .int .i64 ve1] 24) := heap_of b1 _ _ _ Ry_0
    clear b1 B0 Rx_0 Ry_0
    have cx_1_0 := cells4 Rx_1 0 _ rfl
    have cx_1_1 := cells4 Rx_1 1 _ rfl
    have cx_1_2 := cells4 Rx_1 2 _ rfl
    have cx_1_3 := cells4 Rx_1 3 _ rfl
    have cy_1_0 := cells4 Ry_1 0 _ rfl
    have cy_1_1 := cells4 Ry_1 1 _ rfl
    have cy_1_2 := cells4 Ry_1 2 _ rfl
    have cy_1_3 := cells4 Ry_1 3 _ rfl
    go_wp2_with fail
    refine (xalive _ (tabB TT.out B1)).mono ?_
    rintro r w2 ⟨rfl, b2⟩
    have B2 : Below w.heap.size w w2 := btr B1 b2
    have Rx_2 : w2.heap[w.heap.size]? = some (Obj.cells #[.bool b0, .string s0, .string t0, .int .i64 e0] 24) := heap_of b2 _ _ _ Rx_1
    have Ry_2 : w2.heap[w.heap.size + 1]? = some (Obj.cells #[.bool vb1, .string vs1, .string vt1, .int .i64 ve1] 24) := heap_of b2 _ _ _ Ry_1
    clear b2 B1 Rx_1 cx_1_0 cx_1_1 cx_1_2 cx_1_3 Ry_1 cy_1_0 cy_1_1 cy_1_2 cy_1_3
    have cx_2_0 := cells4 Rx_2 0 _ rfl
    have cx_2_1 := cells4 Rx_2 1 _ rfl
    have cx_2_2 := cells4 Rx_2 2 _ rfl
    have cx_2_3 := cells4 Rx_2 3 _ rfl
    have cy_2_0 := cells4 Ry_2 0 _ rfl
    have cy_2_1 := cells4 Ry_2 1 _ rfl
    have cy_2_2 := cells4 Ry_2 2 _ rfl
    have cy_2_3 := cells4 Ry_2 3 _ rfl
    go_wp2
    go_ret
    exact ⟨rfl, B2⟩
  cases p
  · have Rx_0 : ((w.alloc (Obj.cells #[.bool b0, .string s0, .string t0, .int .i64 e0] 24)).alloc (Obj.cells #[.bool vb1, .string vs1, .string vt1, .int .i64 ve1] 24)).heap[w.heap.size]? = some (Obj.cells #[.bool b0, .string s0, .string t0, .int .i64 e0] 24) := by rw [heap_below _ _ _ (by simp only [size_al]; omega)]; have := heap_alloc_last w (Obj.cells #[.bool b0, .string s0, .string t0, .int .i64 e0] 24); simpa only [size_al] using this
    have Ry_0 : ((w.alloc (Obj.cells #[.bool b0, .string s0, .string t0, .int .i64 e0] 24)).alloc (Obj.cells #[.bool vb1, .string vs1, .string vt1, .int .i64 ve1] 24)).heap[w.heap.size + 1]? = some (Obj.cells #[.bool vb1, .string vs1, .string vt1, .int .i64 ve1] 24) := by have := heap_alloc_last (w.alloc (Obj.cells #[.bool b0, .string s0, .string t0, .int .i64 e0] 24)) (Obj.cells #[.bool vb1, .string vs1, .string vt1, .int .i64 ve1] 24); simpa only [size_al] using this
    have B0 : Below w.heap.size w ((w.alloc (Obj.cells #[.bool b0, .string s0, .string t0, .int .i64 e0] 24)).alloc (Obj.cells #[.bool vb1, .string vs1, .string vt1, .int .i64 ve1] 24)) := (((Below.refl _ _).alloc (by first | omega | (simp only [size_al]; omega)) _).alloc (by first | omega | (simp only [size_al]; omega)) _)
    go_enter Tryz.func3, Tryz.ntmps3
    go_wp2_with fail
    refine (xshort b0 s0 t0 e0 60 60 true rfl HO.out _).mono ?_
    rintro r w1 ⟨rfl, b1⟩
    have B1 : Below w.heap.size w w1 := btr B0 b1
    have Rx_1 : w1.heap[w.heap.size]? = some (Obj.cells #[.bool b0, .string s0, .string t0, .int .i64 e0] 24) := heap_of b1 _ _ _ Rx_0
    have Ry_1 : w1.heap[w.heap.size + 1]? = some (Obj.cells #[.bool vb1, .string vs1, .string vt1, .int .i64 ve1] 24) := heap_of b1 _ _ _ Ry_0
    clear b1 B0 Rx_0 Ry_0
    have cx_1_0 := cells4 Rx_1 0 _ rfl
    have cx_1_1 := cells4 Rx_1 1 _ rfl
    have cx_1_2 := cells4 Rx_1 2 _ rfl
    have cx_1_3 := cells4 Rx_1 3 _ rfl
    have cy_1_0 := cells4 Ry_1 0 _ rfl
    have cy_1_1 := cells4 Ry_1 1 _ rfl
    have cy_1_2 := cells4 Ry_1 2 _ rfl
    have cy_1_3 := cells4 Ry_1 3 _ rfl
    go_wp2_with fail
    refine (xshort vb1 vs1 vt1 ve1 60 60 false rfl HP.out _).mono ?_
    rintro r w2 ⟨rfl, b2⟩
    have B2 : Below w.heap.size w w2 := btr B1 b2
    have Rx_2 : w2.heap[w.heap.size]? = some (Obj.cells #[.bool b0, .string s0, .string t0, .int .i64 e0] 24) := heap_of b2 _ _ _ Rx_1
    have Ry_2 : w2.heap[w.heap.size + 1]? = some (Obj.cells #[.bool vb1, .string vs1, .string vt1, .int .i64 ve1] 24) := heap_of b2 _ _ _ Ry_1
    clear b2 B1 Rx_1 cx_1_0 cx_1_1 cx_1_2 cx_1_3 Ry_1 cy_1_0 cy_1_1 cy_1_2 cy_1_3
    have cx_2_0 := cells4 Rx_2 0 _ rfl
    have cx_2_1 := cells4 Rx_2 1 _ rfl
    have cx_2_2 := cells4 Rx_2 2 _ rfl
    have cx_2_3 := cells4 Rx_2 3 _ rfl
    have cy_2_0 := cells4 Ry_2 0 _ rfl
    have cy_2_1 := cells4 Ry_2 1 _ rfl
    have cy_2_2 := cells4 Ry_2 2 _ rfl
    have cy_2_3 := cells4 Ry_2 3 _ rfl
    go_wp2_with fail
    refine (xalive _ (tabB TT.out B2)).mono ?_
    rintro r w3 ⟨rfl, b3⟩
    have B3 : Below w.heap.size w w3 := btr B2 b3
    have Rx_3 : w3.heap[w.heap.size]? = some (Obj.cells #[.bool b0, .string s0, .string t0, .int .i64 e0] 24) := heap_of b3 _ _ _ Rx_2
    have Ry_3 : w3.heap[w.heap.size + 1]? = some (Obj.cells #[.bool vb1, .string vs1, .string vt1, .int .i64 ve1] 24) := heap_of b3 _ _ _ Ry_2
    clear b3 B2 Rx_2 cx_2_0 cx_2_1 cx_2_2 cx_2_3 Ry_2 cy_2_0 cy_2_1 cy_2_2 cy_2_3
    have cx_3_0 := cells4 Rx_3 0 _ rfl
    have cx_3_1 := cells4 Rx_3 1 _ rfl
    have cx_3_2 := cells4 Rx_3 2 _ rfl
    have cx_3_3 := cells4 Rx_3 3 _ rfl
    have cy_3_0 := cells4 Ry_3 0 _ rfl
    have cy_3_1 := cells4 Ry_3 1 _ rfl
    have cy_3_2 := cells4 Ry_3 2 _ rfl
    have cy_3_3 := cells4 Ry_3 3 _ rfl
    go_wp2
    go_ret
    exact ⟨rfl, B3⟩
  by_cases m1 : MayX b0 s0 t0 e0
  · by_cases m2 : MayX vb1 vs1 vt1 ve1
    · have M1 : Box (IsM true b0 s0 t0 e0) := box ⟨fun _ => m1, fun _ => rfl⟩
      have M2 : Box (IsM true vb1 vs1 vt1 ve1) := box ⟨fun _ => m2, fun _ => rfl⟩
      obtain ⟨n, d, hs, ht, hx⟩ := m1
      obtain ⟨m, f, hu, hv, hy⟩ := m2
      have he : -1048576 ≤ e0 ∧ e0 ≤ 1048576 ∧ -1048576 ≤ ve1 ∧ ve1 ≤ 1048576 := ⟨hx.2.2.1, hx.2.2.2.1, hy.2.2.1, hy.2.2.2.1⟩
      obtain ⟨fo, hfo⟩ : ∃ o, ((decide (4000 < e0 - ve1) || decide (e0 - ve1 < -4000)) && (decide (e0 - ve1 < 140000) && decide (-140000 < e0 - ve1))) = o := ⟨_, rfl⟩
      have KF := box (fun w => xfar b0 e0 s0 t0 vb1 ve1 vs1 vt1 he fo hfo w)
      cases fo
      · obtain ⟨⟨⟨pb, pn, pd, pe⟩, pr⟩, hr⟩ : ∃ q, addX (XN.mk b0 n d e0) (XN.mk vb1 m f ve1) = q := ⟨_, rfl⟩
        obtain ⟨⟨⟨qb, qn, qd, qe⟩, qr⟩, hq⟩ : ∃ q, addX (XN.mk b0 n d e0) (negX (XN.mk vb1 m f ve1)) = q := ⟨_, rfl⟩
        obtain ⟨⟨k, kr⟩, hk⟩ : ∃ q, cmpX (XN.mk b0 n d e0) (XN.mk vb1 m f ve1) = q := ⟨_, rfl⟩
        obtain ⟨nb, hnb⟩ : ∃ q, (negX (XN.mk vb1 m f ve1)).b = q := ⟨_, rfl⟩
        have hz := neg_is vb1 m f ve1
        rw [hnb] at hz
        have hyn : (XN.mk nb m f ve1).can := by rw [← hz]; exact (neg_good _ hy).1
        have hq2 := hq
        rw [hz] at hq2
        obtain ⟨pu, hpu⟩ : ∃ z, nbA pn = z := ⟨_, rfl⟩
        obtain ⟨pv, hpv⟩ : ∃ z, nbA pd = z := ⟨_, rfl⟩
        obtain ⟨qu, hqu⟩ : ∃ z, nbA qn = z := ⟨_, rfl⟩
        obtain ⟨qv, hqv⟩ : ∃ z, nbA qd = z := ⟨_, rfl⟩
        have K1 := box (fun w hT => Addx_ok b0 n d e0 s0 t0 vb1 m f ve1 vs1 vt1 pb pn pd pe pr pu pv hs ht hu hv hx hy hr hpu hpv w hT)
        have K2 := box (fun w hT => Subx_ok b0 n d e0 s0 t0 vb1 m f ve1 vs1 vt1 qb qn qd qe qr qu qv hs ht hu hv hx hy hq hqu hqv w hT)
        have K3 := box (fun w hT => Cmpx_ok b0 n d e0 s0 t0 vb1 m f ve1 vs1 vt1 k kr hs ht hu hv hx hy hk w hT)
        have K4 := box (fun w => rAdd_ok b0 n d e0 s0 t0 vb1 m f ve1 vs1 vt1 pb pn pd pe pr pu pv hs ht hu hv hx hy hr hpu hpv w)
        have KN := box (fun w => rNeg_ok vb1 m f ve1 vs1 vt1 nb hu hv hy hnb w)
        have K5 := box (fun w => rAdd_ok b0 n d e0 s0 t0 nb m f ve1 vs1 vt1 qb qn qd qe qr qu qv hs ht hu hv hx hyn hq2 hqu hqv w)
        have K6 := box (fun w => rCmp_ok b0 n d e0 s0 t0 vb1 m f ve1 vs1 vt1 k kr hs ht hu hv hx hy hk w)
        clear hs ht hx hu hv hy hr hq hq2 hk hnb hz hyn hpu hpv hqu hqv he hfo
        have Rx_0 : ((w.alloc (Obj.cells #[.bool b0, .string s0, .string t0, .int .i64 e0] 24)).alloc (Obj.cells #[.bool vb1, .string vs1, .string vt1, .int .i64 ve1] 24)).heap[w.heap.size]? = some (Obj.cells #[.bool b0, .string s0, .string t0, .int .i64 e0] 24) := by rw [heap_below _ _ _ (by simp only [size_al]; omega)]; have := heap_alloc_last w (Obj.cells #[.bool b0, .string s0, .string t0, .int .i64 e0] 24); simpa only [size_al] using this
        have Ry_0 : ((w.alloc (Obj.cells #[.bool b0, .string s0, .string t0, .int .i64 e0] 24)).alloc (Obj.cells #[.bool vb1, .string vs1, .string vt1, .int .i64 ve1] 24)).heap[w.heap.size + 1]? = some (Obj.cells #[.bool vb1, .string vs1, .string vt1, .int .i64 ve1] 24) := by have := heap_alloc_last (w.alloc (Obj.cells #[.bool b0, .string s0, .string t0, .int .i64 e0] 24)) (Obj.cells #[.bool vb1, .string vs1, .string vt1, .int .i64 ve1] 24); simpa only [size_al] using this
        have B0 : Below w.heap.size w ((w.alloc (Obj.cells #[.bool b0, .string s0, .string t0, .int .i64 e0] 24)).alloc (Obj.cells #[.bool vb1, .string vs1, .string vt1, .int .i64 ve1] 24)) := (((Below.refl _ _).alloc (by first | omega | (simp only [size_al]; omega)) _).alloc (by first | omega | (simp only [size_al]; omega)) _)
        go_enter Tryz.func3, Tryz.ntmps3
        go_wp2_with fail
        refine (xshort b0 s0 t0 e0 60 60 true rfl HO.out _).mono ?_
        rintro r w1 ⟨rfl, b1⟩
        have B1 : Below w.heap.size w w1 := btr B0 b1
        have Rx_1 : w1.heap[w.heap.size]? = some (Obj.cells #[.bool b0, .string s0, .string t0, .int .i64 e0] 24) := heap_of b1 _ _ _ Rx_0
        have Ry_1 : w1.heap[w.heap.size + 1]? = some (Obj.cells #[.bool vb1, .string vs1, .string vt1, .int .i64 ve1] 24) := heap_of b1 _ _ _ Ry_0
        clear b1 B0 Rx_0 Ry_0
        have cx_1_0 := cells4 Rx_1 0 _ rfl
        have cx_1_1 := cells4 Rx_1 1 _ rfl
        have cx_1_2 := cells4 Rx_1 2 _ rfl
        have cx_1_3 := cells4 Rx_1 3 _ rfl
        have cy_1_0 := cells4 Ry_1 0 _ rfl
        have cy_1_1 := cells4 Ry_1 1 _ rfl
        have cy_1_2 := cells4 Ry_1 2 _ rfl
        have cy_1_3 := cells4 Ry_1 3 _ rfl
        go_wp2_with fail
        refine (xshort vb1 vs1 vt1 ve1 60 60 true rfl HP.out _).mono ?_
        rintro r w2 ⟨rfl, b2⟩
        have B2 : Below w.heap.size w w2 := btr B1 b2
        have Rx_2 : w2.heap[w.heap.size]? = some (Obj.cells #[.bool b0, .string s0, .string t0, .int .i64 e0] 24) := heap_of b2 _ _ _ Rx_1
        have Ry_2 : w2.heap[w.heap.size + 1]? = some (Obj.cells #[.bool vb1, .string vs1, .string vt1, .int .i64 ve1] 24) := heap_of b2 _ _ _ Ry_1
        clear b2 B1 Rx_1 cx_1_0 cx_1_1 cx_1_2 cx_1_3 Ry_1 cy_1_0 cy_1_1 cy_1_2 cy_1_3
        have cx_2_0 := cells4 Rx_2 0 _ rfl
        have cx_2_1 := cells4 Rx_2 1 _ rfl
        have cx_2_2 := cells4 Rx_2 2 _ rfl
        have cx_2_3 := cells4 Rx_2 3 _ rfl
        have cy_2_0 := cells4 Ry_2 0 _ rfl
        have cy_2_1 := cells4 Ry_2 1 _ rfl
        have cy_2_2 := cells4 Ry_2 2 _ rfl
        have cy_2_3 := cells4 Ry_2 3 _ rfl
        go_wp2_with fail
        refine (xmayM b0 s0 t0 e0 true M1.out _).mono ?_
        rintro r w3 ⟨rfl, b3⟩
        have B3 : Below w.heap.size w w3 := btr B2 b3
        have Rx_3 : w3.heap[w.heap.size]? = some (Obj.cells #[.bool b0, .string s0, .string t0, .int .i64 e0] 24) := heap_of b3 _ _ _ Rx_2
        have Ry_3 : w3.heap[w.heap.size + 1]? = some (Obj.cells #[.bool vb1, .string vs1, .string vt1, .int .i64 ve1] 24) := heap_of b3 _ _ _ Ry_2
        clear b3 B2 Rx_2 cx_2_0 cx_2_1 cx_2_2 cx_2_3 Ry_2 cy_2_0 cy_2_1 cy_2_2 cy_2_3
        have cx_3_0 := cells4 Rx_3 0 _ rfl
        have cx_3_1 := cells4 Rx_3 1 _ rfl
        have cx_3_2 := cells4 Rx_3 2 _ rfl
        have cx_3_3 := cells4 Rx_3 3 _ rfl
        have cy_3_0 := cells4 Ry_3 0 _ rfl
        have cy_3_1 := cells4 Ry_3 1 _ rfl
        have cy_3_2 := cells4 Ry_3 2 _ rfl
        have cy_3_3 := cells4 Ry_3 3 _ rfl
        go_wp2_with fail
        refine (xmayM vb1 vs1 vt1 ve1 true M2.out _).mono ?_
        rintro r w4 ⟨rfl, b4⟩
        have B4 : Below w.heap.size w w4 := btr B3 b4
        have Rx_4 : w4.heap[w.heap.size]? = some (Obj.cells #[.bool b0, .string s0, .string t0, .int .i64 e0] 24) := heap_of b4 _ _ _ Rx_3
        have Ry_4 : w4.heap[w.heap.size + 1]? = some (Obj.cells #[.bool vb1, .string vs1, .string vt1, .int .i64 ve1] 24) := heap_of b4 _ _ _ Ry_3
        clear b4 B3 Rx_3 cx_3_0 cx_3_1 cx_3_2 cx_3_3 Ry_3 cy_3_0 cy_3_1 cy_3_2 cy_3_3
        have cx_4_0 := cells4 Rx_4 0 _ rfl
        have cx_4_1 := cells4 Rx_4 1 _ rfl
        have cx_4_2 := cells4 Rx_4 2 _ rfl
        have cx_4_3 := cells4 Rx_4 3 _ rfl
        have cy_4_0 := cells4 Ry_4 0 _ rfl
        have cy_4_1 := cells4 Ry_4 1 _ rfl
        have cy_4_2 := cells4 Ry_4 2 _ rfl
        have cy_4_3 := cells4 Ry_4 3 _ rfl
        go_wp2_with fail
        refine (KF.out _).mono ?_
        rintro r w5 ⟨rfl, b5⟩
        have B5 : Below w.heap.size w w5 := btr B4 b5
        have Rx_5 : w5.heap[w.heap.size]? = some (Obj.cells #[.bool b0, .string s0, .string t0, .int .i64 e0] 24) := heap_of b5 _ _ _ Rx_4
        have Ry_5 : w5.heap[w.heap.size + 1]? = some (Obj.cells #[.bool vb1, .string vs1, .string vt1, .int .i64 ve1] 24) := heap_of b5 _ _ _ Ry_4
        clear b5 B4 Rx_4 cx_4_0 cx_4_1 cx_4_2 cx_4_3 Ry_4 cy_4_0 cy_4_1 cy_4_2 cy_4_3
        have cx_5_0 := cells4 Rx_5 0 _ rfl
        have cx_5_1 := cells4 Rx_5 1 _ rfl
        have cx_5_2 := cells4 Rx_5 2 _ rfl
        have cx_5_3 := cells4 Rx_5 3 _ rfl
        have cy_5_0 := cells4 Ry_5 0 _ rfl
        have cy_5_1 := cells4 Ry_5 1 _ rfl
        have cy_5_2 := cells4 Ry_5 2 _ rfl
        have cy_5_3 := cells4 Ry_5 3 _ rfl
        go_wp2_with fail
        refine (K1.out _ (tabB TT.out B5)).mono ?_
        rintro r w6 ⟨rfl, b6⟩
        have B6 : Below w.heap.size w w6 := btr B5 b6
        have Rx_6 : w6.heap[w.heap.size]? = some (Obj.cells #[.bool b0, .string s0, .string t0, .int .i64 e0] 24) := heap_of b6 _ _ _ Rx_5
        have Ry_6 : w6.heap[w.heap.size + 1]? = some (Obj.cells #[.bool vb1, .string vs1, .string vt1, .int .i64 ve1] 24) := heap_of b6 _ _ _ Ry_5
        clear b6 B5 Rx_5 cx_5_0 cx_5_1 cx_5_2 cx_5_3 Ry_5 cy_5_0 cy_5_1 cy_5_2 cy_5_3
        have cx_6_0 := cells4 Rx_6 0 _ rfl
        have cx_6_1 := cells4 Rx_6 1 _ rfl
        have cx_6_2 := cells4 Rx_6 2 _ rfl
        have cx_6_3 := cells4 Rx_6 3 _ rfl
        have cy_6_0 := cells4 Ry_6 0 _ rfl
        have cy_6_1 := cells4 Ry_6 1 _ rfl
        have cy_6_2 := cells4 Ry_6 2 _ rfl
        have cy_6_3 := cells4 Ry_6 3 _ rfl
        have S7 := box B6.size
        have Lx_7 : Box (w.heap.size < w6.heap.size) := box (Array.getElem?_eq_some_iff.1 Rx_6).1
        have Ly_7 : Box (w.heap.size + 1 < w6.heap.size) := box (Array.getElem?_eq_some_iff.1 Ry_6).1
        have B7 : Below w.heap.size w (w6.alloc (Obj.cells #[.bool pb, .string pu, .string pv, .int .i64 pe] 24)) := btr B6 (bal _ _)
        have Rx_7 : (w6.alloc (Obj.cells #[.bool pb, .string pu, .string pv, .int .i64 pe] 24)).heap[w.heap.size]? = some (Obj.cells #[.bool b0, .string s0, .string t0, .int .i64 e0] 24) := heap_of (bal _ _) _ _ _ Rx_6
        have Ry_7 : (w6.alloc (Obj.cells #[.bool pb, .string pu, .string pv, .int .i64 pe] 24)).heap[w.heap.size + 1]? = some (Obj.cells #[.bool vb1, .string vs1, .string vt1, .int .i64 ve1] 24) := heap_of (bal _ _) _ _ _ Ry_6
        have Rs_7 : (w6.alloc (Obj.cells #[.bool pb, .string pu, .string pv, .int .i64 pe] 24)).heap[w6.heap.size]? = some (Obj.cells #[.bool pb, .string pu, .string pv, .int .i64 pe] 24) := heap_alloc_last _ _
        clear B6 Rx_6 cx_6_0 cx_6_1 cx_6_2 cx_6_3 Ry_6 cy_6_0 cy_6_1 cy_6_2 cy_6_3
        have cx_7_0 := cells4 Rx_7 0 _ rfl
        have cx_7_1 := cells4 Rx_7 1 _ rfl
        have cx_7_2 := cells4 Rx_7 2 _ rfl
        have cx_7_3 := cells4 Rx_7 3 _ rfl
        have cy_7_0 := cells4 Ry_7 0 _ rfl
        have cy_7_1 := cells4 Ry_7 1 _ rfl
        have cy_7_2 := cells4 Ry_7 2 _ rfl
        have cy_7_3 := cells4 Ry_7 3 _ rfl
        have cs_7_0 := cells4 Rs_7 0 _ rfl
        have cs_7_1 := cells4 Rs_7 1 _ rfl
        have cs_7_2 := cells4 Rs_7 2 _ rfl
        have cs_7_3 := cells4 Rs_7 3 _ rfl
        clear cs_7_0 cs_7_1 cs_7_2 cs_7_3
        go_wp2_with fail
        refine (K2.out _ (tabB TT.out B7)).mono ?_
        rintro r w8 ⟨rfl, b8⟩
        have B8 : Below w.heap.size w w8 := btr B7 b8
        have Rx_8 : w8.heap[w.heap.size]? = some (Obj.cells #[.bool b0, .string s0, .string t0, .int .i64 e0] 24) := heap_of b8 _ _ _ Rx_7
        have Ry_8 : w8.heap[w.heap.size + 1]? = some (Obj.cells #[.bool vb1, .string vs1, .string vt1, .int .i64 ve1] 24) := heap_of b8 _ _ _ Ry_7
        have Rs_8 : w8.heap[w6.heap.size]? = some (Obj.cells #[.bool pb, .string pu, .string pv, .int .i64 pe] 24) := heap_of b8 _ _ _ Rs_7
        clear b8 B7 Rx_7 cx_7_0 cx_7_1 cx_7_2 cx_7_3 Ry_7 cy_7_0 cy_7_1 cy_7_2 cy_7_3 Rs_7
        have cx_8_0 := cells4 Rx_8 0 _ rfl
        have cx_8_1 := cells4 Rx_8 1 _ rfl
        have cx_8_2 := cells4 Rx_8 2 _ rfl
        have cx_8_3 := cells4 Rx_8 3 _ rfl
        have cy_8_0 := cells4 Ry_8 0 _ rfl
        have cy_8_1 := cells4 Ry_8 1 _ rfl
        have cy_8_2 := cells4 Ry_8 2 _ rfl
        have cy_8_3 := cells4 Ry_8 3 _ rfl
        have S9 := box B8.size
        have Lx_9 : Box (w.heap.size < w8.heap.size) := box (Array.getElem?_eq_some_iff.1 Rx_8).1
        have Ly_9 : Box (w.heap.size + 1 < w8.heap.size) := box (Array.getElem?_eq_some_iff.1 Ry_8).1
        have Ls_9 : Box (w6.heap.size < w8.heap.size) := box (Array.getElem?_eq_some_iff.1 Rs_8).1
        have B9 : Below w.heap.size w (w8.alloc (Obj.cells #[.bool qb, .string qu, .string qv, .int .i64 qe] 24)) := btr B8 (bal _ _)
        have Rx_9 : (w8.alloc (Obj.cells #[.bool qb, .string qu, .string qv, .int .i64 qe] 24)).heap[w.heap.size]? = some (Obj.cells #[.bool b0, .string s0, .string t0, .int .i64 e0] 24) := heap_of (bal _ _) _ _ _ Rx_8
        have Ry_9 : (w8.alloc (Obj.cells #[.bool qb, .string qu, .string qv, .int .i64 qe] 24)).heap[w.heap.size + 1]? = some (Obj.cells #[.bool vb1, .string vs1, .string vt1, .int .i64 ve1] 24) := heap_of (bal _ _) _ _ _ Ry_8
        have Rs_9 : (w8.alloc (Obj.cells #[.bool qb, .string qu, .string qv, .int .i64 qe] 24)).heap[w6.heap.size]? = some (Obj.cells #[.bool pb, .string pu, .string pv, .int .i64 pe] 24) := heap_of (bal _ _) _ _ _ Rs_8
        have Rd_9 : (w8.alloc (Obj.cells #[.bool qb, .string qu, .string qv, .int .i64 qe] 24)).heap[w8.heap.size]? = some (Obj.cells #[.bool qb, .string qu, .string qv, .int .i64 qe] 24) := heap_alloc_last _ _
        clear B8 Rx_8 cx_8_0 cx_8_1 cx_8_2 cx_8_3 Ry_8 cy_8_0 cy_8_1 cy_8_2 cy_8_3 Rs_8
        have cx_9_0 := cells4 Rx_9 0 _ rfl
        have cx_9_1 := cells4 Rx_9 1 _ rfl
        have cx_9_2 := cells4 Rx_9 2 _ rfl
        have cx_9_3 := cells4 Rx_9 3 _ rfl
        have cy_9_0 := cells4 Ry_9 0 _ rfl
        have cy_9_1 := cells4 Ry_9 1 _ rfl
        have cy_9_2 := cells4 Ry_9 2 _ rfl
        have cy_9_3 := cells4 Ry_9 3 _ rfl
        have cd_9_0 := cells4 Rd_9 0 _ rfl
        have cd_9_1 := cells4 Rd_9 1 _ rfl
        have cd_9_2 := cells4 Rd_9 2 _ rfl
        have cd_9_3 := cells4 Rd_9 3 _ rfl
        clear cd_9_0 cd_9_1 cd_9_2 cd_9_3
        go_wp2_with fail
        refine (K3.out _ (tabB TT.out B9)).mono ?_
        rintro r w10 ⟨rfl, b10⟩
        have B10 : Below w.heap.size w w10 := btr B9 b10
        have Rx_10 : w10.heap[w.heap.size]? = some (Obj.cells #[.bool b0, .string s0, .string t0, .int .i64 e0] 24) := heap_of b10 _ _ _ Rx_9
        have Ry_10 : w10.heap[w.heap.size + 1]? = some (Obj.cells #[.bool vb1, .string vs1, .string vt1, .int .i64 ve1] 24) := heap_of b10 _ _ _ Ry_9
        have Rs_10 : w10.heap[w6.heap.size]? = some (Obj.cells #[.bool pb, .string pu, .string pv, .int .i64 pe] 24) := heap_of b10 _ _ _ Rs_9
        have Rd_10 : w10.heap[w8.heap.size]? = some (Obj.cells #[.bool qb, .string qu, .string qv, .int .i64 qe] 24) := heap_of b10 _ _ _ Rd_9
        clear b10 B9 Rx_9 cx_9_0 cx_9_1 cx_9_2 cx_9_3 Ry_9 cy_9_0 cy_9_1 cy_9_2 cy_9_3 Rs_9 Rd_9
        have cx_10_0 := cells4 Rx_10 0 _ rfl
        have cx_10_1 := cells4 Rx_10 1 _ rfl
        have cx_10_2 := cells4 Rx_10 2 _ rfl
        have cx_10_3 := cells4 Rx_10 3 _ rfl
        have cy_10_0 := cells4 Ry_10 0 _ rfl
        have cy_10_1 := cells4 Ry_10 1 _ rfl
        have cy_10_2 := cells4 Ry_10 2 _ rfl
        have cy_10_3 := cells4 Ry_10 3 _ rfl
        go_wp2_with fail
        refine (K4.out _).mono ?_
        rintro r w11 ⟨rfl, b11⟩
        have B11 : Below w.heap.size w w11 := btr B10 b11
        have Rx_11 : w11.heap[w.heap.size]? = some (Obj.cells #[.bool b0, .string s0, .string t0, .int .i64 e0] 24) := heap_of b11 _ _ _ Rx_10
        have Ry_11 : w11.heap[w.heap.size + 1]? = some (Obj.cells #[.bool vb1, .string vs1, .string vt1, .int .i64 ve1] 24) := heap_of b11 _ _ _ Ry_10
        have Rs_11 : w11.heap[w6.heap.size]? = some (Obj.cells #[.bool pb, .string pu, .string pv, .int .i64 pe] 24) := heap_of b11 _ _ _ Rs_10
        have Rd_11 : w11.heap[w8.heap.size]? = some (Obj.cells #[.bool qb, .string qu, .string qv, .int .i64 qe] 24) := heap_of b11 _ _ _ Rd_10
        clear b11 B10 Rx_10 cx_10_0 cx_10_1 cx_10_2 cx_10_3 Ry_10 cy_10_0 cy_10_1 cy_10_2 cy_10_3 Rs_10 Rd_10
        have cx_11_0 := cells4 Rx_11 0 _ rfl
        have cx_11_1 := cells4 Rx_11 1 _ rfl
        have cx_11_2 := cells4 Rx_11 2 _ rfl
        have cx_11_3 := cells4 Rx_11 3 _ rfl
        have cy_11_0 := cells4 Ry_11 0 _ rfl
        have cy_11_1 := cells4 Ry_11 1 _ rfl
        have cy_11_2 := cells4 Ry_11 2 _ rfl
        have cy_11_3 := cells4 Ry_11 3 _ rfl
        have S12 := box B11.size
        have Lx_12 : Box (w.heap.size < w11.heap.size) := box (Array.getElem?_eq_some_iff.1 Rx_11).1
        have Ly_12 : Box (w.heap.size + 1 < w11.heap.size) := box (Array.getElem?_eq_some_iff.1 Ry_11).1
        have Ls_12 : Box (w6.heap.size < w11.heap.size) := box (Array.getElem?_eq_some_iff.1 Rs_11).1
        have Ld_12 : Box (w8.heap.size < w11.heap.size) := box (Array.getElem?_eq_some_iff.1 Rd_11).1
        have B12 : Below w.heap.size w (w11.alloc (Obj.cells #[.bool pb, .string pu, .string pv, .int .i64 pe] 24)) := btr B11 (bal _ _)
        have Rx_12 : (w11.alloc (Obj.cells #[.bool pb, .string pu, .string pv, .int .i64 pe] 24)).heap[w.heap.size]? = some (Obj.cells #[.bool b0, .string s0, .string t0, .int .i64 e0] 24) := heap_of (bal _ _) _ _ _ Rx_11
        have Ry_12 : (w11.alloc (Obj.cells #[.bool pb, .string pu, .string pv, .int .i64 pe] 24)).heap[w.heap.size + 1]? = some (Obj.cells #[.bool vb1, .string vs1, .string vt1, .int .i64 ve1] 24) := heap_of (bal _ _) _ _ _ Ry_11
        have Rs_12 : (w11.alloc (Obj.cells #[.bool pb, .string pu, .string pv, .int .i64 pe] 24)).heap[w6.heap.size]? = some (Obj.cells #[.bool pb, .string pu, .string pv, .int .i64 pe] 24) := heap_of (bal _ _) _ _ _ Rs_11
        have Rd_12 : (w11.alloc (Obj.cells #[.bool pb, .string pu, .string pv, .int .i64 pe] 24)).heap[w8.heap.size]? = some (Obj.cells #[.bool qb, .string qu, .string qv, .int .i64 qe] 24) := heap_of (bal _ _) _ _ _ Rd_11
        have Rt_12 : (w11.alloc (Obj.cells #[.bool pb, .string pu, .string pv, .int .i64 pe] 24)).heap[w11.heap.size]? = some (Obj.cells #[.bool pb, .string pu, .string pv, .int .i64 pe] 24) := heap_alloc_last _ _
        clear B11 Rx_11 cx_11_0 cx_11_1 cx_11_2 cx_11_3 Ry_11 cy_11_0 cy_11_1 cy_11_2 cy_11_3 Rs_11 Rd_11
        have cx_12_0 := cells4 Rx_12 0 _ rfl
        have cx_12_1 := cells4 Rx_12 1 _ rfl
        have cx_12_2 := cells4 Rx_12 2 _ rfl
        have cx_12_3 := cells4 Rx_12 3 _ rfl
        have cy_12_0 := cells4 Ry_12 0 _ rfl
        have cy_12_1 := cells4 Ry_12 1 _ rfl
        have cy_12_2 := cells4 Ry_12 2 _ rfl
        have cy_12_3 := cells4 Ry_12 3 _ rfl
        have ct_12_0 := cells4 Rt_12 0 _ rfl
        have ct_12_1 := cells4 Rt_12 1 _ rfl
        have ct_12_2 := cells4 Rt_12 2 _ rfl
        have ct_12_3 := cells4 Rt_12 3 _ rfl
        clear ct_12_0 ct_12_1 ct_12_2 ct_12_3
        go_wp2_with fail
        obtain ⟨w12, hw⟩ : ∃ V, (w11.alloc (Obj.cells #[.bool pb, .string pu, .string pv, .int .i64 pe] 24)) = V := ⟨_, rfl⟩
        rw [hw] at B12 Rx_12 Ry_12 Rs_12 Rd_12 Rt_12 cx_12_0 cx_12_1 cx_12_2 cx_12_3 cy_12_0 cy_12_1 cy_12_2 cy_12_3
        try rw [hw]
        clear hw
        have RxA := heap_of (bal w12 (Obj.cells #[.bool false, .string ⟨#[]⟩, .string ⟨#[]⟩, .int .i64 0] 24)) _ _ _ Rx_12
        have cxA0 := cells4 RxA 0 _ rfl
        have cxA1 := cells4 RxA 1 _ rfl
        have cxA2 := cells4 RxA 2 _ rfl
        have cxA3 := cells4 RxA 3 _ rfl
        have RyA := heap_of (bal w12 (Obj.cells #[.bool false, .string ⟨#[]⟩, .string ⟨#[]⟩, .int .i64 0] 24)) _ _ _ Ry_12
        have cyA0 := cells4 RyA 0 _ rfl
        have cyA1 := cells4 RyA 1 _ rfl
        have cyA2 := cells4 RyA 2 _ rfl
        have cyA3 := cells4 RyA 3 _ rfl
        apply cut_same
        · intro key
          have KEY := box key
          clear key
          go_region_with (first | (go_at_call 12; refine (KN.out _).mono ?_; rintro r w13 ⟨rfl, b13⟩; (first | have n13 : Below w12.heap.size w12 w13 := bel_alloc (bel_drew b13) | have n13 : Below w12.heap.size w12 w13 := bel_drew (bel_alloc b13) | have n13 : Below w12.heap.size w12 w13 := bel_drew b13); have B13 : Below w.heap.size w w13 := btr B12 n13; have Rx_13 := heap_of n13 _ _ _ Rx_12; have RxB := heap_of (bal w13 (Obj.cells #[.bool false, .string ⟨#[]⟩, .string ⟨#[]⟩, .int .i64 0] 24)) _ _ _ Rx_13; have cx13_0 := cells4 Rx_13 0 _ rfl; have cxB0 := cells4 RxB 0 _ rfl; have cx13_1 := cells4 Rx_13 1 _ rfl; have cxB1 := cells4 RxB 1 _ rfl; have cx13_2 := cells4 Rx_13 2 _ rfl; have cxB2 := cells4 RxB 2 _ rfl; have cx13_3 := cells4 Rx_13 3 _ rfl; have cxB3 := cells4 RxB 3 _ rfl; (try (have U13 : Box (w13.heap[w12.heap.size]? = some (Obj.cells #[.bool false, .string ⟨#[]⟩, .string ⟨#[]⟩, .int .i64 0] 24)) := box (heap_of (bel_drew b13) _ _ _ (heap_alloc_last w12 _)))); (try (have U13 : Box (w13.heap[w12.heap.size]? = some (Obj.cells #[.bool false, .string ⟨#[]⟩, .string ⟨#[]⟩, .int .i64 0] 24)) := box (heap_of b13 _ _ _ (heap_alloc_last w12.drew _))))) | (go_at_call 11; refine (K5.out _).mono ?_; rintro r w14 ⟨rfl, b14⟩; (first | have n14 : Below w13.heap.size w13 w14 := bel_alloc b14 | have n14 : Below w13.heap.size w13 w14 := b14); have B14 : Below w.heap.size w w14 := btr B13 n14; (try (have V14 : w14.heap[w13.heap.size]? = some (Obj.cells #[.bool false, .string ⟨#[]⟩, .string ⟨#[]⟩, .int .i64 0] 24) := heap_of b14 _ _ _ (heap_alloc_last w13 _); have z0 := fz (k := 0) V14; have y0 := cells4 V14 0 _ rfl; have z1 := fz (k := 1) V14; have y1 := cells4 V14 1 _ rfl; have z2 := fz (k := 2) V14; have y2 := cells4 V14 2 _ rfl; have z3 := fz (k := 3) V14; have y3 := cells4 V14 3 _ rfl)); (try (have V14 : w14.heap[w12.heap.size]? = some (Obj.cells #[.bool false, .string ⟨#[]⟩, .string ⟨#[]⟩, .int .i64 0] 24) := heap_of n14 _ _ _ U13.out; have z0 := fz (k := 0) V14; have y0 := cells4 V14 0 _ rfl; have z1 := fz (k := 1) V14; have y1 := cells4 V14 1 _ rfl; have z2 := fz (k := 2) V14; have y2 := cells4 V14 2 _ rfl; have z3 := fz (k := 3) V14; have y3 := cells4 V14 3 _ rfl)); (try (have V15 : w14.heap[w12.drew.heap.size]? = some (Obj.cells #[.bool false, .string ⟨#[]⟩, .string ⟨#[]⟩, .int .i64 0] 24) := (show w14.heap[w12.heap.size]? = some (Obj.cells #[.bool false, .string ⟨#[]⟩, .string ⟨#[]⟩, .int .i64 0] 24) from heap_of n14 _ _ _ U13.out); have zz0 := fz (k := 0) V15; have yy0 := cells4 V15 0 _ rfl; have zz1 := fz (k := 1) V15; have yy1 := cells4 V15 1 _ rfl; have zz2 := fz (k := 2) V15; have yy2 := cells4 V15 2 _ rfl; have zz3 := fz (k := 3) V15; have yy3 := cells4 V15 3 _ rfl))))
          all_goals
            have n24 : Below w12.heap.size w12 w14 := btr n13 n14
            have Rx_14 := heap_of n24 _ _ _ Rx_12; have lx : Box (_ < w12.heap.size) := box (Array.getElem?_eq_some_iff.1 Rx_12).1
            have Ry_14 := heap_of n24 _ _ _ Ry_12; have ly : Box (_ < w12.heap.size) := box (Array.getElem?_eq_some_iff.1 Ry_12).1
            have Rs_14 := heap_of n24 _ _ _ Rs_12; have ls : Box (_ < w12.heap.size) := box (Array.getElem?_eq_some_iff.1 Rs_12).1
            have Rd_14 := heap_of n24 _ _ _ Rd_12; have ld : Box (_ < w12.heap.size) := box (Array.getElem?_eq_some_iff.1 Rd_12).1
            have Rt_14 := heap_of n24 _ _ _ Rt_12; have lt : Box (_ < w12.heap.size) := box (Array.getElem?_eq_some_iff.1 Rt_12).1
            have S12 := box B12.size
            have S13 := box n13.size
            first | (have hU := V15; have B15 : Below w.heap.size w ((((w14.setCell ⟨w12.drew.heap.size, 0, none⟩ (.bool qb)).setCell ⟨w12.drew.heap.size, 1, none⟩ (.string qu)).setCell ⟨w12.drew.heap.size, 2, none⟩ (.string qv)).setCell ⟨w12.drew.heap.size, 3, none⟩ (.int .i64 qe)) := set4_below B14 (by have := S12.out; have := S13.out; first | omega | (show w.heap.size ≤ w12.heap.size; omega)) _ _ _ _; have Rx_15 := set4_other Rx_14 (b := w12.drew.heap.size) (by have := lx.out; have := S13.out; first | omega | (show w12.heap.size ≠ _; omega)) (.bool qb) (.string qu) (.string qv) (.int .i64 qe); have Ry_15 := set4_other Ry_14 (b := w12.drew.heap.size) (by have := ly.out; have := S13.out; first | omega | (show w12.heap.size ≠ _; omega)) (.bool qb) (.string qu) (.string qv) (.int .i64 qe); have Rs_15 := set4_other Rs_14 (b := w12.drew.heap.size) (by have := ls.out; have := S13.out; first | omega | (show w12.heap.size ≠ _; omega)) (.bool qb) (.string qu) (.string qv) (.int .i64 qe); have Rd_15 := set4_other Rd_14 (b := w12.drew.heap.size) (by have := ld.out; have := S13.out; first | omega | (show w12.heap.size ≠ _; omega)) (.bool qb) (.string qu) (.string qv) (.int .i64 qe); have Rt_15 := set4_other Rt_14 (b := w12.drew.heap.size) (by have := lt.out; have := S13.out; first | omega | (show w12.heap.size ≠ _; omega)) (.bool qb) (.string qu) (.string qv) (.int .i64 qe); have Ru_15 : ((((w14.setCell ⟨w12.drew.heap.size, 0, none⟩ (.bool qb)).setCell ⟨w12.drew.heap.size, 1, none⟩ (.string qu)).setCell ⟨w12.drew.heap.size, 2, none⟩ (.string qv)).setCell ⟨w12.drew.heap.size, 3, none⟩ (.int .i64 qe)).heap[w12.drew.heap.size]? = some (Obj.cells #[.bool qb, .string qu, .string qv, .int .i64 qe] 24) := set4_row V15 rfl _ _ _ _; revert B15 Rx_15 Ry_15 Rs_15 Rd_15 Rt_15 Ru_15; generalize ((((w14.setCell ⟨w12.drew.heap.size, 0, none⟩ (.bool qb)).setCell ⟨w12.drew.heap.size, 1, none⟩ (.string qu)).setCell ⟨w12.drew.heap.size, 2, none⟩ (.string qv)).setCell ⟨w12.drew.heap.size, 3, none⟩ (.int .i64 qe)) = W; generalize w12.drew.heap.size = gu; revert W gu; exact KEY.out) | (have hU := U13; have B15 : Below w.heap.size w ((((w14.setCell ⟨w12.heap.size, 0, none⟩ (.bool qb)).setCell ⟨w12.heap.size, 1, none⟩ (.string qu)).setCell ⟨w12.heap.size, 2, none⟩ (.string qv)).setCell ⟨w12.heap.size, 3, none⟩ (.int .i64 qe)) := set4_below B14 (by have := S12.out; have := S13.out; first | omega | (show w.heap.size ≤ w12.heap.size; omega)) _ _ _ _; have Rx_15 := set4_other Rx_14 (b := w12.heap.size) (by have := lx.out; have := S13.out; first | omega | (show w12.heap.size ≠ _; omega)) (.bool qb) (.string qu) (.string qv) (.int .i64 qe); have Ry_15 := set4_other Ry_14 (b := w12.heap.size) (by have := ly.out; have := S13.out; first | omega | (show w12.heap.size ≠ _; omega)) (.bool qb) (.string qu) (.string qv) (.int .i64 qe); have Rs_15 := set4_other Rs_14 (b := w12.heap.size) (by have := ls.out; have := S13.out; first | omega | (show w12.heap.size ≠ _; omega)) (.bool qb) (.string qu) (.string qv) (.int .i64 qe); have Rd_15 := set4_other Rd_14 (b := w12.heap.size) (by have := ld.out; have := S13.out; first | omega | (show w12.heap.size ≠ _; omega)) (.bool qb) (.string qu) (.string qv) (.int .i64 qe); have Rt_15 := set4_other Rt_14 (b := w12.heap.size) (by have := lt.out; have := S13.out; first | omega | (show w12.heap.size ≠ _; omega)) (.bool qb) (.string qu) (.string qv) (.int .i64 qe); have Ru_15 : ((((w14.setCell ⟨w12.heap.size, 0, none⟩ (.bool qb)).setCell ⟨w12.heap.size, 1, none⟩ (.string qu)).setCell ⟨w12.heap.size, 2, none⟩ (.string qv)).setCell ⟨w12.heap.size, 3, none⟩ (.int .i64 qe)).heap[w12.heap.size]? = some (Obj.cells #[.bool qb, .string qu, .string qv, .int .i64 qe] 24) := set4_row V14 rfl _ _ _ _; revert B15 Rx_15 Ry_15 Rs_15 Rd_15 Rt_15 Ru_15; generalize ((((w14.setCell ⟨w12.heap.size, 0, none⟩ (.bool qb)).setCell ⟨w12.heap.size, 1, none⟩ (.string qu)).setCell ⟨w12.heap.size, 2, none⟩ (.string qv)).setCell ⟨w12.heap.size, 3, none⟩ (.int .i64 qe)) = W; generalize w12.heap.size = gu; revert W gu; exact KEY.out) | (have hV := V14; have B15 : Below w.heap.size w ((((w14.setCell ⟨w13.heap.size, 0, none⟩ (.bool qb)).setCell ⟨w13.heap.size, 1, none⟩ (.string qu)).setCell ⟨w13.heap.size, 2, none⟩ (.string qv)).setCell ⟨w13.heap.size, 3, none⟩ (.int .i64 qe)) := set4_below B14 (by have := S12.out; have := S13.out; first | omega | (show w.heap.size ≤ w12.heap.size; omega)) _ _ _ _; have Rx_15 := set4_other Rx_14 (b := w13.heap.size) (by have := lx.out; have := S13.out; first | omega | (show w12.heap.size ≠ _; omega)) (.bool qb) (.string qu) (.string qv) (.int .i64 qe); have Ry_15 := set4_other Ry_14 (b := w13.heap.size) (by have := ly.out; have := S13.out; first | omega | (show w12.heap.size ≠ _; omega)) (.bool qb) (.string qu) (.string qv) (.int .i64 qe); have Rs_15 := set4_other Rs_14 (b := w13.heap.size) (by have := ls.out; have := S13.out; first | omega | (show w12.heap.size ≠ _; omega)) (.bool qb) (.string qu) (.string qv) (.int .i64 qe); have Rd_15 := set4_other Rd_14 (b := w13.heap.size) (by have := ld.out; have := S13.out; first | omega | (show w12.heap.size ≠ _; omega)) (.bool qb) (.string qu) (.string qv) (.int .i64 qe); have Rt_15 := set4_other Rt_14 (b := w13.heap.size) (by have := lt.out; have := S13.out; first | omega | (show w12.heap.size ≠ _; omega)) (.bool qb) (.string qu) (.string qv) (.int .i64 qe); have Ru_15 : ((((w14.setCell ⟨w13.heap.size, 0, none⟩ (.bool qb)).setCell ⟨w13.heap.size, 1, none⟩ (.string qu)).setCell ⟨w13.heap.size, 2, none⟩ (.string qv)).setCell ⟨w13.heap.size, 3, none⟩ (.int .i64 qe)).heap[w13.heap.size]? = some (Obj.cells #[.bool qb, .string qu, .string qv, .int .i64 qe] 24) := set4_row V14 rfl _ _ _ _; revert B15 Rx_15 Ry_15 Rs_15 Rd_15 Rt_15 Ru_15; generalize ((((w14.setCell ⟨w13.heap.size, 0, none⟩ (.bool qb)).setCell ⟨w13.heap.size, 1, none⟩ (.string qu)).setCell ⟨w13.heap.size, 2, none⟩ (.string qv)).setCell ⟨w13.heap.size, 3, none⟩ (.int .i64 qe)) = W; generalize w13.heap.size = gu; revert W gu; exact KEY.out) | (have B15 : Below w.heap.size w (w14.alloc (Obj.cells #[.bool qb, .string qu, .string qv, .int .i64 qe] 24)) := btr B14 (bal _ _); have Rx_15 := heap_of (bal w14 (Obj.cells #[.bool qb, .string qu, .string qv, .int .i64 qe] 24)) _ _ _ Rx_14; have Ry_15 := heap_of (bal w14 (Obj.cells #[.bool qb, .string qu, .string qv, .int .i64 qe] 24)) _ _ _ Ry_14; have Rs_15 := heap_of (bal w14 (Obj.cells #[.bool qb, .string qu, .string qv, .int .i64 qe] 24)) _ _ _ Rs_14; have Rd_15 := heap_of (bal w14 (Obj.cells #[.bool qb, .string qu, .string qv, .int .i64 qe] 24)) _ _ _ Rd_14; have Rt_15 := heap_of (bal w14 (Obj.cells #[.bool qb, .string qu, .string qv, .int .i64 qe] 24)) _ _ _ Rt_14; have Ru_15 : (w14.alloc (Obj.cells #[.bool qb, .string qu, .string qv, .int .i64 qe] 24)).heap[w14.heap.size]? = some (Obj.cells #[.bool qb, .string qu, .string qv, .int .i64 qe] 24) := heap_alloc_last _ _; revert B15 Rx_15 Ry_15 Rs_15 Rd_15 Rt_15 Ru_15; generalize (w14.alloc (Obj.cells #[.bool qb, .string qu, .string qv, .int .i64 qe] 24)) = W; generalize w14.heap.size = gu; revert W gu; exact KEY.out)
        intro w13 gu B13 Rx_13 Ry_13 Rs_13 Rd_13 Rt_13 Ru_13
        clear B12 Rx_12 Ry_12 Rs_12 Rd_12 Rt_12 cx_12_0 cx_12_1 cx_12_2 cx_12_3 cy_12_0 cy_12_1 cy_12_2 cy_12_3 RxA RyA cxA0 cxA1 cxA2 cxA3 cyA0 cyA1 cyA2 cyA3
        clear w12
        have cx_13_0 := cells4 Rx_13 0 _ rfl
        have cx_13_1 := cells4 Rx_13 1 _ rfl
        have cx_13_2 := cells4 Rx_13 2 _ rfl
        have cx_13_3 := cells4 Rx_13 3 _ rfl
        have cy_13_0 := cells4 Ry_13 0 _ rfl
        have cy_13_1 := cells4 Ry_13 1 _ rfl
        have cy_13_2 := cells4 Ry_13 2 _ rfl
        have cy_13_3 := cells4 Ry_13 3 _ rfl
        have cu_13_0 := cells4 Ru_13 0 _ rfl
        have cu_13_1 := cells4 Ru_13 1 _ rfl
        have cu_13_2 := cells4 Ru_13 2 _ rfl
        have cu_13_3 := cells4 Ru_13 3 _ rfl
        go_wp2_with fail
        refine (K6.out _).mono ?_
        rintro r w14 ⟨rfl, b14⟩
        have B14 : Below w.heap.size w w14 := btr B13 b14
        have Rx_14 : w14.heap[w.heap.size]? = some (Obj.cells #[.bool b0, .string s0, .string t0, .int .i64 e0] 24) := heap_of b14 _ _ _ Rx_13
        have Ry_14 : w14.heap[w.heap.size + 1]? = some (Obj.cells #[.bool vb1, .string vs1, .string vt1, .int .i64 ve1] 24) := heap_of b14 _ _ _ Ry_13
        have Rs_14 : w14.heap[w6.heap.size]? = some (Obj.cells #[.bool pb, .string pu, .string pv, .int .i64 pe] 24) := heap_of b14 _ _ _ Rs_13
        have Rd_14 : w14.heap[w8.heap.size]? = some (Obj.cells #[.bool qb, .string qu, .string qv, .int .i64 qe] 24) := heap_of b14 _ _ _ Rd_13
        have Rt_14 : w14.heap[w11.heap.size]? = some (Obj.cells #[.bool pb, .string pu, .string pv, .int .i64 pe] 24) := heap_of b14 _ _ _ Rt_13
        have Ru_14 : w14.heap[gu]? = some (Obj.cells #[.bool qb, .string qu, .string qv, .int .i64 qe] 24) := heap_of b14 _ _ _ Ru_13
        clear b14 B13 Rx_13 cx_13_0 cx_13_1 cx_13_2 cx_13_3 Ry_13 cy_13_0 cy_13_1 cy_13_2 cy_13_3 Rs_13 Rd_13 Rt_13 Ru_13 cu_13_0 cu_13_1 cu_13_2 cu_13_3
        have cx_14_0 := cells4 Rx_14 0 _ rfl
        have cx_14_1 := cells4 Rx_14 1 _ rfl
        have cx_14_2 := cells4 Rx_14 2 _ rfl
        have cx_14_3 := cells4 Rx_14 3 _ rfl
        have cy_14_0 := cells4 Ry_14 0 _ rfl
        have cy_14_1 := cells4 Ry_14 1 _ rfl
        have cy_14_2 := cells4 Ry_14 2 _ rfl
        have cy_14_3 := cells4 Ry_14 3 _ rfl
        have cu_14_0 := cells4 Ru_14 0 _ rfl
        have cu_14_1 := cells4 Ru_14 1 _ rfl
        have cu_14_2 := cells4 Ru_14 2 _ rfl
        have cu_14_3 := cells4 Ru_14 3 _ rfl
        clear Rx_14 cx_14_0 cx_14_1 cx_14_2 cx_14_3
        clear Ry_14 cy_14_0 cy_14_1 cy_14_2 cy_14_3
        have cs_14_0 := cells4 Rs_14 0 _ rfl
        have cs_14_1 := cells4 Rs_14 1 _ rfl
        have cs_14_2 := cells4 Rs_14 2 _ rfl
        have cs_14_3 := cells4 Rs_14 3 _ rfl
        have cd_14_0 := cells4 Rd_14 0 _ rfl
        have cd_14_1 := cells4 Rd_14 1 _ rfl
        have cd_14_2 := cells4 Rd_14 2 _ rfl
        have cd_14_3 := cells4 Rd_14 3 _ rfl
        have ct_14_0 := cells4 Rt_14 0 _ rfl
        have ct_14_1 := cells4 Rt_14 1 _ rfl
        have ct_14_2 := cells4 Rt_14 2 _ rfl
        have ct_14_3 := cells4 Rt_14 3 _ rfl
        go_wp2_with fail
        refine (xalive _ (tabB TT.out B14)).mono ?_
        rintro r w15 ⟨rfl, b15⟩
        have B15 : Below w.heap.size w w15 := btr B14 b15
        have Rs_15 : w15.heap[w6.heap.size]? = some (Obj.cells #[.bool pb, .string pu, .string pv, .int .i64 pe] 24) := heap_of b15 _ _ _ Rs_14
        have Rd_15 : w15.heap[w8.heap.size]? = some (Obj.cells #[.bool qb, .string qu, .string qv, .int .i64 qe] 24) := heap_of b15 _ _ _ Rd_14
        have Rt_15 : w15.heap[w11.heap.size]? = some (Obj.cells #[.bool pb, .string pu, .string pv, .int .i64 pe] 24) := heap_of b15 _ _ _ Rt_14
        have Ru_15 : w15.heap[gu]? = some (Obj.cells #[.bool qb, .string qu, .string qv, .int .i64 qe] 24) := heap_of b15 _ _ _ Ru_14
        clear b15 B14 Rs_14 cs_14_0 cs_14_1 cs_14_2 cs_14_3 Rd_14 cd_14_0 cd_14_1 cd_14_2 cd_14_3 Rt_14 ct_14_0 ct_14_1 ct_14_2 ct_14_3 Ru_14 cu_14_0 cu_14_1 cu_14_2 cu_14_3
        have cs_15_0 := cells4 Rs_15 0 _ rfl
        have cs_15_1 := cells4 Rs_15 1 _ rfl
        have cs_15_2 := cells4 Rs_15 2 _ rfl
        have cs_15_3 := cells4 Rs_15 3 _ rfl
        have cd_15_0 := cells4 Rd_15 0 _ rfl
        have cd_15_1 := cells4 Rd_15 1 _ rfl
        have cd_15_2 := cells4 Rd_15 2 _ rfl
        have cd_15_3 := cells4 Rd_15 3 _ rfl
        have ct_15_0 := cells4 Rt_15 0 _ rfl
        have ct_15_1 := cells4 Rt_15 1 _ rfl
        have ct_15_2 := cells4 Rt_15 2 _ rfl
        have ct_15_3 := cells4 Rt_15 3 _ rfl
        have cu_15_0 := cells4 Ru_15 0 _ rfl
        have cu_15_1 := cells4 Ru_15 1 _ rfl
        have cu_15_2 := cells4 Ru_15 2 _ rfl
        have cu_15_3 := cells4 Ru_15 3 _ rfl
        go_wp2
        go_ret
        exact ⟨rfl, B15⟩
      · clear hs ht hx hu hv hy he hfo
        have Rx_0 : ((w.alloc (Obj.cells #[.bool b0, .string s0, .string t0, .int .i64 e0] 24)).alloc (Obj.cells #[.bool vb1, .string vs1, .string vt1, .int .i64 ve1] 24)).heap[w.heap.size]? = some (Obj.cells #[.bool b0, .string s0, .string t0, .int .i64 e0] 24) := by rw [heap_below _ _ _ (by simp only [size_al]; omega)]; have := heap_alloc_last w (Obj.cells #[.bool b0, .string s0, .string t0, .int .i64 e0] 24); simpa only [size_al] using this
        have Ry_0 : ((w.alloc (Obj.cells #[.bool b0, .string s0, .string t0, .int .i64 e0] 24)).alloc (Obj.cells #[.bool vb1, .string vs1, .string vt1, .int .i64 ve1] 24)).heap[w.heap.size + 1]? = some (Obj.cells #[.bool vb1, .string vs1, .string vt1, .int .i64 ve1] 24) := by have := heap_alloc_last (w.alloc (Obj.cells #[.bool b0, .string s0, .string t0, .int .i64 e0] 24)) (Obj.cells #[.bool vb1, .string vs1, .string vt1, .int .i64 ve1] 24); simpa only [size_al] using this
        have B0 : Below w.heap.size w ((w.alloc (Obj.cells #[.bool b0, .string s0, .string t0, .int .i64 e0] 24)).alloc (Obj.cells #[.bool vb1, .string vs1, .string vt1, .int .i64 ve1] 24)) := (((Below.refl _ _).alloc (by first | omega | (simp only [size_al]; omega)) _).alloc (by first | omega | (simp only [size_al]; omega)) _)
        go_enter Tryz.func3, Tryz.ntmps3
        go_wp2_with fail
        refine (xshort b0 s0 t0 e0 60 60 true rfl HO.out _).mono ?_
        rintro r w1 ⟨rfl, b1⟩
        have B1 : Below w.heap.size w w1 := btr B0 b1
        have Rx_1 : w1.heap[w.heap.size]? = some (Obj.cells #[.bool b0, .string s0, .string t0, .int .i64 e0] 24) := heap_of b1 _ _ _ Rx_0
        have Ry_1 : w1.heap[w.heap.size + 1]? = some (Obj.cells #[.bool vb1, .string vs1, .string vt1, .int .i64 ve1] 24) := heap_of b1 _ _ _ Ry_0
        clear b1 B0 Rx_0 Ry_0
        have cx_1_0 := cells4 Rx_1 0 _ rfl
        have cx_1_1 := cells4 Rx_1 1 _ rfl
        have cx_1_2 := cells4 Rx_1 2 _ rfl
        have cx_1_3 := cells4 Rx_1 3 _ rfl
        have cy_1_0 := cells4 Ry_1 0 _ rfl
        have cy_1_1 := cells4 Ry_1 1 _ rfl
        have cy_1_2 := cells4 Ry_1 2 _ rfl
        have cy_1_3 := cells4 Ry_1 3 _ rfl
        go_wp2_with fail
        refine (xshort vb1 vs1 vt1 ve1 60 60 true rfl HP.out _).mono ?_
        rintro r w2 ⟨rfl, b2⟩
        have B2 : Below w.heap.size w w2 := btr B1 b2
        have Rx_2 : w2.heap[w.heap.size]? = some (Obj.cells #[.bool b0, .string s0, .string t0, .int .i64 e0] 24) := heap_of b2 _ _ _ Rx_1
        have Ry_2 : w2.heap[w.heap.size + 1]? = some (Obj.cells #[.bool vb1, .string vs1, .string vt1, .int .i64 ve1] 24) := heap_of b2 _ _ _ Ry_1
        clear b2 B1 Rx_1 cx_1_0 cx_1_1 cx_1_2 cx_1_3 Ry_1 cy_1_0 cy_1_1 cy_1_2 cy_1_3
        have cx_2_0 := cells4 Rx_2 0 _ rfl
        have cx_2_1 := cells4 Rx_2 1 _ rfl
        have cx_2_2 := cells4 Rx_2 2 _ rfl
        have cx_2_3 := cells4 Rx_2 3 _ rfl
        have cy_2_0 := cells4 Ry_2 0 _ rfl
        have cy_2_1 := cells4 Ry_2 1 _ rfl
        have cy_2_2 := cells4 Ry_2 2 _ rfl
        have cy_2_3 := cells4 Ry_2 3 _ rfl
        go_wp2_with fail
        refine (xmayM b0 s0 t0 e0 true M1.out _).mono ?_
        rintro r w3 ⟨rfl, b3⟩
        have B3 : Below w.heap.size w w3 := btr B2 b3
        have Rx_3 : w3.heap[w.heap.size]? = some (Obj.cells #[.bool b0, .string s0, .string t0, .int .i64 e0] 24) := heap_of b3 _ _ _ Rx_2
        have Ry_3 : w3.heap[w.heap.size + 1]? = some (Obj.cells #[.bool vb1, .string vs1, .string vt1, .int .i64 ve1] 24) := heap_of b3 _ _ _ Ry_2
        clear b3 B2 Rx_2 cx_2_0 cx_2_1 cx_2_2 cx_2_3 Ry_2 cy_2_0 cy_2_1 cy_2_2 cy_2_3
        have cx_3_0 := cells4 Rx_3 0 _ rfl
        have cx_3_1 := cells4 Rx_3 1 _ rfl
        have cx_3_2 := cells4 Rx_3 2 _ rfl
        have cx_3_3 := cells4 Rx_3 3 _ rfl
        have cy_3_0 := cells4 Ry_3 0 _ rfl
        have cy_3_1 := cells4 Ry_3 1 _ rfl
        have cy_3_2 := cells4 Ry_3 2 _ rfl
        have cy_3_3 := cells4 Ry_3 3 _ rfl
        go_wp2_with fail
        refine (xmayM vb1 vs1 vt1 ve1 true M2.out _).mono ?_
        rintro r w4 ⟨rfl, b4⟩
        have B4 : Below w.heap.size w w4 := btr B3 b4
        have Rx_4 : w4.heap[w.heap.size]? = some (Obj.cells #[.bool b0, .string s0, .string t0, .int .i64 e0] 24) := heap_of b4 _ _ _ Rx_3
        have Ry_4 : w4.heap[w.heap.size + 1]? = some (Obj.cells #[.bool vb1, .string vs1, .string vt1, .int .i64 ve1] 24) := heap_of b4 _ _ _ Ry_3
        clear b4 B3 Rx_3 cx_3_0 cx_3_1 cx_3_2 cx_3_3 Ry_3 cy_3_0 cy_3_1 cy_3_2 cy_3_3
        have cx_4_0 := cells4 Rx_4 0 _ rfl
        have cx_4_1 := cells4 Rx_4 1 _ rfl
        have cx_4_2 := cells4 Rx_4 2 _ rfl
        have cx_4_3 := cells4 Rx_4 3 _ rfl
        have cy_4_0 := cells4 Ry_4 0 _ rfl
        have cy_4_1 := cells4 Ry_4 1 _ rfl
        have cy_4_2 := cells4 Ry_4 2 _ rfl
        have cy_4_3 := cells4 Ry_4 3 _ rfl
        go_wp2_with fail
        refine (KF.out _).mono ?_
        rintro r w5 ⟨rfl, b5⟩
        have B5 : Below w.heap.size w w5 := btr B4 b5
        have Rx_5 : w5.heap[w.heap.size]? = some (Obj.cells #[.bool b0, .string s0, .string t0, .int .i64 e0] 24) := heap_of b5 _ _ _ Rx_4
        have Ry_5 : w5.heap[w.heap.size + 1]? = some (Obj.cells #[.bool vb1, .string vs1, .string vt1, .int .i64 ve1] 24) := heap_of b5 _ _ _ Ry_4
        clear b5 B4 Rx_4 cx_4_0 cx_4_1 cx_4_2 cx_4_3 Ry_4 cy_4_0 cy_4_1 cy_4_2 cy_4_3
        have cx_5_0 := cells4 Rx_5 0 _ rfl
        have cx_5_1 := cells4 Rx_5 1 _ rfl
        have cx_5_2 := cells4 Rx_5 2 _ rfl
        have cx_5_3 := cells4 Rx_5 3 _ rfl
        have cy_5_0 := cells4 Ry_5 0 _ rfl
        have cy_5_1 := cells4 Ry_5 1 _ rfl
        have cy_5_2 := cells4 Ry_5 2 _ rfl
        have cy_5_3 := cells4 Ry_5 3 _ rfl
        go_wp2_with fail
        refine (xalive _ (tabB TT.out B5)).mono ?_
        rintro r w6 ⟨rfl, b6⟩
        have B6 : Below w.heap.size w w6 := btr B5 b6
        have Rx_6 : w6.heap[w.heap.size]? = some (Obj.cells #[.bool b0, .string s0, .string t0, .int .i64 e0] 24) := heap_of b6 _ _ _ Rx_5
        have Ry_6 : w6.heap[w.heap.size + 1]? = some (Obj.cells #[.bool vb1, .string vs1, .string vt1, .int .i64 ve1] 24) := heap_of b6 _ _ _ Ry_5
        clear b6 B5 Rx_5 cx_5_0 cx_5_1 cx_5_2 cx_5_3 Ry_5 cy_5_0 cy_5_1 cy_5_2 cy_5_3
        have cx_6_0 := cells4 Rx_6 0 _ rfl
        have cx_6_1 := cells4 Rx_6 1 _ rfl
        have cx_6_2 := cells4 Rx_6 2 _ rfl
        have cx_6_3 := cells4 Rx_6 3 _ rfl
        have cy_6_0 := cells4 Ry_6 0 _ rfl
        have cy_6_1 := cells4 Ry_6 1 _ rfl
        have cy_6_2 := cells4 Ry_6 2 _ rfl
        have cy_6_3 := cells4 Ry_6 3 _ rfl
        go_wp2
        go_ret
        exact ⟨rfl, B6⟩
    · have M1 : Box (IsM true b0 s0 t0 e0) := box ⟨fun _ => m1, fun _ => rfl⟩
      have M2 : Box (IsM false vb1 vs1 vt1 ve1) := box (may_no m2)
      have K1 := box (fun w hT => Addx_no b0 e0 s0 t0 vb1 ve1 vs1 vt1 true false M1.out M2.out rfl w hT)
      have K2 := box (fun w hT => Subx_no b0 e0 s0 t0 vb1 ve1 vs1 vt1 true false M1.out M2.out rfl w hT)
      have K3 := box (fun w hT => Cmpx_no b0 e0 s0 t0 vb1 ve1 vs1 vt1 true false M1.out M2.out rfl w hT)
      clear m1 m2
      have Rx_0 : ((w.alloc (Obj.cells #[.bool b0, .string s0, .string t0, .int .i64 e0] 24)).alloc (Obj.cells #[.bool vb1, .string vs1, .string vt1, .int .i64 ve1] 24)).heap[w.heap.size]? = some (Obj.cells #[.bool b0, .string s0, .string t0, .int .i64 e0] 24) := by rw [heap_below _ _ _ (by simp only [size_al]; omega)]; have := heap_alloc_last w (Obj.cells #[.bool b0, .string s0, .string t0, .int .i64 e0] 24); simpa only [size_al] using this
      have Ry_0 : ((w.alloc (Obj.cells #[.bool b0, .string s0, .string t0, .int .i64 e0] 24)).alloc (Obj.cells #[.bool vb1, .string vs1, .string vt1, .int .i64 ve1] 24)).heap[w.heap.size + 1]? = some (Obj.cells #[.bool vb1, .string vs1, .string vt1, .int .i64 ve1] 24) := by have := heap_alloc_last (w.alloc (Obj.cells #[.bool b0, .string s0, .string t0, .int .i64 e0] 24)) (Obj.cells #[.bool vb1, .string vs1, .string vt1, .int .i64 ve1] 24); simpa only [size_al] using this
      have B0 : Below w.heap.size w ((w.alloc (Obj.cells #[.bool b0, .string s0, .string t0, .int .i64 e0] 24)).alloc (Obj.cells #[.bool vb1, .string vs1, .string vt1, .int .i64 ve1] 24)) := (((Below.refl _ _).alloc (by first | omega | (simp only [size_al]; omega)) _).alloc (by first | omega | (simp only [size_al]; omega)) _)
      go_enter Tryz.func3, Tryz.ntmps3
      go_wp2_with fail
      refine (xshort b0 s0 t0 e0 60 60 true rfl HO.out _).mono ?_
      rintro r w1 ⟨rfl, b1⟩
      have B1 : Below w.heap.size w w1 := btr B0 b1
      have Rx_1 : w1.heap[w.heap.size]? = some (Obj.cells #[.bool b0, .string s0, .string t0, .int .i64 e0] 24) := heap_of b1 _ _ _ Rx_0
      have Ry_1 : w1.heap[w.heap.size + 1]? = some (Obj.cells #[.bool vb1, .string vs1, .string vt1, .int .i64 ve1] 24) := heap_of b1 _ _ _ Ry_0
      clear b1 B0 Rx_0 Ry_0
      have cx_1_0 := cells4 Rx_1 0 _ rfl
      have cx_1_1 := cells4 Rx_1 1 _ rfl
      have cx_1_2 := cells4 Rx_1 2 _ rfl
      have cx_1_3 := cells4 Rx_1 3 _ rfl
      have cy_1_0 := cells4 Ry_1 0 _ rfl
      have cy_1_1 := cells4 Ry_1 1 _ rfl
      have cy_1_2 := cells4 Ry_1 2 _ rfl
      have cy_1_3 := cells4 Ry_1 3 _ rfl
      go_wp2_with fail
      refine (xshort vb1 vs1 vt1 ve1 60 60 true rfl HP.out _).mono ?_
      rintro r w2 ⟨rfl, b2⟩
      have B2 : Below w.heap.size w w2 := btr B1 b2
      have Rx_2 : w2.heap[w.heap.size]? = some (Obj.cells #[.bool b0, .string s0, .string t0, .int .i64 e0] 24) := heap_of b2 _ _ _ Rx_1
      have Ry_2 : w2.heap[w.heap.size + 1]? = some (Obj.cells #[.bool vb1, .string vs1, .string vt1, .int .i64 ve1] 24) := heap_of b2 _ _ _ Ry_1
      clear b2 B1 Rx_1 cx_1_0 cx_1_1 cx_1_2 cx_1_3 Ry_1 cy_1_0 cy_1_1 cy_1_2 cy_1_3
      have cx_2_0 := cells4 Rx_2 0 _ rfl
      have cx_2_1 := cells4 Rx_2 1 _ rfl
      have cx_2_2 := cells4 Rx_2 2 _ rfl
      have cx_2_3 := cells4 Rx_2 3 _ rfl
      have cy_2_0 := cells4 Ry_2 0 _ rfl
      have cy_2_1 := cells4 Ry_2 1 _ rfl
      have cy_2_2 := cells4 Ry_2 2 _ rfl
      have cy_2_3 := cells4 Ry_2 3 _ rfl
      go_wp2_with fail
      refine (xmayM b0 s0 t0 e0 true M1.out _).mono ?_
      rintro r w3 ⟨rfl, b3⟩
      have B3 : Below w.heap.size w w3 := btr B2 b3
      have Rx_3 : w3.heap[w.heap.size]? = some (Obj.cells #[.bool b0, .string s0, .string t0, .int .i64 e0] 24) := heap_of b3 _ _ _ Rx_2
      have Ry_3 : w3.heap[w.heap.size + 1]? = some (Obj.cells #[.bool vb1, .string vs1, .string vt1, .int .i64 ve1] 24) := heap_of b3 _ _ _ Ry_2
      clear b3 B2 Rx_2 cx_2_0 cx_2_1 cx_2_2 cx_2_3 Ry_2 cy_2_0 cy_2_1 cy_2_2 cy_2_3
      have cx_3_0 := cells4 Rx_3 0 _ rfl
      have cx_3_1 := cells4 Rx_3 1 _ rfl
      have cx_3_2 := cells4 Rx_3 2 _ rfl
      have cx_3_3 := cells4 Rx_3 3 _ rfl
      have cy_3_0 := cells4 Ry_3 0 _ rfl
      have cy_3_1 := cells4 Ry_3 1 _ rfl
      have cy_3_2 := cells4 Ry_3 2 _ rfl
      have cy_3_3 := cells4 Ry_3 3 _ rfl
      go_wp2_with fail
      refine (xmayM vb1 vs1 vt1 ve1 false M2.out _).mono ?_
      rintro r w4 ⟨rfl, b4⟩
      have B4 : Below w.heap.size w w4 := btr B3 b4
      have Rx_4 : w4.heap[w.heap.size]? = some (Obj.cells #[.bool b0, .string s0, .string t0, .int .i64 e0] 24) := heap_of b4 _ _ _ Rx_3
      have Ry_4 : w4.heap[w.heap.size + 1]? = some (Obj.cells #[.bool vb1, .string vs1, .string vt1, .int .i64 ve1] 24) := heap_of b4 _ _ _ Ry_3
      clear b4 B3 Rx_3 cx_3_0 cx_3_1 cx_3_2 cx_3_3 Ry_3 cy_3_0 cy_3_1 cy_3_2 cy_3_3
      have cx_4_0 := cells4 Rx_4 0 _ rfl
      have cx_4_1 := cells4 Rx_4 1 _ rfl
      have cx_4_2 := cells4 Rx_4 2 _ rfl
      have cx_4_3 := cells4 Rx_4 3 _ rfl
      have cy_4_0 := cells4 Ry_4 0 _ rfl
      have cy_4_1 := cells4 Ry_4 1 _ rfl
      have cy_4_2 := cells4 Ry_4 2 _ rfl
      have cy_4_3 := cells4 Ry_4 3 _ rfl
      go_wp2_with fail
      refine (K1.out _ (tabB TT.out B4)).mono ?_
      rintro r w5 ⟨rfl, b5⟩
      have B5 : Below w.heap.size w w5 := btr B4 b5
      have Rx_5 : w5.heap[w.heap.size]? = some (Obj.cells #[.bool b0, .string s0, .string t0, .int .i64 e0] 24) := heap_of b5 _ _ _ Rx_4
      have Ry_5 : w5.heap[w.heap.size + 1]? = some (Obj.cells #[.bool vb1, .string vs1, .string vt1, .int .i64 ve1] 24) := heap_of b5 _ _ _ Ry_4
      clear b5 B4 Rx_4 cx_4_0 cx_4_1 cx_4_2 cx_4_3 Ry_4 cy_4_0 cy_4_1 cy_4_2 cy_4_3
      have cx_5_0 := cells4 Rx_5 0 _ rfl
      have cx_5_1 := cells4 Rx_5 1 _ rfl
      have cx_5_2 := cells4 Rx_5 2 _ rfl
      have cx_5_3 := cells4 Rx_5 3 _ rfl
      have cy_5_0 := cells4 Ry_5 0 _ rfl
      have cy_5_1 := cells4 Ry_5 1 _ rfl
      have cy_5_2 := cells4 Ry_5 2 _ rfl
      have cy_5_3 := cells4 Ry_5 3 _ rfl
      have S6 := box B5.size
      have Lx_6 : Box (w.heap.size < w5.heap.size) := box (Array.getElem?_eq_some_iff.1 Rx_5).1
      have Ly_6 : Box (w.heap.size + 1 < w5.heap.size) := box (Array.getElem?_eq_some_iff.1 Ry_5).1
      have B6 : Below w.heap.size w (w5.alloc (Obj.cells #[.bool false, .string ⟨#[]⟩, .string ⟨#[]⟩, .int .i64 0] 24)) := btr B5 (bal _ _)
      have Rx_6 : (w5.alloc (Obj.cells #[.bool false, .string ⟨#[]⟩, .string ⟨#[]⟩, .int .i64 0] 24)).heap[w.heap.size]? = some (Obj.cells #[.bool b0, .string s0, .string t0, .int .i64 e0] 24) := heap_of (bal _ _) _ _ _ Rx_5
      have Ry_6 : (w5.alloc (Obj.cells #[.bool false, .string ⟨#[]⟩, .string ⟨#[]⟩, .int .i64 0] 24)).heap[w.heap.size + 1]? = some (Obj.cells #[.bool vb1, .string vs1, .string vt1, .int .i64 ve1] 24) := heap_of (bal _ _) _ _ _ Ry_5
      have Rs_6 : (w5.alloc (Obj.cells #[.bool false, .string ⟨#[]⟩, .string ⟨#[]⟩, .int .i64 0] 24)).heap[w5.heap.size]? = some (Obj.cells #[.bool false, .string ⟨#[]⟩, .string ⟨#[]⟩, .int .i64 0] 24) := heap_alloc_last _ _
      clear B5 Rx_5 cx_5_0 cx_5_1 cx_5_2 cx_5_3 Ry_5 cy_5_0 cy_5_1 cy_5_2 cy_5_3
      have cx_6_0 := cells4 Rx_6 0 _ rfl
      have cx_6_1 := cells4 Rx_6 1 _ rfl
      have cx_6_2 := cells4 Rx_6 2 _ rfl
      have cx_6_3 := cells4 Rx_6 3 _ rfl
      have cy_6_0 := cells4 Ry_6 0 _ rfl
      have cy_6_1 := cells4 Ry_6 1 _ rfl
      have cy_6_2 := cells4 Ry_6 2 _ rfl
      have cy_6_3 := cells4 Ry_6 3 _ rfl
      have cs_6_0 := cells4 Rs_6 0 _ rfl
      have cs_6_1 := cells4 Rs_6 1 _ rfl
      have cs_6_2 := cells4 Rs_6 2 _ rfl
      have cs_6_3 := cells4 Rs_6 3 _ rfl
      clear cs_6_0 cs_6_1 cs_6_2 cs_6_3
      go_wp2_with fail
      refine (K2.out _ (tabB TT.out B6)).mono ?_
      rintro r w7 ⟨rfl, b7⟩
      have B7 : Below w.heap.size w w7 := btr B6 b7
      have Rx_7 : w7.heap[w.heap.size]? = some (Obj.cells #[.bool b0, .string s0, .string t0, .int .i64 e0] 24) := heap_of b7 _ _ _ Rx_6
      have Ry_7 : w7.heap[w.heap.size + 1]? = some (Obj.cells #[.bool vb1, .string vs1, .string vt1, .int .i64 ve1] 24) := heap_of b7 _ _ _ Ry_6
      have Rs_7 : w7.heap[w5.heap.size]? = some (Obj.cells #[.bool false, .string ⟨#[]⟩, .string ⟨#[]⟩, .int .i64 0] 24) := heap_of b7 _ _ _ Rs_6
      clear b7 B6 Rx_6 cx_6_0 cx_6_1 cx_6_2 cx_6_3 Ry_6 cy_6_0 cy_6_1 cy_6_2 cy_6_3 Rs_6
      have cx_7_0 := cells4 Rx_7 0 _ rfl
      have cx_7_1 := cells4 Rx_7 1 _ rfl
      have cx_7_2 := cells4 Rx_7 2 _ rfl
      have cx_7_3 := cells4 Rx_7 3 _ rfl
      have cy_7_0 := cells4 Ry_7 0 _ rfl
      have cy_7_1 := cells4 Ry_7 1 _ rfl
      have cy_7_2 := cells4 Ry_7 2 _ rfl
      have cy_7_3 := cells4 Ry_7 3 _ rfl
      have S8 := box B7.size
      have Lx_8 : Box (w.heap.size < w7.heap.size) := box (Array.getElem?_eq_some_iff.1 Rx_7).1
      have Ly_8 : Box (w.heap.size + 1 < w7.heap.size) := box (Array.getElem?_eq_some_iff.1 Ry_7).1
      have Ls_8 : Box (w5.heap.size < w7.heap.size) := box (Array.getElem?_eq_some_iff.1 Rs_7).1
      have B8 : Below w.heap.size w (w7.alloc (Obj.cells #[.bool false, .string ⟨#[]⟩, .string ⟨#[]⟩, .int .i64 0] 24)) := btr B7 (bal _ _)
      have Rx_8 : (w7.alloc (Obj.cells #[.bool false, .string ⟨#[]⟩, .string ⟨#[]⟩, .int .i64 0] 24)).heap[w.heap.size]? = some (Obj.cells #[.bool b0, .string s0, .string t0, .int .i64 e0] 24) := heap_of (bal _ _) _ _ _ Rx_7
      have Ry_8 : (w7.alloc (Obj.cells #[.bool false, .string ⟨#[]⟩, .string ⟨#[]⟩, .int .i64 0] 24)).heap[w.heap.size + 1]? = some (Obj.cells #[.bool vb1, .string vs1, .string vt1, .int .i64 ve1] 24) := heap_of (bal _ _) _ _ _ Ry_7
      have Rs_8 : (w7.alloc (Obj.cells #[.bool false, .string ⟨#[]⟩, .string ⟨#[]⟩, .int .i64 0] 24)).heap[w5.heap.size]? = some (Obj.cells #[.bool false, .string ⟨#[]⟩, .string ⟨#[]⟩, .int .i64 0] 24) := heap_of (bal _ _) _ _ _ Rs_7
      have Rd_8 : (w7.alloc (Obj.cells #[.bool false, .string ⟨#[]⟩, .string ⟨#[]⟩, .int .i64 0] 24)).heap[w7.heap.size]? = some (Obj.cells #[.bool false, .string ⟨#[]⟩, .string ⟨#[]⟩, .int .i64 0] 24) := heap_alloc_last _ _
      clear B7 Rx_7 cx_7_0 cx_7_1 cx_7_2 cx_7_3 Ry_7 cy_7_0 cy_7_1 cy_7_2 cy_7_3 Rs_7
      have cx_8_0 := cells4 Rx_8 0 _ rfl
      have cx_8_1 := cells4 Rx_8 1 _ rfl
      have cx_8_2 := cells4 Rx_8 2 _ rfl
      have cx_8_3 := cells4 Rx_8 3 _ rfl
      have cy_8_0 := cells4 Ry_8 0 _ rfl
      have cy_8_1 := cells4 Ry_8 1 _ rfl
      have cy_8_2 := cells4 Ry_8 2 _ rfl
      have cy_8_3 := cells4 Ry_8 3 _ rfl
      have cd_8_0 := cells4 Rd_8 0 _ rfl
      have cd_8_1 := cells4 Rd_8 1 _ rfl
      have cd_8_2 := cells4 Rd_8 2 _ rfl
      have cd_8_3 := cells4 Rd_8 3 _ rfl
      clear cd_8_0 cd_8_1 cd_8_2 cd_8_3
      go_wp2_with fail
      refine (K3.out _ (tabB TT.out B8)).mono ?_
      rintro r w9 ⟨rfl, b9⟩
      have B9 : Below w.heap.size w w9 := btr B8 b9
      have Rx_9 : w9.heap[w.heap.size]? = some (Obj.cells #[.bool b0, .string s0, .string t0, .int .i64 e0] 24) := heap_of b9 _ _ _ Rx_8
      have Ry_9 : w9.heap[w.heap.size + 1]? = some (Obj.cells #[.bool vb1, .string vs1, .string vt1, .int .i64 ve1] 24) := heap_of b9 _ _ _ Ry_8
      have Rs_9 : w9.heap[w5.heap.size]? = some (Obj.cells #[.bool false, .string ⟨#[]⟩, .string ⟨#[]⟩, .int .i64 0] 24) := heap_of b9 _ _ _ Rs_8
      have Rd_9 : w9.heap[w7.heap.size]? = some (Obj.cells #[.bool false, .string ⟨#[]⟩, .string ⟨#[]⟩, .int .i64 0] 24) := heap_of b9 _ _ _ Rd_8
      clear b9 B8 Rx_8 cx_8_0 cx_8_1 cx_8_2 cx_8_3 Ry_8 cy_8_0 cy_8_1 cy_8_2 cy_8_3 Rs_8 Rd_8
      have cx_9_0 := cells4 Rx_9 0 _ rfl
      have cx_9_1 := cells4 Rx_9 1 _ rfl
      have cx_9_2 := cells4 Rx_9 2 _ rfl
      have cx_9_3 := cells4 Rx_9 3 _ rfl
      have cy_9_0 := cells4 Ry_9 0 _ rfl
      have cy_9_1 := cells4 Ry_9 1 _ rfl
      have cy_9_2 := cells4 Ry_9 2 _ rfl
      have cy_9_3 := cells4 Ry_9 3 _ rfl
      clear Rx_9 cx_9_0 cx_9_1 cx_9_2 cx_9_3
      clear Ry_9 cy_9_0 cy_9_1 cy_9_2 cy_9_3
      have cs_9_0 := cells4 Rs_9 0 _ rfl
      have cs_9_1 := cells4 Rs_9 1 _ rfl
      have cs_9_2 := cells4 Rs_9 2 _ rfl
      have cs_9_3 := cells4 Rs_9 3 _ rfl
      have cd_9_0 := cells4 Rd_9 0 _ rfl
      have cd_9_1 := cells4 Rd_9 1 _ rfl
      have cd_9_2 := cells4 Rd_9 2 _ rfl
      have cd_9_3 := cells4 Rd_9 3 _ rfl
      go_wp2_with fail
      refine (xalive _ (tabB TT.out B9)).mono ?_
      rintro r w10 ⟨rfl, b10⟩
      have B10 : Below w.heap.size w w10 := btr B9 b10
      have Rs_10 : w10.heap[w5.heap.size]? = some (Obj.cells #[.bool false, .string ⟨#[]⟩, .string ⟨#[]⟩, .int .i64 0] 24) := heap_of b10 _ _ _ Rs_9
      have Rd_10 : w10.heap[w7.heap.size]? = some (Obj.cells #[.bool false, .string ⟨#[]⟩, .string ⟨#[]⟩, .int .i64 0] 24) := heap_of b10 _ _ _ Rd_9
      clear b10 B9 Rs_9 cs_9_0 cs_9_1 cs_9_2 cs_9_3 Rd_9 cd_9_0 cd_9_1 cd_9_2 cd_9_3
      have cs_10_0 := cells4 Rs_10 0 _ rfl
      have cs_10_1 := cells4 Rs_10 1 _ rfl
      have cs_10_2 := cells4 Rs_10 2 _ rfl
      have cs_10_3 := cells4 Rs_10 3 _ rfl
      have cd_10_0 := cells4 Rd_10 0 _ rfl
      have cd_10_1 := cells4 Rd_10 1 _ rfl
      have cd_10_2 := cells4 Rd_10 2 _ rfl
      have cd_10_3 := cells4 Rd_10 3 _ rfl
      go_wp2
      go_ret
      exact ⟨rfl, B10⟩
  · have M1 : Box (IsM false b0 s0 t0 e0) := box (may_no m1)
    obtain ⟨o2, M2⟩ : ∃ o2, Box (IsM o2 vb1 vs1 vt1 ve1) := by
      by_cases m2 : MayX vb1 vs1 vt1 ve1
      · exact ⟨true, box ⟨fun _ => m2, fun _ => rfl⟩⟩
      · exact ⟨false, box (may_no m2)⟩
    have K1 := box (fun w hT => Addx_no b0 e0 s0 t0 vb1 ve1 vs1 vt1 false o2 M1.out M2.out rfl w hT)
    have K2 := box (fun w hT => Subx_no b0 e0 s0 t0 vb1 ve1 vs1 vt1 false o2 M1.out M2.out rfl w hT)
    have K3 := box (fun w hT => Cmpx_no b0 e0 s0 t0 vb1 ve1 vs1 vt1 false o2 M1.out M2.out rfl w hT)
    clear m1
    have Rx_0 : ((w.alloc (Obj.cells #[.bool b0, .string s0, .string t0, .int .i64 e0] 24)).alloc (Obj.cells #[.bool vb1, .string vs1, .string vt1, .int .i64 ve1] 24)).heap[w.heap.size]? = some (Obj.cells #[.bool b0, .string s0, .string t0, .int .i64 e0] 24) := by rw [heap_below _ _ _ (by simp only [size_al]; omega)]; have := heap_alloc_last w (Obj.cells #[.bool b0, .string s0, .string t0, .int .i64 e0] 24); simpa only [size_al] using this
    have Ry_0 : ((w.alloc (Obj.cells #[.bool b0, .string s0, .string t0, .int .i64 e0] 24)).alloc (Obj.cells #[.bool vb1, .string vs1, .string vt1, .int .i64 ve1] 24)).heap[w.heap.size + 1]? = some (Obj.cells #[.bool vb1, .string vs1, .string vt1, .int .i64 ve1] 24) := by have := heap_alloc_last (w.alloc (Obj.cells #[.bool b0, .string s0, .string t0, .int .i64 e0] 24)) (Obj.cells #[.bool vb1, .string vs1, .string vt1, .int .i64 ve1] 24); simpa only [size_al] using this
    have B0 : Below w.heap.size w ((w.alloc (Obj.cells #[.bool b0, .string s0, .string t0, .int .i64 e0] 24)).alloc (Obj.cells #[.bool vb1, .string vs1, .string vt1, .int .i64 ve1] 24)) := (((Below.refl _ _).alloc (by first | omega | (simp only [size_al]; omega)) _).alloc (by first | omega | (simp only [size_al]; omega)) _)
    go_enter Tryz.func3, Tryz.ntmps3
    go_wp2_with fail
    refine (xshort b0 s0 t0 e0 60 60 true rfl HO.out _).mono ?_
    rintro r w1 ⟨rfl, b1⟩
    have B1 : Below w.heap.size w w1 := btr B0 b1
    have Rx_1 : w1.heap[w.heap.size]? = some (Obj.cells #[.bool b0, .string s0, .string t0, .int .i64 e0] 24) := heap_of b1 _ _ _ Rx_0
    have Ry_1 : w1.heap[w.heap.size + 1]? = some (Obj.cells #[.bool vb1, .string vs1, .string vt1, .int .i64 ve1] 24) := heap_of b1 _ _ _ Ry_0
    clear b1 B0 Rx_0 Ry_0
    have cx_1_0 := cells4 Rx_1 0 _ rfl
    have cx_1_1 := cells4 Rx_1 1 _ rfl
    have cx_1_2 := cells4 Rx_1 2 _ rfl
    have cx_1_3 := cells4 Rx_1 3 _ rfl
    have cy_1_0 := cells4 Ry_1 0 _ rfl
    have cy_1_1 := cells4 Ry_1 1 _ rfl
    have cy_1_2 := cells4 Ry_1 2 _ rfl
    have cy_1_3 := cells4 Ry_1 3 _ rfl
    go_wp2_with fail
    refine (xshort vb1 vs1 vt1 ve1 60 60 true rfl HP.out _).mono ?_
    rintro r w2 ⟨rfl, b2⟩
    have B2 : Below w.heap.size w w2 := btr B1 b2
    have Rx_2 : w2.heap[w.heap.size]? = some (Obj.cells #[.bool b0, .string s0, .string t0, .int .i64 e0] 24) := heap_of b2 _ _ _ Rx_1
    have Ry_2 : w2.heap[w.heap.size + 1]? = some (Obj.cells #[.bool vb1, .string vs1, .string vt1, .int .i64 ve1] 24) := heap_of b2 _ _ _ Ry_1
    clear b2 B1 Rx_1 cx_1_0 cx_1_1 cx_1_2 cx_1_3 Ry_1 cy_1_0 cy_1_1 cy_1_2 cy_1_3
    have cx_2_0 := cells4 Rx_2 0 _ rfl
    have cx_2_1 := cells4 Rx_2 1 _ rfl
    have cx_2_2 := cells4 Rx_2 2 _ rfl
    have cx_2_3 := cells4 Rx_2 3 _ rfl
    have cy_2_0 := cells4 Ry_2 0 _ rfl
    have cy_2_1 := cells4 Ry_2 1 _ rfl
    have cy_2_2 := cells4 Ry_2 2 _ rfl
    have cy_2_3 := cells4 Ry_2 3 _ rfl
    go_wp2_with fail
    refine (xmayM b0 s0 t0 e0 false M1.out _).mono ?_
    rintro r w3 ⟨rfl, b3⟩
    have B3 : Below w.heap.size w w3 := btr B2 b3
    have Rx_3 : w3.heap[w.heap.size]? = some (Obj.cells #[.bool b0, .string s0, .string t0, .int .i64 e0] 24) := heap_of b3 _ _ _ Rx_2
    have Ry_3 : w3.heap[w.heap.size + 1]? = some (Obj.cells #[.bool vb1, .string vs1, .string vt1, .int .i64 ve1] 24) := heap_of b3 _ _ _ Ry_2
    clear b3 B2 Rx_2 cx_2_0 cx_2_1 cx_2_2 cx_2_3 Ry_2 cy_2_0 cy_2_1 cy_2_2 cy_2_3
    have cx_3_0 := cells4 Rx_3 0 _ rfl
    have cx_3_1 := cells4 Rx_3 1 _ rfl
    have cx_3_2 := cells4 Rx_3 2 _ rfl
    have cx_3_3 := cells4 Rx_3 3 _ rfl
    have cy_3_0 := cells4 Ry_3 0 _ rfl
    have cy_3_1 := cells4 Ry_3 1 _ rfl
    have cy_3_2 := cells4 Ry_3 2 _ rfl
    have cy_3_3 := cells4 Ry_3 3 _ rfl
    go_wp2_with fail
    refine (K1.out _ (tabB TT.out B3)).mono ?_
    rintro r w4 ⟨rfl, b4⟩
    have B4 : Below w.heap.size w w4 := btr B3 b4
    have Rx_4 : w4.heap[w.heap.size]? = some (Obj.cells #[.bool b0, .string s0, .string t0, .int .i64 e0] 24) := heap_of b4 _ _ _ Rx_3
    have Ry_4 : w4.heap[w.heap.size + 1]? = some (Obj.cells #[.bool vb1, .string vs1, .string vt1, .int .i64 ve1] 24) := heap_of b4 _ _ _ Ry_3
    clear b4 B3 Rx_3 cx_3_0 cx_3_1 cx_3_2 cx_3_3 Ry_3 cy_3_0 cy_3_1 cy_3_2 cy_3_3
    have cx_4_0 := cells4 Rx_4 0 _ rfl
    have cx_4_1 := cells4 Rx_4 1 _ rfl
    have cx_4_2 := cells4 Rx_4 2 _ rfl
    have cx_4_3 := cells4 Rx_4 3 _ rfl
    have cy_4_0 := cells4 Ry_4 0 _ rfl
    have cy_4_1 := cells4 Ry_4 1 _ rfl
    have cy_4_2 := cells4 Ry_4 2 _ rfl
    have cy_4_3 := cells4 Ry_4 3 _ rfl
    have S5 := box B4.size
    have Lx_5 : Box (w.heap.size < w4.heap.size) := box (Array.getElem?_eq_some_iff.1 Rx_4).1
    have Ly_5 : Box (w.heap.size + 1 < w4.heap.size) := box (Array.getElem?_eq_some_iff.1 Ry_4).1
    have B5 : Below w.heap.size w (w4.alloc (Obj.cells #[.bool false, .string ⟨#[]⟩, .string ⟨#[]⟩, .int .i64 0] 24)) := btr B4 (bal _ _)
    have Rx_5 : (w4.alloc (Obj.cells #[.bool false, .string ⟨#[]⟩, .string ⟨#[]⟩, .int .i64 0] 24)).heap[w.heap.size]? = some (Obj.cells #[.bool b0, .string s0, .string t0, .int .i64 e0] 24) := heap_of (bal _ _) _ _ _ Rx_4
    have Ry_5 : (w4.alloc (Obj.cells #[.bool false, .string ⟨#[]⟩, .string ⟨#[]⟩, .int .i64 0] 24)).heap[w.heap.size + 1]? = some (Obj.cells #[.bool vb1, .string vs1, .string vt1, .int .i64 ve1] 24) := heap_of (bal _ _) _ _ _ Ry_4
    have Rs_5 : (w4.alloc (Obj.cells #[.bool false, .string ⟨#[]⟩, .string ⟨#[]⟩, .int .i64 0] 24)).heap[w4.heap.size]? = some (Obj.cells #[.bool false, .string ⟨#[]⟩, .string ⟨#[]⟩, .int .i64 0] 24) := heap_alloc_last _ _
    clear B4 Rx_4 cx_4_0 cx_4_1 cx_4_2 cx_4_3 Ry_4 cy_4_0 cy_4_1 cy_4_2 cy_4_3
    have cx_5_0 := cells4 Rx_5 0 _ rfl
    have cx_5_1 := cells4 Rx_5 1 _ rfl
    have cx_5_2 := cells4 Rx_5 2 _ rfl
    have cx_5_3 := cells4 Rx_5 3 _ rfl
    have cy_5_0 := cells4 Ry_5 0 _ rfl
    have cy_5_1 := cells4 Ry_5 1 _ rfl
    have cy_5_2 := cells4 Ry_5 2 _ rfl
    have cy_5_3 := cells4 Ry_5 3 _ rfl
    have cs_5_0 := cells4 Rs_5 0 _ rfl
    have cs_5_1 := cells4 Rs_5 1 _ rfl
    have cs_5_2 := cells4 Rs_5 2 _ rfl
    have cs_5_3 := cells4 Rs_5 3 _ rfl
    clear cs_5_0 cs_5_1 cs_5_2 cs_5_3
    go_wp2_with fail
    refine (K2.out _ (tabB TT.out B5)).mono ?_
    rintro r w6 ⟨rfl, b6⟩
    have B6 : Below w.heap.size w w6 := btr B5 b6
    have Rx_6 : w6.heap[w.heap.size]? = some (Obj.cells #[.bool b0, .string s0, .string t0, .int .i64 e0] 24) := heap_of b6 _ _ _ Rx_5
    have Ry_6 : w6.heap[w.heap.size + 1]? = some (Obj.cells #[.bool vb1, .string vs1, .string vt1, .int .i64 ve1] 24) := heap_of b6 _ _ _ Ry_5
    have Rs_6 : w6.heap[w4.heap.size]? = some (Obj.cells #[.bool false, .string ⟨#[]⟩, .string ⟨#[]⟩, .int .i64 0] 24) := heap_of b6 _ _ _ Rs_5
    clear b6 B5 Rx_5 cx_5_0 cx_5_1 cx_5_2 cx_5_3 Ry_5 cy_5_0 cy_5_1 cy_5_2 cy_5_3 Rs_5
    have cx_6_0 := cells4 Rx_6 0 _ rfl
    have cx_6_1 := cells4 Rx_6 1 _ rfl
    have cx_6_2 := cells4 Rx_6 2 _ rfl
    have cx_6_3 := cells4 Rx_6 3 _ rfl
    have cy_6_0 := cells4 Ry_6 0 _ rfl
    have cy_6_1 := cells4 Ry_6 1 _ rfl
    have cy_6_2 := cells4 Ry_6 2 _ rfl
    have cy_6_3 := cells4 Ry_6 3 _ rfl
    have S7 := box B6.size
    have Lx_7 : Box (w.heap.size < w6.heap.size) := box (Array.getElem?_eq_some_iff.1 Rx_6).1
    have Ly_7 : Box (w.heap.size + 1 < w6.heap.size) := box (Array.getElem?_eq_some_iff.1 Ry_6).1
    have Ls_7 : Box (w4.heap.size < w6.heap.size) := box (Array.getElem?_eq_some_iff.1 Rs_6).1
    have B7 : Below w.heap.size w (w6.alloc (Obj.cells #[.bool false, .string ⟨#[]⟩, .string ⟨#[]⟩, .int .i64 0] 24)) := btr B6 (bal _ _)
    have Rx_7 : (w6.alloc (Obj.cells #[.bool false, .string ⟨#[]⟩, .string ⟨#[]⟩, .int .i64 0] 24)).heap[w.heap.size]? = some (Obj.cells #[.bool b0, .string s0, .string t0, .int .i64 e0] 24) := heap_of (bal _ _) _ _ _ Rx_6
    have Ry_7 : (w6.alloc (Obj.cells #[.bool false, .string ⟨#[]⟩, .string ⟨#[]⟩, .int .i64 0] 24)).heap[w.heap.size + 1]? = some (Obj.cells #[.bool vb1, .string vs1, .string vt1, .int .i64 ve1] 24) := heap_of (bal _ _) _ _ _ Ry_6
    have Rs_7 : (w6.alloc (Obj.cells #[.bool false, .string ⟨#[]⟩, .string ⟨#[]⟩, .int .i64 0] 24)).heap[w4.heap.size]? = some (Obj.cells #[.bool false, .string ⟨#[]⟩, .string ⟨#[]⟩, .int .i64 0] 24) := heap_of (bal _ _) _ _ _ Rs_6
    have Rd_7 : (w6.alloc (Obj.cells #[.bool false, .string ⟨#[]⟩, .string ⟨#[]⟩, .int .i64 0] 24)).heap[w6.heap.size]? = some (Obj.cells #[.bool false, .string ⟨#[]⟩, .string ⟨#[]⟩, .int .i64 0] 24) := heap_alloc_last _ _
    clear B6 Rx_6 cx_6_0 cx_6_1 cx_6_2 cx_6_3 Ry_6 cy_6_0 cy_6_1 cy_6_2 cy_6_3 Rs_6
    have cx_7_0 := cells4 Rx_7 0 _ rfl
    have cx_7_1 := cells4 Rx_7 1 _ rfl
    have cx_7_2 := cells4 Rx_7 2 _ rfl
    have cx_7_3 := cells4 Rx_7 3 _ rfl
    have cy_7_0 := cells4 Ry_7 0 _ rfl
    have cy_7_1 := cells4 Ry_7 1 _ rfl
    have cy_7_2 := cells4 Ry_7 2 _ rfl
    have cy_7_3 := cells4 Ry_7 3 _ rfl
    have cd_7_0 := cells4 Rd_7 0 _ rfl
    have cd_7_1 := cells4 Rd_7 1 _ rfl
    have cd_7_2 := cells4 Rd_7 2 _ rfl
    have cd_7_3 := cells4 Rd_7 3 _ rfl
    clear cd_7_0 cd_7_1 cd_7_2 cd_7_3
    go_wp2_with fail
    refine (K3.out _ (tabB TT.out B7)).mono ?_
    rintro r w8 ⟨rfl, b8⟩
    have B8 : Below w.heap.size w w8 := btr B7 b8
    have Rx_8 : w8.heap[w.heap.size]? = some (Obj.cells #[.bool b0, .string s0, .string t0, .int .i64 e0] 24) := heap_of b8 _ _ _ Rx_7
    have Ry_8 : w8.heap[w.heap.size + 1]? = some (Obj.cells #[.bool vb1, .string vs1, .string vt1, .int .i64 ve1] 24) := heap_of b8 _ _ _ Ry_7
    have Rs_8 : w8.heap[w4.heap.size]? = some (Obj.cells #[.bool false, .string ⟨#[]⟩, .string ⟨#[]⟩, .int .i64 0] 24) := heap_of b8 _ _ _ Rs_7
    have Rd_8 : w8.heap[w6.heap.size]? = some (Obj.cells #[.bool false, .string ⟨#[]⟩, .string ⟨#[]⟩, .int .i64 0] 24) := heap_of b8 _ _ _ Rd_7
    clear b8 B7 Rx_7 cx_7_0 cx_7_1 cx_7_2 cx_7_3 Ry_7 cy_7_0 cy_7_1 cy_7_2 cy_7_3 Rs_7 Rd_7
    have cx_8_0 := cells4 Rx_8 0 _ rfl
    have cx_8_1 := cells4 Rx_8 1 _ rfl
    have cx_8_2 := cells4 Rx_8 2 _ rfl
    have cx_8_3 := cells4 Rx_8 3 _ rfl
    have cy_8_0 := cells4 Ry_8 0 _ rfl
    have cy_8_1 := cells4 Ry_8 1 _ rfl
    have cy_8_2 := cells4 Ry_8 2 _ rfl
    have cy_8_3 := cells4 Ry_8 3 _ rfl
    clear Rx_8 cx_8_0 cx_8_1 cx_8_2 cx_8_3
    clear Ry_8 cy_8_0 cy_8_1 cy_8_2 cy_8_3
    have cs_8_0 := cells4 Rs_8 0 _ rfl
    have cs_8_1 := cells4 Rs_8 1 _ rfl
    have cs_8_2 := cells4 Rs_8 2 _ rfl
    have cs_8_3 := cells4 Rs_8 3 _ rfl
    have cd_8_0 := cells4 Rd_8 0 _ rfl
    have cd_8_1 := cells4 Rd_8 1 _ rfl
    have cd_8_2 := cells4 Rd_8 2 _ rfl
    have cd_8_3 := cells4 Rd_8 3 _ rfl
    go_wp2_with fail
    refine (xalive _ (tabB TT.out B8)).mono ?_
    rintro r w9 ⟨rfl, b9⟩
    have B9 : Below w.heap.size w w9 := btr B8 b9
    have Rs_9 : w9.heap[w4.heap.size]? = some (Obj.cells #[.bool false, .string ⟨#[]⟩, .string ⟨#[]⟩, .int .i64 0] 24) := heap_of b9 _ _ _ Rs_8
    have Rd_9 : w9.heap[w6.heap.size]? = some (Obj.cells #[.bool false, .string ⟨#[]⟩, .string ⟨#[]⟩, .int .i64 0] 24) := heap_of b9 _ _ _ Rd_8
    clear b9 B8 Rs_8 cs_8_0 cs_8_1 cs_8_2 cs_8_3 Rd_8 cd_8_0 cd_8_1 cd_8_2 cd_8_3
    have cs_9_0 := cells4 Rs_9 0 _ rfl
    have cs_9_1 := cells4 Rs_9 1 _ rfl
    have cs_9_2 := cells4 Rs_9 2 _ rfl
    have cs_9_3 := cells4 Rs_9 3 _ rfl
    have cd_9_0 := cells4 Rd_9 0 _ rfl
    have cd_9_1 := cells4 Rd_9 1 _ rfl
    have cd_9_2 := cells4 Rd_9 2 _ rfl
    have cd_9_3 := cells4 Rd_9 3 _ rfl
    go_wp2
    go_ret
    exact ⟨rfl, B9⟩

def tabZ : List Int := [0, 1, 56, 2, 57, 49, 28, 3, 61, 58, 42, 50, 38, 29, 17, 4, 62, 47, 59, 36, 45, 43, 51, 22, 53, 39, 33, 30, 24, 18, 12, 5, 63, 55, 48, 27, 60, 41, 37, 16, 46, 35, 44, 21, 52, 32, 23, 11, 54, 26, 40, 15, 34, 20, 31, 10, 25, 14, 19, 9, 13, 8, 7, 6]
def laid1 : List (String × DataW Unit) := [("math/bits.deBruijn64tab", Rows.laid_math_bits_deBruijn64tab)]
theorem gTab : Tryz.prog.globalNamed "math/bits.deBruijn64tab" = some 0 := by kernel_rfl
theorem gType : (Tryz.prog.globals[0]?).map (·.type) = some 113 := by kernel_rfl
theorem cells5 : Tryz.prog.cellsOf 5 = 1 := by kernel_rfl
theorem cellsT : Tryz.prog.cellsOf 113 = 64 := by kernel_rfl
theorem tab_at : ∀ i : Fin 64, tabZ.getD i.val 0 = ((Lib.deBruijn64tab.getD i.val 0 : Nat) : Int) := by decide +kernel

theorem of_laid {W : World} (h : laidMetH Tryz.prog laid1 W) : TabAt W := by
  rw [MakeChecks.laidMetH_plain _ _ _ (by kernel_rfl)] at h
  have h' : laidMet Tryz.prog (("math/bits.deBruijn64tab", Lib.tabData .u8 tabZ) :: []) W := h
  have hT := Lib.tabIs_of_head gTab gType Tryz.underlying113 Tryz.underlying5 cells5 cellsT h'
  intro i hi
  have hc := hT.cell gTab i (show i < tabZ.length from hi)
  rw [tab_at ⟨i, hi⟩] at hc
  exact hc

theorem door_met (os : Os) (args : Array Value) : laidMetH Tryz.prog laid1 ((World.doorLaid Tryz.prog 400 os).forCall (fun _ _ => 0) ⟨#[], args, []⟩).memory :=
  laidMetH_of_parts3 (fuel := 8) (laidMet_of_run' 8 (by kernel_rfl) (by kernel_rfl)) (by kernel_rfl) (by kernel_rfl)

set_option maxRecDepth 100000 in
theorem lifted (os : Os) (started : os.Started) (H : Type) (enc : TypeId × Value → H) :
    ReturnsInHanded {} Tryz.checked os 3 .any (fun w args => (Rows.exactSumsSpec.pre enc Tryz.prog Tryz.f3 [] false w args ∧ laidMetH Tryz.prog laid1 w) ∧ sizedMet enc Tryz.prog Tryz.f3 (OpenSpec.ofChange Rows.exactSumsSpec) false w args)
      (Rows.exactSumsSpec.post enc Tryz.prog Tryz.f3 false true false false) := by
  refine returnsInHanded_of_change_and (C := Tryz.checked) (X := fun w _ => laidMetH Tryz.prog laid1 w) (fun _ _ _ hh h => h.of_heap hh) own started (by kernel_rfl) Tryz.func3
    (ChangeSpec.witness_shaped (enc := enc) (C := Tryz.checked) (os := os) (X := fun w _ => laidMetH Tryz.prog laid1 w) false (World.doorLaid Tryz.prog 400 os) #[.agg #[.bool false, .string ⟨#[]⟩, .string ⟨#[]⟩, .int .i64 0], .agg #[.bool false, .string ⟨#[]⟩, .string ⟨#[]⟩, .int .i64 0]] 8 rfl (World.shaped_of_RefB (by kernel_rfl) (by kernel_rfl)) (by kernel_rfl) (by kernel_rfl) (by kernel_rfl) (door_met os _)) ?_
  intro W base args ds gs before hval0 hW _ _ hL _
  have hval : ∀ (j : Nat) t v, Tryz.f3.params[j]? = some t → args[j]? = some v → Value.okWide Tryz.prog W .any base t v := hval0
  have hW' := hW
  obtain ⟨p, q, hA0, hV, rfl, hfz, hnd⟩ := hW
  have hA : DataW.TrodAll enc Tryz.prog W 0 (fun _ => true) true Tryz.f3.params.toList args.toList ds p := hA0
  rw [Tryz.params3] at hA hval
  obtain ⟨v0, vs0, d0, ds0, p0, q0, hargs, rfl, rfl, k0, r0⟩ := trodAll_cons hA
  obtain ⟨v1, vs1, d1, ds1, p1, q1, rfl, rfl, rfl, k1, r1⟩ := trodAll_cons r0
  obtain ⟨rfl, rfl, rfl⟩ := trodAll_nil r1
  obtain rfl : args = #[v0, v1] := by cases args; simp_all
  obtain ⟨rfl, rfl⟩ := trodVars_none hV
  obtain ⟨b0, s0, t0, e0, rfl, rfl, rfl, h0⟩ := open_exact (hval 0 24 v0 rfl rfl) k0
  obtain ⟨vb1, vs1, vt1, ve1, rfl, rfl, rfl, h1⟩ := open_exact (hval 1 24 v1 rfl rfl) k1
  clear hA0 hval0
  simp only [List.append_nil] at hW'
  refine (walk b0 s0 t0 e0 vb1 vs1 vt1 ve1 h0 h1 W (of_laid hL)).mono fun e W' ⟨he, hg⟩ => ?_
  subst he
  exact ⟨_, rfl, post_plain hW' (fun _ _ _ => trodAll_mk1 (shut_bool Tryz.underlying4 _)) (fun sp => (trodAll_cons_mk (shut_exact h0) (trodAll_cons_mk (shut_exact h1) trodAll_mk0))) (fun _ => rfl) hg (ok_one (by kernel_rfl) rfl (okWide_bool_mk Tryz.underlying4 _))⟩

theorem over : Rows.ExactSumsSaid :=
  OpenClaim.holds_of_wide 3 Tryz.f3 rfl rfl rfl rfl rfl rfl rfl ⟨rfl, rfl, rfl, rfl, rfl⟩ rfl rfl rfl rfl rfl (by kernel_rfl) Tryz.func3 (by kernel_rfl)
    (of_decide_eq_true (by kernel_rfl)) (by unfold Func.isWrapper; first | (rw [if_pos (by decide +kernel)]; kernel_rfl) | (rw [if_neg (by decide +kernel)]; exact ⟨rfl, rfl⟩))
    (fun os started H enc _ => lifted os started H enc)

theorem proved : Rows.ExactSumsCardSaid :=
  Claim7.holds_tied_plain_at .later [] [.data] true (true, "fd2b6211fff8ccb16e29b95d993efcfae30cb9d8df5b9734c1cda677ec59656e") false
    over (fun _ h => by cases h) (by kernel_rfl) (fun _ h => by cases h) exactSums_row_tie rfl ⟨rfl, rfl⟩ (by kernel_rfl) rfl
    (fun f fn hf hfn => by
      obtain rfl : f = 3 := Option.some.inj ((show Tryz.prog.funcNamed "abacus/abacuslaw06.ExactSums" = some 3 by kernel_rfl).symm.trans hf) |>.symm
      obtain rfl : fn = Tryz.f3 := (Option.some.inj (Tryz.func3.symm.trans hfn)).symm
      exact ⟨by kernel_rfl, fun j t ht => by
        rw [Tryz.params3] at ht
        have h3 : t = 24 := by
          rcases j with _ | _ | j
          · exact (by simpa using ht.symm)
          · exact (by simpa using ht.symm)
          · simp at ht
        rcases h3 with rfl
        · exact (show Tryz.prog.wantsStandIn 24 = false by kernel_rfl)⟩)
    (by kernel_rfl)
#print axioms proved
end Go.Proofs.YtknkkagapcigfaaGreatDoor.exactSums
