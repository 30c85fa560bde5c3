/-
  ExactPlaces returns true for every exact number, whether it may be or not, and every whole number: times a power of two, the highest bit, the whole part are the document's.
-/
import Derived.Test.YthiongcednmjiaaDoorRows
import Derived.Test.YthiongcednmjiaaDoorTie
import Derived.Test.YthiongcednmjiaaDoorCards
import Derived.WalkKit
import Derived.ProofKit
import Derived.OpenShut
import Derived.LaidMore
import Derived.Stop.Joined
import Derived.Lib.LaidTab
import Derived.SevenTiedAt
import Derived.Test.YthiongcednmjiaaDoorFrame6
import Derived.Test.YthiongcednmjiaaDoorXL
import Derived.Test.YthiongcednmjiaaDoorX10
import Derived.Test.YthiongcednmjiaaDoorY4
import Derived.Test.YthiongcednmjiaaDoorFrameX
namespace Go.Proofs.YthiongcednmjiaaDoor.exactPlaces
open WMath XMath
open Go.ChangeShapes Go.WideShapes Go.ChangeAt Go.RowKit
set_option linter.unusedVariables false

theorem own : ownKnob Tryd.prog.godebug = none := by kernel_rfl

set_option maxRecDepth 100000 in
set_option maxHeartbeats 4000000 in
theorem walk (b0 : Bool) (s0 t0 : ByteArray) (e0 : Int) (a1 : Int) (h0 : s0.size ≤ maxLen ∧ t0.size ≤ maxLen ∧ (Lit.int .i64 e0).wf = true) (h1 : (Lit.int .i64 a1).wf = true) (w : World) (hT : TabAt w) :
    Calls Tryd.prog 6 #[.agg #[.bool b0, .string s0, .string t0, .int .i64 e0], .int .i64 a1] w fun e w' => e = .returned (.bool true) ∧ Below w.heap.size w w' := by
  have TT := box hT
  clear hT
  have hb := bounds_i64 h1
  have he0 := bounds_i64 h0.2.2
  obtain ⟨o, ho⟩ : ∃ o, (decide (s0.size ≤ 60) && decide (t0.size ≤ 60)) = o := ⟨_, rfl⟩
  have HO := box ho
  clear ho h1 h0
  cases o
  · have Rx_0 : (w.alloc (Obj.cells #[.bool b0, .string s0, .string t0, .int .i64 e0] 24)).heap[w.heap.size]? = some (Obj.cells #[.bool b0, .string s0, .string t0, .int .i64 e0] 24) := by have := heap_alloc_last w (Obj.cells #[.bool b0, .string s0, .string t0, .int .i64 e0] 24); simpa only [size_al] using this
    have B0 : Below w.heap.size w (w.alloc (Obj.cells #[.bool b0, .string s0, .string t0, .int .i64 e0] 24)) := ((Below.refl _ _).alloc (by first | omega | (simp only [size_al]; omega)) _)
    go_enter Tryd.func6, Tryd.ntmps6
    go_wp2_with fail
    refine (xshort b0 s0 t0 e0 60 60 false rfl HO.out _).mono ?_
    rintro r w1 ⟨rfl, b1⟩
    have B1 : Below w.heap.size w w1 := btr B0 b1
    have Rx_1 : w1.heap[w.heap.size]? = some (Obj.cells #[.bool b0, .string s0, .string t0, .int .i64 e0] 24) := heap_of b1 _ _ _ Rx_0
    clear b1 B0 Rx_0
    have cx_1_0 := cells4 Rx_1 0 _ rfl
    have cx_1_1 := cells4 Rx_1 1 _ rfl
    have cx_1_2 := cells4 Rx_1 2 _ rfl
    have cx_1_3 := cells4 Rx_1 3 _ rfl
    go_wp2_with fail
    refine (xalive _ (tabB TT.out B1)).mono ?_
    rintro r w2 ⟨rfl, b2⟩
    have B2 : Below w.heap.size w w2 := btr B1 b2
    have Rx_2 : w2.heap[w.heap.size]? = some (Obj.cells #[.bool b0, .string s0, .string t0, .int .i64 e0] 24) := heap_of b2 _ _ _ Rx_1
    clear b2 B1 Rx_1 cx_1_0 cx_1_1 cx_1_2 cx_1_3
    have cx_2_0 := cells4 Rx_2 0 _ rfl
    have cx_2_1 := cells4 Rx_2 1 _ rfl
    have cx_2_2 := cells4 Rx_2 2 _ rfl
    have cx_2_3 := cells4 Rx_2 3 _ rfl
    go_wp2
    go_ret
    exact ⟨rfl, B2⟩
  by_cases m1 : MayX b0 s0 t0 e0
  · have M1 : Box (IsM true b0 s0 t0 e0) := box ⟨fun _ => m1, fun _ => rfl⟩
    obtain ⟨n, d, hs, ht, hx⟩ := m1
    have hr0 : -1048576 ≤ e0 ∧ e0 ≤ 1048576 := ⟨hx.2.2.1, hx.2.2.2.1⟩
    obtain ⟨⟨⟨pb, pn, pd, pe⟩, pr⟩, hr⟩ : ∃ q, scaleX (XN.mk b0 n d e0) a1 = q := ⟨_, rfl⟩
    obtain ⟨pu, hpu⟩ : ∃ z, nbA pn = z := ⟨_, rfl⟩
    obtain ⟨pv, hpv⟩ : ∃ z, nbA pd = z := ⟨_, rfl⟩
    obtain ⟨⟨⟨m, is⟩, err⟩, hf⟩ : ∃ q, flX (XN.mk b0 n d e0) a1 = q := ⟨_, rfl⟩
    obtain ⟨v, hv⟩ : ∃ z, nbA m = z := ⟨_, rfl⟩
    have K1 := box (fun w hT => Scalex_ok b0 n d e0 s0 t0 a1 pb pn pd pe pr pu pv hs ht hx (by omega) (by omega) hr hpu hpv w hT)
    have K3 := box (fun w => rScale_ok b0 n d e0 s0 t0 a1 pb pn pd pe pr pu pv hs ht hx (by omega) (by omega) hr hpu hpv w)
    have K5 := box (fun w hT => Floorx_ok b0 n d e0 s0 t0 a1 m is err v hs ht hx (by omega) (by omega) hf hv w hT)
    have K6 := box (fun w => rFloor_ok b0 n d e0 s0 t0 a1 m is err v hs ht hx (by omega) (by omega) hf hv w)
    obtain ⟨T, te, G1, G2⟩ : ∃ (T te : Int), (∀ w, TabAt w → Calls Tryd.prog 29 #[.agg #[.bool b0, .string s0, .string t0, .int .i64 e0]] w fun r w' => r = .returned (.tuple #[.int .i64 T, .int .i64 te]) ∧ Below w.heap.size w w') ∧ (∀ w : World, Calls Tryd.prog 32 #[.agg #[.bool b0, .string s0, .string t0, .int .i64 e0]] w fun r w' => r = .returned (.tuple #[.int .i64 T, .int .i64 te]) ∧ Below w.heap.size w w') := by
      rcases x_cases hs ht hx with ⟨n0, rfl, rfl, rfl, rfl, rfl⟩ | ⟨n0, _⟩
      · exact ⟨0, 2, fun w hT => Topx_null w hT, fun w => rTop_null w⟩
      · exact ⟨_, 0, fun w hT => Topx_ok b0 n d e0 s0 t0 _ hs ht n0 hx rfl w hT, fun w => rTop_ok b0 n d e0 s0 t0 _ hs ht n0 hx rfl w⟩
    have KT := box G1
    have KV := box G2
    obtain ⟨D, hD⟩ : ∃ D, IntKind.i64.wrap (e0 - a1) = D := ⟨_, rfl⟩
    have hgo : (decide ((-2097152 : Int) ≤ a1) = true ∧ decide (a1 ≤ 2097152) = true ∧ decide ((4000 : Int) < D) = true ∧ decide (D < 140000) = true) ∨ decide ((-2097152 : Int) ≤ a1) = false ∨ (decide ((-2097152 : Int) ≤ a1) = true ∧ decide (a1 ≤ 2097152) = false) ∨ (decide ((-2097152 : Int) ≤ a1) = true ∧ decide (a1 ≤ 2097152) = true ∧ decide ((4000 : Int) < D) = false) ∨ (decide ((-2097152 : Int) ≤ a1) = true ∧ decide (a1 ≤ 2097152) = true ∧ decide ((4000 : Int) < D) = true ∧ decide (D < 140000) = false) := by
      cases decide ((-2097152 : Int) ≤ a1) <;> cases decide (a1 ≤ 2097152) <;> cases decide ((4000 : Int) < D) <;> cases decide (D < 140000) <;> simp
    clear hs ht hx hr hpu hpv hf hv G1 G2 hb hr0 he0
    rcases hgo with ⟨c1, c2, c3, c4⟩ | c1 | ⟨c1, c2⟩ | ⟨c1, c2, c3⟩ | ⟨c1, c2, c3, c4⟩
    · have Rx_0 : (w.alloc (Obj.cells #[.bool b0, .string s0, .string t0, .int .i64 e0] 24)).heap[w.heap.size]? = some (Obj.cells #[.bool b0, .string s0, .string t0, .int .i64 e0] 24) := by have := heap_alloc_last w (Obj.cells #[.bool b0, .string s0, .string t0, .int .i64 e0] 24); simpa only [size_al] using this
      have B0 : Below w.heap.size w (w.alloc (Obj.cells #[.bool b0, .string s0, .string t0, .int .i64 e0] 24)) := ((Below.refl _ _).alloc (by first | omega | (simp only [size_al]; omega)) _)
      go_enter Tryd.func6, Tryd.ntmps6
      go_wp2_with fail
      refine (xshort b0 s0 t0 e0 60 60 true rfl HO.out _).mono ?_
      rintro r w1 ⟨rfl, b1⟩
      have B1 : Below w.heap.size w w1 := btr B0 b1
      have Rx_1 : w1.heap[w.heap.size]? = some (Obj.cells #[.bool b0, .string s0, .string t0, .int .i64 e0] 24) := heap_of b1 _ _ _ Rx_0
      clear b1 B0 Rx_0
      have cx_1_0 := cells4 Rx_1 0 _ rfl
      have cx_1_1 := cells4 Rx_1 1 _ rfl
      have cx_1_2 := cells4 Rx_1 2 _ rfl
      have cx_1_3 := cells4 Rx_1 3 _ rfl
      go_wp2_with fail
      refine (K1.out _ (tabB TT.out B1)).mono ?_
      rintro r w2 ⟨rfl, b2⟩
      have B2 : Below w.heap.size w w2 := btr B1 b2
      have Rx_2 : w2.heap[w.heap.size]? = some (Obj.cells #[.bool b0, .string s0, .string t0, .int .i64 e0] 24) := heap_of b2 _ _ _ Rx_1
      clear b2 B1 Rx_1 cx_1_0 cx_1_1 cx_1_2 cx_1_3
      have cx_2_0 := cells4 Rx_2 0 _ rfl
      have cx_2_1 := cells4 Rx_2 1 _ rfl
      have cx_2_2 := cells4 Rx_2 2 _ rfl
      have cx_2_3 := cells4 Rx_2 3 _ rfl
      have S3 := box B2.size
      have Lx_3 : Box (w.heap.size < w2.heap.size) := box (Array.getElem?_eq_some_iff.1 Rx_2).1
      have B3 : Below w.heap.size w (w2.alloc (Obj.cells #[.bool pb, .string pu, .string pv, .int .i64 pe] 24)) := btr B2 (bal _ _)
      have Rx_3 : (w2.alloc (Obj.cells #[.bool pb, .string pu, .string pv, .int .i64 pe] 24)).heap[w.heap.size]? = some (Obj.cells #[.bool b0, .string s0, .string t0, .int .i64 e0] 24) := heap_of (bal _ _) _ _ _ Rx_2
      have Rs_3 : (w2.alloc (Obj.cells #[.bool pb, .string pu, .string pv, .int .i64 pe] 24)).heap[w2.heap.size]? = some (Obj.cells #[.bool pb, .string pu, .string pv, .int .i64 pe] 24) := heap_alloc_last _ _
      clear B2 Rx_2 cx_2_0 cx_2_1 cx_2_2 cx_2_3
      have cx_3_0 := cells4 Rx_3 0 _ rfl
      have cx_3_1 := cells4 Rx_3 1 _ rfl
      have cx_3_2 := cells4 Rx_3 2 _ rfl
      have cx_3_3 := cells4 Rx_3 3 _ rfl
      have cs_3_0 := cells4 Rs_3 0 _ rfl
      have cs_3_1 := cells4 Rs_3 1 _ rfl
      have cs_3_2 := cells4 Rs_3 2 _ rfl
      have cs_3_3 := cells4 Rs_3 3 _ rfl
      clear cs_3_0 cs_3_1 cs_3_2 cs_3_3
      go_wp2_with fail
      refine (KT.out _ (tabB TT.out B3)).mono ?_
      rintro r w4 ⟨rfl, b4⟩
      have B4 : Below w.heap.size w w4 := btr B3 b4
      have Rx_4 : w4.heap[w.heap.size]? = some (Obj.cells #[.bool b0, .string s0, .string t0, .int .i64 e0] 24) := heap_of b4 _ _ _ Rx_3
      have Rs_4 : w4.heap[w2.heap.size]? = some (Obj.cells #[.bool pb, .string pu, .string pv, .int .i64 pe] 24) := heap_of b4 _ _ _ Rs_3
      clear b4 B3 Rx_3 cx_3_0 cx_3_1 cx_3_2 cx_3_3 Rs_3
      have cx_4_0 := cells4 Rx_4 0 _ rfl
      have cx_4_1 := cells4 Rx_4 1 _ rfl
      have cx_4_2 := cells4 Rx_4 2 _ rfl
      have cx_4_3 := cells4 Rx_4 3 _ rfl
      go_wp2_with fail
      refine (xmayM b0 s0 t0 e0 true M1.out _).mono ?_
      rintro r w5 ⟨rfl, b5⟩
      have B5 : Below w.heap.size w w5 := btr B4 b5
      have Rx_5 : w5.heap[w.heap.size]? = some (Obj.cells #[.bool b0, .string s0, .string t0, .int .i64 e0] 24) := heap_of b5 _ _ _ Rx_4
      have Rs_5 : w5.heap[w2.heap.size]? = some (Obj.cells #[.bool pb, .string pu, .string pv, .int .i64 pe] 24) := heap_of b5 _ _ _ Rs_4
      clear b5 B4 Rx_4 cx_4_0 cx_4_1 cx_4_2 cx_4_3 Rs_4
      have cx_5_0 := cells4 Rx_5 0 _ rfl
      have cx_5_1 := cells4 Rx_5 1 _ rfl
      have cx_5_2 := cells4 Rx_5 2 _ rfl
      have cx_5_3 := cells4 Rx_5 3 _ rfl
      go_wp2_with fail
      refine (K3.out _).mono ?_
      rintro r w6 ⟨rfl, b6⟩
      have B6 : Below w.heap.size w w6 := btr B5 b6
      have Rx_6 : w6.heap[w.heap.size]? = some (Obj.cells #[.bool b0, .string s0, .string t0, .int .i64 e0] 24) := heap_of b6 _ _ _ Rx_5
      have Rs_6 : w6.heap[w2.heap.size]? = some (Obj.cells #[.bool pb, .string pu, .string pv, .int .i64 pe] 24) := heap_of b6 _ _ _ Rs_5
      clear b6 B5 Rx_5 cx_5_0 cx_5_1 cx_5_2 cx_5_3 Rs_5
      have cx_6_0 := cells4 Rx_6 0 _ rfl
      have cx_6_1 := cells4 Rx_6 1 _ rfl
      have cx_6_2 := cells4 Rx_6 2 _ rfl
      have cx_6_3 := cells4 Rx_6 3 _ rfl
      have S7 := box B6.size
      have Lx_7 : Box (w.heap.size < w6.heap.size) := box (Array.getElem?_eq_some_iff.1 Rx_6).1
      have Ls_7 : Box (w2.heap.size < w6.heap.size) := box (Array.getElem?_eq_some_iff.1 Rs_6).1
      have B7 : Below w.heap.size w (w6.alloc (Obj.cells #[.bool pb, .string pu, .string pv, .int .i64 pe] 24)) := btr B6 (bal _ _)
      have Rx_7 : (w6.alloc (Obj.cells #[.bool pb, .string pu, .string pv, .int .i64 pe] 24)).heap[w.heap.size]? = some (Obj.cells #[.bool b0, .string s0, .string t0, .int .i64 e0] 24) := heap_of (bal _ _) _ _ _ Rx_6
      have Rs_7 : (w6.alloc (Obj.cells #[.bool pb, .string pu, .string pv, .int .i64 pe] 24)).heap[w2.heap.size]? = some (Obj.cells #[.bool pb, .string pu, .string pv, .int .i64 pe] 24) := heap_of (bal _ _) _ _ _ Rs_6
      have Ru_7 : (w6.alloc (Obj.cells #[.bool pb, .string pu, .string pv, .int .i64 pe] 24)).heap[w6.heap.size]? = some (Obj.cells #[.bool pb, .string pu, .string pv, .int .i64 pe] 24) := heap_alloc_last _ _
      clear B6 Rx_6 cx_6_0 cx_6_1 cx_6_2 cx_6_3 Rs_6
      have cx_7_0 := cells4 Rx_7 0 _ rfl
      have cx_7_1 := cells4 Rx_7 1 _ rfl
      have cx_7_2 := cells4 Rx_7 2 _ rfl
      have cx_7_3 := cells4 Rx_7 3 _ rfl
      have cu_7_0 := cells4 Ru_7 0 _ rfl
      have cu_7_1 := cells4 Ru_7 1 _ rfl
      have cu_7_2 := cells4 Ru_7 2 _ rfl
      have cu_7_3 := cells4 Ru_7 3 _ rfl
      clear cu_7_0 cu_7_1 cu_7_2 cu_7_3
      go_wp2_with fail
      refine (KV.out _).mono ?_
      rintro r w8 ⟨rfl, b8⟩
      have B8 : Below w.heap.size w w8 := btr B7 b8
      have Rx_8 : w8.heap[w.heap.size]? = some (Obj.cells #[.bool b0, .string s0, .string t0, .int .i64 e0] 24) := heap_of b8 _ _ _ Rx_7
      have Rs_8 : w8.heap[w2.heap.size]? = some (Obj.cells #[.bool pb, .string pu, .string pv, .int .i64 pe] 24) := heap_of b8 _ _ _ Rs_7
      have Ru_8 : w8.heap[w6.heap.size]? = some (Obj.cells #[.bool pb, .string pu, .string pv, .int .i64 pe] 24) := heap_of b8 _ _ _ Ru_7
      clear b8 B7 Rx_7 cx_7_0 cx_7_1 cx_7_2 cx_7_3 Rs_7 Ru_7
      have cx_8_0 := cells4 Rx_8 0 _ rfl
      have cx_8_1 := cells4 Rx_8 1 _ rfl
      have cx_8_2 := cells4 Rx_8 2 _ rfl
      have cx_8_3 := cells4 Rx_8 3 _ rfl
      have cs_8_0 := cells4 Rs_8 0 _ rfl
      have cs_8_1 := cells4 Rs_8 1 _ rfl
      have cs_8_2 := cells4 Rs_8 2 _ rfl
      have cs_8_3 := cells4 Rs_8 3 _ rfl
      have cu_8_0 := cells4 Ru_8 0 _ rfl
      have cu_8_1 := cells4 Ru_8 1 _ rfl
      have cu_8_2 := cells4 Ru_8 2 _ rfl
      have cu_8_3 := cells4 Ru_8 3 _ rfl
      go_wp2_with fail
      refine (xalive _ (tabB TT.out B8)).mono ?_
      rintro r w9 ⟨rfl, b9⟩
      have B9 : Below w.heap.size w w9 := btr B8 b9
      have Rx_9 : w9.heap[w.heap.size]? = some (Obj.cells #[.bool b0, .string s0, .string t0, .int .i64 e0] 24) := heap_of b9 _ _ _ Rx_8
      have Rs_9 : w9.heap[w2.heap.size]? = some (Obj.cells #[.bool pb, .string pu, .string pv, .int .i64 pe] 24) := heap_of b9 _ _ _ Rs_8
      have Ru_9 : w9.heap[w6.heap.size]? = some (Obj.cells #[.bool pb, .string pu, .string pv, .int .i64 pe] 24) := heap_of b9 _ _ _ Ru_8
      clear b9 B8 Rx_8 cx_8_0 cx_8_1 cx_8_2 cx_8_3 Rs_8 cs_8_0 cs_8_1 cs_8_2 cs_8_3 Ru_8 cu_8_0 cu_8_1 cu_8_2 cu_8_3
      have cx_9_0 := cells4 Rx_9 0 _ rfl
      have cx_9_1 := cells4 Rx_9 1 _ rfl
      have cx_9_2 := cells4 Rx_9 2 _ rfl
      have cx_9_3 := cells4 Rx_9 3 _ rfl
      have cs_9_0 := cells4 Rs_9 0 _ rfl
      have cs_9_1 := cells4 Rs_9 1 _ rfl
      have cs_9_2 := cells4 Rs_9 2 _ rfl
      have cs_9_3 := cells4 Rs_9 3 _ rfl
      have cu_9_0 := cells4 Ru_9 0 _ rfl
      have cu_9_1 := cells4 Ru_9 1 _ rfl
      have cu_9_2 := cells4 Ru_9 2 _ rfl
      have cu_9_3 := cells4 Ru_9 3 _ rfl
      go_wp2
      go_ret
      exact ⟨rfl, B9⟩
    · have Rx_0 : (w.alloc (Obj.cells #[.bool b0, .string s0, .string t0, .int .i64 e0] 24)).heap[w.heap.size]? = some (Obj.cells #[.bool b0, .string s0, .string t0, .int .i64 e0] 24) := by have := heap_alloc_last w (Obj.cells #[.bool b0, .string s0, .string t0, .int .i64 e0] 24); simpa only [size_al] using this
      have B0 : Below w.heap.size w (w.alloc (Obj.cells #[.bool b0, .string s0, .string t0, .int .i64 e0] 24)) := ((Below.refl _ _).alloc (by first | omega | (simp only [size_al]; omega)) _)
      go_enter Tryd.func6, Tryd.ntmps6
      go_wp2_with fail
      refine (xshort b0 s0 t0 e0 60 60 true rfl HO.out _).mono ?_
      rintro r w1 ⟨rfl, b1⟩
      have B1 : Below w.heap.size w w1 := btr B0 b1
      have Rx_1 : w1.heap[w.heap.size]? = some (Obj.cells #[.bool b0, .string s0, .string t0, .int .i64 e0] 24) := heap_of b1 _ _ _ Rx_0
      clear b1 B0 Rx_0
      have cx_1_0 := cells4 Rx_1 0 _ rfl
      have cx_1_1 := cells4 Rx_1 1 _ rfl
      have cx_1_2 := cells4 Rx_1 2 _ rfl
      have cx_1_3 := cells4 Rx_1 3 _ rfl
      go_wp2_with fail
      refine (K1.out _ (tabB TT.out B1)).mono ?_
      rintro r w2 ⟨rfl, b2⟩
      have B2 : Below w.heap.size w w2 := btr B1 b2
      have Rx_2 : w2.heap[w.heap.size]? = some (Obj.cells #[.bool b0, .string s0, .string t0, .int .i64 e0] 24) := heap_of b2 _ _ _ Rx_1
      clear b2 B1 Rx_1 cx_1_0 cx_1_1 cx_1_2 cx_1_3
      have cx_2_0 := cells4 Rx_2 0 _ rfl
      have cx_2_1 := cells4 Rx_2 1 _ rfl
      have cx_2_2 := cells4 Rx_2 2 _ rfl
      have cx_2_3 := cells4 Rx_2 3 _ rfl
      have S3 := box B2.size
      have Lx_3 : Box (w.heap.size < w2.heap.size) := box (Array.getElem?_eq_some_iff.1 Rx_2).1
      have B3 : Below w.heap.size w (w2.alloc (Obj.cells #[.bool pb, .string pu, .string pv, .int .i64 pe] 24)) := btr B2 (bal _ _)
      have Rx_3 : (w2.alloc (Obj.cells #[.bool pb, .string pu, .string pv, .int .i64 pe] 24)).heap[w.heap.size]? = some (Obj.cells #[.bool b0, .string s0, .string t0, .int .i64 e0] 24) := heap_of (bal _ _) _ _ _ Rx_2
      have Rs_3 : (w2.alloc (Obj.cells #[.bool pb, .string pu, .string pv, .int .i64 pe] 24)).heap[w2.heap.size]? = some (Obj.cells #[.bool pb, .string pu, .string pv, .int .i64 pe] 24) := heap_alloc_last _ _
      clear B2 Rx_2 cx_2_0 cx_2_1 cx_2_2 cx_2_3
      have cx_3_0 := cells4 Rx_3 0 _ rfl
      have cx_3_1 := cells4 Rx_3 1 _ rfl
      have cx_3_2 := cells4 Rx_3 2 _ rfl
      have cx_3_3 := cells4 Rx_3 3 _ rfl
      have cs_3_0 := cells4 Rs_3 0 _ rfl
      have cs_3_1 := cells4 Rs_3 1 _ rfl
      have cs_3_2 := cells4 Rs_3 2 _ rfl
      have cs_3_3 := cells4 Rs_3 3 _ rfl
      clear cs_3_0 cs_3_1 cs_3_2 cs_3_3
      go_wp2_with fail
      refine (KT.out _ (tabB TT.out B3)).mono ?_
      rintro r w4 ⟨rfl, b4⟩
      have B4 : Below w.heap.size w w4 := btr B3 b4
      have Rx_4 : w4.heap[w.heap.size]? = some (Obj.cells #[.bool b0, .string s0, .string t0, .int .i64 e0] 24) := heap_of b4 _ _ _ Rx_3
      have Rs_4 : w4.heap[w2.heap.size]? = some (Obj.cells #[.bool pb, .string pu, .string pv, .int .i64 pe] 24) := heap_of b4 _ _ _ Rs_3
      clear b4 B3 Rx_3 cx_3_0 cx_3_1 cx_3_2 cx_3_3 Rs_3
      have cx_4_0 := cells4 Rx_4 0 _ rfl
      have cx_4_1 := cells4 Rx_4 1 _ rfl
      have cx_4_2 := cells4 Rx_4 2 _ rfl
      have cx_4_3 := cells4 Rx_4 3 _ rfl
      go_wp2_with fail
      refine (xmayM b0 s0 t0 e0 true M1.out _).mono ?_
      rintro r w5 ⟨rfl, b5⟩
      have B5 : Below w.heap.size w w5 := btr B4 b5
      have Rx_5 : w5.heap[w.heap.size]? = some (Obj.cells #[.bool b0, .string s0, .string t0, .int .i64 e0] 24) := heap_of b5 _ _ _ Rx_4
      have Rs_5 : w5.heap[w2.heap.size]? = some (Obj.cells #[.bool pb, .string pu, .string pv, .int .i64 pe] 24) := heap_of b5 _ _ _ Rs_4
      clear b5 B4 Rx_4 cx_4_0 cx_4_1 cx_4_2 cx_4_3 Rs_4
      have cx_5_0 := cells4 Rx_5 0 _ rfl
      have cx_5_1 := cells4 Rx_5 1 _ rfl
      have cx_5_2 := cells4 Rx_5 2 _ rfl
      have cx_5_3 := cells4 Rx_5 3 _ rfl
      go_wp2_with fail
      refine (K3.out _).mono ?_
      rintro r w6 ⟨rfl, b6⟩
      have B6 : Below w.heap.size w w6 := btr B5 b6
      have Rx_6 : w6.heap[w.heap.size]? = some (Obj.cells #[.bool b0, .string s0, .string t0, .int .i64 e0] 24) := heap_of b6 _ _ _ Rx_5
      have Rs_6 : w6.heap[w2.heap.size]? = some (Obj.cells #[.bool pb, .string pu, .string pv, .int .i64 pe] 24) := heap_of b6 _ _ _ Rs_5
      clear b6 B5 Rx_5 cx_5_0 cx_5_1 cx_5_2 cx_5_3 Rs_5
      have cx_6_0 := cells4 Rx_6 0 _ rfl
      have cx_6_1 := cells4 Rx_6 1 _ rfl
      have cx_6_2 := cells4 Rx_6 2 _ rfl
      have cx_6_3 := cells4 Rx_6 3 _ rfl
      have S7 := box B6.size
      have Lx_7 : Box (w.heap.size < w6.heap.size) := box (Array.getElem?_eq_some_iff.1 Rx_6).1
      have Ls_7 : Box (w2.heap.size < w6.heap.size) := box (Array.getElem?_eq_some_iff.1 Rs_6).1
      have B7 : Below w.heap.size w (w6.alloc (Obj.cells #[.bool pb, .string pu, .string pv, .int .i64 pe] 24)) := btr B6 (bal _ _)
      have Rx_7 : (w6.alloc (Obj.cells #[.bool pb, .string pu, .string pv, .int .i64 pe] 24)).heap[w.heap.size]? = some (Obj.cells #[.bool b0, .string s0, .string t0, .int .i64 e0] 24) := heap_of (bal _ _) _ _ _ Rx_6
      have Rs_7 : (w6.alloc (Obj.cells #[.bool pb, .string pu, .string pv, .int .i64 pe] 24)).heap[w2.heap.size]? = some (Obj.cells #[.bool pb, .string pu, .string pv, .int .i64 pe] 24) := heap_of (bal _ _) _ _ _ Rs_6
      have Ru_7 : (w6.alloc (Obj.cells #[.bool pb, .string pu, .string pv, .int .i64 pe] 24)).heap[w6.heap.size]? = some (Obj.cells #[.bool pb, .string pu, .string pv, .int .i64 pe] 24) := heap_alloc_last _ _
      clear B6 Rx_6 cx_6_0 cx_6_1 cx_6_2 cx_6_3 Rs_6
      have cx_7_0 := cells4 Rx_7 0 _ rfl
      have cx_7_1 := cells4 Rx_7 1 _ rfl
      have cx_7_2 := cells4 Rx_7 2 _ rfl
      have cx_7_3 := cells4 Rx_7 3 _ rfl
      have cu_7_0 := cells4 Ru_7 0 _ rfl
      have cu_7_1 := cells4 Ru_7 1 _ rfl
      have cu_7_2 := cells4 Ru_7 2 _ rfl
      have cu_7_3 := cells4 Ru_7 3 _ rfl
      clear cu_7_0 cu_7_1 cu_7_2 cu_7_3
      go_wp2_with fail
      refine (KV.out _).mono ?_
      rintro r w8 ⟨rfl, b8⟩
      have B8 : Below w.heap.size w w8 := btr B7 b8
      have Rx_8 : w8.heap[w.heap.size]? = some (Obj.cells #[.bool b0, .string s0, .string t0, .int .i64 e0] 24) := heap_of b8 _ _ _ Rx_7
      have Rs_8 : w8.heap[w2.heap.size]? = some (Obj.cells #[.bool pb, .string pu, .string pv, .int .i64 pe] 24) := heap_of b8 _ _ _ Rs_7
      have Ru_8 : w8.heap[w6.heap.size]? = some (Obj.cells #[.bool pb, .string pu, .string pv, .int .i64 pe] 24) := heap_of b8 _ _ _ Ru_7
      clear b8 B7 Rx_7 cx_7_0 cx_7_1 cx_7_2 cx_7_3 Rs_7 Ru_7
      have cx_8_0 := cells4 Rx_8 0 _ rfl
      have cx_8_1 := cells4 Rx_8 1 _ rfl
      have cx_8_2 := cells4 Rx_8 2 _ rfl
      have cx_8_3 := cells4 Rx_8 3 _ rfl
      have cs_8_0 := cells4 Rs_8 0 _ rfl
      have cs_8_1 := cells4 Rs_8 1 _ rfl
      have cs_8_2 := cells4 Rs_8 2 _ rfl
      have cs_8_3 := cells4 Rs_8 3 _ rfl
      have cu_8_0 := cells4 Ru_8 0 _ rfl
      have cu_8_1 := cells4 Ru_8 1 _ rfl
      have cu_8_2 := cells4 Ru_8 2 _ rfl
      have cu_8_3 := cells4 Ru_8 3 _ rfl
      go_wp2_with fail
      refine (K5.out _ (tabB TT.out B8)).mono ?_
      rintro r w9 ⟨rfl, b9⟩
      have B9 : Below w.heap.size w w9 := btr B8 b9
      have Rx_9 : w9.heap[w.heap.size]? = some (Obj.cells #[.bool b0, .string s0, .string t0, .int .i64 e0] 24) := heap_of b9 _ _ _ Rx_8
      have Rs_9 : w9.heap[w2.heap.size]? = some (Obj.cells #[.bool pb, .string pu, .string pv, .int .i64 pe] 24) := heap_of b9 _ _ _ Rs_8
      have Ru_9 : w9.heap[w6.heap.size]? = some (Obj.cells #[.bool pb, .string pu, .string pv, .int .i64 pe] 24) := heap_of b9 _ _ _ Ru_8
      clear b9 B8 Rx_8 cx_8_0 cx_8_1 cx_8_2 cx_8_3 Rs_8 cs_8_0 cs_8_1 cs_8_2 cs_8_3 Ru_8 cu_8_0 cu_8_1 cu_8_2 cu_8_3
      have cx_9_0 := cells4 Rx_9 0 _ rfl
      have cx_9_1 := cells4 Rx_9 1 _ rfl
      have cx_9_2 := cells4 Rx_9 2 _ rfl
      have cx_9_3 := cells4 Rx_9 3 _ rfl
      have cs_9_0 := cells4 Rs_9 0 _ rfl
      have cs_9_1 := cells4 Rs_9 1 _ rfl
      have cs_9_2 := cells4 Rs_9 2 _ rfl
      have cs_9_3 := cells4 Rs_9 3 _ rfl
      have cu_9_0 := cells4 Ru_9 0 _ rfl
      have cu_9_1 := cells4 Ru_9 1 _ rfl
      have cu_9_2 := cells4 Ru_9 2 _ rfl
      have cu_9_3 := cells4 Ru_9 3 _ rfl
      go_wp2_with fail
      refine (K6.out _).mono ?_
      rintro r w10 ⟨rfl, b10⟩
      have B10 : Below w.heap.size w w10 := btr B9 b10
      have Rx_10 : w10.heap[w.heap.size]? = some (Obj.cells #[.bool b0, .string s0, .string t0, .int .i64 e0] 24) := heap_of b10 _ _ _ Rx_9
      have Rs_10 : w10.heap[w2.heap.size]? = some (Obj.cells #[.bool pb, .string pu, .string pv, .int .i64 pe] 24) := heap_of b10 _ _ _ Rs_9
      have Ru_10 : w10.heap[w6.heap.size]? = some (Obj.cells #[.bool pb, .string pu, .string pv, .int .i64 pe] 24) := heap_of b10 _ _ _ Ru_9
      clear b10 B9 Rx_9 cx_9_0 cx_9_1 cx_9_2 cx_9_3 Rs_9 cs_9_0 cs_9_1 cs_9_2 cs_9_3 Ru_9 cu_9_0 cu_9_1 cu_9_2 cu_9_3
      have cx_10_0 := cells4 Rx_10 0 _ rfl
      have cx_10_1 := cells4 Rx_10 1 _ rfl
      have cx_10_2 := cells4 Rx_10 2 _ rfl
      have cx_10_3 := cells4 Rx_10 3 _ rfl
      have cs_10_0 := cells4 Rs_10 0 _ rfl
      have cs_10_1 := cells4 Rs_10 1 _ rfl
      have cs_10_2 := cells4 Rs_10 2 _ rfl
      have cs_10_3 := cells4 Rs_10 3 _ rfl
      have cu_10_0 := cells4 Ru_10 0 _ rfl
      have cu_10_1 := cells4 Ru_10 1 _ rfl
      have cu_10_2 := cells4 Ru_10 2 _ rfl
      have cu_10_3 := cells4 Ru_10 3 _ rfl
      go_wp2_with fail
      refine (xalive _ (tabB TT.out B10)).mono ?_
      rintro r w11 ⟨rfl, b11⟩
      have B11 : Below w.heap.size w w11 := btr B10 b11
      have Rx_11 : w11.heap[w.heap.size]? = some (Obj.cells #[.bool b0, .string s0, .string t0, .int .i64 e0] 24) := heap_of b11 _ _ _ Rx_10
      have Rs_11 : w11.heap[w2.heap.size]? = some (Obj.cells #[.bool pb, .string pu, .string pv, .int .i64 pe] 24) := heap_of b11 _ _ _ Rs_10
      have Ru_11 : w11.heap[w6.heap.size]? = some (Obj.cells #[.bool pb, .string pu, .string pv, .int .i64 pe] 24) := heap_of b11 _ _ _ Ru_10
      clear b11 B10 Rx_10 cx_10_0 cx_10_1 cx_10_2 cx_10_3 Rs_10 cs_10_0 cs_10_1 cs_10_2 cs_10_3 Ru_10 cu_10_0 cu_10_1 cu_10_2 cu_10_3
      have cx_11_0 := cells4 Rx_11 0 _ rfl
      have cx_11_1 := cells4 Rx_11 1 _ rfl
      have cx_11_2 := cells4 Rx_11 2 _ rfl
      have cx_11_3 := cells4 Rx_11 3 _ rfl
      have cs_11_0 := cells4 Rs_11 0 _ rfl
      have cs_11_1 := cells4 Rs_11 1 _ rfl
      have cs_11_2 := cells4 Rs_11 2 _ rfl
      have cs_11_3 := cells4 Rs_11 3 _ rfl
      have cu_11_0 := cells4 Ru_11 0 _ rfl
      have cu_11_1 := cells4 Ru_11 1 _ rfl
      have cu_11_2 := cells4 Ru_11 2 _ rfl
      have cu_11_3 := cells4 Ru_11 3 _ rfl
      go_wp2
      go_ret
      exact ⟨rfl, B11⟩
    · have Rx_0 : (w.alloc (Obj.cells #[.bool b0, .string s0, .string t0, .int .i64 e0] 24)).heap[w.heap.size]? = some (Obj.cells #[.bool b0, .string s0, .string t0, .int .i64 e0] 24) := by have := heap_alloc_last w (Obj.cells #[.bool b0, .string s0, .string t0, .int .i64 e0] 24); simpa only [size_al] using this
      have B0 : Below w.heap.size w (w.alloc (Obj.cells #[.bool b0, .string s0, .string t0, .int .i64 e0] 24)) := ((Below.refl _ _).alloc (by first | omega | (simp only [size_al]; omega)) _)
      go_enter Tryd.func6, Tryd.ntmps6
      go_wp2_with fail
      refine (xshort b0 s0 t0 e0 60 60 true rfl HO.out _).mono ?_
      rintro r w1 ⟨rfl, b1⟩
      have B1 : Below w.heap.size w w1 := btr B0 b1
      have Rx_1 : w1.heap[w.heap.size]? = some (Obj.cells #[.bool b0, .string s0, .string t0, .int .i64 e0] 24) := heap_of b1 _ _ _ Rx_0
      clear b1 B0 Rx_0
      have cx_1_0 := cells4 Rx_1 0 _ rfl
      have cx_1_1 := cells4 Rx_1 1 _ rfl
      have cx_1_2 := cells4 Rx_1 2 _ rfl
      have cx_1_3 := cells4 Rx_1 3 _ rfl
      go_wp2_with fail
      refine (K1.out _ (tabB TT.out B1)).mono ?_
      rintro r w2 ⟨rfl, b2⟩
      have B2 : Below w.heap.size w w2 := btr B1 b2
      have Rx_2 : w2.heap[w.heap.size]? = some (Obj.cells #[.bool b0, .string s0, .string t0, .int .i64 e0] 24) := heap_of b2 _ _ _ Rx_1
      clear b2 B1 Rx_1 cx_1_0 cx_1_1 cx_1_2 cx_1_3
      have cx_2_0 := cells4 Rx_2 0 _ rfl
      have cx_2_1 := cells4 Rx_2 1 _ rfl
      have cx_2_2 := cells4 Rx_2 2 _ rfl
      have cx_2_3 := cells4 Rx_2 3 _ rfl
      have S3 := box B2.size
      have Lx_3 : Box (w.heap.size < w2.heap.size) := box (Array.getElem?_eq_some_iff.1 Rx_2).1
      have B3 : Below w.heap.size w (w2.alloc (Obj.cells #[.bool pb, .string pu, .string pv, .int .i64 pe] 24)) := btr B2 (bal _ _)
      have Rx_3 : (w2.alloc (Obj.cells #[.bool pb, .string pu, .string pv, .int .i64 pe] 24)).heap[w.heap.size]? = some (Obj.cells #[.bool b0, .string s0, .string t0, .int .i64 e0] 24) := heap_of (bal _ _) _ _ _ Rx_2
      have Rs_3 : (w2.alloc (Obj.cells #[.bool pb, .string pu, .string pv, .int .i64 pe] 24)).heap[w2.heap.size]? = some (Obj.cells #[.bool pb, .string pu, .string pv, .int .i64 pe] 24) := heap_alloc_last _ _
      clear B2 Rx_2 cx_2_0 cx_2_1 cx_2_2 cx_2_3
      have cx_3_0 := cells4 Rx_3 0 _ rfl
      have cx_3_1 := cells4 Rx_3 1 _ rfl
      have cx_3_2 := cells4 Rx_3 2 _ rfl
      have cx_3_3 := cells4 Rx_3 3 _ rfl
      have cs_3_0 := cells4 Rs_3 0 _ rfl
      have cs_3_1 := cells4 Rs_3 1 _ rfl
      have cs_3_2 := cells4 Rs_3 2 _ rfl
      have cs_3_3 := cells4 Rs_3 3 _ rfl
      clear cs_3_0 cs_3_1 cs_3_2 cs_3_3
      go_wp2_with fail
      refine (KT.out _ (tabB TT.out B3)).mono ?_
      rintro r w4 ⟨rfl, b4⟩
      have B4 : Below w.heap.size w w4 := btr B3 b4
      have Rx_4 : w4.heap[w.heap.size]? = some (Obj.cells #[.bool b0, .string s0, .string t0, .int .i64 e0] 24) := heap_of b4 _ _ _ Rx_3
      have Rs_4 : w4.heap[w2.heap.size]? = some (Obj.cells #[.bool pb, .string pu, .string pv, .int .i64 pe] 24) := heap_of b4 _ _ _ Rs_3
      clear b4 B3 Rx_3 cx_3_0 cx_3_1 cx_3_2 cx_3_3 Rs_3
      have cx_4_0 := cells4 Rx_4 0 _ rfl
      have cx_4_1 := cells4 Rx_4 1 _ rfl
      have cx_4_2 := cells4 Rx_4 2 _ rfl
      have cx_4_3 := cells4 Rx_4 3 _ rfl
      go_wp2_with fail
      refine (xmayM b0 s0 t0 e0 true M1.out _).mono ?_
      rintro r w5 ⟨rfl, b5⟩
      have B5 : Below w.heap.size w w5 := btr B4 b5
      have Rx_5 : w5.heap[w.heap.size]? = some (Obj.cells #[.bool b0, .string s0, .string t0, .int .i64 e0] 24) := heap_of b5 _ _ _ Rx_4
      have Rs_5 : w5.heap[w2.heap.size]? = some (Obj.cells #[.bool pb, .string pu, .string pv, .int .i64 pe] 24) := heap_of b5 _ _ _ Rs_4
      clear b5 B4 Rx_4 cx_4_0 cx_4_1 cx_4_2 cx_4_3 Rs_4
      have cx_5_0 := cells4 Rx_5 0 _ rfl
      have cx_5_1 := cells4 Rx_5 1 _ rfl
      have cx_5_2 := cells4 Rx_5 2 _ rfl
      have cx_5_3 := cells4 Rx_5 3 _ rfl
      go_wp2_with fail
      refine (K3.out _).mono ?_
      rintro r w6 ⟨rfl, b6⟩
      have B6 : Below w.heap.size w w6 := btr B5 b6
      have Rx_6 : w6.heap[w.heap.size]? = some (Obj.cells #[.bool b0, .string s0, .string t0, .int .i64 e0] 24) := heap_of b6 _ _ _ Rx_5
      have Rs_6 : w6.heap[w2.heap.size]? = some (Obj.cells #[.bool pb, .string pu, .string pv, .int .i64 pe] 24) := heap_of b6 _ _ _ Rs_5
      clear b6 B5 Rx_5 cx_5_0 cx_5_1 cx_5_2 cx_5_3 Rs_5
      have cx_6_0 := cells4 Rx_6 0 _ rfl
      have cx_6_1 := cells4 Rx_6 1 _ rfl
      have cx_6_2 := cells4 Rx_6 2 _ rfl
      have cx_6_3 := cells4 Rx_6 3 _ rfl
      have S7 := box B6.size
      have Lx_7 : Box (w.heap.size < w6.heap.size) := box (Array.getElem?_eq_some_iff.1 Rx_6).1
      have Ls_7 : Box (w2.heap.size < w6.heap.size) := box (Array.getElem?_eq_some_iff.1 Rs_6).1
      have B7 : Below w.heap.size w (w6.alloc (Obj.cells #[.bool pb, .string pu, .string pv, .int .i64 pe] 24)) := btr B6 (bal _ _)
      have Rx_7 : (w6.alloc (Obj.cells #[.bool pb, .string pu, .string pv, .int .i64 pe] 24)).heap[w.heap.size]? = some (Obj.cells #[.bool b0, .string s0, .string t0, .int .i64 e0] 24) := heap_of (bal _ _) _ _ _ Rx_6
      have Rs_7 : (w6.alloc (Obj.cells #[.bool pb, .string pu, .string pv, .int .i64 pe] 24)).heap[w2.heap.size]? = some (Obj.cells #[.bool pb, .string pu, .string pv, .int .i64 pe] 24) := heap_of (bal _ _) _ _ _ Rs_6
      have Ru_7 : (w6.alloc (Obj.cells #[.bool pb, .string pu, .string pv, .int .i64 pe] 24)).heap[w6.heap.size]? = some (Obj.cells #[.bool pb, .string pu, .string pv, .int .i64 pe] 24) := heap_alloc_last _ _
      clear B6 Rx_6 cx_6_0 cx_6_1 cx_6_2 cx_6_3 Rs_6
      have cx_7_0 := cells4 Rx_7 0 _ rfl
      have cx_7_1 := cells4 Rx_7 1 _ rfl
      have cx_7_2 := cells4 Rx_7 2 _ rfl
      have cx_7_3 := cells4 Rx_7 3 _ rfl
      have cu_7_0 := cells4 Ru_7 0 _ rfl
      have cu_7_1 := cells4 Ru_7 1 _ rfl
      have cu_7_2 := cells4 Ru_7 2 _ rfl
      have cu_7_3 := cells4 Ru_7 3 _ rfl
      clear cu_7_0 cu_7_1 cu_7_2 cu_7_3
      go_wp2_with fail
      refine (KV.out _).mono ?_
      rintro r w8 ⟨rfl, b8⟩
      have B8 : Below w.heap.size w w8 := btr B7 b8
      have Rx_8 : w8.heap[w.heap.size]? = some (Obj.cells #[.bool b0, .string s0, .string t0, .int .i64 e0] 24) := heap_of b8 _ _ _ Rx_7
      have Rs_8 : w8.heap[w2.heap.size]? = some (Obj.cells #[.bool pb, .string pu, .string pv, .int .i64 pe] 24) := heap_of b8 _ _ _ Rs_7
      have Ru_8 : w8.heap[w6.heap.size]? = some (Obj.cells #[.bool pb, .string pu, .string pv, .int .i64 pe] 24) := heap_of b8 _ _ _ Ru_7
      clear b8 B7 Rx_7 cx_7_0 cx_7_1 cx_7_2 cx_7_3 Rs_7 Ru_7
      have cx_8_0 := cells4 Rx_8 0 _ rfl
      have cx_8_1 := cells4 Rx_8 1 _ rfl
      have cx_8_2 := cells4 Rx_8 2 _ rfl
      have cx_8_3 := cells4 Rx_8 3 _ rfl
      have cs_8_0 := cells4 Rs_8 0 _ rfl
      have cs_8_1 := cells4 Rs_8 1 _ rfl
      have cs_8_2 := cells4 Rs_8 2 _ rfl
      have cs_8_3 := cells4 Rs_8 3 _ rfl
      have cu_8_0 := cells4 Ru_8 0 _ rfl
      have cu_8_1 := cells4 Ru_8 1 _ rfl
      have cu_8_2 := cells4 Ru_8 2 _ rfl
      have cu_8_3 := cells4 Ru_8 3 _ rfl
      go_wp2_with fail
      refine (K5.out _ (tabB TT.out B8)).mono ?_
      rintro r w9 ⟨rfl, b9⟩
      have B9 : Below w.heap.size w w9 := btr B8 b9
      have Rx_9 : w9.heap[w.heap.size]? = some (Obj.cells #[.bool b0, .string s0, .string t0, .int .i64 e0] 24) := heap_of b9 _ _ _ Rx_8
      have Rs_9 : w9.heap[w2.heap.size]? = some (Obj.cells #[.bool pb, .string pu, .string pv, .int .i64 pe] 24) := heap_of b9 _ _ _ Rs_8
      have Ru_9 : w9.heap[w6.heap.size]? = some (Obj.cells #[.bool pb, .string pu, .string pv, .int .i64 pe] 24) := heap_of b9 _ _ _ Ru_8
      clear b9 B8 Rx_8 cx_8_0 cx_8_1 cx_8_2 cx_8_3 Rs_8 cs_8_0 cs_8_1 cs_8_2 cs_8_3 Ru_8 cu_8_0 cu_8_1 cu_8_2 cu_8_3
      have cx_9_0 := cells4 Rx_9 0 _ rfl
      have cx_9_1 := cells4 Rx_9 1 _ rfl
      have cx_9_2 := cells4 Rx_9 2 _ rfl
      have cx_9_3 := cells4 Rx_9 3 _ rfl
      have cs_9_0 := cells4 Rs_9 0 _ rfl
      have cs_9_1 := cells4 Rs_9 1 _ rfl
      have cs_9_2 := cells4 Rs_9 2 _ rfl
      have cs_9_3 := cells4 Rs_9 3 _ rfl
      have cu_9_0 := cells4 Ru_9 0 _ rfl
      have cu_9_1 := cells4 Ru_9 1 _ rfl
      have cu_9_2 := cells4 Ru_9 2 _ rfl
      have cu_9_3 := cells4 Ru_9 3 _ rfl
      go_wp2_with fail
      refine (K6.out _).mono ?_
      rintro r w10 ⟨rfl, b10⟩
      have B10 : Below w.heap.size w w10 := btr B9 b10
      have Rx_10 : w10.heap[w.heap.size]? = some (Obj.cells #[.bool b0, .string s0, .string t0, .int .i64 e0] 24) := heap_of b10 _ _ _ Rx_9
      have Rs_10 : w10.heap[w2.heap.size]? = some (Obj.cells #[.bool pb, .string pu, .string pv, .int .i64 pe] 24) := heap_of b10 _ _ _ Rs_9
      have Ru_10 : w10.heap[w6.heap.size]? = some (Obj.cells #[.bool pb, .string pu, .string pv, .int .i64 pe] 24) := heap_of b10 _ _ _ Ru_9
      clear b10 B9 Rx_9 cx_9_0 cx_9_1 cx_9_2 cx_9_3 Rs_9 cs_9_0 cs_9_1 cs_9_2 cs_9_3 Ru_9 cu_9_0 cu_9_1 cu_9_2 cu_9_3
      have cx_10_0 := cells4 Rx_10 0 _ rfl
      have cx_10_1 := cells4 Rx_10 1 _ rfl
      have cx_10_2 := cells4 Rx_10 2 _ rfl
      have cx_10_3 := cells4 Rx_10 3 _ rfl
      have cs_10_0 := cells4 Rs_10 0 _ rfl
      have cs_10_1 := cells4 Rs_10 1 _ rfl
      have cs_10_2 := cells4 Rs_10 2 _ rfl
      have cs_10_3 := cells4 Rs_10 3 _ rfl
      have cu_10_0 := cells4 Ru_10 0 _ rfl
      have cu_10_1 := cells4 Ru_10 1 _ rfl
      have cu_10_2 := cells4 Ru_10 2 _ rfl
      have cu_10_3 := cells4 Ru_10 3 _ rfl
      go_wp2_with fail
      refine (xalive _ (tabB TT.out B10)).mono ?_
      rintro r w11 ⟨rfl, b11⟩
      have B11 : Below w.heap.size w w11 := btr B10 b11
      have Rx_11 : w11.heap[w.heap.size]? = some (Obj.cells #[.bool b0, .string s0, .string t0, .int .i64 e0] 24) := heap_of b11 _ _ _ Rx_10
      have Rs_11 : w11.heap[w2.heap.size]? = some (Obj.cells #[.bool pb, .string pu, .string pv, .int .i64 pe] 24) := heap_of b11 _ _ _ Rs_10
      have Ru_11 : w11.heap[w6.heap.size]? = some (Obj.cells #[.bool pb, .string pu, .string pv, .int .i64 pe] 24) := heap_of b11 _ _ _ Ru_10
      clear b11 B10 Rx_10 cx_10_0 cx_10_1 cx_10_2 cx_10_3 Rs_10 cs_10_0 cs_10_1 cs_10_2 cs_10_3 Ru_10 cu_10_0 cu_10_1 cu_10_2 cu_10_3
      have cx_11_0 := cells4 Rx_11 0 _ rfl
      have cx_11_1 := cells4 Rx_11 1 _ rfl
      have cx_11_2 := cells4 Rx_11 2 _ rfl
      have cx_11_3 := cells4 Rx_11 3 _ rfl
      have cs_11_0 := cells4 Rs_11 0 _ rfl
      have cs_11_1 := cells4 Rs_11 1 _ rfl
      have cs_11_2 := cells4 Rs_11 2 _ rfl
      have cs_11_3 := cells4 Rs_11 3 _ rfl
      have cu_11_0 := cells4 Ru_11 0 _ rfl
      have cu_11_1 := cells4 Ru_11 1 _ rfl
      have cu_11_2 := cells4 Ru_11 2 _ rfl
      have cu_11_3 := cells4 Ru_11 3 _ rfl
      go_wp2
      go_ret
      exact ⟨rfl, B11⟩
    · have Rx_0 : (w.alloc (Obj.cells #[.bool b0, .string s0, .string t0, .int .i64 e0] 24)).heap[w.heap.size]? = some (Obj.cells #[.bool b0, .string s0, .string t0, .int .i64 e0] 24) := by have := heap_alloc_last w (Obj.cells #[.bool b0, .string s0, .string t0, .int .i64 e0] 24); simpa only [size_al] using this
      have B0 : Below w.heap.size w (w.alloc (Obj.cells #[.bool b0, .string s0, .string t0, .int .i64 e0] 24)) := ((Below.refl _ _).alloc (by first | omega | (simp only [size_al]; omega)) _)
      go_enter Tryd.func6, Tryd.ntmps6
      go_wp2_with fail
      refine (xshort b0 s0 t0 e0 60 60 true rfl HO.out _).mono ?_
      rintro r w1 ⟨rfl, b1⟩
      have B1 : Below w.heap.size w w1 := btr B0 b1
      have Rx_1 : w1.heap[w.heap.size]? = some (Obj.cells #[.bool b0, .string s0, .string t0, .int .i64 e0] 24) := heap_of b1 _ _ _ Rx_0
      clear b1 B0 Rx_0
      have cx_1_0 := cells4 Rx_1 0 _ rfl
      have cx_1_1 := cells4 Rx_1 1 _ rfl
      have cx_1_2 := cells4 Rx_1 2 _ rfl
      have cx_1_3 := cells4 Rx_1 3 _ rfl
      go_wp2_with fail
      refine (K1.out _ (tabB TT.out B1)).mono ?_
      rintro r w2 ⟨rfl, b2⟩
      have B2 : Below w.heap.size w w2 := btr B1 b2
      have Rx_2 : w2.heap[w.heap.size]? = some (Obj.cells #[.bool b0, .string s0, .string t0, .int .i64 e0] 24) := heap_of b2 _ _ _ Rx_1
      clear b2 B1 Rx_1 cx_1_0 cx_1_1 cx_1_2 cx_1_3
      have cx_2_0 := cells4 Rx_2 0 _ rfl
      have cx_2_1 := cells4 Rx_2 1 _ rfl
      have cx_2_2 := cells4 Rx_2 2 _ rfl
      have cx_2_3 := cells4 Rx_2 3 _ rfl
      have S3 := box B2.size
      have Lx_3 : Box (w.heap.size < w2.heap.size) := box (Array.getElem?_eq_some_iff.1 Rx_2).1
      have B3 : Below w.heap.size w (w2.alloc (Obj.cells #[.bool pb, .string pu, .string pv, .int .i64 pe] 24)) := btr B2 (bal _ _)
      have Rx_3 : (w2.alloc (Obj.cells #[.bool pb, .string pu, .string pv, .int .i64 pe] 24)).heap[w.heap.size]? = some (Obj.cells #[.bool b0, .string s0, .string t0, .int .i64 e0] 24) := heap_of (bal _ _) _ _ _ Rx_2
      have Rs_3 : (w2.alloc (Obj.cells #[.bool pb, .string pu, .string pv, .int .i64 pe] 24)).heap[w2.heap.size]? = some (Obj.cells #[.bool pb, .string pu, .string pv, .int .i64 pe] 24) := heap_alloc_last _ _
      clear B2 Rx_2 cx_2_0 cx_2_1 cx_2_2 cx_2_3
      have cx_3_0 := cells4 Rx_3 0 _ rfl
      have cx_3_1 := cells4 Rx_3 1 _ rfl
      have cx_3_2 := cells4 Rx_3 2 _ rfl
      have cx_3_3 := cells4 Rx_3 3 _ rfl
      have cs_3_0 := cells4 Rs_3 0 _ rfl
      have cs_3_1 := cells4 Rs_3 1 _ rfl
      have cs_3_2 := cells4 Rs_3 2 _ rfl
      have cs_3_3 := cells4 Rs_3 3 _ rfl
      clear cs_3_0 cs_3_1 cs_3_2 cs_3_3
      go_wp2_with fail
      refine (KT.out _ (tabB TT.out B3)).mono ?_
      rintro r w4 ⟨rfl, b4⟩
      have B4 : Below w.heap.size w w4 := btr B3 b4
      have Rx_4 : w4.heap[w.heap.size]? = some (Obj.cells #[.bool b0, .string s0, .string t0, .int .i64 e0] 24) := heap_of b4 _ _ _ Rx_3
      have Rs_4 : w4.heap[w2.heap.size]? = some (Obj.cells #[.bool pb, .string pu, .string pv, .int .i64 pe] 24) := heap_of b4 _ _ _ Rs_3
      clear b4 B3 Rx_3 cx_3_0 cx_3_1 cx_3_2 cx_3_3 Rs_3
      have cx_4_0 := cells4 Rx_4 0 _ rfl
      have cx_4_1 := cells4 Rx_4 1 _ rfl
      have cx_4_2 := cells4 Rx_4 2 _ rfl
      have cx_4_3 := cells4 Rx_4 3 _ rfl
      go_wp2_with fail
      refine (xmayM b0 s0 t0 e0 true M1.out _).mono ?_
      rintro r w5 ⟨rfl, b5⟩
      have B5 : Below w.heap.size w w5 := btr B4 b5
      have Rx_5 : w5.heap[w.heap.size]? = some (Obj.cells #[.bool b0, .string s0, .string t0, .int .i64 e0] 24) := heap_of b5 _ _ _ Rx_4
      have Rs_5 : w5.heap[w2.heap.size]? = some (Obj.cells #[.bool pb, .string pu, .string pv, .int .i64 pe] 24) := heap_of b5 _ _ _ Rs_4
      clear b5 B4 Rx_4 cx_4_0 cx_4_1 cx_4_2 cx_4_3 Rs_4
      have cx_5_0 := cells4 Rx_5 0 _ rfl
      have cx_5_1 := cells4 Rx_5 1 _ rfl
      have cx_5_2 := cells4 Rx_5 2 _ rfl
      have cx_5_3 := cells4 Rx_5 3 _ rfl
      go_wp2_with fail
      refine (K3.out _).mono ?_
      rintro r w6 ⟨rfl, b6⟩
      have B6 : Below w.heap.size w w6 := btr B5 b6
      have Rx_6 : w6.heap[w.heap.size]? = some (Obj.cells #[.bool b0, .string s0, .string t0, .int .i64 e0] 24) := heap_of b6 _ _ _ Rx_5
      have Rs_6 : w6.heap[w2.heap.size]? = some (Obj.cells #[.bool pb, .string pu, .string pv, .int .i64 pe] 24) := heap_of b6 _ _ _ Rs_5
      clear b6 B5 Rx_5 cx_5_0 cx_5_1 cx_5_2 cx_5_3 Rs_5
      have cx_6_0 := cells4 Rx_6 0 _ rfl
      have cx_6_1 := cells4 Rx_6 1 _ rfl
      have cx_6_2 := cells4 Rx_6 2 _ rfl
      have cx_6_3 := cells4 Rx_6 3 _ rfl
      have S7 := box B6.size
      have Lx_7 : Box (w.heap.size < w6.heap.size) := box (Array.getElem?_eq_some_iff.1 Rx_6).1
      have Ls_7 : Box (w2.heap.size < w6.heap.size) := box (Array.getElem?_eq_some_iff.1 Rs_6).1
      have B7 : Below w.heap.size w (w6.alloc (Obj.cells #[.bool pb, .string pu, .string pv, .int .i64 pe] 24)) := btr B6 (bal _ _)
      have Rx_7 : (w6.alloc (Obj.cells #[.bool pb, .string pu, .string pv, .int .i64 pe] 24)).heap[w.heap.size]? = some (Obj.cells #[.bool b0, .string s0, .string t0, .int .i64 e0] 24) := heap_of (bal _ _) _ _ _ Rx_6
      have Rs_7 : (w6.alloc (Obj.cells #[.bool pb, .string pu, .string pv, .int .i64 pe] 24)).heap[w2.heap.size]? = some (Obj.cells #[.bool pb, .string pu, .string pv, .int .i64 pe] 24) := heap_of (bal _ _) _ _ _ Rs_6
      have Ru_7 : (w6.alloc (Obj.cells #[.bool pb, .string pu, .string pv, .int .i64 pe] 24)).heap[w6.heap.size]? = some (Obj.cells #[.bool pb, .string pu, .string pv, .int .i64 pe] 24) := heap_alloc_last _ _
      clear B6 Rx_6 cx_6_0 cx_6_1 cx_6_2 cx_6_3 Rs_6
      have cx_7_0 := cells4 Rx_7 0 _ rfl
      have cx_7_1 := cells4 Rx_7 1 _ rfl
      have cx_7_2 := cells4 Rx_7 2 _ rfl
      have cx_7_3 := cells4 Rx_7 3 _ rfl
      have cu_7_0 := cells4 Ru_7 0 _ rfl
      have cu_7_1 := cells4 Ru_7 1 _ rfl
      have cu_7_2 := cells4 Ru_7 2 _ rfl
      have cu_7_3 := cells4 Ru_7 3 _ rfl
      clear cu_7_0 cu_7_1 cu_7_2 cu_7_3
      go_wp2_with fail
      refine (KV.out _).mono ?_
      rintro r w8 ⟨rfl, b8⟩
      have B8 : Below w.heap.size w w8 := btr B7 b8
      have Rx_8 : w8.heap[w.heap.size]? = some (Obj.cells #[.bool b0, .string s0, .string t0, .int .i64 e0] 24) := heap_of b8 _ _ _ Rx_7
      have Rs_8 : w8.heap[w2.heap.size]? = some (Obj.cells #[.bool pb, .string pu, .string pv, .int .i64 pe] 24) := heap_of b8 _ _ _ Rs_7
      have Ru_8 : w8.heap[w6.heap.size]? = some (Obj.cells #[.bool pb, .string pu, .string pv, .int .i64 pe] 24) := heap_of b8 _ _ _ Ru_7
      clear b8 B7 Rx_7 cx_7_0 cx_7_1 cx_7_2 cx_7_3 Rs_7 Ru_7
      have cx_8_0 := cells4 Rx_8 0 _ rfl
      have cx_8_1 := cells4 Rx_8 1 _ rfl
      have cx_8_2 := cells4 Rx_8 2 _ rfl
      have cx_8_3 := cells4 Rx_8 3 _ rfl
      have cs_8_0 := cells4 Rs_8 0 _ rfl
      have cs_8_1 := cells4 Rs_8 1 _ rfl
      have cs_8_2 := cells4 Rs_8 2 _ rfl
      have cs_8_3 := cells4 Rs_8 3 _ rfl
      have cu_8_0 := cells4 Ru_8 0 _ rfl
      have cu_8_1 := cells4 Ru_8 1 _ rfl
      have cu_8_2 := cells4 Ru_8 2 _ rfl
      have cu_8_3 := cells4 Ru_8 3 _ rfl
      go_wp2_with fail
      refine (K5.out _ (tabB TT.out B8)).mono ?_
      rintro r w9 ⟨rfl, b9⟩
      have B9 : Below w.heap.size w w9 := btr B8 b9
      have Rx_9 : w9.heap[w.heap.size]? = some (Obj.cells #[.bool b0, .string s0, .string t0, .int .i64 e0] 24) := heap_of b9 _ _ _ Rx_8
      have Rs_9 : w9.heap[w2.heap.size]? = some (Obj.cells #[.bool pb, .string pu, .string pv, .int .i64 pe] 24) := heap_of b9 _ _ _ Rs_8
      have Ru_9 : w9.heap[w6.heap.size]? = some (Obj.cells #[.bool pb, .string pu, .string pv, .int .i64 pe] 24) := heap_of b9 _ _ _ Ru_8
      clear b9 B8 Rx_8 cx_8_0 cx_8_1 cx_8_2 cx_8_3 Rs_8 cs_8_0 cs_8_1 cs_8_2 cs_8_3 Ru_8 cu_8_0 cu_8_1 cu_8_2 cu_8_3
      have cx_9_0 := cells4 Rx_9 0 _ rfl
      have cx_9_1 := cells4 Rx_9 1 _ rfl
      have cx_9_2 := cells4 Rx_9 2 _ rfl
      have cx_9_3 := cells4 Rx_9 3 _ rfl
      have cs_9_0 := cells4 Rs_9 0 _ rfl
      have cs_9_1 := cells4 Rs_9 1 _ rfl
      have cs_9_2 := cells4 Rs_9 2 _ rfl
      have cs_9_3 := cells4 Rs_9 3 _ rfl
      have cu_9_0 := cells4 Ru_9 0 _ rfl
      have cu_9_1 := cells4 Ru_9 1 _ rfl
      have cu_9_2 := cells4 Ru_9 2 _ rfl
      have cu_9_3 := cells4 Ru_9 3 _ rfl
      go_wp2_with fail
      refine (K6.out _).mono ?_
      rintro r w10 ⟨rfl, b10⟩
      have B10 : Below w.heap.size w w10 := btr B9 b10
      have Rx_10 : w10.heap[w.heap.size]? = some (Obj.cells #[.bool b0, .string s0, .string t0, .int .i64 e0] 24) := heap_of b10 _ _ _ Rx_9
      have Rs_10 : w10.heap[w2.heap.size]? = some (Obj.cells #[.bool pb, .string pu, .string pv, .int .i64 pe] 24) := heap_of b10 _ _ _ Rs_9
      have Ru_10 : w10.heap[w6.heap.size]? = some (Obj.cells #[.bool pb, .string pu, .string pv, .int .i64 pe] 24) := heap_of b10 _ _ _ Ru_9
      clear b10 B9 Rx_9 cx_9_0 cx_9_1 cx_9_2 cx_9_3 Rs_9 cs_9_0 cs_9_1 cs_9_2 cs_9_3 Ru_9 cu_9_0 cu_9_1 cu_9_2 cu_9_3
      have cx_10_0 := cells4 Rx_10 0 _ rfl
      have cx_10_1 := cells4 Rx_10 1 _ rfl
      have cx_10_2 := cells4 Rx_10 2 _ rfl
      have cx_10_3 := cells4 Rx_10 3 _ rfl
      have cs_10_0 := cells4 Rs_10 0 _ rfl
      have cs_10_1 := cells4 Rs_10 1 _ rfl
      have cs_10_2 := cells4 Rs_10 2 _ rfl
      have cs_10_3 := cells4 Rs_10 3 _ rfl
      have cu_10_0 := cells4 Ru_10 0 _ rfl
      have cu_10_1 := cells4 Ru_10 1 _ rfl
      have cu_10_2 := cells4 Ru_10 2 _ rfl
      have cu_10_3 := cells4 Ru_10 3 _ rfl
      go_wp2_with fail
      refine (xalive _ (tabB TT.out B10)).mono ?_
      rintro r w11 ⟨rfl, b11⟩
      have B11 : Below w.heap.size w w11 := btr B10 b11
      have Rx_11 : w11.heap[w.heap.size]? = some (Obj.cells #[.bool b0, .string s0, .string t0, .int .i64 e0] 24) := heap_of b11 _ _ _ Rx_10
      have Rs_11 : w11.heap[w2.heap.size]? = some (Obj.cells #[.bool pb, .string pu, .string pv, .int .i64 pe] 24) := heap_of b11 _ _ _ Rs_10
      have Ru_11 : w11.heap[w6.heap.size]? = some (Obj.cells #[.bool pb, .string pu, .string pv, .int .i64 pe] 24) := heap_of b11 _ _ _ Ru_10
      clear b11 B10 Rx_10 cx_10_0 cx_10_1 cx_10_2 cx_10_3 Rs_10 cs_10_0 cs_10_1 cs_10_2 cs_10_3 Ru_10 cu_10_0 cu_10_1 cu_10_2 cu_10_3
      have cx_11_0 := cells4 Rx_11 0 _ rfl
      have cx_11_1 := cells4 Rx_11 1 _ rfl
      have cx_11_2 := cells4 Rx_11 2 _ rfl
      have cx_11_3 := cells4 Rx_11 3 _ rfl
      have cs_11_0 := cells4 Rs_11 0 _ rfl
      have cs_11_1 := cells4 Rs_11 1 _ rfl
      have cs_11_2 := cells4 Rs_11 2 _ rfl
      have cs_11_3 := cells4 Rs_11 3 _ rfl
      have cu_11_0 := cells4 Ru_11 0 _ rfl
      have cu_11_1 := cells4 Ru_11 1 _ rfl
      have cu_11_2 := cells4 Ru_11 2 _ rfl
      have cu_11_3 := cells4 Ru_11 3 _ rfl
      go_wp2
      go_ret
      exact ⟨rfl, B11⟩
    · have Rx_0 : (w.alloc (Obj.cells #[.bool b0, .string s0, .string t0, .int .i64 e0] 24)).heap[w.heap.size]? = some (Obj.cells #[.bool b0, .string s0, .string t0, .int .i64 e0] 24) := by have := heap_alloc_last w (Obj.cells #[.bool b0, .string s0, .string t0, .int .i64 e0] 24); simpa only [size_al] using this
      have B0 : Below w.heap.size w (w.alloc (Obj.cells #[.bool b0, .string s0, .string t0, .int .i64 e0] 24)) := ((Below.refl _ _).alloc (by first | omega | (simp only [size_al]; omega)) _)
      go_enter Tryd.func6, Tryd.ntmps6
      go_wp2_with fail
      refine (xshort b0 s0 t0 e0 60 60 true rfl HO.out _).mono ?_
      rintro r w1 ⟨rfl, b1⟩
      have B1 : Below w.heap.size w w1 := btr B0 b1
      have Rx_1 : w1.heap[w.heap.size]? = some (Obj.cells #[.bool b0, .string s0, .string t0, .int .i64 e0] 24) := heap_of b1 _ _ _ Rx_0
      clear b1 B0 Rx_0
      have cx_1_0 := cells4 Rx_1 0 _ rfl
      have cx_1_1 := cells4 Rx_1 1 _ rfl
      have cx_1_2 := cells4 Rx_1 2 _ rfl
      have cx_1_3 := cells4 Rx_1 3 _ rfl
      go_wp2_with fail
      refine (K1.out _ (tabB TT.out B1)).mono ?_
      rintro r w2 ⟨rfl, b2⟩
      have B2 : Below w.heap.size w w2 := btr B1 b2
      have Rx_2 : w2.heap[w.heap.size]? = some (Obj.cells #[.bool b0, .string s0, .string t0, .int .i64 e0] 24) := heap_of b2 _ _ _ Rx_1
      clear b2 B1 Rx_1 cx_1_0 cx_1_1 cx_1_2 cx_1_3
      have cx_2_0 := cells4 Rx_2 0 _ rfl
      have cx_2_1 := cells4 Rx_2 1 _ rfl
      have cx_2_2 := cells4 Rx_2 2 _ rfl
      have cx_2_3 := cells4 Rx_2 3 _ rfl
      have S3 := box B2.size
      have Lx_3 : Box (w.heap.size < w2.heap.size) := box (Array.getElem?_eq_some_iff.1 Rx_2).1
      have B3 : Below w.heap.size w (w2.alloc (Obj.cells #[.bool pb, .string pu, .string pv, .int .i64 pe] 24)) := btr B2 (bal _ _)
      have Rx_3 : (w2.alloc (Obj.cells #[.bool pb, .string pu, .string pv, .int .i64 pe] 24)).heap[w.heap.size]? = some (Obj.cells #[.bool b0, .string s0, .string t0, .int .i64 e0] 24) := heap_of (bal _ _) _ _ _ Rx_2
      have Rs_3 : (w2.alloc (Obj.cells #[.bool pb, .string pu, .string pv, .int .i64 pe] 24)).heap[w2.heap.size]? = some (Obj.cells #[.bool pb, .string pu, .string pv, .int .i64 pe] 24) := heap_alloc_last _ _
      clear B2 Rx_2 cx_2_0 cx_2_1 cx_2_2 cx_2_3
      have cx_3_0 := cells4 Rx_3 0 _ rfl
      have cx_3_1 := cells4 Rx_3 1 _ rfl
      have cx_3_2 := cells4 Rx_3 2 _ rfl
      have cx_3_3 := cells4 Rx_3 3 _ rfl
      have cs_3_0 := cells4 Rs_3 0 _ rfl
      have cs_3_1 := cells4 Rs_3 1 _ rfl
      have cs_3_2 := cells4 Rs_3 2 _ rfl
      have cs_3_3 := cells4 Rs_3 3 _ rfl
      clear cs_3_0 cs_3_1 cs_3_2 cs_3_3
      go_wp2_with fail
      refine (KT.out _ (tabB TT.out B3)).mono ?_
      rintro r w4 ⟨rfl, b4⟩
      have B4 : Below w.heap.size w w4 := btr B3 b4
      have Rx_4 : w4.heap[w.heap.size]? = some (Obj.cells #[.bool b0, .string s0, .string t0, .int .i64 e0] 24) := heap_of b4 _ _ _ Rx_3
      have Rs_4 : w4.heap[w2.heap.size]? = some (Obj.cells #[.bool pb, .string pu, .string pv, .int .i64 pe] 24) := heap_of b4 _ _ _ Rs_3
      clear b4 B3 Rx_3 cx_3_0 cx_3_1 cx_3_2 cx_3_3 Rs_3
      have cx_4_0 := cells4 Rx_4 0 _ rfl
      have cx_4_1 := cells4 Rx_4 1 _ rfl
      have cx_4_2 := cells4 Rx_4 2 _ rfl
      have cx_4_3 := cells4 Rx_4 3 _ rfl
      go_wp2_with fail
      refine (xmayM b0 s0 t0 e0 true M1.out _).mono ?_
      rintro r w5 ⟨rfl, b5⟩
      have B5 : Below w.heap.size w w5 := btr B4 b5
      have Rx_5 : w5.heap[w.heap.size]? = some (Obj.cells #[.bool b0, .string s0, .string t0, .int .i64 e0] 24) := heap_of b5 _ _ _ Rx_4
      have Rs_5 : w5.heap[w2.heap.size]? = some (Obj.cells #[.bool pb, .string pu, .string pv, .int .i64 pe] 24) := heap_of b5 _ _ _ Rs_4
      clear b5 B4 Rx_4 cx_4_0 cx_4_1 cx_4_2 cx_4_3 Rs_4
      have cx_5_0 := cells4 Rx_5 0 _ rfl
      have cx_5_1 := cells4 Rx_5 1 _ rfl
      have cx_5_2 := cells4 Rx_5 2 _ rfl
      have cx_5_3 := cells4 Rx_5 3 _ rfl
      go_wp2_with fail
      refine (K3.out _).mono ?_
      rintro r w6 ⟨rfl, b6⟩
      have B6 : Below w.heap.size w w6 := btr B5 b6
      have Rx_6 : w6.heap[w.heap.size]? = some (Obj.cells #[.bool b0, .string s0, .string t0, .int .i64 e0] 24) := heap_of b6 _ _ _ Rx_5
      have Rs_6 : w6.heap[w2.heap.size]? = some (Obj.cells #[.bool pb, .string pu, .string pv, .int .i64 pe] 24) := heap_of b6 _ _ _ Rs_5
      clear b6 B5 Rx_5 cx_5_0 cx_5_1 cx_5_2 cx_5_3 Rs_5
      have cx_6_0 := cells4 Rx_6 0 _ rfl
      have cx_6_1 := cells4 Rx_6 1 _ rfl
      have cx_6_2 := cells4 Rx_6 2 _ rfl
      have cx_6_3 := cells4 Rx_6 3 _ rfl
      have S7 := box B6.size
      have Lx_7 : Box (w.heap.size < w6.heap.size) := box (Array.getElem?_eq_some_iff.1 Rx_6).1
      have Ls_7 : Box (w2.heap.size < w6.heap.size) := box (Array.getElem?_eq_some_iff.1 Rs_6).1
      have B7 : Below w.heap.size w (w6.alloc (Obj.cells #[.bool pb, .string pu, .string pv, .int .i64 pe] 24)) := btr B6 (bal _ _)
      have Rx_7 : (w6.alloc (Obj.cells #[.bool pb, .string pu, .string pv, .int .i64 pe] 24)).heap[w.heap.size]? = some (Obj.cells #[.bool b0, .string s0, .string t0, .int .i64 e0] 24) := heap_of (bal _ _) _ _ _ Rx_6
      have Rs_7 : (w6.alloc (Obj.cells #[.bool pb, .string pu, .string pv, .int .i64 pe] 24)).heap[w2.heap.size]? = some (Obj.cells #[.bool pb, .string pu, .string pv, .int .i64 pe] 24) := heap_of (bal _ _) _ _ _ Rs_6
      have Ru_7 : (w6.alloc (Obj.cells #[.bool pb, .string pu, .string pv, .int .i64 pe] 24)).heap[w6.heap.size]? = some (Obj.cells #[.bool pb, .string pu, .string pv, .int .i64 pe] 24) := heap_alloc_last _ _
      clear B6 Rx_6 cx_6_0 cx_6_1 cx_6_2 cx_6_3 Rs_6
      have cx_7_0 := cells4 Rx_7 0 _ rfl
      have cx_7_1 := cells4 Rx_7 1 _ rfl
      have cx_7_2 := cells4 Rx_7 2 _ rfl
      have cx_7_3 := cells4 Rx_7 3 _ rfl
      have cu_7_0 := cells4 Ru_7 0 _ rfl
      have cu_7_1 := cells4 Ru_7 1 _ rfl
      have cu_7_2 := cells4 Ru_7 2 _ rfl
      have cu_7_3 := cells4 Ru_7 3 _ rfl
      clear cu_7_0 cu_7_1 cu_7_2 cu_7_3
      go_wp2_with fail
      refine (KV.out _).mono ?_
      rintro r w8 ⟨rfl, b8⟩
      have B8 : Below w.heap.size w w8 := btr B7 b8
      have Rx_8 : w8.heap[w.heap.size]? = some (Obj.cells #[.bool b0, .string s0, .string t0, .int .i64 e0] 24) := heap_of b8 _ _ _ Rx_7
      have Rs_8 : w8.heap[w2.heap.size]? = some (Obj.cells #[.bool pb, .string pu, .string pv, .int .i64 pe] 24) := heap_of b8 _ _ _ Rs_7
      have Ru_8 : w8.heap[w6.heap.size]? = some (Obj.cells #[.bool pb, .string pu, .string pv, .int .i64 pe] 24) := heap_of b8 _ _ _ Ru_7
      clear b8 B7 Rx_7 cx_7_0 cx_7_1 cx_7_2 cx_7_3 Rs_7 Ru_7
      have cx_8_0 := cells4 Rx_8 0 _ rfl
      have cx_8_1 := cells4 Rx_8 1 _ rfl
      have cx_8_2 := cells4 Rx_8 2 _ rfl
      have cx_8_3 := cells4 Rx_8 3 _ rfl
      have cs_8_0 := cells4 Rs_8 0 _ rfl
      have cs_8_1 := cells4 Rs_8 1 _ rfl
      have cs_8_2 := cells4 Rs_8 2 _ rfl
      have cs_8_3 := cells4 Rs_8 3 _ rfl
      have cu_8_0 := cells4 Ru_8 0 _ rfl
      have cu_8_1 := cells4 Ru_8 1 _ rfl
      have cu_8_2 := cells4 Ru_8 2 _ rfl
      have cu_8_3 := cells4 Ru_8 3 _ rfl
      go_wp2_with fail
      refine (K5.out _ (tabB TT.out B8)).mono ?_
      rintro r w9 ⟨rfl, b9⟩
      have B9 : Below w.heap.size w w9 := btr B8 b9
      have Rx_9 : w9.heap[w.heap.size]? = some (Obj.cells #[.bool b0, .string s0, .string t0, .int .i64 e0] 24) := heap_of b9 _ _ _ Rx_8
      have Rs_9 : w9.heap[w2.heap.size]? = some (Obj.cells #[.bool pb, .string pu, .string pv, .int .i64 pe] 24) := heap_of b9 _ _ _ Rs_8
      have Ru_9 : w9.heap[w6.heap.size]? = some (Obj.cells #[.bool pb, .string pu, .string pv, .int .i64 pe] 24) := heap_of b9 _ _ _ Ru_8
      clear b9 B8 Rx_8 cx_8_0 cx_8_1 cx_8_2 cx_8_3 Rs_8 cs_8_0 cs_8_1 cs_8_2 cs_8_3 Ru_8 cu_8_0 cu_8_1 cu_8_2 cu_8_3
      have cx_9_0 := cells4 Rx_9 0 _ rfl
      have cx_9_1 := cells4 Rx_9 1 _ rfl
      have cx_9_2 := cells4 Rx_9 2 _ rfl
      have cx_9_3 := cells4 Rx_9 3 _ rfl
      have cs_9_0 := cells4 Rs_9 0 _ rfl
      have cs_9_1 := cells4 Rs_9 1 _ rfl
      have cs_9_2 := cells4 Rs_9 2 _ rfl
      have cs_9_3 := cells4 Rs_9 3 _ rfl
      have cu_9_0 := cells4 Ru_9 0 _ rfl
      have cu_9_1 := cells4 Ru_9 1 _ rfl
      have cu_9_2 := cells4 Ru_9 2 _ rfl
      have cu_9_3 := cells4 Ru_9 3 _ rfl
      go_wp2_with fail
      refine (K6.out _).mono ?_
      rintro r w10 ⟨rfl, b10⟩
      have B10 : Below w.heap.size w w10 := btr B9 b10
      have Rx_10 : w10.heap[w.heap.size]? = some (Obj.cells #[.bool b0, .string s0, .string t0, .int .i64 e0] 24) := heap_of b10 _ _ _ Rx_9
      have Rs_10 : w10.heap[w2.heap.size]? = some (Obj.cells #[.bool pb, .string pu, .string pv, .int .i64 pe] 24) := heap_of b10 _ _ _ Rs_9
      have Ru_10 : w10.heap[w6.heap.size]? = some (Obj.cells #[.bool pb, .string pu, .string pv, .int .i64 pe] 24) := heap_of b10 _ _ _ Ru_9
      clear b10 B9 Rx_9 cx_9_0 cx_9_1 cx_9_2 cx_9_3 Rs_9 cs_9_0 cs_9_1 cs_9_2 cs_9_3 Ru_9 cu_9_0 cu_9_1 cu_9_2 cu_9_3
      have cx_10_0 := cells4 Rx_10 0 _ rfl
      have cx_10_1 := cells4 Rx_10 1 _ rfl
      have cx_10_2 := cells4 Rx_10 2 _ rfl
      have cx_10_3 := cells4 Rx_10 3 _ rfl
      have cs_10_0 := cells4 Rs_10 0 _ rfl
      have cs_10_1 := cells4 Rs_10 1 _ rfl
      have cs_10_2 := cells4 Rs_10 2 _ rfl
      have cs_10_3 := cells4 Rs_10 3 _ rfl
      have cu_10_0 := cells4 Ru_10 0 _ rfl
      have cu_10_1 := cells4 Ru_10 1 _ rfl
      have cu_10_2 := cells4 Ru_10 2 _ rfl
      have cu_10_3 := cells4 Ru_10 3 _ rfl
      go_wp2_with fail
      refine (xalive _ (tabB TT.out B10)).mono ?_
      rintro r w11 ⟨rfl, b11⟩
      have B11 : Below w.heap.size w w11 := btr B10 b11
      have Rx_11 : w11.heap[w.heap.size]? = some (Obj.cells #[.bool b0, .string s0, .string t0, .int .i64 e0] 24) := heap_of b11 _ _ _ Rx_10
      have Rs_11 : w11.heap[w2.heap.size]? = some (Obj.cells #[.bool pb, .string pu, .string pv, .int .i64 pe] 24) := heap_of b11 _ _ _ Rs_10
      have Ru_11 : w11.heap[w6.heap.size]? = some (Obj.cells #[.bool pb, .string pu, .string pv, .int .i64 pe] 24) := heap_of b11 _ _ _ Ru_10
      clear b11 B10 Rx_10 cx_10_0 cx_10_1 cx_10_2 cx_10_3 Rs_10 cs_10_0 cs_10_1 cs_10_2 cs_10_3 Ru_10 cu_10_0 cu_10_1 cu_10_2 cu_10_3
      have cx_11_0 := cells4 Rx_11 0 _ rfl
      have cx_11_1 := cells4 Rx_11 1 _ rfl
      have cx_11_2 := cells4 Rx_11 2 _ rfl
      have cx_11_3 := cells4 Rx_11 3 _ rfl
      have cs_11_0 := cells4 Rs_11 0 _ rfl
      have cs_11_1 := cells4 Rs_11 1 _ rfl
      have cs_11_2 := cells4 Rs_11 2 _ rfl
      have cs_11_3 := cells4 Rs_11 3 _ rfl
      have cu_11_0 := cells4 Ru_11 0 _ rfl
      have cu_11_1 := cells4 Ru_11 1 _ rfl
      have cu_11_2 := cells4 Ru_11 2 _ rfl
      have cu_11_3 := cells4 Ru_11 3 _ rfl
      go_wp2
      go_ret
      exact ⟨rfl, B11⟩
  · have M1 : Box (IsM false b0 s0 t0 e0) := box (may_no m1)
    have K1 := box (fun w hT => Scalex_no b0 e0 s0 t0 a1 m1 w hT)
    have K2 := box (fun w hT => Topx_no b0 e0 s0 t0 m1 w hT)
    have K3 := box (fun w hT => Floorx_no b0 s0 t0 e0 a1 m1 w hT)
    clear m1 hb he0
    have Rx_0 : (w.alloc (Obj.cells #[.bool b0, .string s0, .string t0, .int .i64 e0] 24)).heap[w.heap.size]? = some (Obj.cells #[.bool b0, .string s0, .string t0, .int .i64 e0] 24) := by have := heap_alloc_last w (Obj.cells #[.bool b0, .string s0, .string t0, .int .i64 e0] 24); simpa only [size_al] using this
    have B0 : Below w.heap.size w (w.alloc (Obj.cells #[.bool b0, .string s0, .string t0, .int .i64 e0] 24)) := ((Below.refl _ _).alloc (by first | omega | (simp only [size_al]; omega)) _)
    go_enter Tryd.func6, Tryd.ntmps6
    go_wp2_with fail
    refine (xshort b0 s0 t0 e0 60 60 true rfl HO.out _).mono ?_
    rintro r w1 ⟨rfl, b1⟩
    have B1 : Below w.heap.size w w1 := btr B0 b1
    have Rx_1 : w1.heap[w.heap.size]? = some (Obj.cells #[.bool b0, .string s0, .string t0, .int .i64 e0] 24) := heap_of b1 _ _ _ Rx_0
    clear b1 B0 Rx_0
    have cx_1_0 := cells4 Rx_1 0 _ rfl
    have cx_1_1 := cells4 Rx_1 1 _ rfl
    have cx_1_2 := cells4 Rx_1 2 _ rfl
    have cx_1_3 := cells4 Rx_1 3 _ rfl
    go_wp2_with fail
    refine (K1.out _ (tabB TT.out B1)).mono ?_
    rintro r w2 ⟨rfl, b2⟩
    have B2 : Below w.heap.size w w2 := btr B1 b2
    have Rx_2 : w2.heap[w.heap.size]? = some (Obj.cells #[.bool b0, .string s0, .string t0, .int .i64 e0] 24) := heap_of b2 _ _ _ Rx_1
    clear b2 B1 Rx_1 cx_1_0 cx_1_1 cx_1_2 cx_1_3
    have cx_2_0 := cells4 Rx_2 0 _ rfl
    have cx_2_1 := cells4 Rx_2 1 _ rfl
    have cx_2_2 := cells4 Rx_2 2 _ rfl
    have cx_2_3 := cells4 Rx_2 3 _ rfl
    have S3 := box B2.size
    have Lx_3 : Box (w.heap.size < w2.heap.size) := box (Array.getElem?_eq_some_iff.1 Rx_2).1
    have B3 : Below w.heap.size w (w2.alloc (Obj.cells #[.bool false, .string ⟨#[]⟩, .string ⟨#[]⟩, .int .i64 0] 24)) := btr B2 (bal _ _)
    have Rx_3 : (w2.alloc (Obj.cells #[.bool false, .string ⟨#[]⟩, .string ⟨#[]⟩, .int .i64 0] 24)).heap[w.heap.size]? = some (Obj.cells #[.bool b0, .string s0, .string t0, .int .i64 e0] 24) := heap_of (bal _ _) _ _ _ Rx_2
    have Rs_3 : (w2.alloc (Obj.cells #[.bool false, .string ⟨#[]⟩, .string ⟨#[]⟩, .int .i64 0] 24)).heap[w2.heap.size]? = some (Obj.cells #[.bool false, .string ⟨#[]⟩, .string ⟨#[]⟩, .int .i64 0] 24) := heap_alloc_last _ _
    clear B2 Rx_2 cx_2_0 cx_2_1 cx_2_2 cx_2_3
    have cx_3_0 := cells4 Rx_3 0 _ rfl
    have cx_3_1 := cells4 Rx_3 1 _ rfl
    have cx_3_2 := cells4 Rx_3 2 _ rfl
    have cx_3_3 := cells4 Rx_3 3 _ rfl
    have cs_3_0 := cells4 Rs_3 0 _ rfl
    have cs_3_1 := cells4 Rs_3 1 _ rfl
    have cs_3_2 := cells4 Rs_3 2 _ rfl
    have cs_3_3 := cells4 Rs_3 3 _ rfl
    go_wp2_with fail
    refine (K2.out _ (tabB TT.out B3)).mono ?_
    rintro r w4 ⟨rfl, b4⟩
    have B4 : Below w.heap.size w w4 := btr B3 b4
    have Rx_4 : w4.heap[w.heap.size]? = some (Obj.cells #[.bool b0, .string s0, .string t0, .int .i64 e0] 24) := heap_of b4 _ _ _ Rx_3
    have Rs_4 : w4.heap[w2.heap.size]? = some (Obj.cells #[.bool false, .string ⟨#[]⟩, .string ⟨#[]⟩, .int .i64 0] 24) := heap_of b4 _ _ _ Rs_3
    clear b4 B3 Rx_3 cx_3_0 cx_3_1 cx_3_2 cx_3_3 Rs_3 cs_3_0 cs_3_1 cs_3_2 cs_3_3
    have cx_4_0 := cells4 Rx_4 0 _ rfl
    have cx_4_1 := cells4 Rx_4 1 _ rfl
    have cx_4_2 := cells4 Rx_4 2 _ rfl
    have cx_4_3 := cells4 Rx_4 3 _ rfl
    have cs_4_0 := cells4 Rs_4 0 _ rfl
    have cs_4_1 := cells4 Rs_4 1 _ rfl
    have cs_4_2 := cells4 Rs_4 2 _ rfl
    have cs_4_3 := cells4 Rs_4 3 _ rfl
    go_wp2_with fail
    refine (xmayM b0 s0 t0 e0 false M1.out _).mono ?_
    rintro r w5 ⟨rfl, b5⟩
    have B5 : Below w.heap.size w w5 := btr B4 b5
    have Rx_5 : w5.heap[w.heap.size]? = some (Obj.cells #[.bool b0, .string s0, .string t0, .int .i64 e0] 24) := heap_of b5 _ _ _ Rx_4
    have Rs_5 : w5.heap[w2.heap.size]? = some (Obj.cells #[.bool false, .string ⟨#[]⟩, .string ⟨#[]⟩, .int .i64 0] 24) := heap_of b5 _ _ _ Rs_4
    clear b5 B4 Rx_4 cx_4_0 cx_4_1 cx_4_2 cx_4_3 Rs_4 cs_4_0 cs_4_1 cs_4_2 cs_4_3
    have cx_5_0 := cells4 Rx_5 0 _ rfl
    have cx_5_1 := cells4 Rx_5 1 _ rfl
    have cx_5_2 := cells4 Rx_5 2 _ rfl
    have cx_5_3 := cells4 Rx_5 3 _ rfl
    have cs_5_0 := cells4 Rs_5 0 _ rfl
    have cs_5_1 := cells4 Rs_5 1 _ rfl
    have cs_5_2 := cells4 Rs_5 2 _ rfl
    have cs_5_3 := cells4 Rs_5 3 _ rfl
    go_wp2_with fail
    refine (K3.out _ (tabB TT.out B5)).mono ?_
    rintro r w6 ⟨rfl, b6⟩
    have B6 : Below w.heap.size w w6 := btr B5 b6
    have Rx_6 : w6.heap[w.heap.size]? = some (Obj.cells #[.bool b0, .string s0, .string t0, .int .i64 e0] 24) := heap_of b6 _ _ _ Rx_5
    have Rs_6 : w6.heap[w2.heap.size]? = some (Obj.cells #[.bool false, .string ⟨#[]⟩, .string ⟨#[]⟩, .int .i64 0] 24) := heap_of b6 _ _ _ Rs_5
    clear b6 B5 Rx_5 cx_5_0 cx_5_1 cx_5_2 cx_5_3 Rs_5 cs_5_0 cs_5_1 cs_5_2 cs_5_3
    have cx_6_0 := cells4 Rx_6 0 _ rfl
    have cx_6_1 := cells4 Rx_6 1 _ rfl
    have cx_6_2 := cells4 Rx_6 2 _ rfl
    have cx_6_3 := cells4 Rx_6 3 _ rfl
    have cs_6_0 := cells4 Rs_6 0 _ rfl
    have cs_6_1 := cells4 Rs_6 1 _ rfl
    have cs_6_2 := cells4 Rs_6 2 _ rfl
    have cs_6_3 := cells4 Rs_6 3 _ rfl
    go_wp2_with fail
    refine (xalive _ (tabB TT.out B6)).mono ?_
    rintro r w7 ⟨rfl, b7⟩
    have B7 : Below w.heap.size w w7 := btr B6 b7
    have Rx_7 : w7.heap[w.heap.size]? = some (Obj.cells #[.bool b0, .string s0, .string t0, .int .i64 e0] 24) := heap_of b7 _ _ _ Rx_6
    have Rs_7 : w7.heap[w2.heap.size]? = some (Obj.cells #[.bool false, .string ⟨#[]⟩, .string ⟨#[]⟩, .int .i64 0] 24) := heap_of b7 _ _ _ Rs_6
    clear b7 B6 Rx_6 cx_6_0 cx_6_1 cx_6_2 cx_6_3 Rs_6 cs_6_0 cs_6_1 cs_6_2 cs_6_3
    have cx_7_0 := cells4 Rx_7 0 _ rfl
    have cx_7_1 := cells4 Rx_7 1 _ rfl
    have cx_7_2 := cells4 Rx_7 2 _ rfl
    have cx_7_3 := cells4 Rx_7 3 _ rfl
    have cs_7_0 := cells4 Rs_7 0 _ rfl
    have cs_7_1 := cells4 Rs_7 1 _ rfl
    have cs_7_2 := cells4 Rs_7 2 _ rfl
    have cs_7_3 := cells4 Rs_7 3 _ rfl
    go_wp2
    go_ret
    exact ⟨rfl, B7⟩

def tabZ : List Int := [0, 1, 56, 2, 57, 49, 28, 3, 61, 58, 42, 50, 38, 29, 17, 4, 62, 47, 59, 36, 45, 43, 51, 22, 53, 39, 33, 30, 24, 18, 12, 5, 63, 55, 48, 27, 60, 41, 37, 16, 46, 35, 44, 21, 52, 32, 23, 11, 54, 26, 40, 15, 34, 20, 31, 10, 25, 14, 19, 9, 13, 8, 7, 6]
def laid1 : List (String × DataW Unit) := [("math/bits.deBruijn64tab", Rows.laid_math_bits_deBruijn64tab)]
theorem gTab : Tryd.prog.globalNamed "math/bits.deBruijn64tab" = some 0 := by kernel_rfl
theorem gType : (Tryd.prog.globals[0]?).map (·.type) = some 128 := by kernel_rfl
theorem cells5 : Tryd.prog.cellsOf 5 = 1 := by kernel_rfl
theorem cellsT : Tryd.prog.cellsOf 128 = 64 := by kernel_rfl
theorem tab_at : ∀ i : Fin 64, tabZ.getD i.val 0 = ((Lib.deBruijn64tab.getD i.val 0 : Nat) : Int) := by decide +kernel

theorem of_laid {W : World} (h : laidMetH Tryd.prog laid1 W) : TabAt W := by
  rw [MakeChecks.laidMetH_plain _ _ _ (by kernel_rfl)] at h
  have h' : laidMet Tryd.prog (("math/bits.deBruijn64tab", Lib.tabData .u8 tabZ) :: []) W := h
  have hT := Lib.tabIs_of_head gTab gType Tryd.underlying128 Tryd.underlying5 cells5 cellsT h'
  intro i hi
  have hc := hT.cell gTab i (show i < tabZ.length from hi)
  rw [tab_at ⟨i, hi⟩] at hc
  exact hc

theorem door_met (os : Os) (args : Array Value) : laidMetH Tryd.prog laid1 ((World.doorLaid Tryd.prog 400 os).forCall (fun _ _ => 0) ⟨#[], args, []⟩).memory :=
  laidMetH_of_parts3 (fuel := 8) (laidMet_of_run' 8 (by kernel_rfl) (by kernel_rfl)) (by kernel_rfl) (by kernel_rfl)

set_option maxRecDepth 100000 in
theorem lifted (os : Os) (started : os.Started) (H : Type) (enc : TypeId × Value → H) :
    ReturnsInHanded {} Tryd.checked os 6 .any (fun w args => (Rows.exactPlacesSpec.pre enc Tryd.prog Tryd.f6 [] false w args ∧ laidMetH Tryd.prog laid1 w) ∧ sizedMet enc Tryd.prog Tryd.f6 (OpenSpec.ofChange Rows.exactPlacesSpec) false w args)
      (Rows.exactPlacesSpec.post enc Tryd.prog Tryd.f6 false true false false) := by
  refine returnsInHanded_of_change_and (C := Tryd.checked) (X := fun w _ => laidMetH Tryd.prog laid1 w) (fun _ _ _ hh h => h.of_heap hh) own started (by kernel_rfl) Tryd.func6
    (ChangeSpec.witness_shaped (enc := enc) (C := Tryd.checked) (os := os) (X := fun w _ => laidMetH Tryd.prog laid1 w) false (World.doorLaid Tryd.prog 400 os) #[.agg #[.bool false, .string ⟨#[]⟩, .string ⟨#[]⟩, .int .i64 0], .int .i64 0] 8 rfl (World.shaped_of_RefB (by kernel_rfl) (by kernel_rfl)) (by kernel_rfl) (by kernel_rfl) (by kernel_rfl) (door_met os _)) ?_
  intro W base args ds gs before hval0 hW _ _ hL _
  have hval : ∀ (j : Nat) t v, Tryd.f6.params[j]? = some t → args[j]? = some v → Value.okWide Tryd.prog W .any base t v := hval0
  have hW' := hW
  obtain ⟨p, q, hA0, hV, rfl, hfz, hnd⟩ := hW
  have hA : DataW.TrodAll enc Tryd.prog W 0 (fun _ => true) true Tryd.f6.params.toList args.toList ds p := hA0
  rw [Tryd.params6] at hA hval
  obtain ⟨v0, vs0, d0, ds0, p0, q0, hargs, rfl, rfl, k0, r0⟩ := trodAll_cons hA
  obtain ⟨v1, vs1, d1, ds1, p1, q1, rfl, rfl, rfl, k1, r1⟩ := trodAll_cons r0
  obtain ⟨rfl, rfl, rfl⟩ := trodAll_nil r1
  obtain rfl : args = #[v0, v1] := by cases args; simp_all
  obtain ⟨rfl, rfl⟩ := trodVars_none hV
  obtain ⟨b0, s0, t0, e0, rfl, rfl, rfl, h0⟩ := open_exact (hval 0 24 v0 rfl rfl) k0
  obtain ⟨a1, rfl, rfl, rfl, h1⟩ := open_int Tryd.underlying3 (hval 1 3 v1 rfl rfl) k1
  clear hA0 hval0
  simp only [List.append_nil] at hW'
  refine (walk b0 s0 t0 e0 a1 h0 h1 W (of_laid hL)).mono fun e W' ⟨he, hg⟩ => ?_
  subst he
  exact ⟨_, rfl, post_plain hW' (fun _ _ _ => trodAll_mk1 (shut_bool Tryd.underlying4 _)) (fun sp => (trodAll_cons_mk (shut_exact h0) (trodAll_cons_mk (shut_int Tryd.underlying3 h1) trodAll_mk0))) (fun _ => rfl) hg (ok_one (by kernel_rfl) rfl (okWide_bool_mk Tryd.underlying4 _))⟩

theorem over : Rows.ExactPlacesSaid :=
  OpenClaim.holds_of_wide 6 Tryd.f6 rfl rfl rfl rfl rfl rfl rfl ⟨rfl, rfl, rfl, rfl, rfl⟩ rfl rfl rfl rfl rfl (by kernel_rfl) Tryd.func6 (by kernel_rfl)
    (of_decide_eq_true (by kernel_rfl)) (by unfold Func.isWrapper; first | (rw [if_pos (by decide +kernel)]; kernel_rfl) | (rw [if_neg (by decide +kernel)]; exact ⟨rfl, rfl⟩))
    (fun os started H enc _ => lifted os started H enc)

theorem proved : Rows.ExactPlacesCardSaid :=
  Claim7.holds_tied_plain_at .later [] [.data] true (true, "3e8d1fd3fa54bd73b2e4f17310d30ae8075bb6bb7b260c1ab5917f0247a466ea") false
    over (fun _ h => by cases h) (by kernel_rfl) (fun _ h => by cases h) exactPlaces_row_tie rfl ⟨rfl, rfl⟩ (by kernel_rfl) rfl
    (fun f fn hf hfn => by
      obtain rfl : f = 6 := Option.some.inj ((show Tryd.prog.funcNamed "abacus/abacuslaw06.ExactPlaces" = some 6 by kernel_rfl).symm.trans hf) |>.symm
      obtain rfl : fn = Tryd.f6 := (Option.some.inj (Tryd.func6.symm.trans hfn)).symm
      exact ⟨by kernel_rfl, fun j t ht => by
        rw [Tryd.params6] at ht
        have h3 : t = 24 ∨ t = 3 := by
          rcases j with _ | _ | j
          · exact (Or.inl (by simpa using ht.symm))
          · exact (Or.inr (by simpa using ht.symm))
          · simp at ht
        rcases h3 with rfl | rfl
        · exact (show Tryd.prog.wantsStandIn 24 = false by kernel_rfl)
        · exact (show Tryd.prog.wantsStandIn 3 = false by kernel_rfl)⟩)
    (by kernel_rfl)
#print axioms proved
end Go.Proofs.YthiongcednmjiaaDoor.exactPlaces
