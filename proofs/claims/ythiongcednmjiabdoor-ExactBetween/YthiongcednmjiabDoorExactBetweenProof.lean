/-
  ExactBetween returns true for every exact number, whether it may be or not, and every whole number: the whole part is at most the number, one more is above; so is the highest bit.
-/
import Derived.Test.YthiongcednmjiabDoorRows
import Derived.Test.YthiongcednmjiabDoorTie
import Derived.Test.YthiongcednmjiabDoorCards
import Derived.WalkKit
import Derived.ProofKit
import Derived.OpenShut
import Derived.LaidMore
import Derived.Stop.Joined
import Derived.Lib.LaidTab
import Derived.SevenTiedAt
import Derived.Test.YthiongcednmjiabDoorFrame6
import Derived.Test.YthiongcednmjiabDoorXL
import Derived.Test.YthiongcednmjiabDoorXF
import Derived.Test.YthiongcednmjiabDoorX10
import Derived.Test.YthiongcednmjiabDoorX13
import Derived.Test.YthiongcednmjiabDoorFrameX
namespace Go.Proofs.YthiongcednmjiabDoor.exactBetween
open WMath XMath
open Go.ChangeShapes Go.WideShapes Go.ChangeAt Go.RowKit
set_option linter.unusedVariables false

theorem own : ownKnob Tryd.prog.godebug = none := by kernel_rfl

set_option maxRecDepth 100000 in
set_option maxHeartbeats 4000000 in
theorem walk (b0 : Bool) (s0 t0 : ByteArray) (e0 : Int) (a1 : Int) (h0 : s0.size ≤ maxLen ∧ t0.size ≤ maxLen ∧ (Lit.int .i64 e0).wf = true) (h1 : (Lit.int .i64 a1).wf = true) (w : World) (hT : TabAt w) :
    Calls Tryd.prog 4 #[.agg #[.bool b0, .string s0, .string t0, .int .i64 e0], .int .i64 a1] w fun e w' => e = .returned (.bool true) ∧ Below w.heap.size w w' := by
  have TT := box hT
  clear hT
  have he0 := bounds_i64 h0.2.2
  obtain ⟨k, hk0, hk1, hk2⟩ : ∃ k : Int, bits .and .i64 a1 2047 = k ∧ 0 ≤ k ∧ k ≤ 2047 := by
    refine ⟨_, rfl, ?_⟩
    have e1 : bits .and .i64 a1 2047 = IntKind.i64.wrap ((BitVec.ofInt 64 a1 &&& BitVec.ofInt 64 2047).toNat : Int) := rfl
    have e2 : (BitVec.ofInt 64 a1 &&& BitVec.ofInt 64 2047).toNat ≤ 2047 := by
      rw [BitVec.toNat_and]
      exact Nat.le_trans Nat.and_le_right (by decide)
    rw [e1, wrap_i64_is _ (by omega) (by omega)]
    omega
  obtain ⟨N, hN⟩ : ∃ N, k - 1024 = N := ⟨_, rfl⟩
  have nw : IntKind.i64.wrap (k - 1024) = N := by rw [wrap_i64_is _ (by omega) (by omega), hN]
  obtain ⟨o, ho⟩ : ∃ o, (decide (s0.size ≤ 40) && decide (t0.size ≤ 40)) = o := ⟨_, rfl⟩
  have HO := box ho
  obtain ⟨m1, hm1⟩ : ∃ o, IsM o b0 s0 t0 e0 := by
    by_cases h : MayX b0 s0 t0 e0
    · exact ⟨true, ⟨fun _ => h, fun _ => rfl⟩⟩
    · exact ⟨false, may_no h⟩
  have M1 := box hm1
  have n1 : -1024 ≤ N := by omega
  have n2 : N ≤ 1024 := by omega
  clear h0 h1 he0 hk1 hk2 hN
  cases o
  · clear ho hm1
    have Rx_0 : (w.alloc (Obj.cells #[.bool b0, .string s0, .string t0, .int .i64 e0] 24)).heap[w.heap.size]? = some (Obj.cells #[.bool b0, .string s0, .string t0, .int .i64 e0] 24) := by have := heap_alloc_last w (Obj.cells #[.bool b0, .string s0, .string t0, .int .i64 e0] 24); simpa only [size_al] using this
    have B0 : Below w.heap.size w (w.alloc (Obj.cells #[.bool b0, .string s0, .string t0, .int .i64 e0] 24)) := ((Below.refl _ _).alloc (by first | omega | (simp only [size_al]; omega)) _)
    go_enter Tryd.func4, Tryd.ntmps4
    go_wp2_with fail
    refine (xshort b0 s0 t0 e0 40 40 false rfl HO.out _).mono ?_
    rintro r w1 ⟨rfl, b1⟩
    have B1 : Below w.heap.size w w1 := btr B0 b1
    have Rx_1 : w1.heap[w.heap.size]? = some (Obj.cells #[.bool b0, .string s0, .string t0, .int .i64 e0] 24) := heap_of b1 _ _ _ Rx_0
    clear b1 B0 Rx_0
    have cx_1_0 := cells4 Rx_1 0 _ rfl
    have cx_1_1 := cells4 Rx_1 1 _ rfl
    have cx_1_2 := cells4 Rx_1 2 _ rfl
    have cx_1_3 := cells4 Rx_1 3 _ rfl
    go_wp2_with fail
    refine (xalive _ (tabB TT.out B1)).mono ?_
    rintro r w2 ⟨rfl, b2⟩
    have B2 : Below w.heap.size w w2 := btr B1 b2
    have Rx_2 : w2.heap[w.heap.size]? = some (Obj.cells #[.bool b0, .string s0, .string t0, .int .i64 e0] 24) := heap_of b2 _ _ _ Rx_1
    clear b2 B1 Rx_1 cx_1_0 cx_1_1 cx_1_2 cx_1_3
    have cx_2_0 := cells4 Rx_2 0 _ rfl
    have cx_2_1 := cells4 Rx_2 1 _ rfl
    have cx_2_2 := cells4 Rx_2 2 _ rfl
    have cx_2_3 := cells4 Rx_2 3 _ rfl
    go_wp2
    go_ret
    exact ⟨rfl, B2⟩
  cases m1
  · clear ho hm1
    have Rx_0 : (w.alloc (Obj.cells #[.bool b0, .string s0, .string t0, .int .i64 e0] 24)).heap[w.heap.size]? = some (Obj.cells #[.bool b0, .string s0, .string t0, .int .i64 e0] 24) := by have := heap_alloc_last w (Obj.cells #[.bool b0, .string s0, .string t0, .int .i64 e0] 24); simpa only [size_al] using this
    have B0 : Below w.heap.size w (w.alloc (Obj.cells #[.bool b0, .string s0, .string t0, .int .i64 e0] 24)) := ((Below.refl _ _).alloc (by first | omega | (simp only [size_al]; omega)) _)
    go_enter Tryd.func4, Tryd.ntmps4
    go_wp2_with fail
    refine (xshort b0 s0 t0 e0 40 40 true rfl HO.out _).mono ?_
    rintro r w1 ⟨rfl, b1⟩
    have B1 : Below w.heap.size w w1 := btr B0 b1
    have Rx_1 : w1.heap[w.heap.size]? = some (Obj.cells #[.bool b0, .string s0, .string t0, .int .i64 e0] 24) := heap_of b1 _ _ _ Rx_0
    clear b1 B0 Rx_0
    have cx_1_0 := cells4 Rx_1 0 _ rfl
    have cx_1_1 := cells4 Rx_1 1 _ rfl
    have cx_1_2 := cells4 Rx_1 2 _ rfl
    have cx_1_3 := cells4 Rx_1 3 _ rfl
    go_wp2_with fail
    refine (xmayM b0 s0 t0 e0 false M1.out _).mono ?_
    rintro r w2 ⟨rfl, b2⟩
    have B2 : Below w.heap.size w w2 := btr B1 b2
    have Rx_2 : w2.heap[w.heap.size]? = some (Obj.cells #[.bool b0, .string s0, .string t0, .int .i64 e0] 24) := heap_of b2 _ _ _ Rx_1
    clear b2 B1 Rx_1 cx_1_0 cx_1_1 cx_1_2 cx_1_3
    have cx_2_0 := cells4 Rx_2 0 _ rfl
    have cx_2_1 := cells4 Rx_2 1 _ rfl
    have cx_2_2 := cells4 Rx_2 2 _ rfl
    have cx_2_3 := cells4 Rx_2 3 _ rfl
    go_wp2_with fail
    refine (xalive _ (tabB TT.out B2)).mono ?_
    rintro r w3 ⟨rfl, b3⟩
    have B3 : Below w.heap.size w w3 := btr B2 b3
    have Rx_3 : w3.heap[w.heap.size]? = some (Obj.cells #[.bool b0, .string s0, .string t0, .int .i64 e0] 24) := heap_of b3 _ _ _ Rx_2
    clear b3 B2 Rx_2 cx_2_0 cx_2_1 cx_2_2 cx_2_3
    have cx_3_0 := cells4 Rx_3 0 _ rfl
    have cx_3_1 := cells4 Rx_3 1 _ rfl
    have cx_3_2 := cells4 Rx_3 2 _ rfl
    have cx_3_3 := cells4 Rx_3 3 _ rfl
    go_wp2
    go_ret
    exact ⟨rfl, B3⟩
  by_cases c0 : (900 : Int) < e0
  · have d0 : decide ((900 : Int) < e0) = true := decide_eq_true c0
    clear ho hm1 c0
    have Rx_0 : (w.alloc (Obj.cells #[.bool b0, .string s0, .string t0, .int .i64 e0] 24)).heap[w.heap.size]? = some (Obj.cells #[.bool b0, .string s0, .string t0, .int .i64 e0] 24) := by have := heap_alloc_last w (Obj.cells #[.bool b0, .string s0, .string t0, .int .i64 e0] 24); simpa only [size_al] using this
    have B0 : Below w.heap.size w (w.alloc (Obj.cells #[.bool b0, .string s0, .string t0, .int .i64 e0] 24)) := ((Below.refl _ _).alloc (by first | omega | (simp only [size_al]; omega)) _)
    go_enter Tryd.func4, Tryd.ntmps4
    go_wp2_with fail
    refine (xshort b0 s0 t0 e0 40 40 true rfl HO.out _).mono ?_
    rintro r w1 ⟨rfl, b1⟩
    have B1 : Below w.heap.size w w1 := btr B0 b1
    have Rx_1 : w1.heap[w.heap.size]? = some (Obj.cells #[.bool b0, .string s0, .string t0, .int .i64 e0] 24) := heap_of b1 _ _ _ Rx_0
    clear b1 B0 Rx_0
    have cx_1_0 := cells4 Rx_1 0 _ rfl
    have cx_1_1 := cells4 Rx_1 1 _ rfl
    have cx_1_2 := cells4 Rx_1 2 _ rfl
    have cx_1_3 := cells4 Rx_1 3 _ rfl
    go_wp2_with fail
    refine (xmayM b0 s0 t0 e0 true M1.out _).mono ?_
    rintro r w2 ⟨rfl, b2⟩
    have B2 : Below w.heap.size w w2 := btr B1 b2
    have Rx_2 : w2.heap[w.heap.size]? = some (Obj.cells #[.bool b0, .string s0, .string t0, .int .i64 e0] 24) := heap_of b2 _ _ _ Rx_1
    clear b2 B1 Rx_1 cx_1_0 cx_1_1 cx_1_2 cx_1_3
    have cx_2_0 := cells4 Rx_2 0 _ rfl
    have cx_2_1 := cells4 Rx_2 1 _ rfl
    have cx_2_2 := cells4 Rx_2 2 _ rfl
    have cx_2_3 := cells4 Rx_2 3 _ rfl
    go_wp2_with fail
    refine (xalive _ (tabB TT.out B2)).mono ?_
    rintro r w3 ⟨rfl, b3⟩
    have B3 : Below w.heap.size w w3 := btr B2 b3
    have Rx_3 : w3.heap[w.heap.size]? = some (Obj.cells #[.bool b0, .string s0, .string t0, .int .i64 e0] 24) := heap_of b3 _ _ _ Rx_2
    clear b3 B2 Rx_2 cx_2_0 cx_2_1 cx_2_2 cx_2_3
    have cx_3_0 := cells4 Rx_3 0 _ rfl
    have cx_3_1 := cells4 Rx_3 1 _ rfl
    have cx_3_2 := cells4 Rx_3 2 _ rfl
    have cx_3_3 := cells4 Rx_3 3 _ rfl
    go_wp2
    go_ret
    exact ⟨rfl, B3⟩
  have d0 : decide ((900 : Int) < e0) = false := decide_eq_false c0
  by_cases c1 : e0 < -900
  · have d1 : decide (e0 < -900) = true := decide_eq_true c1
    clear ho hm1 c1
    have Rx_0 : (w.alloc (Obj.cells #[.bool b0, .string s0, .string t0, .int .i64 e0] 24)).heap[w.heap.size]? = some (Obj.cells #[.bool b0, .string s0, .string t0, .int .i64 e0] 24) := by have := heap_alloc_last w (Obj.cells #[.bool b0, .string s0, .string t0, .int .i64 e0] 24); simpa only [size_al] using this
    have B0 : Below w.heap.size w (w.alloc (Obj.cells #[.bool b0, .string s0, .string t0, .int .i64 e0] 24)) := ((Below.refl _ _).alloc (by first | omega | (simp only [size_al]; omega)) _)
    go_enter Tryd.func4, Tryd.ntmps4
    go_wp2_with fail
    refine (xshort b0 s0 t0 e0 40 40 true rfl HO.out _).mono ?_
    rintro r w1 ⟨rfl, b1⟩
    have B1 : Below w.heap.size w w1 := btr B0 b1
    have Rx_1 : w1.heap[w.heap.size]? = some (Obj.cells #[.bool b0, .string s0, .string t0, .int .i64 e0] 24) := heap_of b1 _ _ _ Rx_0
    clear b1 B0 Rx_0
    have cx_1_0 := cells4 Rx_1 0 _ rfl
    have cx_1_1 := cells4 Rx_1 1 _ rfl
    have cx_1_2 := cells4 Rx_1 2 _ rfl
    have cx_1_3 := cells4 Rx_1 3 _ rfl
    go_wp2_with fail
    refine (xmayM b0 s0 t0 e0 true M1.out _).mono ?_
    rintro r w2 ⟨rfl, b2⟩
    have B2 : Below w.heap.size w w2 := btr B1 b2
    have Rx_2 : w2.heap[w.heap.size]? = some (Obj.cells #[.bool b0, .string s0, .string t0, .int .i64 e0] 24) := heap_of b2 _ _ _ Rx_1
    clear b2 B1 Rx_1 cx_1_0 cx_1_1 cx_1_2 cx_1_3
    have cx_2_0 := cells4 Rx_2 0 _ rfl
    have cx_2_1 := cells4 Rx_2 1 _ rfl
    have cx_2_2 := cells4 Rx_2 2 _ rfl
    have cx_2_3 := cells4 Rx_2 3 _ rfl
    go_wp2_with fail
    refine (xalive _ (tabB TT.out B2)).mono ?_
    rintro r w3 ⟨rfl, b3⟩
    have B3 : Below w.heap.size w w3 := btr B2 b3
    have Rx_3 : w3.heap[w.heap.size]? = some (Obj.cells #[.bool b0, .string s0, .string t0, .int .i64 e0] 24) := heap_of b3 _ _ _ Rx_2
    clear b3 B2 Rx_2 cx_2_0 cx_2_1 cx_2_2 cx_2_3
    have cx_3_0 := cells4 Rx_3 0 _ rfl
    have cx_3_1 := cells4 Rx_3 1 _ rfl
    have cx_3_2 := cells4 Rx_3 2 _ rfl
    have cx_3_3 := cells4 Rx_3 3 _ rfl
    go_wp2
    go_ret
    exact ⟨rfl, B3⟩
  have d1 : decide (e0 < -900) = false := decide_eq_false c1
  obtain ⟨n, f, hs, ht, hx⟩ := hm1.1 rfl
  by_cases n0 : n = 0
  · have K8 := box (fun w hT => Signx_ok b0 n f e0 s0 t0 0 hs ht hx (by unfold sg; rw [if_pos n0]) w hT)
    clear ho hm1 hs ht hx n0 c0 c1
    have Rx_0 : (w.alloc (Obj.cells #[.bool b0, .string s0, .string t0, .int .i64 e0] 24)).heap[w.heap.size]? = some (Obj.cells #[.bool b0, .string s0, .string t0, .int .i64 e0] 24) := by have := heap_alloc_last w (Obj.cells #[.bool b0, .string s0, .string t0, .int .i64 e0] 24); simpa only [size_al] using this
    have B0 : Below w.heap.size w (w.alloc (Obj.cells #[.bool b0, .string s0, .string t0, .int .i64 e0] 24)) := ((Below.refl _ _).alloc (by first | omega | (simp only [size_al]; omega)) _)
    go_enter Tryd.func4, Tryd.ntmps4
    go_wp2_with fail
    refine (xshort b0 s0 t0 e0 40 40 true rfl HO.out _).mono ?_
    rintro r w1 ⟨rfl, b1⟩
    have B1 : Below w.heap.size w w1 := btr B0 b1
    have Rx_1 : w1.heap[w.heap.size]? = some (Obj.cells #[.bool b0, .string s0, .string t0, .int .i64 e0] 24) := heap_of b1 _ _ _ Rx_0
    clear b1 B0 Rx_0
    have cx_1_0 := cells4 Rx_1 0 _ rfl
    have cx_1_1 := cells4 Rx_1 1 _ rfl
    have cx_1_2 := cells4 Rx_1 2 _ rfl
    have cx_1_3 := cells4 Rx_1 3 _ rfl
    go_wp2_with fail
    refine (xmayM b0 s0 t0 e0 true M1.out _).mono ?_
    rintro r w2 ⟨rfl, b2⟩
    have B2 : Below w.heap.size w w2 := btr B1 b2
    have Rx_2 : w2.heap[w.heap.size]? = some (Obj.cells #[.bool b0, .string s0, .string t0, .int .i64 e0] 24) := heap_of b2 _ _ _ Rx_1
    clear b2 B1 Rx_1 cx_1_0 cx_1_1 cx_1_2 cx_1_3
    have cx_2_0 := cells4 Rx_2 0 _ rfl
    have cx_2_1 := cells4 Rx_2 1 _ rfl
    have cx_2_2 := cells4 Rx_2 2 _ rfl
    have cx_2_3 := cells4 Rx_2 3 _ rfl
    go_wp2_with fail
    refine (K8.out _ (tabB TT.out B2)).mono ?_
    rintro r w3 ⟨rfl, b3⟩
    have B3 : Below w.heap.size w w3 := btr B2 b3
    have Rx_3 : w3.heap[w.heap.size]? = some (Obj.cells #[.bool b0, .string s0, .string t0, .int .i64 e0] 24) := heap_of b3 _ _ _ Rx_2
    clear b3 B2 Rx_2 cx_2_0 cx_2_1 cx_2_2 cx_2_3
    have cx_3_0 := cells4 Rx_3 0 _ rfl
    have cx_3_1 := cells4 Rx_3 1 _ rfl
    have cx_3_2 := cells4 Rx_3 2 _ rfl
    have cx_3_3 := cells4 Rx_3 3 _ rfl
    go_wp2_with fail
    refine (xalive _ (tabB TT.out B3)).mono ?_
    rintro r w4 ⟨rfl, b4⟩
    have B4 : Below w.heap.size w w4 := btr B3 b4
    have Rx_4 : w4.heap[w.heap.size]? = some (Obj.cells #[.bool b0, .string s0, .string t0, .int .i64 e0] 24) := heap_of b4 _ _ _ Rx_3
    clear b4 B3 Rx_3 cx_3_0 cx_3_1 cx_3_2 cx_3_3
    have cx_4_0 := cells4 Rx_4 0 _ rfl
    have cx_4_1 := cells4 Rx_4 1 _ rfl
    have cx_4_2 := cells4 Rx_4 2 _ rfl
    have cx_4_3 := cells4 Rx_4 3 _ rfl
    go_wp2
    go_ret
    exact ⟨rfl, B4⟩
  obtain ⟨sc, hsc, hsc0⟩ : ∃ c : Int, sg (XN.mk b0 n f e0) = c ∧ c ≠ 0 := ⟨_, rfl, sg_ne b0 n f e0 n0⟩
  have K8 := box (fun w hT => Signx_ok b0 n f e0 s0 t0 sc hs ht hx hsc w hT)
  have ds : (sc == 0) = false := by rw [Bool.eq_false_iff]; intro h; exact hsc0 (by simpa using h)
  have ds2 : decide (sc = 0) = false := decide_eq_false hsc0
  have bx : Bd (XN.mk b0 n f e0) 320 900 := bd_of b0 n f e0 s0 t0 40 320 900 hs ht ho rfl (by omega) (by omega)
  obtain ⟨m, is, ⟨lb, ln, ld, le⟩, ⟨hb, hn, hd, he⟩, ⟨ub, un, ud, ue⟩, ⟨vb, vn, vd, ve⟩, a, b, c, d, q1, q2, q3, q4, q5, q6, q7, q8, q9, q10, q11, q12, q13, q14, q15, q16, q17, q18, q19, q20, q21⟩ := between_good (XN.mk b0 n f e0) N hx n0 bx n1 n2
  obtain ⟨T, hT⟩ : ∃ T, topX (XN.mk b0 n f e0) = T := ⟨_, rfl⟩
  rw [hT] at q13 q15 q21
  obtain ⟨mv, hmv⟩ : ∃ z, nbA m = z := ⟨_, rfl⟩
  obtain ⟨ov, hov⟩ : ∃ z, nbA (m + 1) = z := ⟨_, rfl⟩
  obtain ⟨lp, hlp⟩ : ∃ z, nbA ln = z := ⟨_, rfl⟩
  obtain ⟨lq, hlq⟩ : ∃ z, nbA ld = z := ⟨_, rfl⟩
  obtain ⟨hp, hhp⟩ : ∃ z, nbA hn = z := ⟨_, rfl⟩
  obtain ⟨hq, hhq⟩ : ∃ z, nbA hd = z := ⟨_, rfl⟩
  obtain ⟨up, hup⟩ : ∃ z, nbA un = z := ⟨_, rfl⟩
  obtain ⟨uq, huq⟩ : ∃ z, nbA ud = z := ⟨_, rfl⟩
  obtain ⟨vp, hvp⟩ : ∃ z, nbA vn = z := ⟨_, rfl⟩
  obtain ⟨vq, hvq⟩ : ∃ z, nbA vd = z := ⟨_, rfl⟩
  have ax : (XN.mk false n f e0).can := (abs_good _ hx).1
  have K1 := box (fun w hT => Floorx_ok b0 n f e0 s0 t0 N m is 0 mv hs ht hx (by omega) (by omega) q1 hmv w hT)
  have K2 := box (fun w => pn_add_ok m 1 mv ⟨#[1]⟩ ov 0 hmv nb1 q2 nl1 (lg_ok _ _ q3 hov) w)
  have K3 := box (fun w hT => makex_ok false m 1 N mv ⟨#[1]⟩ lb ln ld le 0 lp lq hmv nb1 q2 nl1 (by decide) (by omega) (by omega) q4 hlp hlq w hT)
  have K4 := box (fun w hT => makex_ok false (m + 1) 1 N ov ⟨#[1]⟩ hb hn hd he 0 hp hq hov nb1 q3 nl1 (by decide) (by omega) (by omega) q6 hhp hhq w hT)
  have KA := box (fun w hT => Absx_ok b0 n f e0 s0 t0 hs ht hx w hT)
  have K5 := box (fun w hT => Cmpx_ok lb ln ld le lp lq false n f e0 s0 t0 a 0 hlp hlq hs ht q5 ax q8 w hT)
  have K6 := box (fun w hT => Cmpx_ok false n f e0 s0 t0 hb hn hd he hp hq b 0 hs ht hhp hhq ax q7 q9 w hT)
  have K7 := box (fun w hTab => Topx_ok b0 n f e0 s0 t0 T hs ht n0 hx hT w hTab)
  have K9 := box (fun w hT => makex_ok false 1 1 T ⟨#[1]⟩ ⟨#[1]⟩ ub un ud ue 0 up uq nb1 nb1 nl1 nl1 (by decide) (by omega) (by omega) q13 hup huq w hT)
  have K10 := box (fun w hT => makex_ok false 1 1 (T + 1) ⟨#[1]⟩ ⟨#[1]⟩ vb vn vd ve 0 vp vq nb1 nb1 nl1 nl1 (by decide) (by omega) (by omega) q15 hvp hvq w hT)
  have K11 := box (fun w hT => Cmpx_ok ub un ud ue up uq false n f e0 s0 t0 c 0 hup huq hs ht q14 ax q17 w hT)
  have K12 := box (fun w hT => Cmpx_ok false n f e0 s0 t0 vb vn vd ve vp vq d 0 hs ht hvp hvq ax q16 q18 w hT)
  have tw : IntKind.i64.wrap (T + 1) = T + 1 := wrap_i64_is _ (by omega) (by omega)
  have g1 : decide ((0 : Int) < a) = false := decide_eq_false (by omega)
  have g2 : decide ((0 : Int) ≤ b) = false := decide_eq_false (by omega)
  have g3 : decide (c ≤ 0) = true := decide_eq_true q19
  have g4 : decide (d < 0) = true := decide_eq_true q20
  have g6 : decide (a = 0) = is := by rw [q12, Bool.eq_iff_iff, decide_eq_true_iff, beq_iff_eq]
  have g5 : (a == 0) = is := q12.symm
  clear ho hm1 hs ht hx n0 c0 c1 hsc hsc0 bx q1 q2 q3 q4 q5 q6 q7 q8 q9 q10 q11 q12 q13 q14 q15 q16 q17 q18 q19 q20 q21 hT hmv hov ax n1 n2 hlp hlq hhp hhq hup huq hvp hvq
  have Rx_0 : (w.alloc (Obj.cells #[.bool b0, .string s0, .string t0, .int .i64 e0] 24)).heap[w.heap.size]? = some (Obj.cells #[.bool b0, .string s0, .string t0, .int .i64 e0] 24) := by have := heap_alloc_last w (Obj.cells #[.bool b0, .string s0, .string t0, .int .i64 e0] 24); simpa only [size_al] using this
  have B0 : Below w.heap.size w (w.alloc (Obj.cells #[.bool b0, .string s0, .string t0, .int .i64 e0] 24)) := ((Below.refl _ _).alloc (by first | omega | (simp only [size_al]; omega)) _)
  go_enter Tryd.func4, Tryd.ntmps4
  go_wp2_with fail
  refine (xshort b0 s0 t0 e0 40 40 true rfl HO.out _).mono ?_
  rintro r w1 ⟨rfl, b1⟩
  have B1 : Below w.heap.size w w1 := btr B0 b1
  have Rx_1 : w1.heap[w.heap.size]? = some (Obj.cells #[.bool b0, .string s0, .string t0, .int .i64 e0] 24) := heap_of b1 _ _ _ Rx_0
  clear b1 B0 Rx_0
  have cx_1_0 := cells4 Rx_1 0 _ rfl
  have cx_1_1 := cells4 Rx_1 1 _ rfl
  have cx_1_2 := cells4 Rx_1 2 _ rfl
  have cx_1_3 := cells4 Rx_1 3 _ rfl
  go_wp2_with fail
  refine (xmayM b0 s0 t0 e0 true M1.out _).mono ?_
  rintro r w2 ⟨rfl, b2⟩
  have B2 : Below w.heap.size w w2 := btr B1 b2
  have Rx_2 : w2.heap[w.heap.size]? = some (Obj.cells #[.bool b0, .string s0, .string t0, .int .i64 e0] 24) := heap_of b2 _ _ _ Rx_1
  clear b2 B1 Rx_1 cx_1_0 cx_1_1 cx_1_2 cx_1_3
  have cx_2_0 := cells4 Rx_2 0 _ rfl
  have cx_2_1 := cells4 Rx_2 1 _ rfl
  have cx_2_2 := cells4 Rx_2 2 _ rfl
  have cx_2_3 := cells4 Rx_2 3 _ rfl
  go_wp2_with fail
  refine (K8.out _ (tabB TT.out B2)).mono ?_
  rintro r w3 ⟨rfl, b3⟩
  have B3 : Below w.heap.size w w3 := btr B2 b3
  have Rx_3 : w3.heap[w.heap.size]? = some (Obj.cells #[.bool b0, .string s0, .string t0, .int .i64 e0] 24) := heap_of b3 _ _ _ Rx_2
  clear b3 B2 Rx_2 cx_2_0 cx_2_1 cx_2_2 cx_2_3
  have cx_3_0 := cells4 Rx_3 0 _ rfl
  have cx_3_1 := cells4 Rx_3 1 _ rfl
  have cx_3_2 := cells4 Rx_3 2 _ rfl
  have cx_3_3 := cells4 Rx_3 3 _ rfl
  go_wp2_with fail
  refine (K1.out _ (tabB TT.out B3)).mono ?_
  rintro r w4 ⟨rfl, b4⟩
  have B4 : Below w.heap.size w w4 := btr B3 b4
  have Rx_4 : w4.heap[w.heap.size]? = some (Obj.cells #[.bool b0, .string s0, .string t0, .int .i64 e0] 24) := heap_of b4 _ _ _ Rx_3
  clear b4 B3 Rx_3 cx_3_0 cx_3_1 cx_3_2 cx_3_3
  have cx_4_0 := cells4 Rx_4 0 _ rfl
  have cx_4_1 := cells4 Rx_4 1 _ rfl
  have cx_4_2 := cells4 Rx_4 2 _ rfl
  have cx_4_3 := cells4 Rx_4 3 _ rfl
  go_wp2_with fail
  refine (K2.out _).mono ?_
  rintro r w5 ⟨rfl, b5⟩
  have B5 : Below w.heap.size w w5 := btr B4 b5
  have Rx_5 : w5.heap[w.heap.size]? = some (Obj.cells #[.bool b0, .string s0, .string t0, .int .i64 e0] 24) := heap_of b5 _ _ _ Rx_4
  clear b5 B4 Rx_4 cx_4_0 cx_4_1 cx_4_2 cx_4_3
  have cx_5_0 := cells4 Rx_5 0 _ rfl
  have cx_5_1 := cells4 Rx_5 1 _ rfl
  have cx_5_2 := cells4 Rx_5 2 _ rfl
  have cx_5_3 := cells4 Rx_5 3 _ rfl
  go_wp2_with fail
  refine (K3.out _ (tabB TT.out B5)).mono ?_
  rintro r w6 ⟨rfl, b6⟩
  have B6 : Below w.heap.size w w6 := btr B5 b6
  have Rx_6 : w6.heap[w.heap.size]? = some (Obj.cells #[.bool b0, .string s0, .string t0, .int .i64 e0] 24) := heap_of b6 _ _ _ Rx_5
  clear b6 B5 Rx_5 cx_5_0 cx_5_1 cx_5_2 cx_5_3
  have cx_6_0 := cells4 Rx_6 0 _ rfl
  have cx_6_1 := cells4 Rx_6 1 _ rfl
  have cx_6_2 := cells4 Rx_6 2 _ rfl
  have cx_6_3 := cells4 Rx_6 3 _ rfl
  have S7 := box B6.size
  have Lx_7 : Box (w.heap.size < w6.heap.size) := box (Array.getElem?_eq_some_iff.1 Rx_6).1
  have B7 : Below w.heap.size w (w6.alloc (Obj.cells #[.bool lb, .string lp, .string lq, .int .i64 le] 24)) := btr B6 (bal _ _)
  have Rx_7 : (w6.alloc (Obj.cells #[.bool lb, .string lp, .string lq, .int .i64 le] 24)).heap[w.heap.size]? = some (Obj.cells #[.bool b0, .string s0, .string t0, .int .i64 e0] 24) := heap_of (bal _ _) _ _ _ Rx_6
  have Rl_7 : (w6.alloc (Obj.cells #[.bool lb, .string lp, .string lq, .int .i64 le] 24)).heap[w6.heap.size]? = some (Obj.cells #[.bool lb, .string lp, .string lq, .int .i64 le] 24) := heap_alloc_last _ _
  clear B6 Rx_6 cx_6_0 cx_6_1 cx_6_2 cx_6_3
  have cx_7_0 := cells4 Rx_7 0 _ rfl
  have cx_7_1 := cells4 Rx_7 1 _ rfl
  have cx_7_2 := cells4 Rx_7 2 _ rfl
  have cx_7_3 := cells4 Rx_7 3 _ rfl
  have cl_7_0 := cells4 Rl_7 0 _ rfl
  have cl_7_1 := cells4 Rl_7 1 _ rfl
  have cl_7_2 := cells4 Rl_7 2 _ rfl
  have cl_7_3 := cells4 Rl_7 3 _ rfl
  go_wp2_with fail
  refine (K4.out _ (tabB TT.out B7)).mono ?_
  rintro r w8 ⟨rfl, b8⟩
  have B8 : Below w.heap.size w w8 := btr B7 b8
  have Rx_8 : w8.heap[w.heap.size]? = some (Obj.cells #[.bool b0, .string s0, .string t0, .int .i64 e0] 24) := heap_of b8 _ _ _ Rx_7
  have Rl_8 : w8.heap[w6.heap.size]? = some (Obj.cells #[.bool lb, .string lp, .string lq, .int .i64 le] 24) := heap_of b8 _ _ _ Rl_7
  clear b8 B7 Rx_7 cx_7_0 cx_7_1 cx_7_2 cx_7_3 Rl_7 cl_7_0 cl_7_1 cl_7_2 cl_7_3
  have cx_8_0 := cells4 Rx_8 0 _ rfl
  have cx_8_1 := cells4 Rx_8 1 _ rfl
  have cx_8_2 := cells4 Rx_8 2 _ rfl
  have cx_8_3 := cells4 Rx_8 3 _ rfl
  have cl_8_0 := cells4 Rl_8 0 _ rfl
  have cl_8_1 := cells4 Rl_8 1 _ rfl
  have cl_8_2 := cells4 Rl_8 2 _ rfl
  have cl_8_3 := cells4 Rl_8 3 _ rfl
  have S9 := box B8.size
  have Lx_9 : Box (w.heap.size < w8.heap.size) := box (Array.getElem?_eq_some_iff.1 Rx_8).1
  have Ll_9 : Box (w6.heap.size < w8.heap.size) := box (Array.getElem?_eq_some_iff.1 Rl_8).1
  have B9 : Below w.heap.size w (w8.alloc (Obj.cells #[.bool hb, .string hp, .string hq, .int .i64 he] 24)) := btr B8 (bal _ _)
  have Rx_9 : (w8.alloc (Obj.cells #[.bool hb, .string hp, .string hq, .int .i64 he] 24)).heap[w.heap.size]? = some (Obj.cells #[.bool b0, .string s0, .string t0, .int .i64 e0] 24) := heap_of (bal _ _) _ _ _ Rx_8
  have Rl_9 : (w8.alloc (Obj.cells #[.bool hb, .string hp, .string hq, .int .i64 he] 24)).heap[w6.heap.size]? = some (Obj.cells #[.bool lb, .string lp, .string lq, .int .i64 le] 24) := heap_of (bal _ _) _ _ _ Rl_8
  have Rh_9 : (w8.alloc (Obj.cells #[.bool hb, .string hp, .string hq, .int .i64 he] 24)).heap[w8.heap.size]? = some (Obj.cells #[.bool hb, .string hp, .string hq, .int .i64 he] 24) := heap_alloc_last _ _
  clear B8 Rx_8 cx_8_0 cx_8_1 cx_8_2 cx_8_3 Rl_8 cl_8_0 cl_8_1 cl_8_2 cl_8_3
  have cx_9_0 := cells4 Rx_9 0 _ rfl
  have cx_9_1 := cells4 Rx_9 1 _ rfl
  have cx_9_2 := cells4 Rx_9 2 _ rfl
  have cx_9_3 := cells4 Rx_9 3 _ rfl
  have cl_9_0 := cells4 Rl_9 0 _ rfl
  have cl_9_1 := cells4 Rl_9 1 _ rfl
  have cl_9_2 := cells4 Rl_9 2 _ rfl
  have cl_9_3 := cells4 Rl_9 3 _ rfl
  have ch_9_0 := cells4 Rh_9 0 _ rfl
  have ch_9_1 := cells4 Rh_9 1 _ rfl
  have ch_9_2 := cells4 Rh_9 2 _ rfl
  have ch_9_3 := cells4 Rh_9 3 _ rfl
  go_wp2_with fail
  obtain ⟨F, hF1, hF2⟩ := below_fun (w8.alloc (Obj.cells #[.bool hb, .string hp, .string hq, .int .i64 he] 24))
  have fx_0 := fun u => cells4 (heap_of (hF1 u) _ _ _ Rx_9) 0 _ rfl
  have fx_1 := fun u => cells4 (heap_of (hF1 u) _ _ _ Rx_9) 1 _ rfl
  have fx_2 := fun u => cells4 (heap_of (hF1 u) _ _ _ Rx_9) 2 _ rfl
  have fx_3 := fun u => cells4 (heap_of (hF1 u) _ _ _ Rx_9) 3 _ rfl
  have fl_0 := fun u => cells4 (heap_of (hF1 u) _ _ _ Rl_9) 0 _ rfl
  have fl_1 := fun u => cells4 (heap_of (hF1 u) _ _ _ Rl_9) 1 _ rfl
  have fl_2 := fun u => cells4 (heap_of (hF1 u) _ _ _ Rl_9) 2 _ rfl
  have fl_3 := fun u => cells4 (heap_of (hF1 u) _ _ _ Rl_9) 3 _ rfl
  have fh_0 := fun u => cells4 (heap_of (hF1 u) _ _ _ Rh_9) 0 _ rfl
  have fh_1 := fun u => cells4 (heap_of (hF1 u) _ _ _ Rh_9) 1 _ rfl
  have fh_2 := fun u => cells4 (heap_of (hF1 u) _ _ _ Rh_9) 2 _ rfl
  have fh_3 := fun u => cells4 (heap_of (hF1 u) _ _ _ Rh_9) 3 _ rfl
  have TF : Box (∀ u, TabAt (F u)) := box (fun u => tabB TT.out (btr B9 (hF1 u)))
  refine wp_region_below F hF2 (by kernel_rfl) (by kernel_rfl) ?_
  repeat first | go_big_quiet_step (first | (go_at_call 17; exact quietF hF1 hF2 (KA.out _ (TF.out _))) | (go_at_call 16; exact quietF hF1 hF2 (K5.out _ (TF.out _))) | fail) | quiet_step (first | (go_at_call 17; exact quietF hF1 hF2 (KA.out _ (TF.out _))) | (go_at_call 16; exact quietF hF1 hF2 (K5.out _ (TF.out _))) | fail)
  refine wpQuiet_nil ?_
  rintro _ ⟨uW, rfl⟩
  have B10 := btr B9 (hF1 uW)
  have Rx_10 := heap_of (hF1 uW) _ _ _ Rx_9
  have Rl_10 := heap_of (hF1 uW) _ _ _ Rl_9
  have Rh_10 := heap_of (hF1 uW) _ _ _ Rh_9
  obtain ⟨w10, hw⟩ : ∃ V, F uW = V := ⟨_, rfl⟩
  rw [hw] at B10 Rx_10 Rl_10 Rh_10
  try rw [hw]
  clear hw hF1 hF2 B9 fx_0 fx_1 fx_2 fx_3 fl_0 fl_1 fl_2 fl_3 fh_0 fh_1 fh_2 fh_3 Rx_9 cx_9_0 cx_9_1 cx_9_2 cx_9_3 Rl_9 cl_9_0 cl_9_1 cl_9_2 cl_9_3 Rh_9 ch_9_0 ch_9_1 ch_9_2 ch_9_3
  clear TF
  clear F
  have cx_10_0 := cells4 Rx_10 0 _ rfl
  have cx_10_1 := cells4 Rx_10 1 _ rfl
  have cx_10_2 := cells4 Rx_10 2 _ rfl
  have cx_10_3 := cells4 Rx_10 3 _ rfl
  have cl_10_0 := cells4 Rl_10 0 _ rfl
  have cl_10_1 := cells4 Rl_10 1 _ rfl
  have cl_10_2 := cells4 Rl_10 2 _ rfl
  have cl_10_3 := cells4 Rl_10 3 _ rfl
  have ch_10_0 := cells4 Rh_10 0 _ rfl
  have ch_10_1 := cells4 Rh_10 1 _ rfl
  have ch_10_2 := cells4 Rh_10 2 _ rfl
  have ch_10_3 := cells4 Rh_10 3 _ rfl
  clear Rl_10 cl_10_0 cl_10_1 cl_10_2 cl_10_3
  go_wp2_with fail
  obtain ⟨F, hF1, hF2⟩ := below_fun w10
  have fx_0 := fun u => cells4 (heap_of (hF1 u) _ _ _ Rx_10) 0 _ rfl
  have fx_1 := fun u => cells4 (heap_of (hF1 u) _ _ _ Rx_10) 1 _ rfl
  have fx_2 := fun u => cells4 (heap_of (hF1 u) _ _ _ Rx_10) 2 _ rfl
  have fx_3 := fun u => cells4 (heap_of (hF1 u) _ _ _ Rx_10) 3 _ rfl
  have fh_0 := fun u => cells4 (heap_of (hF1 u) _ _ _ Rh_10) 0 _ rfl
  have fh_1 := fun u => cells4 (heap_of (hF1 u) _ _ _ Rh_10) 1 _ rfl
  have fh_2 := fun u => cells4 (heap_of (hF1 u) _ _ _ Rh_10) 2 _ rfl
  have fh_3 := fun u => cells4 (heap_of (hF1 u) _ _ _ Rh_10) 3 _ rfl
  have TF : Box (∀ u, TabAt (F u)) := box (fun u => tabB TT.out (btr B10 (hF1 u)))
  refine wp_region_below F hF2 (by kernel_rfl) (by kernel_rfl) ?_
  repeat first | go_big_quiet_step (first | (go_at_call 17; exact quietF hF1 hF2 (KA.out _ (TF.out _))) | (go_at_call 16; exact quietF hF1 hF2 (K6.out _ (TF.out _))) | fail) | quiet_step (first | (go_at_call 17; exact quietF hF1 hF2 (KA.out _ (TF.out _))) | (go_at_call 16; exact quietF hF1 hF2 (K6.out _ (TF.out _))) | fail)
  refine wpQuiet_nil ?_
  rintro _ ⟨uW, rfl⟩
  have B11 := btr B10 (hF1 uW)
  have Rx_11 := heap_of (hF1 uW) _ _ _ Rx_10
  have Rh_11 := heap_of (hF1 uW) _ _ _ Rh_10
  obtain ⟨w11, hw⟩ : ∃ V, F uW = V := ⟨_, rfl⟩
  rw [hw] at B11 Rx_11 Rh_11
  try rw [hw]
  clear hw hF1 hF2 B10 fx_0 fx_1 fx_2 fx_3 fh_0 fh_1 fh_2 fh_3 Rx_10 cx_10_0 cx_10_1 cx_10_2 cx_10_3 Rh_10 ch_10_0 ch_10_1 ch_10_2 ch_10_3
  clear TF
  clear F
  have cx_11_0 := cells4 Rx_11 0 _ rfl
  have cx_11_1 := cells4 Rx_11 1 _ rfl
  have cx_11_2 := cells4 Rx_11 2 _ rfl
  have cx_11_3 := cells4 Rx_11 3 _ rfl
  have ch_11_0 := cells4 Rh_11 0 _ rfl
  have ch_11_1 := cells4 Rh_11 1 _ rfl
  have ch_11_2 := cells4 Rh_11 2 _ rfl
  have ch_11_3 := cells4 Rh_11 3 _ rfl
  clear Rh_11 ch_11_0 ch_11_1 ch_11_2 ch_11_3
  go_wp2_with fail
  refine (K7.out _ (tabB TT.out B11)).mono ?_
  rintro r w12 ⟨rfl, b12⟩
  have B12 : Below w.heap.size w w12 := btr B11 b12
  have Rx_12 : w12.heap[w.heap.size]? = some (Obj.cells #[.bool b0, .string s0, .string t0, .int .i64 e0] 24) := heap_of b12 _ _ _ Rx_11
  clear b12 B11 Rx_11 cx_11_0 cx_11_1 cx_11_2 cx_11_3
  have cx_12_0 := cells4 Rx_12 0 _ rfl
  have cx_12_1 := cells4 Rx_12 1 _ rfl
  have cx_12_2 := cells4 Rx_12 2 _ rfl
  have cx_12_3 := cells4 Rx_12 3 _ rfl
  go_wp2_with fail
  refine (K9.out _ (tabB TT.out B12)).mono ?_
  rintro r w13 ⟨rfl, b13⟩
  have B13 : Below w.heap.size w w13 := btr B12 b13
  have Rx_13 : w13.heap[w.heap.size]? = some (Obj.cells #[.bool b0, .string s0, .string t0, .int .i64 e0] 24) := heap_of b13 _ _ _ Rx_12
  clear b13 B12 Rx_12 cx_12_0 cx_12_1 cx_12_2 cx_12_3
  have cx_13_0 := cells4 Rx_13 0 _ rfl
  have cx_13_1 := cells4 Rx_13 1 _ rfl
  have cx_13_2 := cells4 Rx_13 2 _ rfl
  have cx_13_3 := cells4 Rx_13 3 _ rfl
  have S14 := box B13.size
  have Lx_14 : Box (w.heap.size < w13.heap.size) := box (Array.getElem?_eq_some_iff.1 Rx_13).1
  have B14 : Below w.heap.size w (w13.alloc (Obj.cells #[.bool ub, .string up, .string uq, .int .i64 ue] 24)) := btr B13 (bal _ _)
  have Rx_14 : (w13.alloc (Obj.cells #[.bool ub, .string up, .string uq, .int .i64 ue] 24)).heap[w.heap.size]? = some (Obj.cells #[.bool b0, .string s0, .string t0, .int .i64 e0] 24) := heap_of (bal _ _) _ _ _ Rx_13
  have Ru_14 : (w13.alloc (Obj.cells #[.bool ub, .string up, .string uq, .int .i64 ue] 24)).heap[w13.heap.size]? = some (Obj.cells #[.bool ub, .string up, .string uq, .int .i64 ue] 24) := heap_alloc_last _ _
  clear B13 Rx_13 cx_13_0 cx_13_1 cx_13_2 cx_13_3
  have cx_14_0 := cells4 Rx_14 0 _ rfl
  have cx_14_1 := cells4 Rx_14 1 _ rfl
  have cx_14_2 := cells4 Rx_14 2 _ rfl
  have cx_14_3 := cells4 Rx_14 3 _ rfl
  have cu_14_0 := cells4 Ru_14 0 _ rfl
  have cu_14_1 := cells4 Ru_14 1 _ rfl
  have cu_14_2 := cells4 Ru_14 2 _ rfl
  have cu_14_3 := cells4 Ru_14 3 _ rfl
  go_wp2_with fail
  refine (K10.out _ (tabB TT.out B14)).mono ?_
  rintro r w15 ⟨rfl, b15⟩
  have B15 : Below w.heap.size w w15 := btr B14 b15
  have Rx_15 : w15.heap[w.heap.size]? = some (Obj.cells #[.bool b0, .string s0, .string t0, .int .i64 e0] 24) := heap_of b15 _ _ _ Rx_14
  have Ru_15 : w15.heap[w13.heap.size]? = some (Obj.cells #[.bool ub, .string up, .string uq, .int .i64 ue] 24) := heap_of b15 _ _ _ Ru_14
  clear b15 B14 Rx_14 cx_14_0 cx_14_1 cx_14_2 cx_14_3 Ru_14 cu_14_0 cu_14_1 cu_14_2 cu_14_3
  have cx_15_0 := cells4 Rx_15 0 _ rfl
  have cx_15_1 := cells4 Rx_15 1 _ rfl
  have cx_15_2 := cells4 Rx_15 2 _ rfl
  have cx_15_3 := cells4 Rx_15 3 _ rfl
  have cu_15_0 := cells4 Ru_15 0 _ rfl
  have cu_15_1 := cells4 Ru_15 1 _ rfl
  have cu_15_2 := cells4 Ru_15 2 _ rfl
  have cu_15_3 := cells4 Ru_15 3 _ rfl
  have S16 := box B15.size
  have Lx_16 : Box (w.heap.size < w15.heap.size) := box (Array.getElem?_eq_some_iff.1 Rx_15).1
  have Lu_16 : Box (w13.heap.size < w15.heap.size) := box (Array.getElem?_eq_some_iff.1 Ru_15).1
  have B16 : Below w.heap.size w (w15.alloc (Obj.cells #[.bool vb, .string vp, .string vq, .int .i64 ve] 24)) := btr B15 (bal _ _)
  have Rx_16 : (w15.alloc (Obj.cells #[.bool vb, .string vp, .string vq, .int .i64 ve] 24)).heap[w.heap.size]? = some (Obj.cells #[.bool b0, .string s0, .string t0, .int .i64 e0] 24) := heap_of (bal _ _) _ _ _ Rx_15
  have Ru_16 : (w15.alloc (Obj.cells #[.bool vb, .string vp, .string vq, .int .i64 ve] 24)).heap[w13.heap.size]? = some (Obj.cells #[.bool ub, .string up, .string uq, .int .i64 ue] 24) := heap_of (bal _ _) _ _ _ Ru_15
  have Rv_16 : (w15.alloc (Obj.cells #[.bool vb, .string vp, .string vq, .int .i64 ve] 24)).heap[w15.heap.size]? = some (Obj.cells #[.bool vb, .string vp, .string vq, .int .i64 ve] 24) := heap_alloc_last _ _
  clear B15 Rx_15 cx_15_0 cx_15_1 cx_15_2 cx_15_3 Ru_15 cu_15_0 cu_15_1 cu_15_2 cu_15_3
  have cx_16_0 := cells4 Rx_16 0 _ rfl
  have cx_16_1 := cells4 Rx_16 1 _ rfl
  have cx_16_2 := cells4 Rx_16 2 _ rfl
  have cx_16_3 := cells4 Rx_16 3 _ rfl
  have cu_16_0 := cells4 Ru_16 0 _ rfl
  have cu_16_1 := cells4 Ru_16 1 _ rfl
  have cu_16_2 := cells4 Ru_16 2 _ rfl
  have cu_16_3 := cells4 Ru_16 3 _ rfl
  have cv_16_0 := cells4 Rv_16 0 _ rfl
  have cv_16_1 := cells4 Rv_16 1 _ rfl
  have cv_16_2 := cells4 Rv_16 2 _ rfl
  have cv_16_3 := cells4 Rv_16 3 _ rfl
  go_wp2_with fail
  obtain ⟨F, hF1, hF2⟩ := below_fun (w15.alloc (Obj.cells #[.bool vb, .string vp, .string vq, .int .i64 ve] 24))
  have fx_0 := fun u => cells4 (heap_of (hF1 u) _ _ _ Rx_16) 0 _ rfl
  have fx_1 := fun u => cells4 (heap_of (hF1 u) _ _ _ Rx_16) 1 _ rfl
  have fx_2 := fun u => cells4 (heap_of (hF1 u) _ _ _ Rx_16) 2 _ rfl
  have fx_3 := fun u => cells4 (heap_of (hF1 u) _ _ _ Rx_16) 3 _ rfl
  have fu_0 := fun u => cells4 (heap_of (hF1 u) _ _ _ Ru_16) 0 _ rfl
  have fu_1 := fun u => cells4 (heap_of (hF1 u) _ _ _ Ru_16) 1 _ rfl
  have fu_2 := fun u => cells4 (heap_of (hF1 u) _ _ _ Ru_16) 2 _ rfl
  have fu_3 := fun u => cells4 (heap_of (hF1 u) _ _ _ Ru_16) 3 _ rfl
  have fv_0 := fun u => cells4 (heap_of (hF1 u) _ _ _ Rv_16) 0 _ rfl
  have fv_1 := fun u => cells4 (heap_of (hF1 u) _ _ _ Rv_16) 1 _ rfl
  have fv_2 := fun u => cells4 (heap_of (hF1 u) _ _ _ Rv_16) 2 _ rfl
  have fv_3 := fun u => cells4 (heap_of (hF1 u) _ _ _ Rv_16) 3 _ rfl
  have TF : Box (∀ u, TabAt (F u)) := box (fun u => tabB TT.out (btr B16 (hF1 u)))
  refine wp_region_below F hF2 (by kernel_rfl) (by kernel_rfl) ?_
  repeat first | go_big_quiet_step (first | (go_at_call 17; exact quietF hF1 hF2 (KA.out _ (TF.out _))) | (go_at_call 16; exact quietF hF1 hF2 (K11.out _ (TF.out _))) | fail) | quiet_step (first | (go_at_call 17; exact quietF hF1 hF2 (KA.out _ (TF.out _))) | (go_at_call 16; exact quietF hF1 hF2 (K11.out _ (TF.out _))) | fail)
  refine wpQuiet_nil ?_
  rintro _ ⟨uW, rfl⟩
  have B17 := btr B16 (hF1 uW)
  have Rx_17 := heap_of (hF1 uW) _ _ _ Rx_16
  have Ru_17 := heap_of (hF1 uW) _ _ _ Ru_16
  have Rv_17 := heap_of (hF1 uW) _ _ _ Rv_16
  obtain ⟨w17, hw⟩ : ∃ V, F uW = V := ⟨_, rfl⟩
  rw [hw] at B17 Rx_17 Ru_17 Rv_17
  try rw [hw]
  clear hw hF1 hF2 B16 fx_0 fx_1 fx_2 fx_3 fu_0 fu_1 fu_2 fu_3 fv_0 fv_1 fv_2 fv_3 Rx_16 cx_16_0 cx_16_1 cx_16_2 cx_16_3 Ru_16 cu_16_0 cu_16_1 cu_16_2 cu_16_3 Rv_16 cv_16_0 cv_16_1 cv_16_2 cv_16_3
  clear TF
  clear F
  have cx_17_0 := cells4 Rx_17 0 _ rfl
  have cx_17_1 := cells4 Rx_17 1 _ rfl
  have cx_17_2 := cells4 Rx_17 2 _ rfl
  have cx_17_3 := cells4 Rx_17 3 _ rfl
  have cu_17_0 := cells4 Ru_17 0 _ rfl
  have cu_17_1 := cells4 Ru_17 1 _ rfl
  have cu_17_2 := cells4 Ru_17 2 _ rfl
  have cu_17_3 := cells4 Ru_17 3 _ rfl
  have cv_17_0 := cells4 Rv_17 0 _ rfl
  have cv_17_1 := cells4 Rv_17 1 _ rfl
  have cv_17_2 := cells4 Rv_17 2 _ rfl
  have cv_17_3 := cells4 Rv_17 3 _ rfl
  clear Ru_17 cu_17_0 cu_17_1 cu_17_2 cu_17_3
  go_wp2_with fail
  obtain ⟨F, hF1, hF2⟩ := below_fun w17
  have fx_0 := fun u => cells4 (heap_of (hF1 u) _ _ _ Rx_17) 0 _ rfl
  have fx_1 := fun u => cells4 (heap_of (hF1 u) _ _ _ Rx_17) 1 _ rfl
  have fx_2 := fun u => cells4 (heap_of (hF1 u) _ _ _ Rx_17) 2 _ rfl
  have fx_3 := fun u => cells4 (heap_of (hF1 u) _ _ _ Rx_17) 3 _ rfl
  have fv_0 := fun u => cells4 (heap_of (hF1 u) _ _ _ Rv_17) 0 _ rfl
  have fv_1 := fun u => cells4 (heap_of (hF1 u) _ _ _ Rv_17) 1 _ rfl
  have fv_2 := fun u => cells4 (heap_of (hF1 u) _ _ _ Rv_17) 2 _ rfl
  have fv_3 := fun u => cells4 (heap_of (hF1 u) _ _ _ Rv_17) 3 _ rfl
  have TF : Box (∀ u, TabAt (F u)) := box (fun u => tabB TT.out (btr B17 (hF1 u)))
  refine wp_region_below F hF2 (by kernel_rfl) (by kernel_rfl) ?_
  repeat first | go_big_quiet_step (first | (go_at_call 17; exact quietF hF1 hF2 (KA.out _ (TF.out _))) | (go_at_call 16; exact quietF hF1 hF2 (K12.out _ (TF.out _))) | fail) | quiet_step (first | (go_at_call 17; exact quietF hF1 hF2 (KA.out _ (TF.out _))) | (go_at_call 16; exact quietF hF1 hF2 (K12.out _ (TF.out _))) | fail)
  refine wpQuiet_nil ?_
  rintro _ ⟨uW, rfl⟩
  have B18 := btr B17 (hF1 uW)
  have Rx_18 := heap_of (hF1 uW) _ _ _ Rx_17
  have Rv_18 := heap_of (hF1 uW) _ _ _ Rv_17
  obtain ⟨w18, hw⟩ : ∃ V, F uW = V := ⟨_, rfl⟩
  rw [hw] at B18 Rx_18 Rv_18
  try rw [hw]
  clear hw hF1 hF2 B17 fx_0 fx_1 fx_2 fx_3 fv_0 fv_1 fv_2 fv_3 Rx_17 cx_17_0 cx_17_1 cx_17_2 cx_17_3 Rv_17 cv_17_0 cv_17_1 cv_17_2 cv_17_3
  clear TF
  clear F
  have cx_18_0 := cells4 Rx_18 0 _ rfl
  have cx_18_1 := cells4 Rx_18 1 _ rfl
  have cx_18_2 := cells4 Rx_18 2 _ rfl
  have cx_18_3 := cells4 Rx_18 3 _ rfl
  have cv_18_0 := cells4 Rv_18 0 _ rfl
  have cv_18_1 := cells4 Rv_18 1 _ rfl
  have cv_18_2 := cells4 Rv_18 2 _ rfl
  have cv_18_3 := cells4 Rv_18 3 _ rfl
  go_wp2_with fail
  refine (xalive _ (tabB TT.out B18)).mono ?_
  rintro r w19 ⟨rfl, b19⟩
  have B19 : Below w.heap.size w w19 := btr B18 b19
  have Rx_19 : w19.heap[w.heap.size]? = some (Obj.cells #[.bool b0, .string s0, .string t0, .int .i64 e0] 24) := heap_of b19 _ _ _ Rx_18
  have Rv_19 : w19.heap[w15.heap.size]? = some (Obj.cells #[.bool vb, .string vp, .string vq, .int .i64 ve] 24) := heap_of b19 _ _ _ Rv_18
  clear b19 B18 Rx_18 cx_18_0 cx_18_1 cx_18_2 cx_18_3 Rv_18 cv_18_0 cv_18_1 cv_18_2 cv_18_3
  have cx_19_0 := cells4 Rx_19 0 _ rfl
  have cx_19_1 := cells4 Rx_19 1 _ rfl
  have cx_19_2 := cells4 Rx_19 2 _ rfl
  have cx_19_3 := cells4 Rx_19 3 _ rfl
  have cv_19_0 := cells4 Rv_19 0 _ rfl
  have cv_19_1 := cells4 Rv_19 1 _ rfl
  have cv_19_2 := cells4 Rv_19 2 _ rfl
  have cv_19_3 := cells4 Rv_19 3 _ rfl
  go_wp2
  go_ret
  exact ⟨rfl, B19⟩

def tabZ : List Int := [0, 1, 56, 2, 57, 49, 28, 3, 61, 58, 42, 50, 38, 29, 17, 4, 62, 47, 59, 36, 45, 43, 51, 22, 53, 39, 33, 30, 24, 18, 12, 5, 63, 55, 48, 27, 60, 41, 37, 16, 46, 35, 44, 21, 52, 32, 23, 11, 54, 26, 40, 15, 34, 20, 31, 10, 25, 14, 19, 9, 13, 8, 7, 6]
def laid1 : List (String × DataW Unit) := [("math/bits.deBruijn64tab", Rows.laid_math_bits_deBruijn64tab)]
theorem gTab : Tryd.prog.globalNamed "math/bits.deBruijn64tab" = some 0 := by kernel_rfl
theorem gType : (Tryd.prog.globals[0]?).map (·.type) = some 110 := by kernel_rfl
theorem cells5 : Tryd.prog.cellsOf 5 = 1 := by kernel_rfl
theorem cellsT : Tryd.prog.cellsOf 110 = 64 := by kernel_rfl
theorem tab_at : ∀ i : Fin 64, tabZ.getD i.val 0 = ((Lib.deBruijn64tab.getD i.val 0 : Nat) : Int) := by decide +kernel

theorem of_laid {W : World} (h : laidMetH Tryd.prog laid1 W) : TabAt W := by
  rw [MakeChecks.laidMetH_plain _ _ _ (by kernel_rfl)] at h
  have h' : laidMet Tryd.prog (("math/bits.deBruijn64tab", Lib.tabData .u8 tabZ) :: []) W := h
  have hT := Lib.tabIs_of_head gTab gType Tryd.underlying110 Tryd.underlying5 cells5 cellsT h'
  intro i hi
  have hc := hT.cell gTab i (show i < tabZ.length from hi)
  rw [tab_at ⟨i, hi⟩] at hc
  exact hc

theorem door_met (os : Os) (args : Array Value) : laidMetH Tryd.prog laid1 ((World.doorLaid Tryd.prog 400 os).forCall (fun _ _ => 0) ⟨#[], args, []⟩).memory :=
  laidMetH_of_parts3 (fuel := 8) (laidMet_of_run' 8 (by kernel_rfl) (by kernel_rfl)) (by kernel_rfl) (by kernel_rfl)

set_option maxRecDepth 100000 in
theorem lifted (os : Os) (started : os.Started) (H : Type) (enc : TypeId × Value → H) :
    ReturnsInHanded {} Tryd.checked os 4 .any (fun w args => (Rows.exactBetweenSpec.pre enc Tryd.prog Tryd.f4 [] false w args ∧ laidMetH Tryd.prog laid1 w) ∧ sizedMet enc Tryd.prog Tryd.f4 (OpenSpec.ofChange Rows.exactBetweenSpec) false w args)
      (Rows.exactBetweenSpec.post enc Tryd.prog Tryd.f4 false true false false) := by
  refine returnsInHanded_of_change_and (C := Tryd.checked) (X := fun w _ => laidMetH Tryd.prog laid1 w) (fun _ _ _ hh h => h.of_heap hh) own started (by kernel_rfl) Tryd.func4
    (ChangeSpec.witness_shaped (enc := enc) (C := Tryd.checked) (os := os) (X := fun w _ => laidMetH Tryd.prog laid1 w) false (World.doorLaid Tryd.prog 400 os) #[.agg #[.bool false, .string ⟨#[]⟩, .string ⟨#[]⟩, .int .i64 0], .int .i64 0] 8 rfl (World.shaped_of_RefB (by kernel_rfl) (by kernel_rfl)) (by kernel_rfl) (by kernel_rfl) (by kernel_rfl) (door_met os _)) ?_
  intro W base args ds gs before hval0 hW _ _ hL _
  have hval : ∀ (j : Nat) t v, Tryd.f4.params[j]? = some t → args[j]? = some v → Value.okWide Tryd.prog W .any base t v := hval0
  have hW' := hW
  obtain ⟨p, q, hA0, hV, rfl, hfz, hnd⟩ := hW
  have hA : DataW.TrodAll enc Tryd.prog W 0 (fun _ => true) true Tryd.f4.params.toList args.toList ds p := hA0
  rw [Tryd.params4] at hA hval
  obtain ⟨v0, vs0, d0, ds0, p0, q0, hargs, rfl, rfl, k0, r0⟩ := trodAll_cons hA
  obtain ⟨v1, vs1, d1, ds1, p1, q1, rfl, rfl, rfl, k1, r1⟩ := trodAll_cons r0
  obtain ⟨rfl, rfl, rfl⟩ := trodAll_nil r1
  obtain rfl : args = #[v0, v1] := by cases args; simp_all
  obtain ⟨rfl, rfl⟩ := trodVars_none hV
  obtain ⟨b0, s0, t0, e0, rfl, rfl, rfl, h0⟩ := open_exact (hval 0 24 v0 rfl rfl) k0
  obtain ⟨a1, rfl, rfl, rfl, h1⟩ := open_int Tryd.underlying3 (hval 1 3 v1 rfl rfl) k1
  clear hA0 hval0
  simp only [List.append_nil] at hW'
  refine (walk b0 s0 t0 e0 a1 h0 h1 W (of_laid hL)).mono fun e W' ⟨he, hg⟩ => ?_
  subst he
  exact ⟨_, rfl, post_plain hW' (fun _ _ _ => trodAll_mk1 (shut_bool Tryd.underlying4 _)) (fun sp => (trodAll_cons_mk (shut_exact h0) (trodAll_cons_mk (shut_int Tryd.underlying3 h1) trodAll_mk0))) (fun _ => rfl) hg (ok_one (by kernel_rfl) rfl (okWide_bool_mk Tryd.underlying4 _))⟩

theorem over : Rows.ExactBetweenSaid :=
  OpenClaim.holds_of_wide 4 Tryd.f4 rfl rfl rfl rfl rfl rfl rfl ⟨rfl, rfl, rfl, rfl, rfl⟩ rfl rfl rfl rfl rfl (by kernel_rfl) Tryd.func4 (by kernel_rfl)
    (of_decide_eq_true (by kernel_rfl)) (by unfold Func.isWrapper; first | (rw [if_pos (by decide +kernel)]; kernel_rfl) | (rw [if_neg (by decide +kernel)]; exact ⟨rfl, rfl⟩))
    (fun os started H enc _ => lifted os started H enc)

theorem proved : Rows.ExactBetweenCardSaid :=
  Claim7.holds_tied_plain_at .later [] [.data] true (true, "e04ddc4fb5213d886478bf6f722161bec4d9ac43a27781a69a1f354446019d10") false
    over (fun _ h => by cases h) (by kernel_rfl) (fun _ h => by cases h) exactBetween_row_tie rfl ⟨rfl, rfl⟩ (by kernel_rfl) rfl
    (fun f fn hf hfn => by
      obtain rfl : f = 4 := Option.some.inj ((show Tryd.prog.funcNamed "abacus/abacuslaw06.ExactBetween" = some 4 by kernel_rfl).symm.trans hf) |>.symm
      obtain rfl : fn = Tryd.f4 := (Option.some.inj (Tryd.func4.symm.trans hfn)).symm
      exact ⟨by kernel_rfl, fun j t ht => by
        rw [Tryd.params4] at ht
        have h3 : t = 24 ∨ t = 3 := by
          rcases j with _ | _ | j
          · exact (Or.inl (by simpa using ht.symm))
          · exact (Or.inr (by simpa using ht.symm))
          · simp at ht
        rcases h3 with rfl | rfl
        · exact (show Tryd.prog.wantsStandIn 24 = false by kernel_rfl)
        · exact (show Tryd.prog.wantsStandIn 3 = false by kernel_rfl)⟩)
    (by kernel_rfl)
#print axioms proved
end Go.Proofs.YthiongcednmjiabDoor.exactBetween
