/-
  What the functions that the statement reaches return: part 8 (Y5, Y6).
-/
import Derived.Lib.MinMax
import Derived.Test.YtapikkbifdldfaaGreatDoorFd07
namespace Go.Proofs.YtapikkbifdldfaaGreatDoor
set_option maxRecDepth 100000
set_option maxHeartbeats 40000000
set_option maxRecDepth 100000
open Go.RowKit WMath XMath
theorem results_tmp4 {fn : Func} {t u v x : Tmp} (h : fn.results = #[.tmp t, .tmp u, .tmp v, .tmp x]) (tmps : Array Value) (P : Program) (w : World) :
    (results fn tmps).run P w = .ok (.tuple #[tmps.getD t undef, tmps.getD u undef, tmps.getD v undef, tmps.getD x undef]) w := by
  simp [results, h]
def twX (x y : XN) : (ByteArray × ByteArray) × (Int × Int) := if nl (XMath.sA x y) ≤ 16384 ∧ nl (XMath.sA y x) ≤ 16384 then ((nbA (XMath.sA x y), nbA (XMath.sA y x)), (min x.e y.e, 0)) else ((⟨#[]⟩, ⟨#[]⟩), (0, 4))
theorem lf_is (a k : Nat) (v : ByteArray) (er : Int) (h : lg (a * 2 ^ k) = (v, er)) : lf a (k : Int) = (v, er) := by
  unfold lf
  rw [if_neg (by omega), Int.toNat_natCast]
  exact h
theorem lg_err (n : Nat) (v : ByteArray) (er : Int) (h : lg n = (v, er)) : (nl n ≤ 16384 ∧ nbA n = v ∧ er = 0) ∨ (¬ nl n ≤ 16384 ∧ v = ⟨#[]⟩ ∧ er = 4) := by
  unfold lg at h
  split at h
  · cases h
    exact Or.inl ⟨by assumption, rfl, rfl⟩
  · cases h
    exact Or.inr ⟨by assumption, rfl, rfl⟩

set_option maxRecDepth 100000 in
set_option maxHeartbeats 2000000 in
theorem rTwo (b : Bool) (n d : Nat) (e : Int) (s t : ByteArray) (c : Bool) (m f : Nat) (g : Int) (p q : ByteArray) (u v : ByteArray) (L er : Int)
    (hs : nbA n = s) (ht : nbA d = t) (hp : nbA m = p) (hq : nbA f = q) (ln : nl n ≤ 16384) (ld : nl d ≤ 16384) (lm : nl m ≤ 16384) (lf : nl f ≤ 16384) (he : -1048576 ≤ e ∧ e ≤ 1048576 ∧ -1048576 ≤ g ∧ g ≤ 1048576)
    (hr : twX (XN.mk b n d e) (XN.mk c m f g) = ((u, v), (L, er))) (w : World) :
    Calls Tryz.prog 108 #[.agg #[.bool b, .string s, .string t, .int .i64 e], .agg #[.bool c, .string p, .string q, .int .i64 g]] w fun r w' => r = .returned (.tuple #[.string u, .string v, .int .i64 L, .int .i64 er]) ∧ Below w.heap.size w w' := by
  obtain ⟨K, hK⟩ : ∃ K, min e g = K := ⟨_, rfl⟩
  obtain ⟨i, hi⟩ : ∃ i, (e - K).toNat = i := ⟨_, rfl⟩
  obtain ⟨j, hj⟩ : ∃ i, (g - K).toNat = i := ⟨_, rfl⟩
  have eA : XMath.sA (XN.mk b n d e) (XN.mk c m f g) = n * f * 2 ^ i := by unfold XMath.sA; show n * f * 2 ^ (e - min e g).toNat = _; rw [hK, hi]
  have eB : XMath.sA (XN.mk c m f g) (XN.mk b n d e) = m * d * 2 ^ j := by unfold XMath.sA; show m * d * 2 ^ (g - min g e).toNat = _; rw [Int.min_comm g e, hK, hj]
  unfold twX at hr
  rw [eA, eB] at hr
  have hr2 : (if nl (n * f * 2 ^ i) ≤ 16384 ∧ nl (m * d * 2 ^ j) ≤ 16384 then ((nbA (n * f * 2 ^ i), nbA (m * d * 2 ^ j)), (K, (0 : Int))) else ((⟨#[]⟩, ⟨#[]⟩), (0, 4))) = ((u, v), (L, er)) := by rw [← hK]; exact hr
  clear hr eA eB
  have n1 : IntKind.i64.wrap (e - K) = (i : Int) := by rw [wrap_i64_is _ (by omega) (by omega)]; omega
  have n2 : IntKind.i64.wrap (g - K) = (j : Int) := by rw [wrap_i64_is _ (by omega) (by omega)]; omega
  have i2 : i ≤ 100000000 := by omega
  have j2 : j ≤ 100000000 := by omega
  have HS := box hs
  have HT := box ht
  have HP := box hp
  have HQ := box hq
  have LN : Box (nl n ≤ 20000) := box (by omega)
  have LD : Box (nl d ≤ 20000) := box (by omega)
  have LM : Box (nl m ≤ 20000) := box (by omega)
  have LF : Box (nl f ≤ 20000) := box (by omega)
  have hk : (g = K ∧ decide (g < e) = true ∧ j = 0) ∨ (e = K ∧ decide (g < e) = false ∧ i = 0) := by
    by_cases h : g < e
    · exact Or.inl ⟨by omega, decide_eq_true h, by omega⟩
    · exact Or.inr ⟨by omega, decide_eq_false h, by omega⟩
  obtain ⟨x, ex, hx⟩ : ∃ x ex, lg (n * f) = (x, ex) := ⟨_, _, rfl⟩
  obtain ⟨y, ey, hy⟩ : ∃ x ex, lg (m * d) = (x, ex) := ⟨_, _, rfl⟩
  have HX := box hx
  have HY := box hy
  rcases lg_err _ _ _ hx with ⟨l1, hx1, rfl⟩ | ⟨l1, rfl, rfl⟩
  · rcases lg_err _ _ _ hy with ⟨l2, hy1, rfl⟩ | ⟨l2, rfl, rfl⟩
    · obtain ⟨x', ex', hx'⟩ : ∃ x ex, lg (n * f * 2 ^ i) = (x, ex) := ⟨_, _, rfl⟩
      obtain ⟨y', ey', hy'⟩ : ∃ x ex, lg (m * d * 2 ^ j) = (x, ex) := ⟨_, _, rfl⟩
      have F1 := box (lf_is _ _ _ _ hx')
      have F2 := box (lf_is _ _ _ _ hy')
      have H1 := box hx1
      have H2 := box hy1
      have L1 := box l1
      have L2 := box l2
      rcases lg_err _ _ _ hx' with ⟨l3, hx3, rfl⟩ | ⟨l3, rfl, rfl⟩
      · rcases lg_err _ _ _ hy' with ⟨l4, hy3, rfl⟩ | ⟨l4, rfl, rfl⟩
        · rw [if_pos ⟨l3, l4⟩, hx3, hy3] at hr2
          cases hr2
          clear hs ht hp hq ln ld lm lf he hK hi hj hx hy l1 l2 l3 l4 hx1 hy1 hx3 hy3 hx' hy'
          rcases hk with ⟨rfl, dk, rfl⟩ | ⟨rfl, dk, rfl⟩
          · skip
            obtain ⟨Rx_0, Ry_0, B0⟩ := opn2 w (Obj.cells #[.bool b, .string s, .string t, .int .i64 e] 70) (Obj.cells #[.bool c, .string p, .string q, .int .i64 g] 70)
            go_enter Tryz.func108, Tryz.ntmps108
            go_wp2_with fail
            refine (nat_Mul n f s q x 0 HS.out HQ.out HX.out LN.out LF.out _).mono ?_
            rintro r w1 ⟨rfl, b1⟩
            have B1 : Below w.heap.size w w1 := btr B0 b1
            have Rx_1 := heap_of b1 _ _ _ Rx_0
            have Ry_1 := heap_of b1 _ _ _ Ry_0
            clear b1 B0 Rx_0 Ry_0
            obtain ⟨cx_1_0, cx_1_1, cx_1_2, cx_1_3⟩ := cells4s Rx_1
            obtain ⟨cy_1_0, cy_1_1, cy_1_2, cy_1_3⟩ := cells4s Ry_1
            go_wp2_with fail
            refine (nat_Mul m d p t y 0 HP.out HT.out HY.out LM.out LD.out _).mono ?_
            rintro r w2 ⟨rfl, b2⟩
            have B2 : Below w.heap.size w w2 := btr B1 b2
            have Rx_2 := heap_of b2 _ _ _ Rx_1
            have Ry_2 := heap_of b2 _ _ _ Ry_1
            clear b2 B1 Rx_1 cx_1_0 cx_1_1 cx_1_2 cx_1_3 Ry_1 cy_1_0 cy_1_1 cy_1_2 cy_1_3
            obtain ⟨cx_2_0, cx_2_1, cx_2_2, cx_2_3⟩ := cells4s Rx_2
            obtain ⟨cy_2_0, cy_2_1, cy_2_2, cy_2_3⟩ := cells4s Ry_2
            go_wp2_with fail
            refine (nat_Left (n * f) (i : Int) x u 0 H1.out L1.out (by omega) F1.out _).mono ?_
            rintro r w3 ⟨rfl, b3⟩
            have B3 : Below w.heap.size w w3 := btr B2 b3
            have Rx_3 := heap_of b3 _ _ _ Rx_2
            have Ry_3 := heap_of b3 _ _ _ Ry_2
            clear b3 B2 Rx_2 cx_2_0 cx_2_1 cx_2_2 cx_2_3 Ry_2 cy_2_0 cy_2_1 cy_2_2 cy_2_3
            obtain ⟨cx_3_0, cx_3_1, cx_3_2, cx_3_3⟩ := cells4s Rx_3
            obtain ⟨cy_3_0, cy_3_1, cy_3_2, cy_3_3⟩ := cells4s Ry_3
            go_wp2_with fail
            refine (nat_Left (m * d) 0 y v 0 H2.out L2.out (by omega) (show lf (m * d) 0 = _ from F2.out) _).mono ?_
            rintro r w4 ⟨rfl, b4⟩
            have B4 : Below w.heap.size w w4 := btr B3 b4
            have Rx_4 := heap_of b4 _ _ _ Rx_3
            have Ry_4 := heap_of b4 _ _ _ Ry_3
            clear b4 B3 Rx_3 cx_3_0 cx_3_1 cx_3_2 cx_3_3 Ry_3 cy_3_0 cy_3_1 cy_3_2 cy_3_3
            obtain ⟨cx_4_0, cx_4_1, cx_4_2, cx_4_3⟩ := cells4s Rx_4
            obtain ⟨cy_4_0, cy_4_1, cy_4_2, cy_4_3⟩ := cells4s Ry_4
            go_wp2
            try simp only [Exit.inBlock, Exit.then]
            refine bodyPost_ret (results_tmp4 rfl _ _ _) rfl ?_
            exact ⟨rfl, B4⟩
          · skip
            obtain ⟨Rx_0, Ry_0, B0⟩ := opn2 w (Obj.cells #[.bool b, .string s, .string t, .int .i64 e] 70) (Obj.cells #[.bool c, .string p, .string q, .int .i64 g] 70)
            go_enter Tryz.func108, Tryz.ntmps108
            go_wp2_with fail
            refine (nat_Mul n f s q x 0 HS.out HQ.out HX.out LN.out LF.out _).mono ?_
            rintro r w1 ⟨rfl, b1⟩
            have B1 : Below w.heap.size w w1 := btr B0 b1
            have Rx_1 := heap_of b1 _ _ _ Rx_0
            have Ry_1 := heap_of b1 _ _ _ Ry_0
            clear b1 B0 Rx_0 Ry_0
            obtain ⟨cx_1_0, cx_1_1, cx_1_2, cx_1_3⟩ := cells4s Rx_1
            obtain ⟨cy_1_0, cy_1_1, cy_1_2, cy_1_3⟩ := cells4s Ry_1
            go_wp2_with fail
            refine (nat_Mul m d p t y 0 HP.out HT.out HY.out LM.out LD.out _).mono ?_
            rintro r w2 ⟨rfl, b2⟩
            have B2 : Below w.heap.size w w2 := btr B1 b2
            have Rx_2 := heap_of b2 _ _ _ Rx_1
            have Ry_2 := heap_of b2 _ _ _ Ry_1
            clear b2 B1 Rx_1 cx_1_0 cx_1_1 cx_1_2 cx_1_3 Ry_1 cy_1_0 cy_1_1 cy_1_2 cy_1_3
            obtain ⟨cx_2_0, cx_2_1, cx_2_2, cx_2_3⟩ := cells4s Rx_2
            obtain ⟨cy_2_0, cy_2_1, cy_2_2, cy_2_3⟩ := cells4s Ry_2
            go_wp2_with fail
            refine (nat_Left (n * f) 0 x u 0 H1.out L1.out (by omega) (show lf (n * f) 0 = _ from F1.out) _).mono ?_
            rintro r w3 ⟨rfl, b3⟩
            have B3 : Below w.heap.size w w3 := btr B2 b3
            have Rx_3 := heap_of b3 _ _ _ Rx_2
            have Ry_3 := heap_of b3 _ _ _ Ry_2
            clear b3 B2 Rx_2 cx_2_0 cx_2_1 cx_2_2 cx_2_3 Ry_2 cy_2_0 cy_2_1 cy_2_2 cy_2_3
            obtain ⟨cx_3_0, cx_3_1, cx_3_2, cx_3_3⟩ := cells4s Rx_3
            obtain ⟨cy_3_0, cy_3_1, cy_3_2, cy_3_3⟩ := cells4s Ry_3
            go_wp2_with fail
            refine (nat_Left (m * d) (j : Int) y v 0 H2.out L2.out (by omega) F2.out _).mono ?_
            rintro r w4 ⟨rfl, b4⟩
            have B4 : Below w.heap.size w w4 := btr B3 b4
            have Rx_4 := heap_of b4 _ _ _ Rx_3
            have Ry_4 := heap_of b4 _ _ _ Ry_3
            clear b4 B3 Rx_3 cx_3_0 cx_3_1 cx_3_2 cx_3_3 Ry_3 cy_3_0 cy_3_1 cy_3_2 cy_3_3
            obtain ⟨cx_4_0, cx_4_1, cx_4_2, cx_4_3⟩ := cells4s Rx_4
            obtain ⟨cy_4_0, cy_4_1, cy_4_2, cy_4_3⟩ := cells4s Ry_4
            go_wp2
            try simp only [Exit.inBlock, Exit.then]
            refine bodyPost_ret (results_tmp4 rfl _ _ _) rfl ?_
            exact ⟨rfl, B4⟩
        · rw [if_neg (fun h => l4 h.2)] at hr2
          cases hr2
          clear hs ht hp hq ln ld lm lf he hK hi hj hx hy l1 l2 l3 l4 hx1 hy1 hx3 hx' hy'
          rcases hk with ⟨rfl, dk, rfl⟩ | ⟨rfl, dk, rfl⟩
          · skip
            obtain ⟨Rx_0, Ry_0, B0⟩ := opn2 w (Obj.cells #[.bool b, .string s, .string t, .int .i64 e] 70) (Obj.cells #[.bool c, .string p, .string q, .int .i64 g] 70)
            go_enter Tryz.func108, Tryz.ntmps108
            go_wp2_with fail
            refine (nat_Mul n f s q x 0 HS.out HQ.out HX.out LN.out LF.out _).mono ?_
            rintro r w1 ⟨rfl, b1⟩
            have B1 : Below w.heap.size w w1 := btr B0 b1
            have Rx_1 := heap_of b1 _ _ _ Rx_0
            have Ry_1 := heap_of b1 _ _ _ Ry_0
            clear b1 B0 Rx_0 Ry_0
            obtain ⟨cx_1_0, cx_1_1, cx_1_2, cx_1_3⟩ := cells4s Rx_1
            obtain ⟨cy_1_0, cy_1_1, cy_1_2, cy_1_3⟩ := cells4s Ry_1
            go_wp2_with fail
            refine (nat_Mul m d p t y 0 HP.out HT.out HY.out LM.out LD.out _).mono ?_
            rintro r w2 ⟨rfl, b2⟩
            have B2 : Below w.heap.size w w2 := btr B1 b2
            have Rx_2 := heap_of b2 _ _ _ Rx_1
            have Ry_2 := heap_of b2 _ _ _ Ry_1
            clear b2 B1 Rx_1 cx_1_0 cx_1_1 cx_1_2 cx_1_3 Ry_1 cy_1_0 cy_1_1 cy_1_2 cy_1_3
            obtain ⟨cx_2_0, cx_2_1, cx_2_2, cx_2_3⟩ := cells4s Rx_2
            obtain ⟨cy_2_0, cy_2_1, cy_2_2, cy_2_3⟩ := cells4s Ry_2
            go_wp2_with fail
            refine (nat_Left (n * f) (i : Int) x x' 0 H1.out L1.out (by omega) F1.out _).mono ?_
            rintro r w3 ⟨rfl, b3⟩
            have B3 : Below w.heap.size w w3 := btr B2 b3
            have Rx_3 := heap_of b3 _ _ _ Rx_2
            have Ry_3 := heap_of b3 _ _ _ Ry_2
            clear b3 B2 Rx_2 cx_2_0 cx_2_1 cx_2_2 cx_2_3 Ry_2 cy_2_0 cy_2_1 cy_2_2 cy_2_3
            obtain ⟨cx_3_0, cx_3_1, cx_3_2, cx_3_3⟩ := cells4s Rx_3
            obtain ⟨cy_3_0, cy_3_1, cy_3_2, cy_3_3⟩ := cells4s Ry_3
            go_wp2_with fail
            refine (nat_Left (m * d) 0 y _ 4 H2.out L2.out (by omega) (show lf (m * d) 0 = _ from F2.out) _).mono ?_
            rintro r w4 ⟨rfl, b4⟩
            have B4 : Below w.heap.size w w4 := btr B3 b4
            have Rx_4 := heap_of b4 _ _ _ Rx_3
            have Ry_4 := heap_of b4 _ _ _ Ry_3
            clear b4 B3 Rx_3 cx_3_0 cx_3_1 cx_3_2 cx_3_3 Ry_3 cy_3_0 cy_3_1 cy_3_2 cy_3_3
            obtain ⟨cx_4_0, cx_4_1, cx_4_2, cx_4_3⟩ := cells4s Rx_4
            obtain ⟨cy_4_0, cy_4_1, cy_4_2, cy_4_3⟩ := cells4s Ry_4
            go_wp2
            try simp only [Exit.inBlock, Exit.then]
            refine bodyPost_ret (results_tmp4 rfl _ _ _) rfl ?_
            exact ⟨rfl, B4⟩
          · skip
            obtain ⟨Rx_0, Ry_0, B0⟩ := opn2 w (Obj.cells #[.bool b, .string s, .string t, .int .i64 e] 70) (Obj.cells #[.bool c, .string p, .string q, .int .i64 g] 70)
            go_enter Tryz.func108, Tryz.ntmps108
            go_wp2_with fail
            refine (nat_Mul n f s q x 0 HS.out HQ.out HX.out LN.out LF.out _).mono ?_
            rintro r w1 ⟨rfl, b1⟩
            have B1 : Below w.heap.size w w1 := btr B0 b1
            have Rx_1 := heap_of b1 _ _ _ Rx_0
            have Ry_1 := heap_of b1 _ _ _ Ry_0
            clear b1 B0 Rx_0 Ry_0
            obtain ⟨cx_1_0, cx_1_1, cx_1_2, cx_1_3⟩ := cells4s Rx_1
            obtain ⟨cy_1_0, cy_1_1, cy_1_2, cy_1_3⟩ := cells4s Ry_1
            go_wp2_with fail
            refine (nat_Mul m d p t y 0 HP.out HT.out HY.out LM.out LD.out _).mono ?_
            rintro r w2 ⟨rfl, b2⟩
            have B2 : Below w.heap.size w w2 := btr B1 b2
            have Rx_2 := heap_of b2 _ _ _ Rx_1
            have Ry_2 := heap_of b2 _ _ _ Ry_1
            clear b2 B1 Rx_1 cx_1_0 cx_1_1 cx_1_2 cx_1_3 Ry_1 cy_1_0 cy_1_1 cy_1_2 cy_1_3
            obtain ⟨cx_2_0, cx_2_1, cx_2_2, cx_2_3⟩ := cells4s Rx_2
            obtain ⟨cy_2_0, cy_2_1, cy_2_2, cy_2_3⟩ := cells4s Ry_2
            go_wp2_with fail
            refine (nat_Left (n * f) 0 x x' 0 H1.out L1.out (by omega) (show lf (n * f) 0 = _ from F1.out) _).mono ?_
            rintro r w3 ⟨rfl, b3⟩
            have B3 : Below w.heap.size w w3 := btr B2 b3
            have Rx_3 := heap_of b3 _ _ _ Rx_2
            have Ry_3 := heap_of b3 _ _ _ Ry_2
            clear b3 B2 Rx_2 cx_2_0 cx_2_1 cx_2_2 cx_2_3 Ry_2 cy_2_0 cy_2_1 cy_2_2 cy_2_3
            obtain ⟨cx_3_0, cx_3_1, cx_3_2, cx_3_3⟩ := cells4s Rx_3
            obtain ⟨cy_3_0, cy_3_1, cy_3_2, cy_3_3⟩ := cells4s Ry_3
            go_wp2_with fail
            refine (nat_Left (m * d) (j : Int) y _ 4 H2.out L2.out (by omega) F2.out _).mono ?_
            rintro r w4 ⟨rfl, b4⟩
            have B4 : Below w.heap.size w w4 := btr B3 b4
            have Rx_4 := heap_of b4 _ _ _ Rx_3
            have Ry_4 := heap_of b4 _ _ _ Ry_3
            clear b4 B3 Rx_3 cx_3_0 cx_3_1 cx_3_2 cx_3_3 Ry_3 cy_3_0 cy_3_1 cy_3_2 cy_3_3
            obtain ⟨cx_4_0, cx_4_1, cx_4_2, cx_4_3⟩ := cells4s Rx_4
            obtain ⟨cy_4_0, cy_4_1, cy_4_2, cy_4_3⟩ := cells4s Ry_4
            go_wp2
            try simp only [Exit.inBlock, Exit.then]
            refine bodyPost_ret (results_tmp4 rfl _ _ _) rfl ?_
            exact ⟨rfl, B4⟩
      · rw [if_neg (fun h => l3 h.1)] at hr2
        cases hr2
        clear hs ht hp hq ln ld lm lf he hK hi hj hx hy l1 l2 l3 hx1 hy1 hx' hy'
        rcases hk with ⟨rfl, dk, rfl⟩ | ⟨rfl, dk, rfl⟩
        · skip
          obtain ⟨Rx_0, Ry_0, B0⟩ := opn2 w (Obj.cells #[.bool b, .string s, .string t, .int .i64 e] 70) (Obj.cells #[.bool c, .string p, .string q, .int .i64 g] 70)
          go_enter Tryz.func108, Tryz.ntmps108
          go_wp2_with fail
          refine (nat_Mul n f s q x 0 HS.out HQ.out HX.out LN.out LF.out _).mono ?_
          rintro r w1 ⟨rfl, b1⟩
          have B1 : Below w.heap.size w w1 := btr B0 b1
          have Rx_1 := heap_of b1 _ _ _ Rx_0
          have Ry_1 := heap_of b1 _ _ _ Ry_0
          clear b1 B0 Rx_0 Ry_0
          obtain ⟨cx_1_0, cx_1_1, cx_1_2, cx_1_3⟩ := cells4s Rx_1
          obtain ⟨cy_1_0, cy_1_1, cy_1_2, cy_1_3⟩ := cells4s Ry_1
          go_wp2_with fail
          refine (nat_Mul m d p t y 0 HP.out HT.out HY.out LM.out LD.out _).mono ?_
          rintro r w2 ⟨rfl, b2⟩
          have B2 : Below w.heap.size w w2 := btr B1 b2
          have Rx_2 := heap_of b2 _ _ _ Rx_1
          have Ry_2 := heap_of b2 _ _ _ Ry_1
          clear b2 B1 Rx_1 cx_1_0 cx_1_1 cx_1_2 cx_1_3 Ry_1 cy_1_0 cy_1_1 cy_1_2 cy_1_3
          obtain ⟨cx_2_0, cx_2_1, cx_2_2, cx_2_3⟩ := cells4s Rx_2
          obtain ⟨cy_2_0, cy_2_1, cy_2_2, cy_2_3⟩ := cells4s Ry_2
          go_wp2_with fail
          refine (nat_Left (n * f) (i : Int) x _ 4 H1.out L1.out (by omega) F1.out _).mono ?_
          rintro r w3 ⟨rfl, b3⟩
          have B3 : Below w.heap.size w w3 := btr B2 b3
          have Rx_3 := heap_of b3 _ _ _ Rx_2
          have Ry_3 := heap_of b3 _ _ _ Ry_2
          clear b3 B2 Rx_2 cx_2_0 cx_2_1 cx_2_2 cx_2_3 Ry_2 cy_2_0 cy_2_1 cy_2_2 cy_2_3
          obtain ⟨cx_3_0, cx_3_1, cx_3_2, cx_3_3⟩ := cells4s Rx_3
          obtain ⟨cy_3_0, cy_3_1, cy_3_2, cy_3_3⟩ := cells4s Ry_3
          go_wp2_with fail
          refine (nat_Left (m * d) 0 y y' ey' H2.out L2.out (by omega) (show lf (m * d) 0 = _ from F2.out) _).mono ?_
          rintro r w4 ⟨rfl, b4⟩
          have B4 : Below w.heap.size w w4 := btr B3 b4
          have Rx_4 := heap_of b4 _ _ _ Rx_3
          have Ry_4 := heap_of b4 _ _ _ Ry_3
          clear b4 B3 Rx_3 cx_3_0 cx_3_1 cx_3_2 cx_3_3 Ry_3 cy_3_0 cy_3_1 cy_3_2 cy_3_3
          obtain ⟨cx_4_0, cx_4_1, cx_4_2, cx_4_3⟩ := cells4s Rx_4
          obtain ⟨cy_4_0, cy_4_1, cy_4_2, cy_4_3⟩ := cells4s Ry_4
          go_wp2
          try simp only [Exit.inBlock, Exit.then]
          refine bodyPost_ret (results_tmp4 rfl _ _ _) rfl ?_
          exact ⟨rfl, B4⟩
        · skip
          obtain ⟨Rx_0, Ry_0, B0⟩ := opn2 w (Obj.cells #[.bool b, .string s, .string t, .int .i64 e] 70) (Obj.cells #[.bool c, .string p, .string q, .int .i64 g] 70)
          go_enter Tryz.func108, Tryz.ntmps108
          go_wp2_with fail
          refine (nat_Mul n f s q x 0 HS.out HQ.out HX.out LN.out LF.out _).mono ?_
          rintro r w1 ⟨rfl, b1⟩
          have B1 : Below w.heap.size w w1 := btr B0 b1
          have Rx_1 := heap_of b1 _ _ _ Rx_0
          have Ry_1 := heap_of b1 _ _ _ Ry_0
          clear b1 B0 Rx_0 Ry_0
          obtain ⟨cx_1_0, cx_1_1, cx_1_2, cx_1_3⟩ := cells4s Rx_1
          obtain ⟨cy_1_0, cy_1_1, cy_1_2, cy_1_3⟩ := cells4s Ry_1
          go_wp2_with fail
          refine (nat_Mul m d p t y 0 HP.out HT.out HY.out LM.out LD.out _).mono ?_
          rintro r w2 ⟨rfl, b2⟩
          have B2 : Below w.heap.size w w2 := btr B1 b2
          have Rx_2 := heap_of b2 _ _ _ Rx_1
          have Ry_2 := heap_of b2 _ _ _ Ry_1
          clear b2 B1 Rx_1 cx_1_0 cx_1_1 cx_1_2 cx_1_3 Ry_1 cy_1_0 cy_1_1 cy_1_2 cy_1_3
          obtain ⟨cx_2_0, cx_2_1, cx_2_2, cx_2_3⟩ := cells4s Rx_2
          obtain ⟨cy_2_0, cy_2_1, cy_2_2, cy_2_3⟩ := cells4s Ry_2
          go_wp2_with fail
          refine (nat_Left (n * f) 0 x _ 4 H1.out L1.out (by omega) (show lf (n * f) 0 = _ from F1.out) _).mono ?_
          rintro r w3 ⟨rfl, b3⟩
          have B3 : Below w.heap.size w w3 := btr B2 b3
          have Rx_3 := heap_of b3 _ _ _ Rx_2
          have Ry_3 := heap_of b3 _ _ _ Ry_2
          clear b3 B2 Rx_2 cx_2_0 cx_2_1 cx_2_2 cx_2_3 Ry_2 cy_2_0 cy_2_1 cy_2_2 cy_2_3
          obtain ⟨cx_3_0, cx_3_1, cx_3_2, cx_3_3⟩ := cells4s Rx_3
          obtain ⟨cy_3_0, cy_3_1, cy_3_2, cy_3_3⟩ := cells4s Ry_3
          go_wp2_with fail
          refine (nat_Left (m * d) (j : Int) y y' ey' H2.out L2.out (by omega) F2.out _).mono ?_
          rintro r w4 ⟨rfl, b4⟩
          have B4 : Below w.heap.size w w4 := btr B3 b4
          have Rx_4 := heap_of b4 _ _ _ Rx_3
          have Ry_4 := heap_of b4 _ _ _ Ry_3
          clear b4 B3 Rx_3 cx_3_0 cx_3_1 cx_3_2 cx_3_3 Ry_3 cy_3_0 cy_3_1 cy_3_2 cy_3_3
          obtain ⟨cx_4_0, cx_4_1, cx_4_2, cx_4_3⟩ := cells4s Rx_4
          obtain ⟨cy_4_0, cy_4_1, cy_4_2, cy_4_3⟩ := cells4s Ry_4
          go_wp2
          try simp only [Exit.inBlock, Exit.then]
          refine bodyPost_ret (results_tmp4 rfl _ _ _) rfl ?_
          exact ⟨rfl, B4⟩
    · rw [if_neg (fun h => l2 (Nat.le_trans (nl_mono _ _ (mul_pow_le _ _)) h.2))] at hr2
      cases hr2
      clear hs ht hp hq ln ld lm lf he hK hi hj hx hy l1 l2 hx1
      rcases hk with ⟨rfl, dk, rfl⟩ | ⟨rfl, dk, rfl⟩
      · skip
        obtain ⟨Rx_0, Ry_0, B0⟩ := opn2 w (Obj.cells #[.bool b, .string s, .string t, .int .i64 e] 70) (Obj.cells #[.bool c, .string p, .string q, .int .i64 g] 70)
        go_enter Tryz.func108, Tryz.ntmps108
        go_wp2_with fail
        refine (nat_Mul n f s q x 0 HS.out HQ.out HX.out LN.out LF.out _).mono ?_
        rintro r w1 ⟨rfl, b1⟩
        have B1 : Below w.heap.size w w1 := btr B0 b1
        have Rx_1 := heap_of b1 _ _ _ Rx_0
        have Ry_1 := heap_of b1 _ _ _ Ry_0
        clear b1 B0 Rx_0 Ry_0
        obtain ⟨cx_1_0, cx_1_1, cx_1_2, cx_1_3⟩ := cells4s Rx_1
        obtain ⟨cy_1_0, cy_1_1, cy_1_2, cy_1_3⟩ := cells4s Ry_1
        go_wp2_with fail
        refine (nat_Mul m d p t _ 4 HP.out HT.out HY.out LM.out LD.out _).mono ?_
        rintro r w2 ⟨rfl, b2⟩
        have B2 : Below w.heap.size w w2 := btr B1 b2
        have Rx_2 := heap_of b2 _ _ _ Rx_1
        have Ry_2 := heap_of b2 _ _ _ Ry_1
        clear b2 B1 Rx_1 cx_1_0 cx_1_1 cx_1_2 cx_1_3 Ry_1 cy_1_0 cy_1_1 cy_1_2 cy_1_3
        obtain ⟨cx_2_0, cx_2_1, cx_2_2, cx_2_3⟩ := cells4s Rx_2
        obtain ⟨cy_2_0, cy_2_1, cy_2_2, cy_2_3⟩ := cells4s Ry_2
        go_wp2
        try simp only [Exit.inBlock, Exit.then]
        refine bodyPost_ret (results_tmp4 rfl _ _ _) rfl ?_
        exact ⟨rfl, B2⟩
      · skip
        obtain ⟨Rx_0, Ry_0, B0⟩ := opn2 w (Obj.cells #[.bool b, .string s, .string t, .int .i64 e] 70) (Obj.cells #[.bool c, .string p, .string q, .int .i64 g] 70)
        go_enter Tryz.func108, Tryz.ntmps108
        go_wp2_with fail
        refine (nat_Mul n f s q x 0 HS.out HQ.out HX.out LN.out LF.out _).mono ?_
        rintro r w1 ⟨rfl, b1⟩
        have B1 : Below w.heap.size w w1 := btr B0 b1
        have Rx_1 := heap_of b1 _ _ _ Rx_0
        have Ry_1 := heap_of b1 _ _ _ Ry_0
        clear b1 B0 Rx_0 Ry_0
        obtain ⟨cx_1_0, cx_1_1, cx_1_2, cx_1_3⟩ := cells4s Rx_1
        obtain ⟨cy_1_0, cy_1_1, cy_1_2, cy_1_3⟩ := cells4s Ry_1
        go_wp2_with fail
        refine (nat_Mul m d p t _ 4 HP.out HT.out HY.out LM.out LD.out _).mono ?_
        rintro r w2 ⟨rfl, b2⟩
        have B2 : Below w.heap.size w w2 := btr B1 b2
        have Rx_2 := heap_of b2 _ _ _ Rx_1
        have Ry_2 := heap_of b2 _ _ _ Ry_1
        clear b2 B1 Rx_1 cx_1_0 cx_1_1 cx_1_2 cx_1_3 Ry_1 cy_1_0 cy_1_1 cy_1_2 cy_1_3
        obtain ⟨cx_2_0, cx_2_1, cx_2_2, cx_2_3⟩ := cells4s Rx_2
        obtain ⟨cy_2_0, cy_2_1, cy_2_2, cy_2_3⟩ := cells4s Ry_2
        go_wp2
        try simp only [Exit.inBlock, Exit.then]
        refine bodyPost_ret (results_tmp4 rfl _ _ _) rfl ?_
        exact ⟨rfl, B2⟩
  · rw [if_neg (fun h => l1 (Nat.le_trans (nl_mono _ _ (mul_pow_le _ _)) h.1))] at hr2
    cases hr2
    clear hs ht hp hq ln ld lm lf he hK hi hj hx hy l1
    rcases hk with ⟨rfl, dk, rfl⟩ | ⟨rfl, dk, rfl⟩
    · skip
      obtain ⟨Rx_0, Ry_0, B0⟩ := opn2 w (Obj.cells #[.bool b, .string s, .string t, .int .i64 e] 70) (Obj.cells #[.bool c, .string p, .string q, .int .i64 g] 70)
      go_enter Tryz.func108, Tryz.ntmps108
      go_wp2_with fail
      refine (nat_Mul n f s q _ 4 HS.out HQ.out HX.out LN.out LF.out _).mono ?_
      rintro r w1 ⟨rfl, b1⟩
      have B1 : Below w.heap.size w w1 := btr B0 b1
      have Rx_1 := heap_of b1 _ _ _ Rx_0
      have Ry_1 := heap_of b1 _ _ _ Ry_0
      clear b1 B0 Rx_0 Ry_0
      obtain ⟨cx_1_0, cx_1_1, cx_1_2, cx_1_3⟩ := cells4s Rx_1
      obtain ⟨cy_1_0, cy_1_1, cy_1_2, cy_1_3⟩ := cells4s Ry_1
      go_wp2_with fail
      refine (nat_Mul m d p t y ey HP.out HT.out HY.out LM.out LD.out _).mono ?_
      rintro r w2 ⟨rfl, b2⟩
      have B2 : Below w.heap.size w w2 := btr B1 b2
      have Rx_2 := heap_of b2 _ _ _ Rx_1
      have Ry_2 := heap_of b2 _ _ _ Ry_1
      clear b2 B1 Rx_1 cx_1_0 cx_1_1 cx_1_2 cx_1_3 Ry_1 cy_1_0 cy_1_1 cy_1_2 cy_1_3
      obtain ⟨cx_2_0, cx_2_1, cx_2_2, cx_2_3⟩ := cells4s Rx_2
      obtain ⟨cy_2_0, cy_2_1, cy_2_2, cy_2_3⟩ := cells4s Ry_2
      go_wp2
      try simp only [Exit.inBlock, Exit.then]
      refine bodyPost_ret (results_tmp4 rfl _ _ _) rfl ?_
      exact ⟨rfl, B2⟩
    · skip
      obtain ⟨Rx_0, Ry_0, B0⟩ := opn2 w (Obj.cells #[.bool b, .string s, .string t, .int .i64 e] 70) (Obj.cells #[.bool c, .string p, .string q, .int .i64 g] 70)
      go_enter Tryz.func108, Tryz.ntmps108
      go_wp2_with fail
      refine (nat_Mul n f s q _ 4 HS.out HQ.out HX.out LN.out LF.out _).mono ?_
      rintro r w1 ⟨rfl, b1⟩
      have B1 : Below w.heap.size w w1 := btr B0 b1
      have Rx_1 := heap_of b1 _ _ _ Rx_0
      have Ry_1 := heap_of b1 _ _ _ Ry_0
      clear b1 B0 Rx_0 Ry_0
      obtain ⟨cx_1_0, cx_1_1, cx_1_2, cx_1_3⟩ := cells4s Rx_1
      obtain ⟨cy_1_0, cy_1_1, cy_1_2, cy_1_3⟩ := cells4s Ry_1
      go_wp2_with fail
      refine (nat_Mul m d p t y ey HP.out HT.out HY.out LM.out LD.out _).mono ?_
      rintro r w2 ⟨rfl, b2⟩
      have B2 : Below w.heap.size w w2 := btr B1 b2
      have Rx_2 := heap_of b2 _ _ _ Rx_1
      have Ry_2 := heap_of b2 _ _ _ Ry_1
      clear b2 B1 Rx_1 cx_1_0 cx_1_1 cx_1_2 cx_1_3 Ry_1 cy_1_0 cy_1_1 cy_1_2 cy_1_3
      obtain ⟨cx_2_0, cx_2_1, cx_2_2, cx_2_3⟩ := cells4s Rx_2
      obtain ⟨cy_2_0, cy_2_1, cy_2_2, cy_2_3⟩ := cells4s Ry_2
      go_wp2
      try simp only [Exit.inBlock, Exit.then]
      refine bodyPost_ret (results_tmp4 rfl _ _ _) rfl ?_
      exact ⟨rfl, B2⟩
end Go.Proofs.YtapikkbifdldfaaGreatDoor
namespace Go.Proofs.YtapikkbifdldfaaGreatDoor
set_option maxRecDepth 100000
set_option maxHeartbeats 40000000
set_option maxRecDepth 100000
open Go.RowKit WMath XMath
set_option maxRecDepth 100000 in
set_option maxHeartbeats 4000000 in
theorem rAdd_ok (b : Bool) (n d : Nat) (e : Int) (s t : ByteArray) (c : Bool) (m f : Nat) (g : Int) (p q : ByteArray) (rb : Bool) (rn rd : Nat) (re err : Int) (u v : ByteArray)
    (hs : nbA n = s) (ht : nbA d = t) (hp : nbA m = p) (hq : nbA f = q) (hx : (XN.mk b n d e).can) (hy : (XN.mk c m f g).can) (hr : addX (XN.mk b n d e) (XN.mk c m f g) = (⟨rb, rn, rd, re⟩, err)) (hu : nbA rn = u) (hv : nbA rd = v) (w : World) :
    Calls Tryz.prog 54 #[.agg #[.bool b, .string s, .string t, .int .i64 e], .agg #[.bool c, .string p, .string q, .int .i64 g]] w fun r w' => r = .returned (.tuple #[.agg #[.bool rb, .string u, .string v, .int .i64 re], .int .i64 err]) ∧ Below w.heap.size w w' := by
  unfold addX at hr
  rcases x_cases hs ht hx with ⟨n0, rfl, rfl, rfl, rfl, rfl⟩ | ⟨n0, e0⟩
  · rw [if_pos n0] at hr
    injection hr with h1 h2
    injection h1 with a1 a2 a3 a4
    subst a1 a2 a3 a4 h2
    rw [hp] at hu
    rw [hq] at hv
    subst hu hv
    clear hs ht hp hq hx hy n0
    obtain ⟨Rx_0, Ry_0, Rz_0, B0⟩ := opn3 w (Obj.cells #[.bool false, .string ⟨#[]⟩, .string ⟨#[1]⟩, .int .i64 0] 70) (Obj.cells #[.bool c, .string p, .string q, .int .i64 g] 70) (Obj.cells #[.bool false, .string ⟨#[]⟩, .string ⟨#[]⟩, .int .i64 0] 70)
    go_enter Tryz.func54, Tryz.ntmps54
    clear B0 Rx_0 Ry_0 Rz_0
    go_wp2
    exact bodyPost_ret (v := .tuple #[.agg #[.bool c, .string p, .string q, .int .i64 g], .int .i64 0]) (by simp [results, Tryz.results54, go_sem]) rfl ⟨rfl, ((((Below.refl _ _).alloc (by first | omega | (simp only [size_al]; omega)) _).alloc (by first | omega | (simp only [size_al]; omega)) _).alloc (by first | omega | (simp only [size_al]; omega)) _)⟩
  · rw [if_neg n0] at hr
    rcases x_cases hp hq hy with ⟨m0, rfl, rfl, rfl, rfl, rfl⟩ | ⟨m0, e1⟩
    · rw [if_pos m0] at hr
      injection hr with h1 h2
      injection h1 with a1 a2 a3 a4
      subst a1 a2 a3 a4 h2
      rw [hs] at hu
      rw [ht] at hv
      subst hu hv
      clear hs ht hp hq hx hy n0 m0
      obtain ⟨Rx_0, Ry_0, Rz_0, B0⟩ := opn3 w (Obj.cells #[.bool b, .string s, .string t, .int .i64 e] 70) (Obj.cells #[.bool false, .string ⟨#[]⟩, .string ⟨#[1]⟩, .int .i64 0] 70) (Obj.cells #[.bool false, .string ⟨#[]⟩, .string ⟨#[]⟩, .int .i64 0] 70)
      go_enter Tryz.func54, Tryz.ntmps54
      clear B0 Rx_0 Ry_0 Rz_0
      go_wp2
      exact bodyPost_ret (v := .tuple #[.agg #[.bool b, .string s, .string t, .int .i64 e], .int .i64 0]) (by simp [results, Tryz.results54, go_sem]) rfl ⟨rfl, ((((Below.refl _ _).alloc (by first | omega | (simp only [size_al]; omega)) _).alloc (by first | omega | (simp only [size_al]; omega)) _).alloc (by first | omega | (simp only [size_al]; omega)) _)⟩
    · rw [if_neg m0] at hr
      have ha : -1048576 ≤ e ∧ e ≤ 1048576 ∧ -1048576 ≤ g ∧ g ≤ 1048576 := ⟨hx.2.2.1, hx.2.2.2.1, hy.2.2.1, hy.2.2.2.1⟩
      have l1 : nl n ≤ 16384 := hx.1
      have l2 : nl d ≤ 16384 := hx.2.1
      have l3 : nl m ≤ 16384 := hy.1
      have l4 : nl f ≤ 16384 := hy.2.1
      have d1 : d ≠ 0 := hx.d0
      have d2 : f ≠ 0 := hy.d0
      obtain ⟨A, hA⟩ : ∃ A, XMath.sA (XN.mk b n d e) (XN.mk c m f g) = A := ⟨_, rfl⟩
      obtain ⟨B, hB⟩ : ∃ A, XMath.sA (XN.mk c m f g) (XN.mk b n d e) = A := ⟨_, rfl⟩
      obtain ⟨S, hS⟩ : ∃ A, sS (XN.mk b n d e) (XN.mk c m f g) = A := ⟨_, rfl⟩
      obtain ⟨Z, hZ⟩ : ∃ A, sN (XN.mk b n d e) (XN.mk c m f g) = A := ⟨_, rfl⟩
      obtain ⟨L, hL⟩ : ∃ L, min e g = L := ⟨_, rfl⟩
      have hS2 : S = (if b = c then A + B else if A < B then B - A else A - B) := by rw [← hS]; unfold sS; rw [hA, hB]
      have hZ2 : Z = (if b = c then b else if A < B then c else b) := by rw [← hZ]; unfold sN; rw [hA, hB]
      have hr2 : (if nl A ≤ 16384 ∧ nl B ≤ 16384 ∧ nl (d * f) ≤ 16384 ∧ nl S ≤ 16384 then XMath.mk Z S (d * f) L else (XZ, 4)) = (⟨rb, rn, rd, re⟩, err) := by rw [← hA, ← hB, ← hS, ← hZ, ← hL]; exact hr
      have HT2 := box ht
      have HQ2 := box hq
      have L2 : Box (nl d ≤ 20000) := box (by omega)
      have L4 : Box (nl f ≤ 20000) := box (by omega)
      by_cases h12 : nl A ≤ 16384 ∧ nl B ≤ 16384
      · obtain ⟨x, hxa⟩ : ∃ x, nbA A = x := ⟨_, rfl⟩
        obtain ⟨y, hyb⟩ : ∃ x, nbA B = x := ⟨_, rfl⟩
        have K1 := box (fun w => rTwo b n d e s t c m f g p q x y L 0 hs ht hp hq l1 l2 l3 l4 ha (by unfold twX; rw [hA, hB, if_pos h12, hxa, hyb]; show ((x, y), (min e g, (0 : Int))) = _; rw [hL]) w)
        have HA := box hxa
        have HB := box hyb
        have LA : Box (nl A ≤ 20000) := box (by omega)
        have LB : Box (nl B ≤ 20000) := box (by omega)
        by_cases h3 : nl (d * f) ≤ 16384
        · obtain ⟨z, hz⟩ : ∃ x, nbA (d * f) = x := ⟨_, rfl⟩
          have HX := box (lg_ok (d * f) z h3 hz)
          by_cases hbc : b = c
          · subst hbc
            rw [if_pos rfl] at hS2 hZ2
            by_cases h4 : nl S ≤ 16384
            · obtain ⟨y2, hy2⟩ : ∃ x, nbA S = x := ⟨_, rfl⟩
              rw [if_pos ⟨h12.1, h12.2, h3, h4⟩, hZ2] at hr2
              have HS2 : Box (lg (A + B) = (y2, 0)) := box (by rw [← hS2]; exact lg_ok S y2 h4 hy2)
              have K3 := box (fun w => rmake_ok b S (d * f) L y2 z rb rn rd re err u v hy2 hz h4 h3 (mul_ne d1 d2) (by omega) (by omega) hr2 hu hv w)
              have eb : (b == b) = true := by cases b <;> rfl
              clear hs ht hp hq hx hy hr hr2 hu hv n0 m0 l1 l2 l3 l4 d1 d2 hA hB hS hZ hS2 hZ2 h12 h3 h4 hxa hyb hz hy2 ha hL
              obtain ⟨Rx_0, Ry_0, Rz_0, B0⟩ := opn3 w (Obj.cells #[.bool b, .string s, .string t, .int .i64 e] 70) (Obj.cells #[.bool b, .string p, .string q, .int .i64 g] 70) (Obj.cells #[.bool false, .string ⟨#[]⟩, .string ⟨#[]⟩, .int .i64 0] 70)
              go_enter Tryz.func54, Tryz.ntmps54
              go_wp2_with fail
              refine (K1.out _).mono ?_
              rintro r w1 ⟨rfl, b1⟩
              have B1 : Below w.heap.size w w1 := btr B0 b1
              have Rx_1 := heap_of b1 _ _ _ Rx_0
              have Ry_1 := heap_of b1 _ _ _ Ry_0
              have Rz_1 := heap_of b1 _ _ _ Rz_0
              clear b1 B0 Rx_0 Ry_0 Rz_0
              obtain ⟨cx_1_0, cx_1_1, cx_1_2, cx_1_3⟩ := cells4s Rx_1
              obtain ⟨cy_1_0, cy_1_1, cy_1_2, cy_1_3⟩ := cells4s Ry_1
              obtain ⟨cz_1_0, cz_1_1, cz_1_2, cz_1_3⟩ := cells4s Rz_1
              go_wp2_with fail
              refine (nat_Mul d f t q z 0 HT2.out HQ2.out HX.out L2.out L4.out _).mono ?_
              rintro r w2 ⟨rfl, b2⟩
              have B2 : Below w.heap.size w w2 := btr B1 b2
              have Rx_2 := heap_of b2 _ _ _ Rx_1
              have Ry_2 := heap_of b2 _ _ _ Ry_1
              have Rz_2 := heap_of b2 _ _ _ Rz_1
              clear b2 B1 Rx_1 cx_1_0 cx_1_1 cx_1_2 cx_1_3 Ry_1 cy_1_0 cy_1_1 cy_1_2 cy_1_3 Rz_1 cz_1_0 cz_1_1 cz_1_2 cz_1_3
              obtain ⟨cx_2_0, cx_2_1, cx_2_2, cx_2_3⟩ := cells4s Rx_2
              obtain ⟨cy_2_0, cy_2_1, cy_2_2, cy_2_3⟩ := cells4s Ry_2
              obtain ⟨cz_2_0, cz_2_1, cz_2_2, cz_2_3⟩ := cells4s Rz_2
              go_wp2_with fail
              refine (nat_Add A B x y y2 0 HA.out HB.out HS2.out LA.out LB.out _).mono ?_
              rintro r w3 ⟨rfl, b3⟩
              have B3 : Below w.heap.size w w3 := btr B2 b3
              have Rx_3 := heap_of b3 _ _ _ Rx_2
              have Ry_3 := heap_of b3 _ _ _ Ry_2
              have Rz_3 := heap_of b3 _ _ _ Rz_2
              clear b3 B2 Rx_2 cx_2_0 cx_2_1 cx_2_2 cx_2_3 Ry_2 cy_2_0 cy_2_1 cy_2_2 cy_2_3 Rz_2 cz_2_0 cz_2_1 cz_2_2 cz_2_3
              obtain ⟨cx_3_0, cx_3_1, cx_3_2, cx_3_3⟩ := cells4s Rx_3
              obtain ⟨cy_3_0, cy_3_1, cy_3_2, cy_3_3⟩ := cells4s Ry_3
              obtain ⟨cz_3_0, cz_3_1, cz_3_2, cz_3_3⟩ := cells4s Rz_3
              go_wp2_with fail
              refine (K3.out _).mono ?_
              rintro r w4 ⟨rfl, b4⟩
              have B4 : Below w.heap.size w w4 := btr B3 b4
              have Rx_4 := heap_of b4 _ _ _ Rx_3
              have Ry_4 := heap_of b4 _ _ _ Ry_3
              have Rz_4 := heap_of b4 _ _ _ Rz_3
              clear b4 B3 Rx_3 cx_3_0 cx_3_1 cx_3_2 cx_3_3 Ry_3 cy_3_0 cy_3_1 cy_3_2 cy_3_3 Rz_3 cz_3_0 cz_3_1 cz_3_2 cz_3_3
              obtain ⟨cx_4_0, cx_4_1, cx_4_2, cx_4_3⟩ := cells4s Rx_4
              obtain ⟨cy_4_0, cy_4_1, cy_4_2, cy_4_3⟩ := cells4s Ry_4
              obtain ⟨cz_4_0, cz_4_1, cz_4_2, cz_4_3⟩ := cells4s Rz_4
              have q0 := fz (k := 0) Rz_4
              have q1 := fz (k := 1) Rz_4
              have q2 := fz (k := 2) Rz_4
              have q3 := fz (k := 3) Rz_4
              obtain ⟨E0, E1, E2, E3⟩ := set4_cells Rz_4 rfl (.bool rb) (.string u) (.string v) (.int .i64 re)
              go_wp2
              exact bodyPost_ret (v := .tuple #[.agg #[.bool rb, .string u, .string v, .int .i64 re], .int .i64 err]) (by simp [results, Tryz.results54, go_sem, E0, E1, E2, E3]) rfl ⟨rfl, set4_below B4 (by first | exact Nat.le_refl _ | omega | (skip; omega)) _ _ _ _⟩
            · rw [if_neg (fun h => h4 h.2.2.2)] at hr2
              obtain ⟨rfl, rfl, rfl, rfl, rfl⟩ := xz_is hr2
              rw [nbA_zero] at hu hv
              subst hu hv
              have HS2 : Box (lg (A + B) = (⟨#[]⟩, 4)) := box (by rw [← hS2]; exact lg_no S h4)
              have eb : (b == b) = true := by cases b <;> rfl
              clear hs ht hp hq hx hy hr hr2 n0 m0 l1 l2 l3 l4 d1 d2 hA hB hS hZ hS2 hZ2 h12 h3 h4 hxa hyb hz ha hL
              obtain ⟨Rx_0, Ry_0, Rz_0, B0⟩ := opn3 w (Obj.cells #[.bool b, .string s, .string t, .int .i64 e] 70) (Obj.cells #[.bool b, .string p, .string q, .int .i64 g] 70) (Obj.cells #[.bool false, .string ⟨#[]⟩, .string ⟨#[]⟩, .int .i64 0] 70)
              go_enter Tryz.func54, Tryz.ntmps54
              go_wp2_with fail
              refine (K1.out _).mono ?_
              rintro r w1 ⟨rfl, b1⟩
              have B1 : Below w.heap.size w w1 := btr B0 b1
              have Rx_1 := heap_of b1 _ _ _ Rx_0
              have Ry_1 := heap_of b1 _ _ _ Ry_0
              have Rz_1 := heap_of b1 _ _ _ Rz_0
              clear b1 B0 Rx_0 Ry_0 Rz_0
              obtain ⟨cx_1_0, cx_1_1, cx_1_2, cx_1_3⟩ := cells4s Rx_1
              obtain ⟨cy_1_0, cy_1_1, cy_1_2, cy_1_3⟩ := cells4s Ry_1
              obtain ⟨cz_1_0, cz_1_1, cz_1_2, cz_1_3⟩ := cells4s Rz_1
              go_wp2_with fail
              refine (nat_Mul d f t q z 0 HT2.out HQ2.out HX.out L2.out L4.out _).mono ?_
              rintro r w2 ⟨rfl, b2⟩
              have B2 : Below w.heap.size w w2 := btr B1 b2
              have Rx_2 := heap_of b2 _ _ _ Rx_1
              have Ry_2 := heap_of b2 _ _ _ Ry_1
              have Rz_2 := heap_of b2 _ _ _ Rz_1
              clear b2 B1 Rx_1 cx_1_0 cx_1_1 cx_1_2 cx_1_3 Ry_1 cy_1_0 cy_1_1 cy_1_2 cy_1_3 Rz_1 cz_1_0 cz_1_1 cz_1_2 cz_1_3
              obtain ⟨cx_2_0, cx_2_1, cx_2_2, cx_2_3⟩ := cells4s Rx_2
              obtain ⟨cy_2_0, cy_2_1, cy_2_2, cy_2_3⟩ := cells4s Ry_2
              obtain ⟨cz_2_0, cz_2_1, cz_2_2, cz_2_3⟩ := cells4s Rz_2
              go_wp2_with fail
              refine (nat_Add A B x y _ 4 HA.out HB.out HS2.out LA.out LB.out _).mono ?_
              rintro r w3 ⟨rfl, b3⟩
              have B3 : Below w.heap.size w w3 := btr B2 b3
              have Rx_3 := heap_of b3 _ _ _ Rx_2
              have Ry_3 := heap_of b3 _ _ _ Ry_2
              have Rz_3 := heap_of b3 _ _ _ Rz_2
              clear b3 B2 Rx_2 cx_2_0 cx_2_1 cx_2_2 cx_2_3 Ry_2 cy_2_0 cy_2_1 cy_2_2 cy_2_3 Rz_2 cz_2_0 cz_2_1 cz_2_2 cz_2_3
              obtain ⟨cx_3_0, cx_3_1, cx_3_2, cx_3_3⟩ := cells4s Rx_3
              obtain ⟨cy_3_0, cy_3_1, cy_3_2, cy_3_3⟩ := cells4s Ry_3
              obtain ⟨cz_3_0, cz_3_1, cz_3_2, cz_3_3⟩ := cells4s Rz_3
              have q0 := fz (k := 0) Rz_3
              have q1 := fz (k := 1) Rz_3
              have q2 := fz (k := 2) Rz_3
              have q3 := fz (k := 3) Rz_3
              obtain ⟨E0, E1, E2, E3⟩ := set4_cells Rz_3 rfl (.bool false) (.string ⟨#[]⟩) (.string ⟨#[]⟩) (.int .i64 0)
              go_wp2
              exact bodyPost_ret (v := .tuple #[.agg #[.bool false, .string ⟨#[]⟩, .string ⟨#[]⟩, .int .i64 0], .int .i64 4]) (by simp [results, Tryz.results54, go_sem, E0, E1, E2, E3]) rfl ⟨rfl, set4_below B3 (by first | exact Nat.le_refl _ | omega | (skip; omega)) _ _ _ _⟩
          · have eb : (b == c) = false := by cases b <;> cases c <;> first | rfl | exact absurd rfl hbc
            have h4 : nl S ≤ 16384 := by rw [← hS]; exact sS_nl (XN.mk b n d e) (XN.mk c m f g) (by rw [hA]; exact h12.1) (by rw [hB]; exact h12.2) hbc
            obtain ⟨y2, hy2⟩ : ∃ x, nbA S = x := ⟨_, rfl⟩
            rw [if_pos ⟨h12.1, h12.2, h3, h4⟩] at hr2
            rw [if_neg hbc] at hS2 hZ2
            obtain ⟨k, hk⟩ : ∃ k, cmpv A B = k := ⟨_, rfl⟩
            have HK := box hk
            have K3 := box (fun w => rmake_ok Z S (d * f) L y2 z rb rn rd re err u v hy2 hz h4 h3 (mul_ne d1 d2) (by omega) (by omega) hr2 hu hv w)
            by_cases hl : A < B
            · rw [if_pos hl] at hS2 hZ2
              have g0 : decide ((0 : Int) ≤ k) = false := decide_eq_false (by have := (cmpv_neg A B).2 hl; omega)
              have HS2 : Box (sb B A = (y2, 0)) := box (by unfold sb; rw [if_neg (by omega), ← hS2, hy2])
              subst hZ2
              clear hs ht hp hq hx hy hr hr2 hu hv n0 m0 l1 l2 l3 l4 d1 d2 hA hB hS hZ hS2 h12 h3 h4 hxa hyb hz hy2 ha hL hk hl hbc
              obtain ⟨Rx_0, Ry_0, Rz_0, B0⟩ := opn3 w (Obj.cells #[.bool b, .string s, .string t, .int .i64 e] 70) (Obj.cells #[.bool Z, .string p, .string q, .int .i64 g] 70) (Obj.cells #[.bool false, .string ⟨#[]⟩, .string ⟨#[]⟩, .int .i64 0] 70)
              go_enter Tryz.func54, Tryz.ntmps54
              go_wp2_with fail
              refine (K1.out _).mono ?_
              rintro r w1 ⟨rfl, b1⟩
              have B1 : Below w.heap.size w w1 := btr B0 b1
              have Rx_1 := heap_of b1 _ _ _ Rx_0
              have Ry_1 := heap_of b1 _ _ _ Ry_0
              have Rz_1 := heap_of b1 _ _ _ Rz_0
              clear b1 B0 Rx_0 Ry_0 Rz_0
              obtain ⟨cx_1_0, cx_1_1, cx_1_2, cx_1_3⟩ := cells4s Rx_1
              obtain ⟨cy_1_0, cy_1_1, cy_1_2, cy_1_3⟩ := cells4s Ry_1
              obtain ⟨cz_1_0, cz_1_1, cz_1_2, cz_1_3⟩ := cells4s Rz_1
              go_wp2_with fail
              refine (nat_Mul d f t q z 0 HT2.out HQ2.out HX.out L2.out L4.out _).mono ?_
              rintro r w2 ⟨rfl, b2⟩
              have B2 : Below w.heap.size w w2 := btr B1 b2
              have Rx_2 := heap_of b2 _ _ _ Rx_1
              have Ry_2 := heap_of b2 _ _ _ Ry_1
              have Rz_2 := heap_of b2 _ _ _ Rz_1
              clear b2 B1 Rx_1 cx_1_0 cx_1_1 cx_1_2 cx_1_3 Ry_1 cy_1_0 cy_1_1 cy_1_2 cy_1_3 Rz_1 cz_1_0 cz_1_1 cz_1_2 cz_1_3
              obtain ⟨cx_2_0, cx_2_1, cx_2_2, cx_2_3⟩ := cells4s Rx_2
              obtain ⟨cy_2_0, cy_2_1, cy_2_2, cy_2_3⟩ := cells4s Ry_2
              obtain ⟨cz_2_0, cz_2_1, cz_2_2, cz_2_3⟩ := cells4s Rz_2
              go_wp2_with fail
              refine (nat_cmp A B x y k HA.out HB.out HK.out _).mono ?_
              rintro r w' ⟨rfl, rfl⟩
              go_wp2_with fail
              refine (nat_Sub B A y x y2 0 HB.out HA.out HS2.out LB.out _).mono ?_
              rintro r w3 ⟨rfl, b3⟩
              have B3 : Below w.heap.size w w3 := btr B2 b3
              have Rx_3 := heap_of b3 _ _ _ Rx_2
              have Ry_3 := heap_of b3 _ _ _ Ry_2
              have Rz_3 := heap_of b3 _ _ _ Rz_2
              clear b3 B2 Rx_2 cx_2_0 cx_2_1 cx_2_2 cx_2_3 Ry_2 cy_2_0 cy_2_1 cy_2_2 cy_2_3 Rz_2 cz_2_0 cz_2_1 cz_2_2 cz_2_3
              obtain ⟨cx_3_0, cx_3_1, cx_3_2, cx_3_3⟩ := cells4s Rx_3
              obtain ⟨cy_3_0, cy_3_1, cy_3_2, cy_3_3⟩ := cells4s Ry_3
              obtain ⟨cz_3_0, cz_3_1, cz_3_2, cz_3_3⟩ := cells4s Rz_3
              go_wp2_with fail
              refine (K3.out _).mono ?_
              rintro r w4 ⟨rfl, b4⟩
              have B4 : Below w.heap.size w w4 := btr B3 b4
              have Rx_4 := heap_of b4 _ _ _ Rx_3
              have Ry_4 := heap_of b4 _ _ _ Ry_3
              have Rz_4 := heap_of b4 _ _ _ Rz_3
              clear b4 B3 Rx_3 cx_3_0 cx_3_1 cx_3_2 cx_3_3 Ry_3 cy_3_0 cy_3_1 cy_3_2 cy_3_3 Rz_3 cz_3_0 cz_3_1 cz_3_2 cz_3_3
              obtain ⟨cx_4_0, cx_4_1, cx_4_2, cx_4_3⟩ := cells4s Rx_4
              obtain ⟨cy_4_0, cy_4_1, cy_4_2, cy_4_3⟩ := cells4s Ry_4
              obtain ⟨cz_4_0, cz_4_1, cz_4_2, cz_4_3⟩ := cells4s Rz_4
              have q0 := fz (k := 0) Rz_4
              have q1 := fz (k := 1) Rz_4
              have q2 := fz (k := 2) Rz_4
              have q3 := fz (k := 3) Rz_4
              obtain ⟨E0, E1, E2, E3⟩ := set4_cells Rz_4 rfl (.bool rb) (.string u) (.string v) (.int .i64 re)
              go_wp2
              exact bodyPost_ret (v := .tuple #[.agg #[.bool rb, .string u, .string v, .int .i64 re], .int .i64 err]) (by simp [results, Tryz.results54, go_sem, E0, E1, E2, E3]) rfl ⟨rfl, set4_below B4 (by first | exact Nat.le_refl _ | omega | (skip; omega)) _ _ _ _⟩
            · rw [if_neg hl] at hS2 hZ2
              have g0 : decide ((0 : Int) ≤ k) = true := decide_eq_true (by have := mt (cmpv_neg A B).1 hl; omega)
              have HS2 : Box (sb A B = (y2, 0)) := box (by unfold sb; rw [if_neg hl, ← hS2, hy2])
              subst hZ2
              clear hs ht hp hq hx hy hr hr2 hu hv n0 m0 l1 l2 l3 l4 d1 d2 hA hB hS hZ hS2 h12 h3 h4 hxa hyb hz hy2 ha hL hk hl hbc
              obtain ⟨Rx_0, Ry_0, Rz_0, B0⟩ := opn3 w (Obj.cells #[.bool Z, .string s, .string t, .int .i64 e] 70) (Obj.cells #[.bool c, .string p, .string q, .int .i64 g] 70) (Obj.cells #[.bool false, .string ⟨#[]⟩, .string ⟨#[]⟩, .int .i64 0] 70)
              go_enter Tryz.func54, Tryz.ntmps54
              go_wp2_with fail
              refine (K1.out _).mono ?_
              rintro r w1 ⟨rfl, b1⟩
              have B1 : Below w.heap.size w w1 := btr B0 b1
              have Rx_1 := heap_of b1 _ _ _ Rx_0
              have Ry_1 := heap_of b1 _ _ _ Ry_0
              have Rz_1 := heap_of b1 _ _ _ Rz_0
              clear b1 B0 Rx_0 Ry_0 Rz_0
              obtain ⟨cx_1_0, cx_1_1, cx_1_2, cx_1_3⟩ := cells4s Rx_1
              obtain ⟨cy_1_0, cy_1_1, cy_1_2, cy_1_3⟩ := cells4s Ry_1
              obtain ⟨cz_1_0, cz_1_1, cz_1_2, cz_1_3⟩ := cells4s Rz_1
              go_wp2_with fail
              refine (nat_Mul d f t q z 0 HT2.out HQ2.out HX.out L2.out L4.out _).mono ?_
              rintro r w2 ⟨rfl, b2⟩
              have B2 : Below w.heap.size w w2 := btr B1 b2
              have Rx_2 := heap_of b2 _ _ _ Rx_1
              have Ry_2 := heap_of b2 _ _ _ Ry_1
              have Rz_2 := heap_of b2 _ _ _ Rz_1
              clear b2 B1 Rx_1 cx_1_0 cx_1_1 cx_1_2 cx_1_3 Ry_1 cy_1_0 cy_1_1 cy_1_2 cy_1_3 Rz_1 cz_1_0 cz_1_1 cz_1_2 cz_1_3
              obtain ⟨cx_2_0, cx_2_1, cx_2_2, cx_2_3⟩ := cells4s Rx_2
              obtain ⟨cy_2_0, cy_2_1, cy_2_2, cy_2_3⟩ := cells4s Ry_2
              obtain ⟨cz_2_0, cz_2_1, cz_2_2, cz_2_3⟩ := cells4s Rz_2
              go_wp2_with fail
              refine (nat_cmp A B x y k HA.out HB.out HK.out _).mono ?_
              rintro r w' ⟨rfl, rfl⟩
              go_wp2_with fail
              refine (nat_Sub A B x y y2 0 HA.out HB.out HS2.out LA.out _).mono ?_
              rintro r w3 ⟨rfl, b3⟩
              have B3 : Below w.heap.size w w3 := btr B2 b3
              have Rx_3 := heap_of b3 _ _ _ Rx_2
              have Ry_3 := heap_of b3 _ _ _ Ry_2
              have Rz_3 := heap_of b3 _ _ _ Rz_2
              clear b3 B2 Rx_2 cx_2_0 cx_2_1 cx_2_2 cx_2_3 Ry_2 cy_2_0 cy_2_1 cy_2_2 cy_2_3 Rz_2 cz_2_0 cz_2_1 cz_2_2 cz_2_3
              obtain ⟨cx_3_0, cx_3_1, cx_3_2, cx_3_3⟩ := cells4s Rx_3
              obtain ⟨cy_3_0, cy_3_1, cy_3_2, cy_3_3⟩ := cells4s Ry_3
              obtain ⟨cz_3_0, cz_3_1, cz_3_2, cz_3_3⟩ := cells4s Rz_3
              go_wp2_with fail
              refine (K3.out _).mono ?_
              rintro r w4 ⟨rfl, b4⟩
              have B4 : Below w.heap.size w w4 := btr B3 b4
              have Rx_4 := heap_of b4 _ _ _ Rx_3
              have Ry_4 := heap_of b4 _ _ _ Ry_3
              have Rz_4 := heap_of b4 _ _ _ Rz_3
              clear b4 B3 Rx_3 cx_3_0 cx_3_1 cx_3_2 cx_3_3 Ry_3 cy_3_0 cy_3_1 cy_3_2 cy_3_3 Rz_3 cz_3_0 cz_3_1 cz_3_2 cz_3_3
              obtain ⟨cx_4_0, cx_4_1, cx_4_2, cx_4_3⟩ := cells4s Rx_4
              obtain ⟨cy_4_0, cy_4_1, cy_4_2, cy_4_3⟩ := cells4s Ry_4
              obtain ⟨cz_4_0, cz_4_1, cz_4_2, cz_4_3⟩ := cells4s Rz_4
              have q0 := fz (k := 0) Rz_4
              have q1 := fz (k := 1) Rz_4
              have q2 := fz (k := 2) Rz_4
              have q3 := fz (k := 3) Rz_4
              obtain ⟨E0, E1, E2, E3⟩ := set4_cells Rz_4 rfl (.bool rb) (.string u) (.string v) (.int .i64 re)
              go_wp2
              exact bodyPost_ret (v := .tuple #[.agg #[.bool rb, .string u, .string v, .int .i64 re], .int .i64 err]) (by simp [results, Tryz.results54, go_sem, E0, E1, E2, E3]) rfl ⟨rfl, set4_below B4 (by first | exact Nat.le_refl _ | omega | (skip; omega)) _ _ _ _⟩
        · have HX := box (lg_no (d * f) h3)
          rw [if_neg (fun h => h3 h.2.2.1)] at hr2
          obtain ⟨rfl, rfl, rfl, rfl, rfl⟩ := xz_is hr2
          rw [nbA_zero] at hu hv
          subst hu hv
          clear hs ht hp hq hx hy hr hr2 n0 m0 l1 l2 l3 l4 d1 d2 hA hB hS hZ hS2 hZ2 h12 h3 hxa hyb ha hL
          obtain ⟨Rx_0, Ry_0, Rz_0, B0⟩ := opn3 w (Obj.cells #[.bool b, .string s, .string t, .int .i64 e] 70) (Obj.cells #[.bool c, .string p, .string q, .int .i64 g] 70) (Obj.cells #[.bool false, .string ⟨#[]⟩, .string ⟨#[]⟩, .int .i64 0] 70)
          go_enter Tryz.func54, Tryz.ntmps54
          go_wp2_with fail
          refine (K1.out _).mono ?_
          rintro r w1 ⟨rfl, b1⟩
          have B1 : Below w.heap.size w w1 := btr B0 b1
          have Rx_1 := heap_of b1 _ _ _ Rx_0
          have Ry_1 := heap_of b1 _ _ _ Ry_0
          have Rz_1 := heap_of b1 _ _ _ Rz_0
          clear b1 B0 Rx_0 Ry_0 Rz_0
          obtain ⟨cx_1_0, cx_1_1, cx_1_2, cx_1_3⟩ := cells4s Rx_1
          obtain ⟨cy_1_0, cy_1_1, cy_1_2, cy_1_3⟩ := cells4s Ry_1
          obtain ⟨cz_1_0, cz_1_1, cz_1_2, cz_1_3⟩ := cells4s Rz_1
          go_wp2_with fail
          refine (nat_Mul d f t q _ 4 HT2.out HQ2.out HX.out L2.out L4.out _).mono ?_
          rintro r w2 ⟨rfl, b2⟩
          have B2 : Below w.heap.size w w2 := btr B1 b2
          have Rx_2 := heap_of b2 _ _ _ Rx_1
          have Ry_2 := heap_of b2 _ _ _ Ry_1
          have Rz_2 := heap_of b2 _ _ _ Rz_1
          clear b2 B1 Rx_1 cx_1_0 cx_1_1 cx_1_2 cx_1_3 Ry_1 cy_1_0 cy_1_1 cy_1_2 cy_1_3 Rz_1 cz_1_0 cz_1_1 cz_1_2 cz_1_3
          obtain ⟨cx_2_0, cx_2_1, cx_2_2, cx_2_3⟩ := cells4s Rx_2
          obtain ⟨cy_2_0, cy_2_1, cy_2_2, cy_2_3⟩ := cells4s Ry_2
          obtain ⟨cz_2_0, cz_2_1, cz_2_2, cz_2_3⟩ := cells4s Rz_2
          have q0 := fz (k := 0) Rz_2
          have q1 := fz (k := 1) Rz_2
          have q2 := fz (k := 2) Rz_2
          have q3 := fz (k := 3) Rz_2
          obtain ⟨E0, E1, E2, E3⟩ := set4_cells Rz_2 rfl (.bool false) (.string ⟨#[]⟩) (.string ⟨#[]⟩) (.int .i64 0)
          go_wp2
          exact bodyPost_ret (v := .tuple #[.agg #[.bool false, .string ⟨#[]⟩, .string ⟨#[]⟩, .int .i64 0], .int .i64 4]) (by simp [results, Tryz.results54, go_sem, E0, E1, E2, E3]) rfl ⟨rfl, set4_below B2 (by first | exact Nat.le_refl _ | omega | (skip; omega)) _ _ _ _⟩
      · have K1 := box (fun w => rTwo b n d e s t c m f g p q ⟨#[]⟩ ⟨#[]⟩ 0 4 hs ht hp hq l1 l2 l3 l4 ha (by unfold twX; rw [hA, hB, if_neg h12]) w)
        rw [if_neg (fun h => h12 ⟨h.1, h.2.1⟩)] at hr2
        obtain ⟨rfl, rfl, rfl, rfl, rfl⟩ := xz_is hr2
        rw [nbA_zero] at hu hv
        subst hu hv
        clear hs ht hp hq hx hy hr hr2 n0 m0 l1 l2 l3 l4 d1 d2 hA hB hS hZ hS2 hZ2 h12 ha hL
        obtain ⟨Rx_0, Ry_0, Rz_0, B0⟩ := opn3 w (Obj.cells #[.bool b, .string s, .string t, .int .i64 e] 70) (Obj.cells #[.bool c, .string p, .string q, .int .i64 g] 70) (Obj.cells #[.bool false, .string ⟨#[]⟩, .string ⟨#[]⟩, .int .i64 0] 70)
        go_enter Tryz.func54, Tryz.ntmps54
        go_wp2_with fail
        refine (K1.out _).mono ?_
        rintro r w1 ⟨rfl, b1⟩
        have B1 : Below w.heap.size w w1 := btr B0 b1
        have Rx_1 := heap_of b1 _ _ _ Rx_0
        have Ry_1 := heap_of b1 _ _ _ Ry_0
        have Rz_1 := heap_of b1 _ _ _ Rz_0
        clear b1 B0 Rx_0 Ry_0 Rz_0
        obtain ⟨cx_1_0, cx_1_1, cx_1_2, cx_1_3⟩ := cells4s Rx_1
        obtain ⟨cy_1_0, cy_1_1, cy_1_2, cy_1_3⟩ := cells4s Ry_1
        obtain ⟨cz_1_0, cz_1_1, cz_1_2, cz_1_3⟩ := cells4s Rz_1
        have q0 := fz (k := 0) Rz_1
        have q1 := fz (k := 1) Rz_1
        have q2 := fz (k := 2) Rz_1
        have q3 := fz (k := 3) Rz_1
        obtain ⟨E0, E1, E2, E3⟩ := set4_cells Rz_1 rfl (.bool false) (.string ⟨#[]⟩) (.string ⟨#[]⟩) (.int .i64 0)
        go_wp2
        exact bodyPost_ret (v := .tuple #[.agg #[.bool false, .string ⟨#[]⟩, .string ⟨#[]⟩, .int .i64 0], .int .i64 4]) (by simp [results, Tryz.results54, go_sem, E0, E1, E2, E3]) rfl ⟨rfl, set4_below B1 (by first | exact Nat.le_refl _ | omega | (skip; omega)) _ _ _ _⟩

end Go.Proofs.YtapikkbifdldfaaGreatDoor
