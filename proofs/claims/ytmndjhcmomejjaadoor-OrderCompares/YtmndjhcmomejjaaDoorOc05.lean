/-
  What the functions that the statement reaches return: part 5 (Y5, Y6, S1, S2, S3).
-/
import Derived.Lib.MinMax
import Derived.Test.YtmndjhcmomejjaaDoorOc04
namespace Go.Proofs.YtmndjhcmomejjaaDoor
set_option maxRecDepth 100000
set_option maxHeartbeats 40000000
set_option maxRecDepth 100000
open Go.RowKit WMath XMath
theorem results_tmp4 {fn : Func} {t u v x : Tmp} (h : fn.results = #[.tmp t, .tmp u, .tmp v, .tmp x]) (tmps : Array Value) (P : Program) (w : World) :
    (results fn tmps).run P w = .ok (.tuple #[tmps.getD t undef, tmps.getD u undef, tmps.getD v undef, tmps.getD x undef]) w := by
  simp [results, h]
def twX (x y : XN) : (ByteArray × ByteArray) × (Int × Int) := if nl (XMath.sA x y) ≤ 16384 ∧ nl (XMath.sA y x) ≤ 16384 then ((nbA (XMath.sA x y), nbA (XMath.sA y x)), (min x.e y.e, 0)) else ((⟨#[]⟩, ⟨#[]⟩), (0, 4))
theorem lf_is (a k : Nat) (v : ByteArray) (er : Int) (h : lg (a * 2 ^ k) = (v, er)) : lf a (k : Int) = (v, er) := by
  unfold lf
  rw [if_neg (by omega), Int.toNat_natCast]
  exact h
theorem lg_err (n : Nat) (v : ByteArray) (er : Int) (h : lg n = (v, er)) : (nl n ≤ 16384 ∧ nbA n = v ∧ er = 0) ∨ (¬ nl n ≤ 16384 ∧ v = ⟨#[]⟩ ∧ er = 4) := by
  unfold lg at h
  split at h
  · cases h
    exact Or.inl ⟨by assumption, rfl, rfl⟩
  · cases h
    exact Or.inr ⟨by assumption, rfl, rfl⟩

set_option maxRecDepth 100000 in
set_option maxHeartbeats 2000000 in
theorem rTwo (b : Bool) (n d : Nat) (e : Int) (s t : ByteArray) (c : Bool) (m f : Nat) (g : Int) (p q : ByteArray) (u v : ByteArray) (L er : Int)
    (hs : nbA n = s) (ht : nbA d = t) (hp : nbA m = p) (hq : nbA f = q) (ln : nl n ≤ 16384) (ld : nl d ≤ 16384) (lm : nl m ≤ 16384) (lf : nl f ≤ 16384) (he : -1048576 ≤ e ∧ e ≤ 1048576 ∧ -1048576 ≤ g ∧ g ≤ 1048576)
    (hr : twX (XN.mk b n d e) (XN.mk c m f g) = ((u, v), (L, er))) (w : World) :
    Calls Tryd.prog 57 #[.agg #[.bool b, .string s, .string t, .int .i64 e], .agg #[.bool c, .string p, .string q, .int .i64 g]] w fun r w' => r = .returned (.tuple #[.string u, .string v, .int .i64 L, .int .i64 er]) ∧ Below w.heap.size w w' := by
  obtain ⟨K, hK⟩ : ∃ K, min e g = K := ⟨_, rfl⟩
  obtain ⟨i, hi⟩ : ∃ i, (e - K).toNat = i := ⟨_, rfl⟩
  obtain ⟨j, hj⟩ : ∃ i, (g - K).toNat = i := ⟨_, rfl⟩
  have eA : XMath.sA (XN.mk b n d e) (XN.mk c m f g) = n * f * 2 ^ i := by unfold XMath.sA; show n * f * 2 ^ (e - min e g).toNat = _; rw [hK, hi]
  have eB : XMath.sA (XN.mk c m f g) (XN.mk b n d e) = m * d * 2 ^ j := by unfold XMath.sA; show m * d * 2 ^ (g - min g e).toNat = _; rw [Int.min_comm g e, hK, hj]
  unfold twX at hr
  rw [eA, eB] at hr
  have hr2 : (if nl (n * f * 2 ^ i) ≤ 16384 ∧ nl (m * d * 2 ^ j) ≤ 16384 then ((nbA (n * f * 2 ^ i), nbA (m * d * 2 ^ j)), (K, (0 : Int))) else ((⟨#[]⟩, ⟨#[]⟩), (0, 4))) = ((u, v), (L, er)) := by rw [← hK]; exact hr
  clear hr eA eB
  have n1 : IntKind.i64.wrap (e - K) = (i : Int) := by rw [wrap_i64_is _ (by omega) (by omega)]; omega
  have n2 : IntKind.i64.wrap (g - K) = (j : Int) := by rw [wrap_i64_is _ (by omega) (by omega)]; omega
  have i2 : i ≤ 100000000 := by omega
  have j2 : j ≤ 100000000 := by omega
  have HS := box hs
  have HT := box ht
  have HP := box hp
  have HQ := box hq
  have LN : Box (nl n ≤ 20000) := box (by omega)
  have LD : Box (nl d ≤ 20000) := box (by omega)
  have LM : Box (nl m ≤ 20000) := box (by omega)
  have LF : Box (nl f ≤ 20000) := box (by omega)
  have hk : (g = K ∧ decide (g < e) = true ∧ j = 0) ∨ (e = K ∧ decide (g < e) = false ∧ i = 0) := by
    by_cases h : g < e
    · exact Or.inl ⟨by omega, decide_eq_true h, by omega⟩
    · exact Or.inr ⟨by omega, decide_eq_false h, by omega⟩
  obtain ⟨x, ex, hx⟩ : ∃ x ex, lg (n * f) = (x, ex) := ⟨_, _, rfl⟩
  obtain ⟨y, ey, hy⟩ : ∃ x ex, lg (m * d) = (x, ex) := ⟨_, _, rfl⟩
  have HX := box hx
  have HY := box hy
  rcases lg_err _ _ _ hx with ⟨l1, hx1, rfl⟩ | ⟨l1, rfl, rfl⟩
  · rcases lg_err _ _ _ hy with ⟨l2, hy1, rfl⟩ | ⟨l2, rfl, rfl⟩
    · obtain ⟨x', ex', hx'⟩ : ∃ x ex, lg (n * f * 2 ^ i) = (x, ex) := ⟨_, _, rfl⟩
      obtain ⟨y', ey', hy'⟩ : ∃ x ex, lg (m * d * 2 ^ j) = (x, ex) := ⟨_, _, rfl⟩
      have F1 := box (lf_is _ _ _ _ hx')
      have F2 := box (lf_is _ _ _ _ hy')
      have H1 := box hx1
      have H2 := box hy1
      have L1 := box l1
      have L2 := box l2
      rcases lg_err _ _ _ hx' with ⟨l3, hx3, rfl⟩ | ⟨l3, rfl, rfl⟩
      · rcases lg_err _ _ _ hy' with ⟨l4, hy3, rfl⟩ | ⟨l4, rfl, rfl⟩
        · rw [if_pos ⟨l3, l4⟩, hx3, hy3] at hr2
          cases hr2
          clear hs ht hp hq ln ld lm lf he hK hi hj hx hy l1 l2 l3 l4 hx1 hy1 hx3 hy3 hx' hy'
          rcases hk with ⟨rfl, dk, rfl⟩ | ⟨rfl, dk, rfl⟩
          · skip
            obtain ⟨Rx_0, Ry_0, B0⟩ := opn2 w (Obj.cells #[.bool b, .string s, .string t, .int .i64 e] 60) (Obj.cells #[.bool c, .string p, .string q, .int .i64 g] 60)
            go_enter Tryd.func57, Tryd.ntmps57
            go_wp2_with fail
            refine (nat_Mul n f s q x 0 HS.out HQ.out HX.out LN.out LF.out _).mono ?_
            rintro r w1 ⟨rfl, b1⟩
            have B1 : Below w.heap.size w w1 := btr B0 b1
            have Rx_1 := heap_of b1 _ _ _ Rx_0
            have Ry_1 := heap_of b1 _ _ _ Ry_0
            clear b1 B0 Rx_0 Ry_0
            obtain ⟨cx_1_0, cx_1_1, cx_1_2, cx_1_3⟩ := cells4s Rx_1
            obtain ⟨cy_1_0, cy_1_1, cy_1_2, cy_1_3⟩ := cells4s Ry_1
            go_wp2_with fail
            refine (nat_Mul m d p t y 0 HP.out HT.out HY.out LM.out LD.out _).mono ?_
            rintro r w2 ⟨rfl, b2⟩
            have B2 : Below w.heap.size w w2 := btr B1 b2
            have Rx_2 := heap_of b2 _ _ _ Rx_1
            have Ry_2 := heap_of b2 _ _ _ Ry_1
            clear b2 B1 Rx_1 cx_1_0 cx_1_1 cx_1_2 cx_1_3 Ry_1 cy_1_0 cy_1_1 cy_1_2 cy_1_3
            obtain ⟨cx_2_0, cx_2_1, cx_2_2, cx_2_3⟩ := cells4s Rx_2
            obtain ⟨cy_2_0, cy_2_1, cy_2_2, cy_2_3⟩ := cells4s Ry_2
            go_wp2_with fail
            refine (nat_Left (n * f) (i : Int) x u 0 H1.out L1.out (by omega) F1.out _).mono ?_
            rintro r w3 ⟨rfl, b3⟩
            have B3 : Below w.heap.size w w3 := btr B2 b3
            have Rx_3 := heap_of b3 _ _ _ Rx_2
            have Ry_3 := heap_of b3 _ _ _ Ry_2
            clear b3 B2 Rx_2 cx_2_0 cx_2_1 cx_2_2 cx_2_3 Ry_2 cy_2_0 cy_2_1 cy_2_2 cy_2_3
            obtain ⟨cx_3_0, cx_3_1, cx_3_2, cx_3_3⟩ := cells4s Rx_3
            obtain ⟨cy_3_0, cy_3_1, cy_3_2, cy_3_3⟩ := cells4s Ry_3
            go_wp2_with fail
            refine (nat_Left (m * d) 0 y v 0 H2.out L2.out (by omega) (show lf (m * d) 0 = _ from F2.out) _).mono ?_
            rintro r w4 ⟨rfl, b4⟩
            have B4 : Below w.heap.size w w4 := btr B3 b4
            have Rx_4 := heap_of b4 _ _ _ Rx_3
            have Ry_4 := heap_of b4 _ _ _ Ry_3
            clear b4 B3 Rx_3 cx_3_0 cx_3_1 cx_3_2 cx_3_3 Ry_3 cy_3_0 cy_3_1 cy_3_2 cy_3_3
            obtain ⟨cx_4_0, cx_4_1, cx_4_2, cx_4_3⟩ := cells4s Rx_4
            obtain ⟨cy_4_0, cy_4_1, cy_4_2, cy_4_3⟩ := cells4s Ry_4
            go_wp2
            try simp only [Exit.inBlock, Exit.then]
            refine bodyPost_ret (results_tmp4 rfl _ _ _) rfl ?_
            exact ⟨rfl, B4⟩
          · skip
            obtain ⟨Rx_0, Ry_0, B0⟩ := opn2 w (Obj.cells #[.bool b, .string s, .string t, .int .i64 e] 60) (Obj.cells #[.bool c, .string p, .string q, .int .i64 g] 60)
            go_enter Tryd.func57, Tryd.ntmps57
            go_wp2_with fail
            refine (nat_Mul n f s q x 0 HS.out HQ.out HX.out LN.out LF.out _).mono ?_
            rintro r w1 ⟨rfl, b1⟩
            have B1 : Below w.heap.size w w1 := btr B0 b1
            have Rx_1 := heap_of b1 _ _ _ Rx_0
            have Ry_1 := heap_of b1 _ _ _ Ry_0
            clear b1 B0 Rx_0 Ry_0
            obtain ⟨cx_1_0, cx_1_1, cx_1_2, cx_1_3⟩ := cells4s Rx_1
            obtain ⟨cy_1_0, cy_1_1, cy_1_2, cy_1_3⟩ := cells4s Ry_1
            go_wp2_with fail
            refine (nat_Mul m d p t y 0 HP.out HT.out HY.out LM.out LD.out _).mono ?_
            rintro r w2 ⟨rfl, b2⟩
            have B2 : Below w.heap.size w w2 := btr B1 b2
            have Rx_2 := heap_of b2 _ _ _ Rx_1
            have Ry_2 := heap_of b2 _ _ _ Ry_1
            clear b2 B1 Rx_1 cx_1_0 cx_1_1 cx_1_2 cx_1_3 Ry_1 cy_1_0 cy_1_1 cy_1_2 cy_1_3
            obtain ⟨cx_2_0, cx_2_1, cx_2_2, cx_2_3⟩ := cells4s Rx_2
            obtain ⟨cy_2_0, cy_2_1, cy_2_2, cy_2_3⟩ := cells4s Ry_2
            go_wp2_with fail
            refine (nat_Left (n * f) 0 x u 0 H1.out L1.out (by omega) (show lf (n * f) 0 = _ from F1.out) _).mono ?_
            rintro r w3 ⟨rfl, b3⟩
            have B3 : Below w.heap.size w w3 := btr B2 b3
            have Rx_3 := heap_of b3 _ _ _ Rx_2
            have Ry_3 := heap_of b3 _ _ _ Ry_2
            clear b3 B2 Rx_2 cx_2_0 cx_2_1 cx_2_2 cx_2_3 Ry_2 cy_2_0 cy_2_1 cy_2_2 cy_2_3
            obtain ⟨cx_3_0, cx_3_1, cx_3_2, cx_3_3⟩ := cells4s Rx_3
            obtain ⟨cy_3_0, cy_3_1, cy_3_2, cy_3_3⟩ := cells4s Ry_3
            go_wp2_with fail
            refine (nat_Left (m * d) (j : Int) y v 0 H2.out L2.out (by omega) F2.out _).mono ?_
            rintro r w4 ⟨rfl, b4⟩
            have B4 : Below w.heap.size w w4 := btr B3 b4
            have Rx_4 := heap_of b4 _ _ _ Rx_3
            have Ry_4 := heap_of b4 _ _ _ Ry_3
            clear b4 B3 Rx_3 cx_3_0 cx_3_1 cx_3_2 cx_3_3 Ry_3 cy_3_0 cy_3_1 cy_3_2 cy_3_3
            obtain ⟨cx_4_0, cx_4_1, cx_4_2, cx_4_3⟩ := cells4s Rx_4
            obtain ⟨cy_4_0, cy_4_1, cy_4_2, cy_4_3⟩ := cells4s Ry_4
            go_wp2
            try simp only [Exit.inBlock, Exit.then]
            refine bodyPost_ret (results_tmp4 rfl _ _ _) rfl ?_
            exact ⟨rfl, B4⟩
        · rw [if_neg (fun h => l4 h.2)] at hr2
          cases hr2
          clear hs ht hp hq ln ld lm lf he hK hi hj hx hy l1 l2 l3 l4 hx1 hy1 hx3 hx' hy'
          rcases hk with ⟨rfl, dk, rfl⟩ | ⟨rfl, dk, rfl⟩
          · skip
            obtain ⟨Rx_0, Ry_0, B0⟩ := opn2 w (Obj.cells #[.bool b, .string s, .string t, .int .i64 e] 60) (Obj.cells #[.bool c, .string p, .string q, .int .i64 g] 60)
            go_enter Tryd.func57, Tryd.ntmps57
            go_wp2_with fail
            refine (nat_Mul n f s q x 0 HS.out HQ.out HX.out LN.out LF.out _).mono ?_
            rintro r w1 ⟨rfl, b1⟩
            have B1 : Below w.heap.size w w1 := btr B0 b1
            have Rx_1 := heap_of b1 _ _ _ Rx_0
            have Ry_1 := heap_of b1 _ _ _ Ry_0
            clear b1 B0 Rx_0 Ry_0
            obtain ⟨cx_1_0, cx_1_1, cx_1_2, cx_1_3⟩ := cells4s Rx_1
            obtain ⟨cy_1_0, cy_1_1, cy_1_2, cy_1_3⟩ := cells4s Ry_1
            go_wp2_with fail
            refine (nat_Mul m d p t y 0 HP.out HT.out HY.out LM.out LD.out _).mono ?_
            rintro r w2 ⟨rfl, b2⟩
            have B2 : Below w.heap.size w w2 := btr B1 b2
            have Rx_2 := heap_of b2 _ _ _ Rx_1
            have Ry_2 := heap_of b2 _ _ _ Ry_1
            clear b2 B1 Rx_1 cx_1_0 cx_1_1 cx_1_2 cx_1_3 Ry_1 cy_1_0 cy_1_1 cy_1_2 cy_1_3
            obtain ⟨cx_2_0, cx_2_1, cx_2_2, cx_2_3⟩ := cells4s Rx_2
            obtain ⟨cy_2_0, cy_2_1, cy_2_2, cy_2_3⟩ := cells4s Ry_2
            go_wp2_with fail
            refine (nat_Left (n * f) (i : Int) x x' 0 H1.out L1.out (by omega) F1.out _).mono ?_
            rintro r w3 ⟨rfl, b3⟩
            have B3 : Below w.heap.size w w3 := btr B2 b3
            have Rx_3 := heap_of b3 _ _ _ Rx_2
            have Ry_3 := heap_of b3 _ _ _ Ry_2
            clear b3 B2 Rx_2 cx_2_0 cx_2_1 cx_2_2 cx_2_3 Ry_2 cy_2_0 cy_2_1 cy_2_2 cy_2_3
            obtain ⟨cx_3_0, cx_3_1, cx_3_2, cx_3_3⟩ := cells4s Rx_3
            obtain ⟨cy_3_0, cy_3_1, cy_3_2, cy_3_3⟩ := cells4s Ry_3
            go_wp2_with fail
            refine (nat_Left (m * d) 0 y _ 4 H2.out L2.out (by omega) (show lf (m * d) 0 = _ from F2.out) _).mono ?_
            rintro r w4 ⟨rfl, b4⟩
            have B4 : Below w.heap.size w w4 := btr B3 b4
            have Rx_4 := heap_of b4 _ _ _ Rx_3
            have Ry_4 := heap_of b4 _ _ _ Ry_3
            clear b4 B3 Rx_3 cx_3_0 cx_3_1 cx_3_2 cx_3_3 Ry_3 cy_3_0 cy_3_1 cy_3_2 cy_3_3
            obtain ⟨cx_4_0, cx_4_1, cx_4_2, cx_4_3⟩ := cells4s Rx_4
            obtain ⟨cy_4_0, cy_4_1, cy_4_2, cy_4_3⟩ := cells4s Ry_4
            go_wp2
            try simp only [Exit.inBlock, Exit.then]
            refine bodyPost_ret (results_tmp4 rfl _ _ _) rfl ?_
            exact ⟨rfl, B4⟩
          · skip
            obtain ⟨Rx_0, Ry_0, B0⟩ := opn2 w (Obj.cells #[.bool b, .string s, .string t, .int .i64 e] 60) (Obj.cells #[.bool c, .string p, .string q, .int .i64 g] 60)
            go_enter Tryd.func57, Tryd.ntmps57
            go_wp2_with fail
            refine (nat_Mul n f s q x 0 HS.out HQ.out HX.out LN.out LF.out _).mono ?_
            rintro r w1 ⟨rfl, b1⟩
            have B1 : Below w.heap.size w w1 := btr B0 b1
            have Rx_1 := heap_of b1 _ _ _ Rx_0
            have Ry_1 := heap_of b1 _ _ _ Ry_0
            clear b1 B0 Rx_0 Ry_0
            obtain ⟨cx_1_0, cx_1_1, cx_1_2, cx_1_3⟩ := cells4s Rx_1
            obtain ⟨cy_1_0, cy_1_1, cy_1_2, cy_1_3⟩ := cells4s Ry_1
            go_wp2_with fail
            refine (nat_Mul m d p t y 0 HP.out HT.out HY.out LM.out LD.out _).mono ?_
            rintro r w2 ⟨rfl, b2⟩
            have B2 : Below w.heap.size w w2 := btr B1 b2
            have Rx_2 := heap_of b2 _ _ _ Rx_1
            have Ry_2 := heap_of b2 _ _ _ Ry_1
            clear b2 B1 Rx_1 cx_1_0 cx_1_1 cx_1_2 cx_1_3 Ry_1 cy_1_0 cy_1_1 cy_1_2 cy_1_3
            obtain ⟨cx_2_0, cx_2_1, cx_2_2, cx_2_3⟩ := cells4s Rx_2
            obtain ⟨cy_2_0, cy_2_1, cy_2_2, cy_2_3⟩ := cells4s Ry_2
            go_wp2_with fail
            refine (nat_Left (n * f) 0 x x' 0 H1.out L1.out (by omega) (show lf (n * f) 0 = _ from F1.out) _).mono ?_
            rintro r w3 ⟨rfl, b3⟩
            have B3 : Below w.heap.size w w3 := btr B2 b3
            have Rx_3 := heap_of b3 _ _ _ Rx_2
            have Ry_3 := heap_of b3 _ _ _ Ry_2
            clear b3 B2 Rx_2 cx_2_0 cx_2_1 cx_2_2 cx_2_3 Ry_2 cy_2_0 cy_2_1 cy_2_2 cy_2_3
            obtain ⟨cx_3_0, cx_3_1, cx_3_2, cx_3_3⟩ := cells4s Rx_3
            obtain ⟨cy_3_0, cy_3_1, cy_3_2, cy_3_3⟩ := cells4s Ry_3
            go_wp2_with fail
            refine (nat_Left (m * d) (j : Int) y _ 4 H2.out L2.out (by omega) F2.out _).mono ?_
            rintro r w4 ⟨rfl, b4⟩
            have B4 : Below w.heap.size w w4 := btr B3 b4
            have Rx_4 := heap_of b4 _ _ _ Rx_3
            have Ry_4 := heap_of b4 _ _ _ Ry_3
            clear b4 B3 Rx_3 cx_3_0 cx_3_1 cx_3_2 cx_3_3 Ry_3 cy_3_0 cy_3_1 cy_3_2 cy_3_3
            obtain ⟨cx_4_0, cx_4_1, cx_4_2, cx_4_3⟩ := cells4s Rx_4
            obtain ⟨cy_4_0, cy_4_1, cy_4_2, cy_4_3⟩ := cells4s Ry_4
            go_wp2
            try simp only [Exit.inBlock, Exit.then]
            refine bodyPost_ret (results_tmp4 rfl _ _ _) rfl ?_
            exact ⟨rfl, B4⟩
      · rw [if_neg (fun h => l3 h.1)] at hr2
        cases hr2
        clear hs ht hp hq ln ld lm lf he hK hi hj hx hy l1 l2 l3 hx1 hy1 hx' hy'
        rcases hk with ⟨rfl, dk, rfl⟩ | ⟨rfl, dk, rfl⟩
        · skip
          obtain ⟨Rx_0, Ry_0, B0⟩ := opn2 w (Obj.cells #[.bool b, .string s, .string t, .int .i64 e] 60) (Obj.cells #[.bool c, .string p, .string q, .int .i64 g] 60)
          go_enter Tryd.func57, Tryd.ntmps57
          go_wp2_with fail
          refine (nat_Mul n f s q x 0 HS.out HQ.out HX.out LN.out LF.out _).mono ?_
          rintro r w1 ⟨rfl, b1⟩
          have B1 : Below w.heap.size w w1 := btr B0 b1
          have Rx_1 := heap_of b1 _ _ _ Rx_0
          have Ry_1 := heap_of b1 _ _ _ Ry_0
          clear b1 B0 Rx_0 Ry_0
          obtain ⟨cx_1_0, cx_1_1, cx_1_2, cx_1_3⟩ := cells4s Rx_1
          obtain ⟨cy_1_0, cy_1_1, cy_1_2, cy_1_3⟩ := cells4s Ry_1
          go_wp2_with fail
          refine (nat_Mul m d p t y 0 HP.out HT.out HY.out LM.out LD.out _).mono ?_
          rintro r w2 ⟨rfl, b2⟩
          have B2 : Below w.heap.size w w2 := btr B1 b2
          have Rx_2 := heap_of b2 _ _ _ Rx_1
          have Ry_2 := heap_of b2 _ _ _ Ry_1
          clear b2 B1 Rx_1 cx_1_0 cx_1_1 cx_1_2 cx_1_3 Ry_1 cy_1_0 cy_1_1 cy_1_2 cy_1_3
          obtain ⟨cx_2_0, cx_2_1, cx_2_2, cx_2_3⟩ := cells4s Rx_2
          obtain ⟨cy_2_0, cy_2_1, cy_2_2, cy_2_3⟩ := cells4s Ry_2
          go_wp2_with fail
          refine (nat_Left (n * f) (i : Int) x _ 4 H1.out L1.out (by omega) F1.out _).mono ?_
          rintro r w3 ⟨rfl, b3⟩
          have B3 : Below w.heap.size w w3 := btr B2 b3
          have Rx_3 := heap_of b3 _ _ _ Rx_2
          have Ry_3 := heap_of b3 _ _ _ Ry_2
          clear b3 B2 Rx_2 cx_2_0 cx_2_1 cx_2_2 cx_2_3 Ry_2 cy_2_0 cy_2_1 cy_2_2 cy_2_3
          obtain ⟨cx_3_0, cx_3_1, cx_3_2, cx_3_3⟩ := cells4s Rx_3
          obtain ⟨cy_3_0, cy_3_1, cy_3_2, cy_3_3⟩ := cells4s Ry_3
          go_wp2_with fail
          refine (nat_Left (m * d) 0 y y' ey' H2.out L2.out (by omega) (show lf (m * d) 0 = _ from F2.out) _).mono ?_
          rintro r w4 ⟨rfl, b4⟩
          have B4 : Below w.heap.size w w4 := btr B3 b4
          have Rx_4 := heap_of b4 _ _ _ Rx_3
          have Ry_4 := heap_of b4 _ _ _ Ry_3
          clear b4 B3 Rx_3 cx_3_0 cx_3_1 cx_3_2 cx_3_3 Ry_3 cy_3_0 cy_3_1 cy_3_2 cy_3_3
          obtain ⟨cx_4_0, cx_4_1, cx_4_2, cx_4_3⟩ := cells4s Rx_4
          obtain ⟨cy_4_0, cy_4_1, cy_4_2, cy_4_3⟩ := cells4s Ry_4
          go_wp2
          try simp only [Exit.inBlock, Exit.then]
          refine bodyPost_ret (results_tmp4 rfl _ _ _) rfl ?_
          exact ⟨rfl, B4⟩
        · skip
          obtain ⟨Rx_0, Ry_0, B0⟩ := opn2 w (Obj.cells #[.bool b, .string s, .string t, .int .i64 e] 60) (Obj.cells #[.bool c, .string p, .string q, .int .i64 g] 60)
          go_enter Tryd.func57, Tryd.ntmps57
          go_wp2_with fail
          refine (nat_Mul n f s q x 0 HS.out HQ.out HX.out LN.out LF.out _).mono ?_
          rintro r w1 ⟨rfl, b1⟩
          have B1 : Below w.heap.size w w1 := btr B0 b1
          have Rx_1 := heap_of b1 _ _ _ Rx_0
          have Ry_1 := heap_of b1 _ _ _ Ry_0
          clear b1 B0 Rx_0 Ry_0
          obtain ⟨cx_1_0, cx_1_1, cx_1_2, cx_1_3⟩ := cells4s Rx_1
          obtain ⟨cy_1_0, cy_1_1, cy_1_2, cy_1_3⟩ := cells4s Ry_1
          go_wp2_with fail
          refine (nat_Mul m d p t y 0 HP.out HT.out HY.out LM.out LD.out _).mono ?_
          rintro r w2 ⟨rfl, b2⟩
          have B2 : Below w.heap.size w w2 := btr B1 b2
          have Rx_2 := heap_of b2 _ _ _ Rx_1
          have Ry_2 := heap_of b2 _ _ _ Ry_1
          clear b2 B1 Rx_1 cx_1_0 cx_1_1 cx_1_2 cx_1_3 Ry_1 cy_1_0 cy_1_1 cy_1_2 cy_1_3
          obtain ⟨cx_2_0, cx_2_1, cx_2_2, cx_2_3⟩ := cells4s Rx_2
          obtain ⟨cy_2_0, cy_2_1, cy_2_2, cy_2_3⟩ := cells4s Ry_2
          go_wp2_with fail
          refine (nat_Left (n * f) 0 x _ 4 H1.out L1.out (by omega) (show lf (n * f) 0 = _ from F1.out) _).mono ?_
          rintro r w3 ⟨rfl, b3⟩
          have B3 : Below w.heap.size w w3 := btr B2 b3
          have Rx_3 := heap_of b3 _ _ _ Rx_2
          have Ry_3 := heap_of b3 _ _ _ Ry_2
          clear b3 B2 Rx_2 cx_2_0 cx_2_1 cx_2_2 cx_2_3 Ry_2 cy_2_0 cy_2_1 cy_2_2 cy_2_3
          obtain ⟨cx_3_0, cx_3_1, cx_3_2, cx_3_3⟩ := cells4s Rx_3
          obtain ⟨cy_3_0, cy_3_1, cy_3_2, cy_3_3⟩ := cells4s Ry_3
          go_wp2_with fail
          refine (nat_Left (m * d) (j : Int) y y' ey' H2.out L2.out (by omega) F2.out _).mono ?_
          rintro r w4 ⟨rfl, b4⟩
          have B4 : Below w.heap.size w w4 := btr B3 b4
          have Rx_4 := heap_of b4 _ _ _ Rx_3
          have Ry_4 := heap_of b4 _ _ _ Ry_3
          clear b4 B3 Rx_3 cx_3_0 cx_3_1 cx_3_2 cx_3_3 Ry_3 cy_3_0 cy_3_1 cy_3_2 cy_3_3
          obtain ⟨cx_4_0, cx_4_1, cx_4_2, cx_4_3⟩ := cells4s Rx_4
          obtain ⟨cy_4_0, cy_4_1, cy_4_2, cy_4_3⟩ := cells4s Ry_4
          go_wp2
          try simp only [Exit.inBlock, Exit.then]
          refine bodyPost_ret (results_tmp4 rfl _ _ _) rfl ?_
          exact ⟨rfl, B4⟩
    · rw [if_neg (fun h => l2 (Nat.le_trans (nl_mono _ _ (mul_pow_le _ _)) h.2))] at hr2
      cases hr2
      clear hs ht hp hq ln ld lm lf he hK hi hj hx hy l1 l2 hx1
      rcases hk with ⟨rfl, dk, rfl⟩ | ⟨rfl, dk, rfl⟩
      · skip
        obtain ⟨Rx_0, Ry_0, B0⟩ := opn2 w (Obj.cells #[.bool b, .string s, .string t, .int .i64 e] 60) (Obj.cells #[.bool c, .string p, .string q, .int .i64 g] 60)
        go_enter Tryd.func57, Tryd.ntmps57
        go_wp2_with fail
        refine (nat_Mul n f s q x 0 HS.out HQ.out HX.out LN.out LF.out _).mono ?_
        rintro r w1 ⟨rfl, b1⟩
        have B1 : Below w.heap.size w w1 := btr B0 b1
        have Rx_1 := heap_of b1 _ _ _ Rx_0
        have Ry_1 := heap_of b1 _ _ _ Ry_0
        clear b1 B0 Rx_0 Ry_0
        obtain ⟨cx_1_0, cx_1_1, cx_1_2, cx_1_3⟩ := cells4s Rx_1
        obtain ⟨cy_1_0, cy_1_1, cy_1_2, cy_1_3⟩ := cells4s Ry_1
        go_wp2_with fail
        refine (nat_Mul m d p t _ 4 HP.out HT.out HY.out LM.out LD.out _).mono ?_
        rintro r w2 ⟨rfl, b2⟩
        have B2 : Below w.heap.size w w2 := btr B1 b2
        have Rx_2 := heap_of b2 _ _ _ Rx_1
        have Ry_2 := heap_of b2 _ _ _ Ry_1
        clear b2 B1 Rx_1 cx_1_0 cx_1_1 cx_1_2 cx_1_3 Ry_1 cy_1_0 cy_1_1 cy_1_2 cy_1_3
        obtain ⟨cx_2_0, cx_2_1, cx_2_2, cx_2_3⟩ := cells4s Rx_2
        obtain ⟨cy_2_0, cy_2_1, cy_2_2, cy_2_3⟩ := cells4s Ry_2
        go_wp2
        try simp only [Exit.inBlock, Exit.then]
        refine bodyPost_ret (results_tmp4 rfl _ _ _) rfl ?_
        exact ⟨rfl, B2⟩
      · skip
        obtain ⟨Rx_0, Ry_0, B0⟩ := opn2 w (Obj.cells #[.bool b, .string s, .string t, .int .i64 e] 60) (Obj.cells #[.bool c, .string p, .string q, .int .i64 g] 60)
        go_enter Tryd.func57, Tryd.ntmps57
        go_wp2_with fail
        refine (nat_Mul n f s q x 0 HS.out HQ.out HX.out LN.out LF.out _).mono ?_
        rintro r w1 ⟨rfl, b1⟩
        have B1 : Below w.heap.size w w1 := btr B0 b1
        have Rx_1 := heap_of b1 _ _ _ Rx_0
        have Ry_1 := heap_of b1 _ _ _ Ry_0
        clear b1 B0 Rx_0 Ry_0
        obtain ⟨cx_1_0, cx_1_1, cx_1_2, cx_1_3⟩ := cells4s Rx_1
        obtain ⟨cy_1_0, cy_1_1, cy_1_2, cy_1_3⟩ := cells4s Ry_1
        go_wp2_with fail
        refine (nat_Mul m d p t _ 4 HP.out HT.out HY.out LM.out LD.out _).mono ?_
        rintro r w2 ⟨rfl, b2⟩
        have B2 : Below w.heap.size w w2 := btr B1 b2
        have Rx_2 := heap_of b2 _ _ _ Rx_1
        have Ry_2 := heap_of b2 _ _ _ Ry_1
        clear b2 B1 Rx_1 cx_1_0 cx_1_1 cx_1_2 cx_1_3 Ry_1 cy_1_0 cy_1_1 cy_1_2 cy_1_3
        obtain ⟨cx_2_0, cx_2_1, cx_2_2, cx_2_3⟩ := cells4s Rx_2
        obtain ⟨cy_2_0, cy_2_1, cy_2_2, cy_2_3⟩ := cells4s Ry_2
        go_wp2
        try simp only [Exit.inBlock, Exit.then]
        refine bodyPost_ret (results_tmp4 rfl _ _ _) rfl ?_
        exact ⟨rfl, B2⟩
  · rw [if_neg (fun h => l1 (Nat.le_trans (nl_mono _ _ (mul_pow_le _ _)) h.1))] at hr2
    cases hr2
    clear hs ht hp hq ln ld lm lf he hK hi hj hx hy l1
    rcases hk with ⟨rfl, dk, rfl⟩ | ⟨rfl, dk, rfl⟩
    · skip
      obtain ⟨Rx_0, Ry_0, B0⟩ := opn2 w (Obj.cells #[.bool b, .string s, .string t, .int .i64 e] 60) (Obj.cells #[.bool c, .string p, .string q, .int .i64 g] 60)
      go_enter Tryd.func57, Tryd.ntmps57
      go_wp2_with fail
      refine (nat_Mul n f s q _ 4 HS.out HQ.out HX.out LN.out LF.out _).mono ?_
      rintro r w1 ⟨rfl, b1⟩
      have B1 : Below w.heap.size w w1 := btr B0 b1
      have Rx_1 := heap_of b1 _ _ _ Rx_0
      have Ry_1 := heap_of b1 _ _ _ Ry_0
      clear b1 B0 Rx_0 Ry_0
      obtain ⟨cx_1_0, cx_1_1, cx_1_2, cx_1_3⟩ := cells4s Rx_1
      obtain ⟨cy_1_0, cy_1_1, cy_1_2, cy_1_3⟩ := cells4s Ry_1
      go_wp2_with fail
      refine (nat_Mul m d p t y ey HP.out HT.out HY.out LM.out LD.out _).mono ?_
      rintro r w2 ⟨rfl, b2⟩
      have B2 : Below w.heap.size w w2 := btr B1 b2
      have Rx_2 := heap_of b2 _ _ _ Rx_1
      have Ry_2 := heap_of b2 _ _ _ Ry_1
      clear b2 B1 Rx_1 cx_1_0 cx_1_1 cx_1_2 cx_1_3 Ry_1 cy_1_0 cy_1_1 cy_1_2 cy_1_3
      obtain ⟨cx_2_0, cx_2_1, cx_2_2, cx_2_3⟩ := cells4s Rx_2
      obtain ⟨cy_2_0, cy_2_1, cy_2_2, cy_2_3⟩ := cells4s Ry_2
      go_wp2
      try simp only [Exit.inBlock, Exit.then]
      refine bodyPost_ret (results_tmp4 rfl _ _ _) rfl ?_
      exact ⟨rfl, B2⟩
    · skip
      obtain ⟨Rx_0, Ry_0, B0⟩ := opn2 w (Obj.cells #[.bool b, .string s, .string t, .int .i64 e] 60) (Obj.cells #[.bool c, .string p, .string q, .int .i64 g] 60)
      go_enter Tryd.func57, Tryd.ntmps57
      go_wp2_with fail
      refine (nat_Mul n f s q _ 4 HS.out HQ.out HX.out LN.out LF.out _).mono ?_
      rintro r w1 ⟨rfl, b1⟩
      have B1 : Below w.heap.size w w1 := btr B0 b1
      have Rx_1 := heap_of b1 _ _ _ Rx_0
      have Ry_1 := heap_of b1 _ _ _ Ry_0
      clear b1 B0 Rx_0 Ry_0
      obtain ⟨cx_1_0, cx_1_1, cx_1_2, cx_1_3⟩ := cells4s Rx_1
      obtain ⟨cy_1_0, cy_1_1, cy_1_2, cy_1_3⟩ := cells4s Ry_1
      go_wp2_with fail
      refine (nat_Mul m d p t y ey HP.out HT.out HY.out LM.out LD.out _).mono ?_
      rintro r w2 ⟨rfl, b2⟩
      have B2 : Below w.heap.size w w2 := btr B1 b2
      have Rx_2 := heap_of b2 _ _ _ Rx_1
      have Ry_2 := heap_of b2 _ _ _ Ry_1
      clear b2 B1 Rx_1 cx_1_0 cx_1_1 cx_1_2 cx_1_3 Ry_1 cy_1_0 cy_1_1 cy_1_2 cy_1_3
      obtain ⟨cx_2_0, cx_2_1, cx_2_2, cx_2_3⟩ := cells4s Rx_2
      obtain ⟨cy_2_0, cy_2_1, cy_2_2, cy_2_3⟩ := cells4s Ry_2
      go_wp2
      try simp only [Exit.inBlock, Exit.then]
      refine bodyPost_ret (results_tmp4 rfl _ _ _) rfl ?_
      exact ⟨rfl, B2⟩
theorem rsign (b : Bool) (n d : Nat) (e : Int) (s t : ByteArray) (c : Int) (hs : nbA n = s) (ht : nbA d = t) (hc : (XN.mk b n d e).can) (hr : sg (XN.mk b n d e) = c) (w : World) : Calls Tryd.prog 56 #[.agg #[.bool b, .string s, .string t, .int .i64 e]] w fun r w' => r = .returned (.int .i64 c) ∧ Below w.heap.size w w' := by
  rcases x_cases hs ht hc with ⟨n0, rfl, rfl, rfl, rfl, rfl⟩ | ⟨n0, e0⟩
  · have ec : c = 0 := by rw [← hr]; unfold sg; rw [if_pos n0]
    subst ec
    clear hs ht hc hr n0
    obtain ⟨Rx_0, B0⟩ := opn1 w (Obj.cells #[.bool false, .string ⟨#[]⟩, .string ⟨#[1]⟩, .int .i64 0] 60)
    go_enter Tryd.func56, Tryd.ntmps56
    go_wp2
    go_ret
    exact ⟨rfl, B0⟩
  · cases b
    · have ec : c = 1 := by rw [← hr]; unfold sg; rw [if_neg n0]; rfl
      subst ec
      clear hs ht hc hr n0
      obtain ⟨Rx_0, B0⟩ := opn1 w (Obj.cells #[.bool false, .string s, .string t, .int .i64 e] 60)
      go_enter Tryd.func56, Tryd.ntmps56
      go_wp2
      go_ret
      exact ⟨rfl, B0⟩
    · have ec : c = -1 := by rw [← hr]; unfold sg; rw [if_neg n0]; rfl
      subst ec
      clear hs ht hc hr n0
      obtain ⟨Rx_0, B0⟩ := opn1 w (Obj.cells #[.bool true, .string s, .string t, .int .i64 e] 60)
      go_enter Tryd.func56, Tryd.ntmps56
      go_wp2
      go_ret
      exact ⟨rfl, B0⟩

set_option maxRecDepth 100000 in
set_option maxHeartbeats 2000000 in
theorem rCmp_ok (b : Bool) (n d : Nat) (e : Int) (s t : ByteArray) (c : Bool) (m f : Nat) (g : Int) (p q : ByteArray) (k err : Int)
    (hs : nbA n = s) (ht : nbA d = t) (hp : nbA m = p) (hq : nbA f = q) (hx : (XN.mk b n d e).can) (hy : (XN.mk c m f g).can) (hr : cmpX (XN.mk b n d e) (XN.mk c m f g) = (k, err)) (w : World) :
    Calls Tryd.prog 34 #[.agg #[.bool b, .string s, .string t, .int .i64 e], .agg #[.bool c, .string p, .string q, .int .i64 g]] w fun r w' => r = .returned (.tuple #[.int .i64 k, .int .i64 err]) ∧ Below w.heap.size w w' := by
  obtain ⟨S, hS⟩ : ∃ S, sg (XN.mk b n d e) = S := ⟨_, rfl⟩
  obtain ⟨T, hTt⟩ : ∃ S, sg (XN.mk c m f g) = S := ⟨_, rfl⟩
  have HF := box (fun w => rsign b n d e s t S hs ht hx hS w)
  have HG := box (fun w => rsign c m f g p q T hp hq hy hTt w)
  have sb := sg_bd (XN.mk b n d e)
  rw [hS] at sb
  unfold cmpX at hr
  rw [hS, hTt] at hr
  by_cases h1 : S < T
  · rw [if_pos h1] at hr
    cases hr
    have d1 : decide (S < T) = true := decide_eq_true h1
    have d0 : (S == T) = false := by rw [Bool.eq_false_iff]; intro h; exact absurd (show S = T by simpa using h) (by omega)
    have d0' : decide (S = T) = false := decide_eq_false (by omega)
    clear hs ht hp hq hx hy hS hTt h1 sb
    obtain ⟨Rx_0, Ry_0, B0⟩ := opn2 w (Obj.cells #[.bool b, .string s, .string t, .int .i64 e] 60) (Obj.cells #[.bool c, .string p, .string q, .int .i64 g] 60)
    go_enter Tryd.func34, Tryd.ntmps34
    go_wp2_with fail
    obtain ⟨F, hF1, hF2⟩ := below_fun ((w.alloc (Obj.cells #[.bool b, .string s, .string t, .int .i64 e] 60)).alloc (Obj.cells #[.bool c, .string p, .string q, .int .i64 g] 60))
    have fx_0 := fun u => cells4 (heap_of (hF1 u) _ _ _ Rx_0) 0 _ rfl
    have fx_1 := fun u => cells4 (heap_of (hF1 u) _ _ _ Rx_0) 1 _ rfl
    have fx_2 := fun u => cells4 (heap_of (hF1 u) _ _ _ Rx_0) 2 _ rfl
    have fx_3 := fun u => cells4 (heap_of (hF1 u) _ _ _ Rx_0) 3 _ rfl
    have fy_0 := fun u => cells4 (heap_of (hF1 u) _ _ _ Ry_0) 0 _ rfl
    have fy_1 := fun u => cells4 (heap_of (hF1 u) _ _ _ Ry_0) 1 _ rfl
    have fy_2 := fun u => cells4 (heap_of (hF1 u) _ _ _ Ry_0) 2 _ rfl
    have fy_3 := fun u => cells4 (heap_of (hF1 u) _ _ _ Ry_0) 3 _ rfl
    refine wp_region_below F hF2 (by kernel_rfl) (by kernel_rfl) ?_
    repeat first | go_big_quiet_step (first | (go_at_call_of 56 (Value.agg #[.bool b, .string s, .string t, .int .i64 e]); exact quietF hF1 hF2 (HF.out _)) | (go_at_call_of 56 (Value.agg #[.bool c, .string p, .string q, .int .i64 g]); exact quietF hF1 hF2 (HG.out _)) | fail) | quiet_step (first | (go_at_call_of 56 (Value.agg #[.bool b, .string s, .string t, .int .i64 e]); exact quietF hF1 hF2 (HF.out _)) | (go_at_call_of 56 (Value.agg #[.bool c, .string p, .string q, .int .i64 g]); exact quietF hF1 hF2 (HG.out _)) | fail)
    refine wpQuiet_nil ?_
    rintro _ ⟨uW, rfl⟩
    have B1 := btr B0 (hF1 uW)
    have Rx_1 := heap_of (hF1 uW) _ _ _ Rx_0
    have Ry_1 := heap_of (hF1 uW) _ _ _ Ry_0
    obtain ⟨w1, hw⟩ : ∃ V, F uW = V := ⟨_, rfl⟩
    rw [hw] at B1 Rx_1 Ry_1
    try rw [hw]
    clear hw hF1 hF2 B0 fx_0 fx_1 fx_2 fx_3 fy_0 fy_1 fy_2 fy_3 Rx_0 Ry_0
    clear F
    obtain ⟨cx_1_0, cx_1_1, cx_1_2, cx_1_3⟩ := cells4s Rx_1
    obtain ⟨cy_1_0, cy_1_1, cy_1_2, cy_1_3⟩ := cells4s Ry_1
    go_wp2
    go_ret2
    exact ⟨rfl, B1⟩
  rw [if_neg h1] at hr
  have d1 : decide (S < T) = false := decide_eq_false h1
  by_cases h2 : T < S
  · rw [if_pos h2] at hr
    cases hr
    have d2 : decide (T < S) = true := decide_eq_true h2
    have d0 : (S == T) = false := by rw [Bool.eq_false_iff]; intro h; exact absurd (show S = T by simpa using h) (by omega)
    have d0' : decide (S = T) = false := decide_eq_false (by omega)
    clear hs ht hp hq hx hy hS hTt h1 h2 sb
    obtain ⟨Rx_0, Ry_0, B0⟩ := opn2 w (Obj.cells #[.bool b, .string s, .string t, .int .i64 e] 60) (Obj.cells #[.bool c, .string p, .string q, .int .i64 g] 60)
    go_enter Tryd.func34, Tryd.ntmps34
    go_wp2_with fail
    obtain ⟨F, hF1, hF2⟩ := below_fun ((w.alloc (Obj.cells #[.bool b, .string s, .string t, .int .i64 e] 60)).alloc (Obj.cells #[.bool c, .string p, .string q, .int .i64 g] 60))
    have fx_0 := fun u => cells4 (heap_of (hF1 u) _ _ _ Rx_0) 0 _ rfl
    have fx_1 := fun u => cells4 (heap_of (hF1 u) _ _ _ Rx_0) 1 _ rfl
    have fx_2 := fun u => cells4 (heap_of (hF1 u) _ _ _ Rx_0) 2 _ rfl
    have fx_3 := fun u => cells4 (heap_of (hF1 u) _ _ _ Rx_0) 3 _ rfl
    have fy_0 := fun u => cells4 (heap_of (hF1 u) _ _ _ Ry_0) 0 _ rfl
    have fy_1 := fun u => cells4 (heap_of (hF1 u) _ _ _ Ry_0) 1 _ rfl
    have fy_2 := fun u => cells4 (heap_of (hF1 u) _ _ _ Ry_0) 2 _ rfl
    have fy_3 := fun u => cells4 (heap_of (hF1 u) _ _ _ Ry_0) 3 _ rfl
    refine wp_region_below F hF2 (by kernel_rfl) (by kernel_rfl) ?_
    repeat first | go_big_quiet_step (first | (go_at_call_of 56 (Value.agg #[.bool b, .string s, .string t, .int .i64 e]); exact quietF hF1 hF2 (HF.out _)) | (go_at_call_of 56 (Value.agg #[.bool c, .string p, .string q, .int .i64 g]); exact quietF hF1 hF2 (HG.out _)) | fail) | quiet_step (first | (go_at_call_of 56 (Value.agg #[.bool b, .string s, .string t, .int .i64 e]); exact quietF hF1 hF2 (HF.out _)) | (go_at_call_of 56 (Value.agg #[.bool c, .string p, .string q, .int .i64 g]); exact quietF hF1 hF2 (HG.out _)) | fail)
    refine wpQuiet_nil ?_
    rintro _ ⟨uW, rfl⟩
    have B1 := btr B0 (hF1 uW)
    have Rx_1 := heap_of (hF1 uW) _ _ _ Rx_0
    have Ry_1 := heap_of (hF1 uW) _ _ _ Ry_0
    obtain ⟨w1, hw⟩ : ∃ V, F uW = V := ⟨_, rfl⟩
    rw [hw] at B1 Rx_1 Ry_1
    try rw [hw]
    clear hw hF1 hF2 B0 fx_0 fx_1 fx_2 fx_3 fy_0 fy_1 fy_2 fy_3 Rx_0 Ry_0
    clear F
    obtain ⟨cx_1_0, cx_1_1, cx_1_2, cx_1_3⟩ := cells4s Rx_1
    obtain ⟨cy_1_0, cy_1_1, cy_1_2, cy_1_3⟩ := cells4s Ry_1
    go_wp2
    go_ret2
    exact ⟨rfl, B1⟩
  rw [if_neg h2] at hr
  obtain rfl : S = T := by omega
  have d2 : decide (S < S) = false := decide_eq_false (by omega)
  have d0 : (S == S) = true := by simp
  by_cases h3 : S = 0
  · rw [if_pos h3] at hr
    cases hr
    have d3 : (S == 0) = true := by rw [h3]; rfl
    have d3' : decide (S = 0) = true := decide_eq_true h3
    clear hs ht hp hq hx hy hS hTt h1 h2 h3 sb
    obtain ⟨Rx_0, Ry_0, B0⟩ := opn2 w (Obj.cells #[.bool b, .string s, .string t, .int .i64 e] 60) (Obj.cells #[.bool c, .string p, .string q, .int .i64 g] 60)
    go_enter Tryd.func34, Tryd.ntmps34
    go_wp2_with fail
    obtain ⟨F, hF1, hF2⟩ := below_fun ((w.alloc (Obj.cells #[.bool b, .string s, .string t, .int .i64 e] 60)).alloc (Obj.cells #[.bool c, .string p, .string q, .int .i64 g] 60))
    have fx_0 := fun u => cells4 (heap_of (hF1 u) _ _ _ Rx_0) 0 _ rfl
    have fx_1 := fun u => cells4 (heap_of (hF1 u) _ _ _ Rx_0) 1 _ rfl
    have fx_2 := fun u => cells4 (heap_of (hF1 u) _ _ _ Rx_0) 2 _ rfl
    have fx_3 := fun u => cells4 (heap_of (hF1 u) _ _ _ Rx_0) 3 _ rfl
    have fy_0 := fun u => cells4 (heap_of (hF1 u) _ _ _ Ry_0) 0 _ rfl
    have fy_1 := fun u => cells4 (heap_of (hF1 u) _ _ _ Ry_0) 1 _ rfl
    have fy_2 := fun u => cells4 (heap_of (hF1 u) _ _ _ Ry_0) 2 _ rfl
    have fy_3 := fun u => cells4 (heap_of (hF1 u) _ _ _ Ry_0) 3 _ rfl
    refine wp_region_below F hF2 (by kernel_rfl) (by kernel_rfl) ?_
    repeat first | go_big_quiet_step (first | (go_at_call_of 56 (Value.agg #[.bool b, .string s, .string t, .int .i64 e]); exact quietF hF1 hF2 (HF.out _)) | (go_at_call_of 56 (Value.agg #[.bool c, .string p, .string q, .int .i64 g]); exact quietF hF1 hF2 (HG.out _)) | fail) | quiet_step (first | (go_at_call_of 56 (Value.agg #[.bool b, .string s, .string t, .int .i64 e]); exact quietF hF1 hF2 (HF.out _)) | (go_at_call_of 56 (Value.agg #[.bool c, .string p, .string q, .int .i64 g]); exact quietF hF1 hF2 (HG.out _)) | fail)
    refine wpQuiet_nil ?_
    rintro _ ⟨uW, rfl⟩
    have B1 := btr B0 (hF1 uW)
    have Rx_1 := heap_of (hF1 uW) _ _ _ Rx_0
    have Ry_1 := heap_of (hF1 uW) _ _ _ Ry_0
    obtain ⟨w1, hw⟩ : ∃ V, F uW = V := ⟨_, rfl⟩
    rw [hw] at B1 Rx_1 Ry_1
    try rw [hw]
    clear hw hF1 hF2 B0 fx_0 fx_1 fx_2 fx_3 fy_0 fy_1 fy_2 fy_3 Rx_0 Ry_0
    clear F
    obtain ⟨cx_1_0, cx_1_1, cx_1_2, cx_1_3⟩ := cells4s Rx_1
    obtain ⟨cy_1_0, cy_1_1, cy_1_2, cy_1_3⟩ := cells4s Ry_1
    go_wp2
    go_ret2
    exact ⟨rfl, B1⟩
  rw [if_neg h3] at hr
  have d3 : (S == 0) = false := by rw [Bool.eq_false_iff]; intro h; exact h3 (by simpa using h)
  have d3' : decide (S = 0) = false := decide_eq_false h3
  have ha : -1048576 ≤ e ∧ e ≤ 1048576 ∧ -1048576 ≤ g ∧ g ≤ 1048576 := ⟨hx.2.2.1, hx.2.2.2.1, hy.2.2.1, hy.2.2.2.1⟩
  obtain ⟨A, hA⟩ : ∃ A, XMath.sA (XN.mk b n d e) (XN.mk c m f g) = A := ⟨_, rfl⟩
  obtain ⟨B, hB⟩ : ∃ A, XMath.sA (XN.mk c m f g) (XN.mk b n d e) = A := ⟨_, rfl⟩
  rw [hA, hB] at hr
  obtain ⟨L, hL⟩ : ∃ L, min e g = L := ⟨_, rfl⟩
  by_cases h4 : nl A ≤ 16384 ∧ nl B ≤ 16384
  · rw [if_pos h4] at hr
    cases hr
    obtain ⟨x, hxa⟩ : ∃ x, nbA A = x := ⟨_, rfl⟩
    obtain ⟨y, hyb⟩ : ∃ x, nbA B = x := ⟨_, rfl⟩
    have K1 := box (fun w => rTwo b n d e s t c m f g p q x y L 0 hs ht hp hq hx.1 hx.2.1 hy.1 hy.2.1 ha (by unfold twX; rw [hA, hB, if_pos h4, hxa, hyb]; show ((x, y), (min e g, (0 : Int))) = _; rw [hL]) w)
    obtain ⟨z, hz⟩ : ∃ z, cmpv A B = z := ⟨_, rfl⟩
    have zb := cmpv_bd A B
    rw [hz] at zb
    have K2 := box (fun w => nat_cmp A B x y z hxa hyb hz w)
    have n1 : IntKind.i64.wrap (S * z) = S * z := wrap_i64_is _ (by rcases sb with h | h | h <;> rcases zb with k | k | k <;> rw [h, k] <;> decide) (by rcases sb with h | h | h <;> rcases zb with k | k | k <;> rw [h, k] <;> decide)
    rw [hz]
    clear hs ht hp hq hx hy hS hTt h1 h2 h3 sb ha hA hB h4 hxa hyb hz zb hL
    obtain ⟨Rx_0, Ry_0, B0⟩ := opn2 w (Obj.cells #[.bool b, .string s, .string t, .int .i64 e] 60) (Obj.cells #[.bool c, .string p, .string q, .int .i64 g] 60)
    go_enter Tryd.func34, Tryd.ntmps34
    go_wp2_with fail
    obtain ⟨F, hF1, hF2⟩ := below_fun ((w.alloc (Obj.cells #[.bool b, .string s, .string t, .int .i64 e] 60)).alloc (Obj.cells #[.bool c, .string p, .string q, .int .i64 g] 60))
    have fx_0 := fun u => cells4 (heap_of (hF1 u) _ _ _ Rx_0) 0 _ rfl
    have fx_1 := fun u => cells4 (heap_of (hF1 u) _ _ _ Rx_0) 1 _ rfl
    have fx_2 := fun u => cells4 (heap_of (hF1 u) _ _ _ Rx_0) 2 _ rfl
    have fx_3 := fun u => cells4 (heap_of (hF1 u) _ _ _ Rx_0) 3 _ rfl
    have fy_0 := fun u => cells4 (heap_of (hF1 u) _ _ _ Ry_0) 0 _ rfl
    have fy_1 := fun u => cells4 (heap_of (hF1 u) _ _ _ Ry_0) 1 _ rfl
    have fy_2 := fun u => cells4 (heap_of (hF1 u) _ _ _ Ry_0) 2 _ rfl
    have fy_3 := fun u => cells4 (heap_of (hF1 u) _ _ _ Ry_0) 3 _ rfl
    refine wp_region_below F hF2 (by kernel_rfl) (by kernel_rfl) ?_
    repeat first | go_big_quiet_step (first | (go_at_call_of 56 (Value.agg #[.bool b, .string s, .string t, .int .i64 e]); exact quietF hF1 hF2 (HF.out _)) | (go_at_call_of 56 (Value.agg #[.bool c, .string p, .string q, .int .i64 g]); exact quietF hF1 hF2 (HG.out _)) | fail) | quiet_step (first | (go_at_call_of 56 (Value.agg #[.bool b, .string s, .string t, .int .i64 e]); exact quietF hF1 hF2 (HF.out _)) | (go_at_call_of 56 (Value.agg #[.bool c, .string p, .string q, .int .i64 g]); exact quietF hF1 hF2 (HG.out _)) | fail)
    refine wpQuiet_nil ?_
    rintro _ ⟨uW, rfl⟩
    have B1 := btr B0 (hF1 uW)
    have Rx_1 := heap_of (hF1 uW) _ _ _ Rx_0
    have Ry_1 := heap_of (hF1 uW) _ _ _ Ry_0
    obtain ⟨w1, hw⟩ : ∃ V, F uW = V := ⟨_, rfl⟩
    rw [hw] at B1 Rx_1 Ry_1
    try rw [hw]
    clear hw hF1 hF2 B0 fx_0 fx_1 fx_2 fx_3 fy_0 fy_1 fy_2 fy_3 Rx_0 Ry_0
    clear F
    obtain ⟨cx_1_0, cx_1_1, cx_1_2, cx_1_3⟩ := cells4s Rx_1
    obtain ⟨cy_1_0, cy_1_1, cy_1_2, cy_1_3⟩ := cells4s Ry_1
    go_wp2_with fail
    refine (K1.out _).mono ?_
    rintro r w2 ⟨rfl, b2⟩
    have B2 : Below w.heap.size w w2 := btr B1 b2
    have Rx_2 := heap_of b2 _ _ _ Rx_1
    have Ry_2 := heap_of b2 _ _ _ Ry_1
    clear b2 B1 Rx_1 cx_1_0 cx_1_1 cx_1_2 cx_1_3 Ry_1 cy_1_0 cy_1_1 cy_1_2 cy_1_3
    obtain ⟨cx_2_0, cx_2_1, cx_2_2, cx_2_3⟩ := cells4s Rx_2
    obtain ⟨cy_2_0, cy_2_1, cy_2_2, cy_2_3⟩ := cells4s Ry_2
    go_wp2_with fail
    refine (K2.out _).mono ?_
    rintro r w' ⟨rfl, rfl⟩
    go_wp2
    go_ret2
    exact ⟨rfl, B2⟩
  · rw [if_neg h4] at hr
    cases hr
    have K1 := box (fun w => rTwo b n d e s t c m f g p q ⟨#[]⟩ ⟨#[]⟩ 0 4 hs ht hp hq hx.1 hx.2.1 hy.1 hy.2.1 ha (by unfold twX; rw [hA, hB, if_neg h4]) w)
    clear hs ht hp hq hx hy hS hTt h1 h2 h3 sb ha hA hB h4 hL
    obtain ⟨Rx_0, Ry_0, B0⟩ := opn2 w (Obj.cells #[.bool b, .string s, .string t, .int .i64 e] 60) (Obj.cells #[.bool c, .string p, .string q, .int .i64 g] 60)
    go_enter Tryd.func34, Tryd.ntmps34
    go_wp2_with fail
    obtain ⟨F, hF1, hF2⟩ := below_fun ((w.alloc (Obj.cells #[.bool b, .string s, .string t, .int .i64 e] 60)).alloc (Obj.cells #[.bool c, .string p, .string q, .int .i64 g] 60))
    have fx_0 := fun u => cells4 (heap_of (hF1 u) _ _ _ Rx_0) 0 _ rfl
    have fx_1 := fun u => cells4 (heap_of (hF1 u) _ _ _ Rx_0) 1 _ rfl
    have fx_2 := fun u => cells4 (heap_of (hF1 u) _ _ _ Rx_0) 2 _ rfl
    have fx_3 := fun u => cells4 (heap_of (hF1 u) _ _ _ Rx_0) 3 _ rfl
    have fy_0 := fun u => cells4 (heap_of (hF1 u) _ _ _ Ry_0) 0 _ rfl
    have fy_1 := fun u => cells4 (heap_of (hF1 u) _ _ _ Ry_0) 1 _ rfl
    have fy_2 := fun u => cells4 (heap_of (hF1 u) _ _ _ Ry_0) 2 _ rfl
    have fy_3 := fun u => cells4 (heap_of (hF1 u) _ _ _ Ry_0) 3 _ rfl
    refine wp_region_below F hF2 (by kernel_rfl) (by kernel_rfl) ?_
    repeat first | go_big_quiet_step (first | (go_at_call_of 56 (Value.agg #[.bool b, .string s, .string t, .int .i64 e]); exact quietF hF1 hF2 (HF.out _)) | (go_at_call_of 56 (Value.agg #[.bool c, .string p, .string q, .int .i64 g]); exact quietF hF1 hF2 (HG.out _)) | fail) | quiet_step (first | (go_at_call_of 56 (Value.agg #[.bool b, .string s, .string t, .int .i64 e]); exact quietF hF1 hF2 (HF.out _)) | (go_at_call_of 56 (Value.agg #[.bool c, .string p, .string q, .int .i64 g]); exact quietF hF1 hF2 (HG.out _)) | fail)
    refine wpQuiet_nil ?_
    rintro _ ⟨uW, rfl⟩
    have B1 := btr B0 (hF1 uW)
    have Rx_1 := heap_of (hF1 uW) _ _ _ Rx_0
    have Ry_1 := heap_of (hF1 uW) _ _ _ Ry_0
    obtain ⟨w1, hw⟩ : ∃ V, F uW = V := ⟨_, rfl⟩
    rw [hw] at B1 Rx_1 Ry_1
    try rw [hw]
    clear hw hF1 hF2 B0 fx_0 fx_1 fx_2 fx_3 fy_0 fy_1 fy_2 fy_3 Rx_0 Ry_0
    clear F
    obtain ⟨cx_1_0, cx_1_1, cx_1_2, cx_1_3⟩ := cells4s Rx_1
    obtain ⟨cy_1_0, cy_1_1, cy_1_2, cy_1_3⟩ := cells4s Ry_1
    go_wp2_with fail
    refine (K1.out _).mono ?_
    rintro r w2 ⟨rfl, b2⟩
    have B2 : Below w.heap.size w w2 := btr B1 b2
    have Rx_2 := heap_of b2 _ _ _ Rx_1
    have Ry_2 := heap_of b2 _ _ _ Ry_1
    clear b2 B1 Rx_1 cx_1_0 cx_1_1 cx_1_2 cx_1_3 Ry_1 cy_1_0 cy_1_1 cy_1_2 cy_1_3
    obtain ⟨cx_2_0, cx_2_1, cx_2_2, cx_2_3⟩ := cells4s Rx_2
    obtain ⟨cy_2_0, cy_2_1, cy_2_2, cy_2_3⟩ := cells4s Ry_2
    go_wp2
    go_ret2
    exact ⟨rfl, B2⟩
end Go.Proofs.YtmndjhcmomejjaaDoor
namespace Go.Proofs.YtmndjhcmomejjaaDoor
set_option maxRecDepth 100000
set_option maxHeartbeats 40000000
set_option maxRecDepth 100000
open Go.RowKit WMath
theorem bal7 (w : World) (o : Obj) : Below w.heap.size w (w.alloc o) := (Below.refl _ _).alloc (Nat.le_refl _) _
theorem btr7 {a b c : World} (h : Below a.heap.size a b) (k : Below b.heap.size b c) : Below a.heap.size a c := h.trans (k.mono h.size)

def fcells : Array Value := #[.int .i64 32, .int .i64 24, .int .i64 127, .string ⟨#[115]⟩, .int .i64 64, .int .i64 53, .int .i64 1023, .string ⟨#[100]⟩, .int .i64 16, .int .i64 11, .int .i64 15, .string ⟨#[104]⟩, .int .i64 128, .int .i64 113, .int .i64 16383, .string ⟨#[113]⟩]
def FAt (w : World) : Prop := ∀ i, i < 16 → w.cell? ⟨0, i, none⟩ = fcells[i]?
theorem fc_some (i : Nat) (h : i < 16) : ∃ v, fcells[i]? = some v := ⟨_, Array.getElem?_eq_getElem (show i < fcells.size from h)⟩
theorem fatB {w w' : World} (h : FAt w) (hb : Below w.heap.size w w') : FAt w' := fun i hi => by
  obtain ⟨v, hv⟩ := fc_some i hi
  rw [hb.cell (p := ⟨0, i, none⟩) (World.block_lt_of_cell? w _ ((h i hi).trans hv))]
  exact h i hi
theorem fat_at {w : World} (h : FAt w) (i : Nat) (v : Value) (hi : i < 16) (hv : fcells[i]? = some v) : w.cell? ⟨0, i, none⟩ = some v := (h i hi).trans hv

theorem fat_al {w : World} (h : FAt w) (o : Obj) : FAt (w.alloc o) := fatB h (bal7 w o)
theorem fat_dr {w : World} (h : FAt w) : FAt w.drew := h

def fW (f : Int) : Int := if f = 0 then 32 else if f = 1 then 64 else if f = 2 then 16 else if f = 3 then 128 else 0
def fP (f : Int) : Int := if f = 0 then 24 else if f = 1 then 53 else if f = 2 then 11 else if f = 3 then 113 else 0
def fE (f : Int) : Int := if f = 0 then 127 else if f = 1 then 1023 else if f = 2 then 15 else if f = 3 then 16383 else 0
def fN (f : Int) : ByteArray := if f = 0 then ⟨#[115]⟩ else if f = 1 then ⟨#[100]⟩ else if f = 2 then ⟨#[104]⟩ else if f = 3 then ⟨#[113]⟩ else ⟨#[]⟩
def fR (f : Int) : Array Value := #[.int .i64 (fW f), .int .i64 (fP f), .int .i64 (fE f), .string (fN f)]
def fC (f : Int) : Int := if f = 0 ∨ f = 1 ∨ f = 2 ∨ f = 3 then 0 else 2

theorem f_cases (f : Int) (h0 : 0 ≤ f) : f = 0 ∨ f = 1 ∨ f = 2 ∨ f = 3 ∨ 4 ≤ f := by omega

theorem s_check (f : Int) (h0 : 0 ≤ f) (h1 : f ≤ 255) (w : World) :
    Calls Tryd.prog 46 #[.int .u8 f] w fun e w' => e = .returned (.int .i64 (fC f)) ∧ w' = w := by
  by_cases h : 4 ≤ f
  · have e : fC f = 2 := by unfold fC; rw [if_neg (by omega)]
    rw [e]
    have hd : decide ((4 : Int) ≤ f) = true := by simp [h]
    go_enter Tryd.func46, Tryd.ntmps46
    go_wp2
    go_ret
    exact ⟨rfl, rfl⟩
  · have e : fC f = 0 := by unfold fC; rw [if_pos (by omega)]
    rw [e]
    have hd : decide ((4 : Int) ≤ f) = false := by simp; omega
    go_enter Tryd.func46, Tryd.ntmps46
    go_wp2
    go_ret
    exact ⟨rfl, rfl⟩

theorem s_check_is (f c : Int) (h0 : 0 ≤ f) (h1 : f ≤ 255) (hc : fC f = c) (w : World) :
    Calls Tryd.prog 46 #[.int .u8 f] w fun e w' => e = .returned (.int .i64 c) ∧ w' = w := by
  subst hc; exact s_check f h0 h1 w

theorem s_of (f : Int) (h0 : 0 ≤ f) (h1 : f ≤ 255) (w : World) (hT : FAt w) :
    Calls Tryd.prog 116 #[.int .u8 f] w fun e w' => e = .returned (.agg #[.int .i64 (fW f), .int .i64 (fP f), .int .i64 (fE f), .string (fN f)]) ∧ w' = w.alloc (.cells (fR f) 141) := by
  have hB := bal7 w (.cells #[.int .i64 0, .int .i64 0, .int .i64 0, .string ⟨#[]⟩] 141)
  have T2 := fatB hT hB
  rcases f_cases f h0 with rfl | rfl | rfl | rfl | h
  · have c0 := fat_at T2 0 (.int .i64 32) (by decide) rfl
    have c1 := fat_at T2 1 (.int .i64 24) (by decide) rfl
    have c2 := fat_at T2 2 (.int .i64 127) (by decide) rfl
    have c3 := fat_at T2 3 (.string ⟨#[115]⟩) (by decide) rfl
    clear T2 hT
    go_enter Tryd.func116, Tryd.ntmps116
    go_wp2_with fail
    refine (s_check_is 0 0 (by omega) (by omega) rfl _).mono ?_
    rintro r w' ⟨rfl, rfl⟩
    go_wp2
    exact bodyPost_ret (v := .agg #[.int .i64 32, .int .i64 24, .int .i64 127, .string ⟨#[115]⟩]) (by simp [results, Tryd.results116, go_sem]) rfl ⟨rfl, rfl⟩
  · have c0 := fat_at T2 4 (.int .i64 64) (by decide) rfl
    have c1 := fat_at T2 5 (.int .i64 53) (by decide) rfl
    have c2 := fat_at T2 6 (.int .i64 1023) (by decide) rfl
    have c3 := fat_at T2 7 (.string ⟨#[100]⟩) (by decide) rfl
    clear T2 hT
    go_enter Tryd.func116, Tryd.ntmps116
    go_wp2_with fail
    refine (s_check_is 1 0 (by omega) (by omega) rfl _).mono ?_
    rintro r w' ⟨rfl, rfl⟩
    go_wp2
    exact bodyPost_ret (v := .agg #[.int .i64 64, .int .i64 53, .int .i64 1023, .string ⟨#[100]⟩]) (by simp [results, Tryd.results116, go_sem]) rfl ⟨rfl, rfl⟩
  · have c0 := fat_at T2 8 (.int .i64 16) (by decide) rfl
    have c1 := fat_at T2 9 (.int .i64 11) (by decide) rfl
    have c2 := fat_at T2 10 (.int .i64 15) (by decide) rfl
    have c3 := fat_at T2 11 (.string ⟨#[104]⟩) (by decide) rfl
    clear T2 hT
    go_enter Tryd.func116, Tryd.ntmps116
    go_wp2_with fail
    refine (s_check_is 2 0 (by omega) (by omega) rfl _).mono ?_
    rintro r w' ⟨rfl, rfl⟩
    go_wp2
    exact bodyPost_ret (v := .agg #[.int .i64 16, .int .i64 11, .int .i64 15, .string ⟨#[104]⟩]) (by simp [results, Tryd.results116, go_sem]) rfl ⟨rfl, rfl⟩
  · have c0 := fat_at T2 12 (.int .i64 128) (by decide) rfl
    have c1 := fat_at T2 13 (.int .i64 113) (by decide) rfl
    have c2 := fat_at T2 14 (.int .i64 16383) (by decide) rfl
    have c3 := fat_at T2 15 (.string ⟨#[113]⟩) (by decide) rfl
    clear T2 hT
    go_enter Tryd.func116, Tryd.ntmps116
    go_wp2_with fail
    refine (s_check_is 3 0 (by omega) (by omega) rfl _).mono ?_
    rintro r w' ⟨rfl, rfl⟩
    go_wp2
    exact bodyPost_ret (v := .agg #[.int .i64 128, .int .i64 113, .int .i64 16383, .string ⟨#[113]⟩]) (by simp [results, Tryd.results116, go_sem]) rfl ⟨rfl, rfl⟩
  · have hd : decide ((4 : Int) ≤ f) = true := by simp [h]
    have e0 : fW f = 0 := by unfold fW; rw [if_neg (by omega), if_neg (by omega), if_neg (by omega), if_neg (by omega)]
    have e1 : fP f = 0 := by unfold fP; rw [if_neg (by omega), if_neg (by omega), if_neg (by omega), if_neg (by omega)]
    have e2 : fE f = 0 := by unfold fE; rw [if_neg (by omega), if_neg (by omega), if_neg (by omega), if_neg (by omega)]
    have e3 : fN f = ⟨#[]⟩ := by unfold fN; rw [if_neg (by omega), if_neg (by omega), if_neg (by omega), if_neg (by omega)]
    have e4 : fC f = 2 := by unfold fC; rw [if_neg (by omega)]
    have e5 : fR f = #[.int .i64 0, .int .i64 0, .int .i64 0, .string ⟨#[]⟩] := by unfold fR; rw [e0, e1, e2, e3]
    rw [e0, e1, e2, e3, e5]
    clear T2 hT e0 e1 e2 e3 e5
    go_enter Tryd.func116, Tryd.ntmps116
    go_wp2_with fail
    refine (s_check_is f 2 (by omega) (by omega) e4 _).mono ?_
    rintro r w' ⟨rfl, rfl⟩
    go_wp2
    exact bodyPost_ret (v := .agg #[.int .i64 0, .int .i64 0, .int .i64 0, .string ⟨#[]⟩]) (by simp [results, Tryd.results116, go_sem]) rfl ⟨rfl, rfl⟩

theorem s_of_is (f w0 p0 m0 : Int) (n0 : ByteArray) (h0 : 0 ≤ f) (h1 : f ≤ 255) (hw : fW f = w0) (hp : fP f = p0) (he : fE f = m0) (hn : fN f = n0) (w : World) (hT : FAt w) :
    Calls Tryd.prog 116 #[.int .u8 f] w fun e w' => e = .returned (.agg #[.int .i64 w0, .int .i64 p0, .int .i64 m0, .string n0]) ∧ w' = w.alloc (.cells (fR f) 141) := by
  subst hw hp he hn
  exact s_of f h0 h1 w hT

theorem fld0 (a b c d : Value) (w : World) : (Instr.field 141 (.agg #[a, b, c, d]) 0).run Tryd.prog w = .ok a w := by kernel_rfl
theorem fld1 (a b c d : Value) (w : World) : (Instr.field 141 (.agg #[a, b, c, d]) 1).run Tryd.prog w = .ok b w := by kernel_rfl
theorem s_width (f v : Int) (h0 : 0 ≤ f) (h1 : f ≤ 255) (hv : fW f = v) (w : World) (hT : FAt w) :
    Calls Tryd.prog 72 #[.int .u8 f] w fun e w' => e = .returned (.int .i64 v) ∧ w' = w.alloc (.cells (fR f) 141) := by
  have hl := fld0
  go_enter Tryd.func72, Tryd.ntmps72
  go_wp2_with fail
  refine (s_of_is f v _ _ _ h0 h1 hv rfl rfl rfl _ hT).mono ?_
  rintro r w2 ⟨rfl, rfl⟩
  go_wp2
  go_ret
  exact ⟨rfl, rfl⟩
theorem s_precision (f v : Int) (h0 : 0 ≤ f) (h1 : f ≤ 255) (hv : fP f = v) (w : World) (hT : FAt w) :
    Calls Tryd.prog 117 #[.int .u8 f] w fun e w' => e = .returned (.int .i64 v) ∧ w' = w.alloc (.cells (fR f) 141) := by
  have hl := fld1
  go_enter Tryd.func117, Tryd.ntmps117
  go_wp2_with fail
  refine (s_of_is f _ v _ _ h0 h1 rfl hv rfl rfl _ hT).mono ?_
  rintro r w2 ⟨rfl, rfl⟩
  go_wp2
  go_ret
  exact ⟨rfl, rfl⟩
def rHi (x n : Int) : Int := bits .or .u64 (IntKind.u64.wrap (x * 2 ^ min (IntKind.u64.wrap (n - 64)).toNat 64)) (x / 2 ^ min (IntKind.u64.wrap (64 - n)).toNat 64)
def rLo (x n : Int) : Int := IntKind.u64.wrap (x * 2 ^ min n.toNat 64)

theorem cell7 {w : World} {g : Nat} {T : TypeId} {c : Array Value} (row : w.heap[g]? = some (.cells c T)) (k : Nat) (v : Value) (h : c[k]? = some v) : w.cell? ⟨g, k, none⟩ = some v := by
  simp [World.cell?, row, h]
theorem set2_below {n : Nat} {w wr : World} {b : Nat} (h : Below n w wr) (hb : n ≤ b) (v0 v1 : Value) : Below n w ((wr.setCell ⟨b, 0, none⟩ v0).setCell ⟨b, 1, none⟩ v1) := (h.setCell (by exact hb) _).setCell (by exact hb) _
theorem set2_row {w : World} {b : Nat} {c0 c1 : Value} {T : TypeId} (h : w.heap[b]? = some (.cells #[c0, c1] T)) (v0 v1 : Value) :
    ((w.setCell ⟨b, 0, none⟩ v0).setCell ⟨b, 1, none⟩ v1).heap[b]? = some (.cells #[v0, v1] T) := by
  rw [setCell_row (setCell_row h)]; rfl
theorem set2_cells {w : World} {b : Nat} {c0 c1 : Value} {T : TypeId} (h : w.heap[b]? = some (.cells #[c0, c1] T)) (v0 v1 : Value) :
    ((w.setCell ⟨b, 0, none⟩ v0).setCell ⟨b, 1, none⟩ v1).cell? ⟨b, 0, none⟩ = some v0 ∧ ((w.setCell ⟨b, 0, none⟩ v0).setCell ⟨b, 1, none⟩ v1).cell? ⟨b, 1, none⟩ = some v1 := by
  have r := set2_row h v0 v1
  exact ⟨cell7 r 0 _ rfl, cell7 r 1 _ rfl⟩
theorem last7 (w : World) (o : Obj) : (w.alloc o).heap[w.heap.size]? = some o := heap_alloc_last w o

def b2 (a b : Int) : Array Value := #[.int .u64 a, .int .u64 b]

theorem s_raised (x n H L : Int) (h0 : 0 ≤ n) (h1 : n ≤ 18446744073709551615) (hH : rHi x n = H) (hL : rLo x n = L) (w : World) :
    Calls Tryd.prog 95 #[.int .u64 x, .int .u64 n] w fun e w' => e = .returned (.agg #[.int .u64 H, .int .u64 L]) ∧ w' = w.alloc (.cells #[.int .u64 H, .int .u64 L] 25) := by
  obtain ⟨m, rfl⟩ := Int.eq_ofNat_of_zero_le h0
  subst hH hL
  go_enter Tryd.func95, Tryd.ntmps95
  go_wp2
  exact bodyPost_ret (v := .agg #[.int .u64 (rHi x m), .int .u64 (rLo x m)]) (by simp [results, Tryd.results95, go_sem, rHi, rLo]) rfl ⟨rfl, by simp [rHi, rLo]⟩

theorem s_join (a b c d H L : Int) (hH : bits .or .u64 a c = H) (hL : bits .or .u64 b d = L) (w : World) :
    Calls Tryd.prog 128 #[.agg #[.int .u64 a, .int .u64 b], .agg #[.int .u64 c, .int .u64 d]] w fun e w' => e = .returned (.agg #[.int .u64 H, .int .u64 L]) ∧ w' = ((w.alloc (.cells #[.int .u64 a, .int .u64 b] 25)).alloc (.cells #[.int .u64 c, .int .u64 d] 25)).alloc (.cells #[.int .u64 H, .int .u64 L] 25) := by
  go_enter Tryd.func128, Tryd.ntmps128
  go_wp2
  exact bodyPost_ret (v := .agg #[.int .u64 H, .int .u64 L]) (by simp [results, Tryd.results128, go_sem]) rfl ⟨rfl, rfl⟩

theorem s_ones (n H L : Int) (h0 : 0 ≤ n) (h1 : n ≤ 18446744073709551615) (hH : rHi 1 n = H) (hL : rLo 1 n = L) (K M : Int) (hK : (if L = 0 then IntKind.u64.wrap (H - 1) else H) = K) (hM : IntKind.u64.wrap (L - 1) = M) (w : World) :
    Calls Tryd.prog 71 #[.int .u64 n] w fun e w' => e = .returned (.agg #[.int .u64 K, .int .u64 M]) ∧ Below w.heap.size w w' := by
  by_cases hz : L = 0
  · have hd : (L == 0) = true := by simp [hz]
    rw [if_pos hz] at hK
    subst hz
    rw [show (0 : Int) - 1 = -1 by decide] at hM
    go_enter Tryd.func71, Tryd.ntmps71
    go_wp2_with fail
    refine (s_raised 1 n H _ h0 h1 hH hL _).mono ?_
    rintro r w2 ⟨rfl, rfl⟩
    go_wp2
    exact bodyPost_ret (v := .agg #[.int .u64 K, .int .u64 M]) (by simp [results, Tryd.results71, go_sem]) rfl ⟨rfl, (((Below.refl _ _).alloc (Nat.le_refl _) _).alloc (by simp only [size_al]; omega) _).alloc (by simp only [size_al]; omega) _⟩
  · have hd : (L == 0) = false := by simp [hz]
    rw [if_neg hz] at hK
    subst hK
    go_enter Tryd.func71, Tryd.ntmps71
    go_wp2_with fail
    refine (s_raised 1 n H _ h0 h1 hH hL _).mono ?_
    rintro r w2 ⟨rfl, rfl⟩
    go_wp2
    exact bodyPost_ret (v := .agg #[.int .u64 H, .int .u64 M]) (by simp [results, Tryd.results71, go_sem]) rfl ⟨rfl, (((Below.refl _ _).alloc (Nat.le_refl _) _).alloc (by simp only [size_al]; omega) _).alloc (by simp only [size_al]; omega) _⟩

theorem s_fraction (f p v : Int) (h0 : 0 ≤ f) (h1 : f ≤ 255) (hp : fP f = p) (hv : IntKind.u64.wrap (p - 1) = v) (w : World) (hT : FAt w) :
    Calls Tryd.prog 96 #[.int .u8 f] w fun e w' => e = .returned (.int .u64 v) ∧ w' = w.alloc (.cells (fR f) 141) := by
  have hm2 : 0 ≤ p ∧ p ≤ 113 := by rw [← hp]; unfold fP; split <;> (try split) <;> (try split) <;> (try split) <;> omega
  have hw : IntKind.i64.wrap (p - 1) = p - 1 := by rw [IntKind.wrap_i64]; omega
  go_enter Tryd.func96, Tryd.ntmps96
  go_wp2_with fail
  refine (s_precision f p h0 h1 hp _ hT).mono ?_
  rintro r w2 ⟨rfl, rfl⟩
  go_wp2
  go_ret
  exact ⟨rfl, rfl⟩

theorem s_top (f q p d v : Int) (h0 : 0 ≤ f) (h1 : f ≤ 255) (hq : fW f = q) (hp : fP f = p) (hd : q - p = d) (h2 : 0 ≤ d) (hv : IntKind.u64.wrap (IntKind.u64.wrap (2 ^ min d.toNat 64) - 1) = v) (w : World) (hT : FAt w) :
    Calls Tryd.prog 94 #[.int .u8 f] w fun e w' => e = .returned (.int .u64 v) ∧ Below w.heap.size w w' := by
  have hm1 : 0 ≤ q ∧ q ≤ 128 := by rw [← hq]; unfold fW; split <;> (try split) <;> (try split) <;> (try split) <;> omega
  have hm2 : 0 ≤ p ∧ p ≤ 113 := by rw [← hp]; unfold fP; split <;> (try split) <;> (try split) <;> (try split) <;> omega
  go_enter Tryd.func94, Tryd.ntmps94
  go_wp2_with fail
  refine (s_width f q h0 h1 hq _ hT).mono ?_
  rintro r w2 ⟨rfl, rfl⟩
  go_wp2_with fail
  refine (s_precision f p h0 h1 hp _ (fatB hT (bal7 _ _))).mono ?_
  rintro r w3 ⟨rfl, rfl⟩
  go_wp2
  go_ret
  exact ⟨rfl, btr7 (bal7 _ _) (bal7 _ _)⟩

def pV (f : Int) : Nat := (fP f).toNat - 1
def wV (f : Int) : Nat := (fW f).toNat - 1
def oV (f : Int) : Nat := 2 * (fE f).toNat + 1
def enc7 (f : Int) (neg : Bool) (e t : Nat) : Nat := e * 2 ^ pV f + t + (if neg then 2 ^ wV f else 0)
def bv7 (v : Nat) : Nat × Nat := (v / 18446744073709551616, v % 18446744073709551616)
def eInf (f : Int) (neg : Bool) : Nat := enc7 f neg (oV f) 0
def eZero (f : Int) (neg : Bool) : Nat := enc7 f neg 0 0
def eGreatest (f : Int) (neg : Bool) : Nat := enc7 f neg (oV f - 1) (2 ^ pV f - 1)
def Is4 (f : Int) : Prop := f = 0 ∨ f = 1 ∨ f = 2 ∨ f = 3
theorem is4_ok {f : Int} (h : Is4 f) : 0 ≤ f ∧ f ≤ 255 ∧ fC f = 0 ∧ 0 ≤ fW f - fP f := by
  rcases h with rfl | rfl | rfl | rfl <;> decide +kernel

def R7 (w : World) (I J : Int) (w5 : World) (g : Nat) : Prop := Below w.heap.size w w5 ∧ w5.heap[g]? = some (.cells #[.int .u64 I, .int .u64 J] 25) ∧ w5.heap[w.heap.size + 1]? = some (.cells #[.int .u64 0, .int .u64 0] 25) ∧ w.heap.size + 1 < g
theorem cut7 {G C : Prop} (h : G → C) (k : G) : C := h k
theorem bel_al {w W : World} (h : Below w.heap.size w W) (o : Obj) : Below w.heap.size w (W.alloc o) := btr7 h (bal7 _ _)
theorem bel_dr {w W : World} (h : Below w.heap.size w W) : Below w.heap.size w W.drew := h.drew
theorem row_al {W : World} {b : Nat} {o : Obj} (h : W.heap[b]? = some o) (o' : Obj) : (W.alloc o').heap[b]? = some o := by
  rw [heap_below W b o' (Array.getElem?_eq_some_iff.1 h).1]; exact h
theorem row_dr {W : World} {b : Nat} {o : Obj} (h : W.heap[b]? = some o) : W.drew.heap[b]? = some o := h
theorem row_last {W : World} {b : Nat} {o : Obj} (h : b = W.heap.size) : (W.alloc o).heap[b]? = some o := by subst h; exact heap_alloc_last W o
theorem gen7 {X : Act → World → Prop} {t0 t1 t2 t3 t4 t5 t6 t7 t8 t10 t11 t12 t13 t14 t15 t16 t17 t18 t19 t20 t21 t22 t23 t24 t25 t26 t27 t28 : Value} {d : List Deferred} {w W : World} {I J : Int} {G : Nat}
    (key : ∀ w5 g, R7 w I J w5 g → X ⟨#[t0, t1, t2, t3, t4, t5, t6, t7, t8, .pointer (some ⟨g, 0, none⟩), t10, t11, t12, t13, t14, t15, t16, t17, t18, t19, t20, t21, t22, t23, t24, t25, t26, t27, t28], d⟩ w5) (r : R7 w I J W G) :
    X ⟨#[t0, t1, t2, t3, t4, t5, t6, t7, t8, .pointer (some ⟨G, 0, none⟩), t10, t11, t12, t13, t14, t15, t16, t17, t18, t19, t20, t21, t22, t23, t24, t25, t26, t27, t28], d⟩ W := key W G r

set_option maxHeartbeats 40000000 in
theorem s_pack_any (f x a b p n H L I J q m M N I' J' : Int) (neg : Bool) (h0 : 0 ≤ f) (h1 : f ≤ 255) (hc : fC f = 0) (hp : fP f = p) (hn : IntKind.u64.wrap (p - 1) = n) (n0 : 0 ≤ n) (n1 : n ≤ 18446744073709551615)
    (hH : rHi x n = H) (hL : rLo x n = L) (hI : bits .or .u64 H a = I) (hJ : bits .or .u64 L b = J) (hq : fW f = q) (hm : q - 1 = m) (m0 : 0 ≤ m) (m1 : m ≤ 127) (hM : rHi 1 m = M) (hN : rLo 1 m = N) (hI' : bits .or .u64 I M = I') (hJ' : bits .or .u64 J N = J') (w : World) (hT : FAt w) :
    Calls Tryd.prog 93 #[.int .u8 f, .bool neg, .int .u64 x, .agg #[.int .u64 a, .int .u64 b]] w fun e w' => e = .returned (.agg #[.int .u64 (if neg then I' else I), .int .u64 (if neg then J' else J)]) ∧ Below w.heap.size w w' := by
  have k1 : Box (∀ w : World, FAt w → Calls Tryd.prog 96 #[.int .u8 f] w fun e w' => e = .returned (.int .u64 n) ∧ w' = w.alloc (.cells (fR f) 141)) := box (fun w hw => s_fraction f p n h0 h1 hp hn w hw)
  have k2 := box (s_raised x n H L n0 n1 hH hL)
  have k3 := box (s_join H L a b I J hI hJ)
  have k0 := box (s_check_is f 0 h0 h1 hc)
  have k4 : Box (∀ w : World, FAt w → Calls Tryd.prog 72 #[.int .u8 f] w fun e w' => e = .returned (.int .i64 q) ∧ w' = w.alloc (.cells (fR f) 141)) := box (fun w hw => s_width f q h0 h1 hq w hw)
  have k5 := box (s_raised 1 m M N m0 (by omega) hM hN)
  have k6 := box (s_join I J M N I' J' hI' hJ')
  have T0 := box hT
  have TT := box (fatB hT (btr7 (bal7 w (.cells #[.int .u64 a, .int .u64 b] 25)) (bal7 _ (.cells #[.int .u64 0, .int .u64 0] 25))))
  have e1 : IntKind.i64.wrap (q - 1) = m := by rw [hm, IntKind.wrap_i64]; omega
  have e2 : IntKind.u64.wrap m = m := by rw [IntKind.wrap_u64]; omega
  have e3 : IntKind.i64.wrap m = m := by rw [IntKind.wrap_i64]; omega
  clear hT hp hn hH hL hI hJ hc h0 h1 n0 n1 hq hM hN hI' hJ' m0 m1 hm
  go_enter Tryd.func93, Tryd.ntmps93
  go_wp2_with fail
  refine (k0.out _).mono ?_
  rintro r w' ⟨rfl, rfl⟩
  go_wp2_with fail
  apply cut7
  · intro key
    go_region_with (first
      | (go_at_call 96; refine (k1.out _ (by repeat (first | exact TT.out | refine fat_al ?_ _ | refine fat_dr ?_))).mono ?_; rintro r w2 ⟨rfl, rfl⟩)
      | (go_at_call 95; refine (k2.out _).mono ?_; rintro r w2 ⟨rfl, rfl⟩)
      | (go_at_call 128; refine (k3.out _).mono ?_; rintro r w2 ⟨rfl, rfl⟩))
    all_goals
      refine gen7 (w := w) (I := I) (J := J) key ⟨?_, ?_, ?_, ?_⟩
      · repeat (first | exact Below.refl _ _ | refine bel_dr ?_ | refine bel_al ?_ _)
      · repeat (first | refine row_dr ?_ | (refine row_last ?_; simp only [size_al]; done) | refine row_al ?_ _)
      · repeat (first | refine row_dr ?_ | (refine row_last ?_; simp only [size_al]; done) | refine row_al ?_ _)
      · omega
  rintro w5 g ⟨B5, R5, S5, hg⟩
  have F5 := box (fatB T0.out B5)
  have c50 := cell7 R5 0 _ rfl
  have c51 := cell7 R5 1 _ rfl
  cases neg
  · have q0 := fz (k := 0) S5
    have q1 := fz (k := 1) S5
    have d0 := cell7 S5 0 _ rfl
    have d1 := cell7 S5 1 _ rfl
    obtain ⟨E0, E1⟩ := set2_cells S5 (.int .u64 I) (.int .u64 J)
    go_wp2
    exact bodyPost_ret (v := .agg #[.int .u64 I, .int .u64 J]) (by simp [results, Tryd.results93, go_sem, E0, E1]) rfl ⟨rfl, set2_below B5 (by omega) _ _⟩
  · have r1 := row_al R5 (.cells (fR f) 141)
    have r2 := row_al r1 (.cells #[.int .u64 M, .int .u64 N] 25)
    have r5 := row_al (row_al (row_al r2 (.cells #[.int .u64 I, .int .u64 J] 25)) (.cells #[.int .u64 M, .int .u64 N] 25)) (.cells #[.int .u64 I', .int .u64 J'] 25)
    have s5 := row_al (row_al (row_al (row_al (row_al S5 (.cells (fR f) 141)) (.cells #[.int .u64 M, .int .u64 N] 25)) (.cells #[.int .u64 I, .int .u64 J] 25)) (.cells #[.int .u64 M, .int .u64 N] 25)) (.cells #[.int .u64 I', .int .u64 J'] 25)
    have Q5 : Box (R7 w I' J' _ g) := box ⟨set2_below (bel_al (bel_al (bel_al (bel_al (bel_al B5 _) _) _) _) _) (by omega) (.int .u64 I') (.int .u64 J'), set2_row r5 _ _, by rw [setCell_other (by omega), setCell_other (by omega)]; exact s5, hg⟩
    have c10 := cell7 r1 0 _ rfl
    have c11 := cell7 r1 1 _ rfl
    have c20 := cell7 r2 0 _ rfl
    have c21 := cell7 r2 1 _ rfl
    have q0 := fz (k := 0) r5
    have q1 := fz (k := 1) r5
    have e50 := cell7 r5 0 _ rfl
    have e51 := cell7 r5 1 _ rfl
    clear r1 r2 r5 s5
    go_wp2_with fail
    apply cut7
    · intro key
      go_region_with (first
        | (go_at_call 72; refine (k4.out _ (by repeat (first | exact F5.out | refine fat_al ?_ _ | refine fat_dr ?_))).mono ?_; rintro r w2 ⟨rfl, rfl⟩)
        | (go_at_call 95; refine (k5.out _).mono ?_; rintro r w2 ⟨rfl, rfl⟩)
        | (go_at_call 128; refine (k6.out _).mono ?_; rintro r w2 ⟨rfl, rfl⟩))
      all_goals
        refine gen7 (w := w) (I := I') (J := J') key ?_
        exact ⟨bel_dr Q5.out.1, row_dr Q5.out.2.1, row_dr Q5.out.2.2.1, hg⟩
    clear R5 S5 F5 c50 c51 c10 c11 c20 c21 q0 q1 e50 e51 B5
    rintro w6 g6 ⟨B6, R6, S6, hg6⟩
    have c60 := cell7 R6 0 _ rfl
    have c61 := cell7 R6 1 _ rfl
    have q0 := fz (k := 0) S6
    have q1 := fz (k := 1) S6
    have d0 := cell7 S6 0 _ rfl
    have d1 := cell7 S6 1 _ rfl
    obtain ⟨E0, E1⟩ := set2_cells S6 (.int .u64 I') (.int .u64 J')
    go_wp2
    exact bodyPost_ret (v := .agg #[.int .u64 I', .int .u64 J']) (by simp [results, Tryd.results93, go_sem, E0, E1]) rfl ⟨rfl, set2_below B6 (by omega) _ _⟩
def pkHi (f : Int) (neg : Bool) (x a : Int) : Int := if neg then bits .or .u64 (bits .or .u64 (rHi x (IntKind.u64.wrap (fP f - 1))) a) (rHi 1 (fW f - 1)) else bits .or .u64 (rHi x (IntKind.u64.wrap (fP f - 1))) a
def pkLo (f : Int) (neg : Bool) (x b : Int) : Int := if neg then bits .or .u64 (bits .or .u64 (rLo x (IntKind.u64.wrap (fP f - 1))) b) (rLo 1 (fW f - 1)) else bits .or .u64 (rLo x (IntKind.u64.wrap (fP f - 1))) b

theorem s_pack_is (f x a b I J : Int) (neg : Bool) (hf : Is4 f) (hI : pkHi f neg x a = I) (hJ : pkLo f neg x b = J) (w : World) (hT : FAt w) :
    Calls Tryd.prog 93 #[.int .u8 f, .bool neg, .int .u64 x, .agg #[.int .u64 a, .int .u64 b]] w fun e w' => e = .returned (.agg #[.int .u64 I, .int .u64 J]) ∧ Below w.heap.size w w' := by
  subst hI hJ
  have k : 0 ≤ IntKind.u64.wrap (fP f - 1) ∧ IntKind.u64.wrap (fP f - 1) ≤ 18446744073709551615 ∧ 0 ≤ fW f - 1 ∧ fW f - 1 ≤ 127 ∧ fC f = 0 ∧ 0 ≤ f ∧ f ≤ 255 := by
    rcases hf with rfl | rfl | rfl | rfl <;> decide +kernel
  have h := s_pack_any f x a b _ _ _ _ _ _ _ _ _ _ _ _ neg k.2.2.2.2.2.1 k.2.2.2.2.2.2 k.2.2.2.2.1 rfl rfl k.1 k.2.1 rfl rfl rfl rfl rfl rfl k.2.2.1 k.2.2.2.1 rfl rfl rfl rfl w hT
  refine h.mono ?_
  rintro r w' ⟨rfl, b⟩
  refine ⟨?_, b⟩
  cases neg <;> rfl

theorem top7 {f : Int} (h : Is4 f) : IntKind.u64.wrap (IntKind.u64.wrap (2 ^ min (fW f - fP f).toNat 64) - 1) = (oV f : Int) := by
  rcases h with rfl | rfl | rfl | rfl <;> decide +kernel

theorem s_top_is (f : Int) (hf : Is4 f) (w : World) (hT : FAt w) :
    Calls Tryd.prog 94 #[.int .u8 f] w fun e w' => e = .returned (.int .u64 (oV f : Nat)) ∧ Below w.heap.size w w' :=
  s_top f _ _ _ _ (is4_ok hf).1 (is4_ok hf).2.1 rfl rfl rfl (is4_ok hf).2.2.2 (top7 hf) w hT

theorem pk_Inf {f : Int} (h : Is4 f) (neg : Bool) : pkHi f neg ((oV f : Nat)) (0) = ((bv7 (eInf f neg)).1 : Nat) ∧ pkLo f neg ((oV f : Nat)) (0) = ((bv7 (eInf f neg)).2 : Nat) := by
  rcases h with rfl | rfl | rfl | rfl <;> cases neg <;> decide +kernel
theorem pk_Zero {f : Int} (h : Is4 f) (neg : Bool) : pkHi f neg (0) (0) = ((bv7 (eZero f neg)).1 : Nat) ∧ pkLo f neg (0) (0) = ((bv7 (eZero f neg)).2 : Nat) := by
  rcases h with rfl | rfl | rfl | rfl <;> cases neg <;> decide +kernel
set_option maxHeartbeats 1000000 in
theorem s_inf (f : Int) (neg : Bool) (hf : Is4 f) (v : Nat) (hv : eInf f neg = v) (w : World) (hT : FAt w) :
    Calls Tryd.prog 75 #[.int .u8 f, .bool neg] w fun e w' => e = .returned (bitsV (bv7 v)) ∧ Below w.heap.size w w' := by
  subst hv
  have TT := box hT
  have P := box (pk_Inf hf neg)
  obtain ⟨x, y, hxy⟩ : ∃ x y, bv7 (eInf f neg) = (x, y) := ⟨_, _, rfl⟩
  rw [hxy] at P ⊢
  have e0 : bitsV (x, y) = .agg #[.int .u64 (x : Nat), .int .u64 (y : Nat)] := rfl
  rw [e0]
  have f4 := is4_ok hf
  clear hxy hT e0
  have R0 : (w.alloc (.cells #[.int .u64 0, .int .u64 0] 25)).heap[w.heap.size]? = some (.cells #[.int .u64 0, .int .u64 0] 25) := last7 _ _
  have B0 := bal7 w (.cells #[.int .u64 0, .int .u64 0] 25)
  go_enter Tryd.func75, Tryd.ntmps75
  go_wp2_with fail
  refine (s_top_is f hf _ (fatB TT.out B0)).mono ?_
  rintro r w1 ⟨rfl, b1⟩
  have B1 := btr7 B0 b1
  have R1 := heap_of b1 _ _ _ R0
  clear B0 R0 b1
  go_wp2_with fail
  refine (s_pack_is f _ 0 0 _ _ neg hf P.out.1 P.out.2 _ (fatB TT.out B1)).mono ?_
  rintro r w2 ⟨rfl, b2⟩
  have B2 := btr7 B1 b2
  have R2 := heap_of b2 _ _ _ R1
  clear B1 R1 b2
  have q0 := fz (k := 0) R2
  have q1 := fz (k := 1) R2
  have d0 := cell7 R2 0 _ rfl
  have d1 := cell7 R2 1 _ rfl
  obtain ⟨E0, E1⟩ := set2_cells R2 (.int .u64 x) (.int .u64 y)
  go_wp2
  exact bodyPost_ret (v := .agg #[.int .u64 x, .int .u64 y]) (by simp [results, Tryd.results75, go_sem, E0, E1]) rfl ⟨rfl, set2_below B2 (by omega) _ _⟩

end Go.Proofs.YtmndjhcmomejjaaDoor
