/-
  What the functions Two, Add, sign and Cmp of the document's answer for layer 6 return.
-/
import Derived.Test.YtknkkagapcigfaaGreatDoorY2
import Derived.Test.YtknkkagapcigfaaGreatDoorX12
import Derived.Test.YtknkkagapcigfaaGreatDoorNat6
import Derived.Lib.MinMax
namespace Go.Proofs.YtknkkagapcigfaaGreatDoor
open Go.RowKit WMath XMath

theorem results_tmp4 {fn : Func} {t u v x : Tmp} (h : fn.results = #[.tmp t, .tmp u, .tmp v, .tmp x]) (tmps : Array Value) (P : Program) (w : World) :
    (results fn tmps).run P w = .ok (.tuple #[tmps.getD t undef, tmps.getD u undef, tmps.getD v undef, tmps.getD x undef]) w := by
  simp [results, h]
/-- What Two answers. -/
def twX (x y : XN) : (ByteArray × ByteArray) × (Int × Int) := if nl (XMath.sA x y) ≤ 16384 ∧ nl (XMath.sA y x) ≤ 16384 then ((nbA (XMath.sA x y), nbA (XMath.sA y x)), (min x.e y.e, 0)) else ((⟨#[]⟩, ⟨#[]⟩), (0, 4))
theorem lf_is (a k : Nat) (v : ByteArray) (er : Int) (h : lg (a * 2 ^ k) = (v, er)) : lf a (k : Int) = (v, er) := by
  unfold lf
  rw [if_neg (by omega), Int.toNat_natCast]
  exact h
theorem lg_err (n : Nat) (v : ByteArray) (er : Int) (h : lg n = (v, er)) : (nl n ≤ 16384 ∧ nbA n = v ∧ er = 0) ∨ (¬ nl n ≤ 16384 ∧ v = ⟨#[]⟩ ∧ er = 4) := by
  unfold lg at h
  split at h
  · cases h
    exact Or.inl ⟨by assumption, rfl, rfl⟩
  · cases h
    exact Or.inr ⟨by assumption, rfl, rfl⟩

set_option maxRecDepth 100000 in
set_option maxHeartbeats 2000000 in
theorem rTwo (b : Bool) (n d : Nat) (e : Int) (s t : ByteArray) (c : Bool) (m f : Nat) (g : Int) (p q : ByteArray) (u v : ByteArray) (L er : Int)
    (hs : nbA n = s) (ht : nbA d = t) (hp : nbA m = p) (hq : nbA f = q) (ln : nl n ≤ 16384) (ld : nl d ≤ 16384) (lm : nl m ≤ 16384) (lf : nl f ≤ 16384) (he : -1048576 ≤ e ∧ e ≤ 1048576 ∧ -1048576 ≤ g ∧ g ≤ 1048576)
    (hr : twX (XN.mk b n d e) (XN.mk c m f g) = ((u, v), (L, er))) (w : World) :
    Calls Tryz.prog 25 #[.agg #[.bool b, .string s, .string t, .int .i64 e], .agg #[.bool c, .string p, .string q, .int .i64 g]] w fun r w' => r = .returned (.tuple #[.string u, .string v, .int .i64 L, .int .i64 er]) ∧ Below w.heap.size w w' := by
  obtain ⟨K, hK⟩ : ∃ K, min e g = K := ⟨_, rfl⟩
  obtain ⟨i, hi⟩ : ∃ i, (e - K).toNat = i := ⟨_, rfl⟩
  obtain ⟨j, hj⟩ : ∃ i, (g - K).toNat = i := ⟨_, rfl⟩
  have eA : XMath.sA (XN.mk b n d e) (XN.mk c m f g) = n * f * 2 ^ i := by unfold XMath.sA; show n * f * 2 ^ (e - min e g).toNat = _; rw [hK, hi]
  have eB : XMath.sA (XN.mk c m f g) (XN.mk b n d e) = m * d * 2 ^ j := by unfold XMath.sA; show m * d * 2 ^ (g - min g e).toNat = _; rw [Int.min_comm g e, hK, hj]
  unfold twX at hr
  rw [eA, eB] at hr
  have hr2 : (if nl (n * f * 2 ^ i) ≤ 16384 ∧ nl (m * d * 2 ^ j) ≤ 16384 then ((nbA (n * f * 2 ^ i), nbA (m * d * 2 ^ j)), (K, (0 : Int))) else ((⟨#[]⟩, ⟨#[]⟩), (0, 4))) = ((u, v), (L, er)) := by rw [← hK]; exact hr
  clear hr eA eB
  have n1 : IntKind.i64.wrap (e - K) = (i : Int) := by rw [wrap_i64_is _ (by omega) (by omega)]; omega
  have n2 : IntKind.i64.wrap (g - K) = (j : Int) := by rw [wrap_i64_is _ (by omega) (by omega)]; omega
  have i2 : i ≤ 100000000 := by omega
  have j2 : j ≤ 100000000 := by omega
  have HS := box hs
  have HT := box ht
  have HP := box hp
  have HQ := box hq
  have LN : Box (nl n ≤ 20000) := box (by omega)
  have LD : Box (nl d ≤ 20000) := box (by omega)
  have LM : Box (nl m ≤ 20000) := box (by omega)
  have LF : Box (nl f ≤ 20000) := box (by omega)
  have hk : (g = K ∧ decide (g < e) = true ∧ j = 0) ∨ (e = K ∧ decide (g < e) = false ∧ i = 0) := by
    by_cases h : g < e
    · exact Or.inl ⟨by omega, decide_eq_true h, by omega⟩
    · exact Or.inr ⟨by omega, decide_eq_false h, by omega⟩
  obtain ⟨x, ex, hx⟩ : ∃ x ex, lg (n * f) = (x, ex) := ⟨_, _, rfl⟩
  obtain ⟨y, ey, hy⟩ : ∃ x ex, lg (m * d) = (x, ex) := ⟨_, _, rfl⟩
  have HX := box hx
  have HY := box hy
  rcases lg_err _ _ _ hx with ⟨l1, hx1, rfl⟩ | ⟨l1, rfl, rfl⟩
  · rcases lg_err _ _ _ hy with ⟨l2, hy1, rfl⟩ | ⟨l2, rfl, rfl⟩
    · obtain ⟨x', ex', hx'⟩ : ∃ x ex, lg (n * f * 2 ^ i) = (x, ex) := ⟨_, _, rfl⟩
      obtain ⟨y', ey', hy'⟩ : ∃ x ex, lg (m * d * 2 ^ j) = (x, ex) := ⟨_, _, rfl⟩
      have F1 := box (lf_is _ _ _ _ hx')
      have F2 := box (lf_is _ _ _ _ hy')
      have H1 := box hx1
      have H2 := box hy1
      have L1 := box l1
      have L2 := box l2
      rcases lg_err _ _ _ hx' with ⟨l3, hx3, rfl⟩ | ⟨l3, rfl, rfl⟩
      · rcases lg_err _ _ _ hy' with ⟨l4, hy3, rfl⟩ | ⟨l4, rfl, rfl⟩
        · rw [if_pos ⟨l3, l4⟩, hx3, hy3] at hr2
          cases hr2
          clear hs ht hp hq ln ld lm lf he hK hi hj hx hy l1 l2 l3 l4 hx1 hy1 hx3 hy3 hx' hy'
          rcases hk with ⟨rfl, dk, rfl⟩ | ⟨rfl, dk, rfl⟩
          · skip
            have Rx_0 : ((w.alloc (Obj.cells #[.bool b, .string s, .string t, .int .i64 e] 24)).alloc (Obj.cells #[.bool c, .string p, .string q, .int .i64 g] 24)).heap[w.heap.size]? = some (Obj.cells #[.bool b, .string s, .string t, .int .i64 e] 24) := by rw [heap_below _ _ _ (by simp only [size_al]; omega)]; have := heap_alloc_last w (Obj.cells #[.bool b, .string s, .string t, .int .i64 e] 24); simpa only [size_al] using this
            have Ry_0 : ((w.alloc (Obj.cells #[.bool b, .string s, .string t, .int .i64 e] 24)).alloc (Obj.cells #[.bool c, .string p, .string q, .int .i64 g] 24)).heap[w.heap.size + 1]? = some (Obj.cells #[.bool c, .string p, .string q, .int .i64 g] 24) := by have := heap_alloc_last (w.alloc (Obj.cells #[.bool b, .string s, .string t, .int .i64 e] 24)) (Obj.cells #[.bool c, .string p, .string q, .int .i64 g] 24); simpa only [size_al] using this
            have B0 : Below w.heap.size w ((w.alloc (Obj.cells #[.bool b, .string s, .string t, .int .i64 e] 24)).alloc (Obj.cells #[.bool c, .string p, .string q, .int .i64 g] 24)) := (((Below.refl _ _).alloc (by first | omega | (simp only [size_al]; omega)) _).alloc (by first | omega | (simp only [size_al]; omega)) _)
            go_enter Tryz.func25, Tryz.ntmps25
            go_wp2_with fail
            refine (nat_Mul n f s q x 0 HS.out HQ.out HX.out LN.out LF.out _).mono ?_
            rintro r w1 ⟨rfl, b1⟩
            have B1 : Below w.heap.size w w1 := btr B0 b1
            have Rx_1 : w1.heap[w.heap.size]? = some (Obj.cells #[.bool b, .string s, .string t, .int .i64 e] 24) := heap_of b1 _ _ _ Rx_0
            have Ry_1 : w1.heap[w.heap.size + 1]? = some (Obj.cells #[.bool c, .string p, .string q, .int .i64 g] 24) := heap_of b1 _ _ _ Ry_0
            clear b1 B0 Rx_0 Ry_0
            have cx_1_0 := cells4 Rx_1 0 _ rfl
            have cx_1_1 := cells4 Rx_1 1 _ rfl
            have cx_1_2 := cells4 Rx_1 2 _ rfl
            have cx_1_3 := cells4 Rx_1 3 _ rfl
            have cy_1_0 := cells4 Ry_1 0 _ rfl
            have cy_1_1 := cells4 Ry_1 1 _ rfl
            have cy_1_2 := cells4 Ry_1 2 _ rfl
            have cy_1_3 := cells4 Ry_1 3 _ rfl
            go_wp2_with fail
            refine (nat_Mul m d p t y 0 HP.out HT.out HY.out LM.out LD.out _).mono ?_
            rintro r w2 ⟨rfl, b2⟩
            have B2 : Below w.heap.size w w2 := btr B1 b2
            have Rx_2 : w2.heap[w.heap.size]? = some (Obj.cells #[.bool b, .string s, .string t, .int .i64 e] 24) := heap_of b2 _ _ _ Rx_1
            have Ry_2 : w2.heap[w.heap.size + 1]? = some (Obj.cells #[.bool c, .string p, .string q, .int .i64 g] 24) := heap_of b2 _ _ _ Ry_1
            clear b2 B1 Rx_1 cx_1_0 cx_1_1 cx_1_2 cx_1_3 Ry_1 cy_1_0 cy_1_1 cy_1_2 cy_1_3
            have cx_2_0 := cells4 Rx_2 0 _ rfl
            have cx_2_1 := cells4 Rx_2 1 _ rfl
            have cx_2_2 := cells4 Rx_2 2 _ rfl
            have cx_2_3 := cells4 Rx_2 3 _ rfl
            have cy_2_0 := cells4 Ry_2 0 _ rfl
            have cy_2_1 := cells4 Ry_2 1 _ rfl
            have cy_2_2 := cells4 Ry_2 2 _ rfl
            have cy_2_3 := cells4 Ry_2 3 _ rfl
            go_wp2_with fail
            refine (nat_Left (n * f) (i : Int) x u 0 H1.out L1.out (by omega) F1.out _).mono ?_
            rintro r w3 ⟨rfl, b3⟩
            have B3 : Below w.heap.size w w3 := btr B2 b3
            have Rx_3 : w3.heap[w.heap.size]? = some (Obj.cells #[.bool b, .string s, .string t, .int .i64 e] 24) := heap_of b3 _ _ _ Rx_2
            have Ry_3 : w3.heap[w.heap.size + 1]? = some (Obj.cells #[.bool c, .string p, .string q, .int .i64 g] 24) := heap_of b3 _ _ _ Ry_2
            clear b3 B2 Rx_2 cx_2_0 cx_2_1 cx_2_2 cx_2_3 Ry_2 cy_2_0 cy_2_1 cy_2_2 cy_2_3
            have cx_3_0 := cells4 Rx_3 0 _ rfl
            have cx_3_1 := cells4 Rx_3 1 _ rfl
            have cx_3_2 := cells4 Rx_3 2 _ rfl
            have cx_3_3 := cells4 Rx_3 3 _ rfl
            have cy_3_0 := cells4 Ry_3 0 _ rfl
            have cy_3_1 := cells4 Ry_3 1 _ rfl
            have cy_3_2 := cells4 Ry_3 2 _ rfl
            have cy_3_3 := cells4 Ry_3 3 _ rfl
            go_wp2_with fail
            refine (nat_Left (m * d) 0 y v 0 H2.out L2.out (by omega) (show lf (m * d) 0 = _ from F2.out) _).mono ?_
            rintro r w4 ⟨rfl, b4⟩
            have B4 : Below w.heap.size w w4 := btr B3 b4
            have Rx_4 : w4.heap[w.heap.size]? = some (Obj.cells #[.bool b, .string s, .string t, .int .i64 e] 24) := heap_of b4 _ _ _ Rx_3
            have Ry_4 : w4.heap[w.heap.size + 1]? = some (Obj.cells #[.bool c, .string p, .string q, .int .i64 g] 24) := heap_of b4 _ _ _ Ry_3
            clear b4 B3 Rx_3 cx_3_0 cx_3_1 cx_3_2 cx_3_3 Ry_3 cy_3_0 cy_3_1 cy_3_2 cy_3_3
            have cx_4_0 := cells4 Rx_4 0 _ rfl
            have cx_4_1 := cells4 Rx_4 1 _ rfl
            have cx_4_2 := cells4 Rx_4 2 _ rfl
            have cx_4_3 := cells4 Rx_4 3 _ rfl
            have cy_4_0 := cells4 Ry_4 0 _ rfl
            have cy_4_1 := cells4 Ry_4 1 _ rfl
            have cy_4_2 := cells4 Ry_4 2 _ rfl
            have cy_4_3 := cells4 Ry_4 3 _ rfl
            go_wp2
            try simp only [Exit.inBlock, Exit.then]
            refine bodyPost_ret (results_tmp4 rfl _ _ _) rfl ?_
            exact ⟨rfl, B4⟩
          · skip
            have Rx_0 : ((w.alloc (Obj.cells #[.bool b, .string s, .string t, .int .i64 e] 24)).alloc (Obj.cells #[.bool c, .string p, .string q, .int .i64 g] 24)).heap[w.heap.size]? = some (Obj.cells #[.bool b, .string s, .string t, .int .i64 e] 24) := by rw [heap_below _ _ _ (by simp only [size_al]; omega)]; have := heap_alloc_last w (Obj.cells #[.bool b, .string s, .string t, .int .i64 e] 24); simpa only [size_al] using this
            have Ry_0 : ((w.alloc (Obj.cells #[.bool b, .string s, .string t, .int .i64 e] 24)).alloc (Obj.cells #[.bool c, .string p, .string q, .int .i64 g] 24)).heap[w.heap.size + 1]? = some (Obj.cells #[.bool c, .string p, .string q, .int .i64 g] 24) := by have := heap_alloc_last (w.alloc (Obj.cells #[.bool b, .string s, .string t, .int .i64 e] 24)) (Obj.cells #[.bool c, .string p, .string q, .int .i64 g] 24); simpa only [size_al] using this
            have B0 : Below w.heap.size w ((w.alloc (Obj.cells #[.bool b, .string s, .string t, .int .i64 e] 24)).alloc (Obj.cells #[.bool c, .string p, .string q, .int .i64 g] 24)) := (((Below.refl _ _).alloc (by first | omega | (simp only [size_al]; omega)) _).alloc (by first | omega | (simp only [size_al]; omega)) _)
            go_enter Tryz.func25, Tryz.ntmps25
            go_wp2_with fail
            refine (nat_Mul n f s q x 0 HS.out HQ.out HX.out LN.out LF.out _).mono ?_
            rintro r w1 ⟨rfl, b1⟩
            have B1 : Below w.heap.size w w1 := btr B0 b1
            have Rx_1 : w1.heap[w.heap.size]? = some (Obj.cells #[.bool b, .string s, .string t, .int .i64 e] 24) := heap_of b1 _ _ _ Rx_0
            have Ry_1 : w1.heap[w.heap.size + 1]? = some (Obj.cells #[.bool c, .string p, .string q, .int .i64 g] 24) := heap_of b1 _ _ _ Ry_0
            clear b1 B0 Rx_0 Ry_0
            have cx_1_0 := cells4 Rx_1 0 _ rfl
            have cx_1_1 := cells4 Rx_1 1 _ rfl
            have cx_1_2 := cells4 Rx_1 2 _ rfl
            have cx_1_3 := cells4 Rx_1 3 _ rfl
            have cy_1_0 := cells4 Ry_1 0 _ rfl
            have cy_1_1 := cells4 Ry_1 1 _ rfl
            have cy_1_2 := cells4 Ry_1 2 _ rfl
            have cy_1_3 := cells4 Ry_1 3 _ rfl
            go_wp2_with fail
            refine (nat_Mul m d p t y 0 HP.out HT.out HY.out LM.out LD.out _).mono ?_
            rintro r w2 ⟨rfl, b2⟩
            have B2 : Below w.heap.size w w2 := btr B1 b2
            have Rx_2 : w2.heap[w.heap.size]? = some (Obj.cells #[.bool b, .string s, .string t, .int .i64 e] 24) := heap_of b2 _ _ _ Rx_1
            have Ry_2 : w2.heap[w.heap.size + 1]? = some (Obj.cells #[.bool c, .string p, .string q, .int .i64 g] 24) := heap_of b2 _ _ _ Ry_1
            clear b2 B1 Rx_1 cx_1_0 cx_1_1 cx_1_2 cx_1_3 Ry_1 cy_1_0 cy_1_1 cy_1_2 cy_1_3
            have cx_2_0 := cells4 Rx_2 0 _ rfl
            have cx_2_1 := cells4 Rx_2 1 _ rfl
            have cx_2_2 := cells4 Rx_2 2 _ rfl
            have cx_2_3 := cells4 Rx_2 3 _ rfl
            have cy_2_0 := cells4 Ry_2 0 _ rfl
            have cy_2_1 := cells4 Ry_2 1 _ rfl
            have cy_2_2 := cells4 Ry_2 2 _ rfl
            have cy_2_3 := cells4 Ry_2 3 _ rfl
            go_wp2_with fail
            refine (nat_Left (n * f) 0 x u 0 H1.out L1.out (by omega) (show lf (n * f) 0 = _ from F1.out) _).mono ?_
            rintro r w3 ⟨rfl, b3⟩
            have B3 : Below w.heap.size w w3 := btr B2 b3
            have Rx_3 : w3.heap[w.heap.size]? = some (Obj.cells #[.bool b, .string s, .string t, .int .i64 e] 24) := heap_of b3 _ _ _ Rx_2
            have Ry_3 : w3.heap[w.heap.size + 1]? = some (Obj.cells #[.bool c, .string p, .string q, .int .i64 g] 24) := heap_of b3 _ _ _ Ry_2
            clear b3 B2 Rx_2 cx_2_0 cx_2_1 cx_2_2 cx_2_3 Ry_2 cy_2_0 cy_2_1 cy_2_2 cy_2_3
            have cx_3_0 := cells4 Rx_3 0 _ rfl
            have cx_3_1 := cells4 Rx_3 1 _ rfl
            have cx_3_2 := cells4 Rx_3 2 _ rfl
            have cx_3_3 := cells4 Rx_3 3 _ rfl
            have cy_3_0 := cells4 Ry_3 0 _ rfl
            have cy_3_1 := cells4 Ry_3 1 _ rfl
            have cy_3_2 := cells4 Ry_3 2 _ rfl
            have cy_3_3 := cells4 Ry_3 3 _ rfl
            go_wp2_with fail
            refine (nat_Left (m * d) (j : Int) y v 0 H2.out L2.out (by omega) F2.out _).mono ?_
            rintro r w4 ⟨rfl, b4⟩
            have B4 : Below w.heap.size w w4 := btr B3 b4
            have Rx_4 : w4.heap[w.heap.size]? = some (Obj.cells #[.bool b, .string s, .string t, .int .i64 e] 24) := heap_of b4 _ _ _ Rx_3
            have Ry_4 : w4.heap[w.heap.size + 1]? = some (Obj.cells #[.bool c, .string p, .string q, .int .i64 g] 24) := heap_of b4 _ _ _ Ry_3
            clear b4 B3 Rx_3 cx_3_0 cx_3_1 cx_3_2 cx_3_3 Ry_3 cy_3_0 cy_3_1 cy_3_2 cy_3_3
            have cx_4_0 := cells4 Rx_4 0 _ rfl
            have cx_4_1 := cells4 Rx_4 1 _ rfl
            have cx_4_2 := cells4 Rx_4 2 _ rfl
            have cx_4_3 := cells4 Rx_4 3 _ rfl
            have cy_4_0 := cells4 Ry_4 0 _ rfl
            have cy_4_1 := cells4 Ry_4 1 _ rfl
            have cy_4_2 := cells4 Ry_4 2 _ rfl
            have cy_4_3 := cells4 Ry_4 3 _ rfl
            go_wp2
            try simp only [Exit.inBlock, Exit.then]
            refine bodyPost_ret (results_tmp4 rfl _ _ _) rfl ?_
            exact ⟨rfl, B4⟩
        · rw [if_neg (fun h => l4 h.2)] at hr2
          cases hr2
          clear hs ht hp hq ln ld lm lf he hK hi hj hx hy l1 l2 l3 l4 hx1 hy1 hx3 hx' hy'
          rcases hk with ⟨rfl, dk, rfl⟩ | ⟨rfl, dk, rfl⟩
          · skip
            have Rx_0 : ((w.alloc (Obj.cells #[.bool b, .string s, .string t, .int .i64 e] 24)).alloc (Obj.cells #[.bool c, .string p, .string q, .int .i64 g] 24)).heap[w.heap.size]? = some (Obj.cells #[.bool b, .string s, .string t, .int .i64 e] 24) := by rw [heap_below _ _ _ (by simp only [size_al]; omega)]; have := heap_alloc_last w (Obj.cells #[.bool b, .string s, .string t, .int .i64 e] 24); simpa only [size_al] using this
            have Ry_0 : ((w.alloc (Obj.cells #[.bool b, .string s, .string t, .int .i64 e] 24)).alloc (Obj.cells #[.bool c, .string p, .string q, .int .i64 g] 24)).heap[w.heap.size + 1]? = some (Obj.cells #[.bool c, .string p, .string q, .int .i64 g] 24) := by have := heap_alloc_last (w.alloc (Obj.cells #[.bool b, .string s, .string t, .int .i64 e] 24)) (Obj.cells #[.bool c, .string p, .string q, .int .i64 g] 24); simpa only [size_al] using this
            have B0 : Below w.heap.size w ((w.alloc (Obj.cells #[.bool b, .string s, .string t, .int .i64 e] 24)).alloc (Obj.cells #[.bool c, .string p, .string q, .int .i64 g] 24)) := (((Below.refl _ _).alloc (by first | omega | (simp only [size_al]; omega)) _).alloc (by first | omega | (simp only [size_al]; omega)) _)
            go_enter Tryz.func25, Tryz.ntmps25
            go_wp2_with fail
            refine (nat_Mul n f s q x 0 HS.out HQ.out HX.out LN.out LF.out _).mono ?_
            rintro r w1 ⟨rfl, b1⟩
            have B1 : Below w.heap.size w w1 := btr B0 b1
            have Rx_1 : w1.heap[w.heap.size]? = some (Obj.cells #[.bool b, .string s, .string t, .int .i64 e] 24) := heap_of b1 _ _ _ Rx_0
            have Ry_1 : w1.heap[w.heap.size + 1]? = some (Obj.cells #[.bool c, .string p, .string q, .int .i64 g] 24) := heap_of b1 _ _ _ Ry_0
            clear b1 B0 Rx_0 Ry_0
            have cx_1_0 := cells4 Rx_1 0 _ rfl
            have cx_1_1 := cells4 Rx_1 1 _ rfl
            have cx_1_2 := cells4 Rx_1 2 _ rfl
            have cx_1_3 := cells4 Rx_1 3 _ rfl
            have cy_1_0 := cells4 Ry_1 0 _ rfl
            have cy_1_1 := cells4 Ry_1 1 _ rfl
            have cy_1_2 := cells4 Ry_1 2 _ rfl
            have cy_1_3 := cells4 Ry_1 3 _ rfl
            go_wp2_with fail
            refine (nat_Mul m d p t y 0 HP.out HT.out HY.out LM.out LD.out _).mono ?_
            rintro r w2 ⟨rfl, b2⟩
            have B2 : Below w.heap.size w w2 := btr B1 b2
            have Rx_2 : w2.heap[w.heap.size]? = some (Obj.cells #[.bool b, .string s, .string t, .int .i64 e] 24) := heap_of b2 _ _ _ Rx_1
            have Ry_2 : w2.heap[w.heap.size + 1]? = some (Obj.cells #[.bool c, .string p, .string q, .int .i64 g] 24) := heap_of b2 _ _ _ Ry_1
            clear b2 B1 Rx_1 cx_1_0 cx_1_1 cx_1_2 cx_1_3 Ry_1 cy_1_0 cy_1_1 cy_1_2 cy_1_3
            have cx_2_0 := cells4 Rx_2 0 _ rfl
            have cx_2_1 := cells4 Rx_2 1 _ rfl
            have cx_2_2 := cells4 Rx_2 2 _ rfl
            have cx_2_3 := cells4 Rx_2 3 _ rfl
            have cy_2_0 := cells4 Ry_2 0 _ rfl
            have cy_2_1 := cells4 Ry_2 1 _ rfl
            have cy_2_2 := cells4 Ry_2 2 _ rfl
            have cy_2_3 := cells4 Ry_2 3 _ rfl
            go_wp2_with fail
            refine (nat_Left (n * f) (i : Int) x x' 0 H1.out L1.out (by omega) F1.out _).mono ?_
            rintro r w3 ⟨rfl, b3⟩
            have B3 : Below w.heap.size w w3 := btr B2 b3
            have Rx_3 : w3.heap[w.heap.size]? = some (Obj.cells #[.bool b, .string s, .string t, .int .i64 e] 24) := heap_of b3 _ _ _ Rx_2
            have Ry_3 : w3.heap[w.heap.size + 1]? = some (Obj.cells #[.bool c, .string p, .string q, .int .i64 g] 24) := heap_of b3 _ _ _ Ry_2
            clear b3 B2 Rx_2 cx_2_0 cx_2_1 cx_2_2 cx_2_3 Ry_2 cy_2_0 cy_2_1 cy_2_2 cy_2_3
            have cx_3_0 := cells4 Rx_3 0 _ rfl
            have cx_3_1 := cells4 Rx_3 1 _ rfl
            have cx_3_2 := cells4 Rx_3 2 _ rfl
            have cx_3_3 := cells4 Rx_3 3 _ rfl
            have cy_3_0 := cells4 Ry_3 0 _ rfl
            have cy_3_1 := cells4 Ry_3 1 _ rfl
            have cy_3_2 := cells4 Ry_3 2 _ rfl
            have cy_3_3 := cells4 Ry_3 3 _ rfl
            go_wp2_with fail
            refine (nat_Left (m * d) 0 y _ 4 H2.out L2.out (by omega) (show lf (m * d) 0 = _ from F2.out) _).mono ?_
            rintro r w4 ⟨rfl, b4⟩
            have B4 : Below w.heap.size w w4 := btr B3 b4
            have Rx_4 : w4.heap[w.heap.size]? = some (Obj.cells #[.bool b, .string s, .string t, .int .i64 e] 24) := heap_of b4 _ _ _ Rx_3
            have Ry_4 : w4.heap[w.heap.size + 1]? = some (Obj.cells #[.bool c, .string p, .string q, .int .i64 g] 24) := heap_of b4 _ _ _ Ry_3
            clear b4 B3 Rx_3 cx_3_0 cx_3_1 cx_3_2 cx_3_3 Ry_3 cy_3_0 cy_3_1 cy_3_2 cy_3_3
            have cx_4_0 := cells4 Rx_4 0 _ rfl
            have cx_4_1 := cells4 Rx_4 1 _ rfl
            have cx_4_2 := cells4 Rx_4 2 _ rfl
            have cx_4_3 := cells4 Rx_4 3 _ rfl
            have cy_4_0 := cells4 Ry_4 0 _ rfl
            have cy_4_1 := cells4 Ry_4 1 _ rfl
            have cy_4_2 := cells4 Ry_4 2 _ rfl
            have cy_4_3 := cells4 Ry_4 3 _ rfl
            go_wp2
            try simp only [Exit.inBlock, Exit.then]
            refine bodyPost_ret (results_tmp4 rfl _ _ _) rfl ?_
            exact ⟨rfl, B4⟩
          · skip
            have Rx_0 : ((w.alloc (Obj.cells #[.bool b, .string s, .string t, .int .i64 e] 24)).alloc (Obj.cells #[.bool c, .string p, .string q, .int .i64 g] 24)).heap[w.heap.size]? = some (Obj.cells #[.bool b, .string s, .string t, .int .i64 e] 24) := by rw [heap_below _ _ _ (by simp only [size_al]; omega)]; have := heap_alloc_last w (Obj.cells #[.bool b, .string s, .string t, .int .i64 e] 24); simpa only [size_al] using this
            have Ry_0 : ((w.alloc (Obj.cells #[.bool b, .string s, .string t, .int .i64 e] 24)).alloc (Obj.cells #[.bool c, .string p, .string q, .int .i64 g] 24)).heap[w.heap.size + 1]? = some (Obj.cells #[.bool c, .string p, .string q, .int .i64 g] 24) := by have := heap_alloc_last (w.alloc (Obj.cells #[.bool b, .string s, .string t, .int .i64 e] 24)) (Obj.cells #[.bool c, .string p, .string q, .int .i64 g] 24); simpa only [size_al] using this
            have B0 : Below w.heap.size w ((w.alloc (Obj.cells #[.bool b, .string s, .string t, .int .i64 e] 24)).alloc (Obj.cells #[.bool c, .string p, .string q, .int .i64 g] 24)) := (((Below.refl _ _).alloc (by first | omega | (simp only [size_al]; omega)) _).alloc (by first | omega | (simp only [size_al]; omega)) _)
            go_enter Tryz.func25, Tryz.ntmps25
            go_wp2_with fail
            refine (nat_Mul n f s q x 0 HS.out HQ.out HX.out LN.out LF.out _).mono ?_
            rintro r w1 ⟨rfl, b1⟩
            have B1 : Below w.heap.size w w1 := btr B0 b1
            have Rx_1 : w1.heap[w.heap.size]? = some (Obj.cells #[.bool b, .string s, .string t, .int .i64 e] 24) := heap_of b1 _ _ _ Rx_0
            have Ry_1 : w1.heap[w.heap.size + 1]? = some (Obj.cells #[.bool c, .string p, .string q, .int .i64 g] 24) := heap_of b1 _ _ _ Ry_0
            clear b1 B0 Rx_0 Ry_0
            have cx_1_0 := cells4 Rx_1 0 _ rfl
            have cx_1_1 := cells4 Rx_1 1 _ rfl
            have cx_1_2 := cells4 Rx_1 2 _ rfl
            have cx_1_3 := cells4 Rx_1 3 _ rfl
            have cy_1_0 := cells4 Ry_1 0 _ rfl
            have cy_1_1 := cells4 Ry_1 1 _ rfl
            have cy_1_2 := cells4 Ry_1 2 _ rfl
            have cy_1_3 := cells4 Ry_1 3 _ rfl
            go_wp2_with fail
            refine (nat_Mul m d p t y 0 HP.out HT.out HY.out LM.out LD.out _).mono ?_
            rintro r w2 ⟨rfl, b2⟩
            have B2 : Below w.heap.size w w2 := btr B1 b2
            have Rx_2 : w2.heap[w.heap.size]? = some (Obj.cells #[.bool b, .string s, .string t, .int .i64 e] 24) := heap_of b2 _ _ _ Rx_1
            have Ry_2 : w2.heap[w.heap.size + 1]? = some (Obj.cells #[.bool c, .string p, .string q, .int .i64 g] 24) := heap_of b2 _ _ _ Ry_1
            clear b2 B1 Rx_1 cx_1_0 cx_1_1 cx_1_2 cx_1_3 Ry_1 cy_1_0 cy_1_1 cy_1_2 cy_1_3
            have cx_2_0 := cells4 Rx_2 0 _ rfl
            have cx_2_1 := cells4 Rx_2 1 _ rfl
            have cx_2_2 := cells4 Rx_2 2 _ rfl
            have cx_2_3 := cells4 Rx_2 3 _ rfl
            have cy_2_0 := cells4 Ry_2 0 _ rfl
            have cy_2_1 := cells4 Ry_2 1 _ rfl
            have cy_2_2 := cells4 Ry_2 2 _ rfl
            have cy_2_3 := cells4 Ry_2 3 _ rfl
            go_wp2_with fail
            refine (nat_Left (n * f) 0 x x' 0 H1.out L1.out (by omega) (show lf (n * f) 0 = _ from F1.out) _).mono ?_
            rintro r w3 ⟨rfl, b3⟩
            have B3 : Below w.heap.size w w3 := btr B2 b3
            have Rx_3 : w3.heap[w.heap.size]? = some (Obj.cells #[.bool b, .string s, .string t, .int .i64 e] 24) := heap_of b3 _ _ _ Rx_2
            have Ry_3 : w3.heap[w.heap.size + 1]? = some (Obj.cells #[.bool c, .string p, .string q, .int .i64 g] 24) := heap_of b3 _ _ _ Ry_2
            clear b3 B2 Rx_2 cx_2_0 cx_2_1 cx_2_2 cx_2_3 Ry_2 cy_2_0 cy_2_1 cy_2_2 cy_2_3
            have cx_3_0 := cells4 Rx_3 0 _ rfl
            have cx_3_1 := cells4 Rx_3 1 _ rfl
            have cx_3_2 := cells4 Rx_3 2 _ rfl
            have cx_3_3 := cells4 Rx_3 3 _ rfl
            have cy_3_0 := cells4 Ry_3 0 _ rfl
            have cy_3_1 := cells4 Ry_3 1 _ rfl
            have cy_3_2 := cells4 Ry_3 2 _ rfl
            have cy_3_3 := cells4 Ry_3 3 _ rfl
            go_wp2_with fail
            refine (nat_Left (m * d) (j : Int) y _ 4 H2.out L2.out (by omega) F2.out _).mono ?_
            rintro r w4 ⟨rfl, b4⟩
            have B4 : Below w.heap.size w w4 := btr B3 b4
            have Rx_4 : w4.heap[w.heap.size]? = some (Obj.cells #[.bool b, .string s, .string t, .int .i64 e] 24) := heap_of b4 _ _ _ Rx_3
            have Ry_4 : w4.heap[w.heap.size + 1]? = some (Obj.cells #[.bool c, .string p, .string q, .int .i64 g] 24) := heap_of b4 _ _ _ Ry_3
            clear b4 B3 Rx_3 cx_3_0 cx_3_1 cx_3_2 cx_3_3 Ry_3 cy_3_0 cy_3_1 cy_3_2 cy_3_3
            have cx_4_0 := cells4 Rx_4 0 _ rfl
            have cx_4_1 := cells4 Rx_4 1 _ rfl
            have cx_4_2 := cells4 Rx_4 2 _ rfl
            have cx_4_3 := cells4 Rx_4 3 _ rfl
            have cy_4_0 := cells4 Ry_4 0 _ rfl
            have cy_4_1 := cells4 Ry_4 1 _ rfl
            have cy_4_2 := cells4 Ry_4 2 _ rfl
            have cy_4_3 := cells4 Ry_4 3 _ rfl
            go_wp2
            try simp only [Exit.inBlock, Exit.then]
            refine bodyPost_ret (results_tmp4 rfl _ _ _) rfl ?_
            exact ⟨rfl, B4⟩
      · rw [if_neg (fun h => l3 h.1)] at hr2
        cases hr2
        clear hs ht hp hq ln ld lm lf he hK hi hj hx hy l1 l2 l3 hx1 hy1 hx' hy'
        rcases hk with ⟨rfl, dk, rfl⟩ | ⟨rfl, dk, rfl⟩
        · skip
          have Rx_0 : ((w.alloc (Obj.cells #[.bool b, .string s, .string t, .int .i64 e] 24)).alloc (Obj.cells #[.bool c, .string p, .string q, .int .i64 g] 24)).heap[w.heap.size]? = some (Obj.cells #[.bool b, .string s, .string t, .int .i64 e] 24) := by rw [heap_below _ _ _ (by simp only [size_al]; omega)]; have := heap_alloc_last w (Obj.cells #[.bool b, .string s, .string t, .int .i64 e] 24); simpa only [size_al] using this
          have Ry_0 : ((w.alloc (Obj.cells #[.bool b, .string s, .string t, .int .i64 e] 24)).alloc (Obj.cells #[.bool c, .string p, .string q, .int .i64 g] 24)).heap[w.heap.size + 1]? = some (Obj.cells #[.bool c, .string p, .string q, .int .i64 g] 24) := by have := heap_alloc_last (w.alloc (Obj.cells #[.bool b, .string s, .string t, .int .i64 e] 24)) (Obj.cells #[.bool c, .string p, .string q, .int .i64 g] 24); simpa only [size_al] using this
          have B0 : Below w.heap.size w ((w.alloc (Obj.cells #[.bool b, .string s, .string t, .int .i64 e] 24)).alloc (Obj.cells #[.bool c, .string p, .string q, .int .i64 g] 24)) := (((Below.refl _ _).alloc (by first | omega | (simp only [size_al]; omega)) _).alloc (by first | omega | (simp only [size_al]; omega)) _)
          go_enter Tryz.func25, Tryz.ntmps25
          go_wp2_with fail
          refine (nat_Mul n f s q x 0 HS.out HQ.out HX.out LN.out LF.out _).mono ?_
          rintro r w1 ⟨rfl, b1⟩
          have B1 : Below w.heap.size w w1 := btr B0 b1
          have Rx_1 : w1.heap[w.heap.size]? = some (Obj.cells #[.bool b, .string s, .string t, .int .i64 e] 24) := heap_of b1 _ _ _ Rx_0
          have Ry_1 : w1.heap[w.heap.size + 1]? = some (Obj.cells #[.bool c, .string p, .string q, .int .i64 g] 24) := heap_of b1 _ _ _ Ry_0
          clear b1 B0 Rx_0 Ry_0
          have cx_1_0 := cells4 Rx_1 0 _ rfl
          have cx_1_1 := cells4 Rx_1 1 _ rfl
          have cx_1_2 := cells4 Rx_1 2 _ rfl
          have cx_1_3 := cells4 Rx_1 3 _ rfl
          have cy_1_0 := cells4 Ry_1 0 _ rfl
          have cy_1_1 := cells4 Ry_1 1 _ rfl
          have cy_1_2 := cells4 Ry_1 2 _ rfl
          have cy_1_3 := cells4 Ry_1 3 _ rfl
          go_wp2_with fail
          refine (nat_Mul m d p t y 0 HP.out HT.out HY.out LM.out LD.out _).mono ?_
          rintro r w2 ⟨rfl, b2⟩
          have B2 : Below w.heap.size w w2 := btr B1 b2
          have Rx_2 : w2.heap[w.heap.size]? = some (Obj.cells #[.bool b, .string s, .string t, .int .i64 e] 24) := heap_of b2 _ _ _ Rx_1
          have Ry_2 : w2.heap[w.heap.size + 1]? = some (Obj.cells #[.bool c, .string p, .string q, .int .i64 g] 24) := heap_of b2 _ _ _ Ry_1
          clear b2 B1 Rx_1 cx_1_0 cx_1_1 cx_1_2 cx_1_3 Ry_1 cy_1_0 cy_1_1 cy_1_2 cy_1_3
          have cx_2_0 := cells4 Rx_2 0 _ rfl
          have cx_2_1 := cells4 Rx_2 1 _ rfl
          have cx_2_2 := cells4 Rx_2 2 _ rfl
          have cx_2_3 := cells4 Rx_2 3 _ rfl
          have cy_2_0 := cells4 Ry_2 0 _ rfl
          have cy_2_1 := cells4 Ry_2 1 _ rfl
          have cy_2_2 := cells4 Ry_2 2 _ rfl
          have cy_2_3 := cells4 Ry_2 3 _ rfl
          go_wp2_with fail
          refine (nat_Left (n * f) (i : Int) x _ 4 H1.out L1.out (by omega) F1.out _).mono ?_
          rintro r w3 ⟨rfl, b3⟩
          have B3 : Below w.heap.size w w3 := btr B2 b3
          have Rx_3 : w3.heap[w.heap.size]? = some (Obj.cells #[.bool b, .string s, .string t, .int .i64 e] 24) := heap_of b3 _ _ _ Rx_2
          have Ry_3 : w3.heap[w.heap.size + 1]? = some (Obj.cells #[.bool c, .string p, .string q, .int .i64 g] 24) := heap_of b3 _ _ _ Ry_2
          clear b3 B2 Rx_2 cx_2_0 cx_2_1 cx_2_2 cx_2_3 Ry_2 cy_2_0 cy_2_1 cy_2_2 cy_2_3
          have cx_3_0 := cells4 Rx_3 0 _ rfl
          have cx_3_1 := cells4 Rx_3 1 _ rfl
          have cx_3_2 := cells4 Rx_3 2 _ rfl
          have cx_3_3 := cells4 Rx_3 3 _ rfl
          have cy_3_0 := cells4 Ry_3 0 _ rfl
          have cy_3_1 := cells4 Ry_3 1 _ rfl
          have cy_3_2 := cells4 Ry_3 2 _ rfl
          have cy_3_3 := cells4 Ry_3 3 _ rfl
          go_wp2_with fail
          refine (nat_Left (m * d) 0 y y' ey' H2.out L2.out (by omega) (show lf (m * d) 0 = _ from F2.out) _).mono ?_
          rintro r w4 ⟨rfl, b4⟩
          have B4 : Below w.heap.size w w4 := btr B3 b4
          have Rx_4 : w4.heap[w.heap.size]? = some (Obj.cells #[.bool b, .string s, .string t, .int .i64 e] 24) := heap_of b4 _ _ _ Rx_3
          have Ry_4 : w4.heap[w.heap.size + 1]? = some (Obj.cells #[.bool c, .string p, .string q, .int .i64 g] 24) := heap_of b4 _ _ _ Ry_3
          clear b4 B3 Rx_3 cx_3_0 cx_3_1 cx_3_2 cx_3_3 Ry_3 cy_3_0 cy_3_1 cy_3_2 cy_3_3
          have cx_4_0 := cells4 Rx_4 0 _ rfl
          have cx_4_1 := cells4 Rx_4 1 _ rfl
          have cx_4_2 := cells4 Rx_4 2 _ rfl
          have cx_4_3 := cells4 Rx_4 3 _ rfl
          have cy_4_0 := cells4 Ry_4 0 _ rfl
          have cy_4_1 := cells4 Ry_4 1 _ rfl
          have cy_4_2 := cells4 Ry_4 2 _ rfl
          have cy_4_3 := cells4 Ry_4 3 _ rfl
          go_wp2
          try simp only [Exit.inBlock, Exit.then]
          refine bodyPost_ret (results_tmp4 rfl _ _ _) rfl ?_
          exact ⟨rfl, B4⟩
        · skip
          have Rx_0 : ((w.alloc (Obj.cells #[.bool b, .string s, .string t, .int .i64 e] 24)).alloc (Obj.cells #[.bool c, .string p, .string q, .int .i64 g] 24)).heap[w.heap.size]? = some (Obj.cells #[.bool b, .string s, .string t, .int .i64 e] 24) := by rw [heap_below _ _ _ (by simp only [size_al]; omega)]; have := heap_alloc_last w (Obj.cells #[.bool b, .string s, .string t, .int .i64 e] 24); simpa only [size_al] using this
          have Ry_0 : ((w.alloc (Obj.cells #[.bool b, .string s, .string t, .int .i64 e] 24)).alloc (Obj.cells #[.bool c, .string p, .string q, .int .i64 g] 24)).heap[w.heap.size + 1]? = some (Obj.cells #[.bool c, .string p, .string q, .int .i64 g] 24) := by have := heap_alloc_last (w.alloc (Obj.cells #[.bool b, .string s, .string t, .int .i64 e] 24)) (Obj.cells #[.bool c, .string p, .string q, .int .i64 g] 24); simpa only [size_al] using this
          have B0 : Below w.heap.size w ((w.alloc (Obj.cells #[.bool b, .string s, .string t, .int .i64 e] 24)).alloc (Obj.cells #[.bool c, .string p, .string q, .int .i64 g] 24)) := (((Below.refl _ _).alloc (by first | omega | (simp only [size_al]; omega)) _).alloc (by first | omega | (simp only [size_al]; omega)) _)
          go_enter Tryz.func25, Tryz.ntmps25
          go_wp2_with fail
          refine (nat_Mul n f s q x 0 HS.out HQ.out HX.out LN.out LF.out _).mono ?_
          rintro r w1 ⟨rfl, b1⟩
          have B1 : Below w.heap.size w w1 := btr B0 b1
          have Rx_1 : w1.heap[w.heap.size]? = some (Obj.cells #[.bool b, .string s, .string t, .int .i64 e] 24) := heap_of b1 _ _ _ Rx_0
          have Ry_1 : w1.heap[w.heap.size + 1]? = some (Obj.cells #[.bool c, .string p, .string q, .int .i64 g] 24) := heap_of b1 _ _ _ Ry_0
          clear b1 B0 Rx_0 Ry_0
          have cx_1_0 := cells4 Rx_1 0 _ rfl
          have cx_1_1 := cells4 Rx_1 1 _ rfl
          have cx_1_2 := cells4 Rx_1 2 _ rfl
          have cx_1_3 := cells4 Rx_1 3 _ rfl
          have cy_1_0 := cells4 Ry_1 0 _ rfl
          have cy_1_1 := cells4 Ry_1 1 _ rfl
          have cy_1_2 := cells4 Ry_1 2 _ rfl
          have cy_1_3 := cells4 Ry_1 3 _ rfl
          go_wp2_with fail
          refine (nat_Mul m d p t y 0 HP.out HT.out HY.out LM.out LD.out _).mono ?_
          rintro r w2 ⟨rfl, b2⟩
          have B2 : Below w.heap.size w w2 := btr B1 b2
          have Rx_2 : w2.heap[w.heap.size]? = some (Obj.cells #[.bool b, .string s, .string t, .int .i64 e] 24) := heap_of b2 _ _ _ Rx_1
          have Ry_2 : w2.heap[w.heap.size + 1]? = some (Obj.cells #[.bool c, .string p, .string q, .int .i64 g] 24) := heap_of b2 _ _ _ Ry_1
          clear b2 B1 Rx_1 cx_1_0 cx_1_1 cx_1_2 cx_1_3 Ry_1 cy_1_0 cy_1_1 cy_1_2 cy_1_3
          have cx_2_0 := cells4 Rx_2 0 _ rfl
          have cx_2_1 := cells4 Rx_2 1 _ rfl
          have cx_2_2 := cells4 Rx_2 2 _ rfl
          have cx_2_3 := cells4 Rx_2 3 _ rfl
          have cy_2_0 := cells4 Ry_2 0 _ rfl
          have cy_2_1 := cells4 Ry_2 1 _ rfl
          have cy_2_2 := cells4 Ry_2 2 _ rfl
          have cy_2_3 := cells4 Ry_2 3 _ rfl
          go_wp2_with fail
          refine (nat_Left (n * f) 0 x _ 4 H1.out L1.out (by omega) (show lf (n * f) 0 = _ from F1.out) _).mono ?_
          rintro r w3 ⟨rfl, b3⟩
          have B3 : Below w.heap.size w w3 := btr B2 b3
          have Rx_3 : w3.heap[w.heap.size]? = some (Obj.cells #[.bool b, .string s, .string t, .int .i64 e] 24) := heap_of b3 _ _ _ Rx_2
          have Ry_3 : w3.heap[w.heap.size + 1]? = some (Obj.cells #[.bool c, .string p, .string q, .int .i64 g] 24) := heap_of b3 _ _ _ Ry_2
          clear b3 B2 Rx_2 cx_2_0 cx_2_1 cx_2_2 cx_2_3 Ry_2 cy_2_0 cy_2_1 cy_2_2 cy_2_3
          have cx_3_0 := cells4 Rx_3 0 _ rfl
          have cx_3_1 := cells4 Rx_3 1 _ rfl
          have cx_3_2 := cells4 Rx_3 2 _ rfl
          have cx_3_3 := cells4 Rx_3 3 _ rfl
          have cy_3_0 := cells4 Ry_3 0 _ rfl
          have cy_3_1 := cells4 Ry_3 1 _ rfl
          have cy_3_2 := cells4 Ry_3 2 _ rfl
          have cy_3_3 := cells4 Ry_3 3 _ rfl
          go_wp2_with fail
          refine (nat_Left (m * d) (j : Int) y y' ey' H2.out L2.out (by omega) F2.out _).mono ?_
          rintro r w4 ⟨rfl, b4⟩
          have B4 : Below w.heap.size w w4 := btr B3 b4
          have Rx_4 : w4.heap[w.heap.size]? = some (Obj.cells #[.bool b, .string s, .string t, .int .i64 e] 24) := heap_of b4 _ _ _ Rx_3
          have Ry_4 : w4.heap[w.heap.size + 1]? = some (Obj.cells #[.bool c, .string p, .string q, .int .i64 g] 24) := heap_of b4 _ _ _ Ry_3
          clear b4 B3 Rx_3 cx_3_0 cx_3_1 cx_3_2 cx_3_3 Ry_3 cy_3_0 cy_3_1 cy_3_2 cy_3_3
          have cx_4_0 := cells4 Rx_4 0 _ rfl
          have cx_4_1 := cells4 Rx_4 1 _ rfl
          have cx_4_2 := cells4 Rx_4 2 _ rfl
          have cx_4_3 := cells4 Rx_4 3 _ rfl
          have cy_4_0 := cells4 Ry_4 0 _ rfl
          have cy_4_1 := cells4 Ry_4 1 _ rfl
          have cy_4_2 := cells4 Ry_4 2 _ rfl
          have cy_4_3 := cells4 Ry_4 3 _ rfl
          go_wp2
          try simp only [Exit.inBlock, Exit.then]
          refine bodyPost_ret (results_tmp4 rfl _ _ _) rfl ?_
          exact ⟨rfl, B4⟩
    · rw [if_neg (fun h => l2 (Nat.le_trans (nl_mono _ _ (mul_pow_le _ _)) h.2))] at hr2
      cases hr2
      clear hs ht hp hq ln ld lm lf he hK hi hj hx hy l1 l2 hx1
      rcases hk with ⟨rfl, dk, rfl⟩ | ⟨rfl, dk, rfl⟩
      · skip
        have Rx_0 : ((w.alloc (Obj.cells #[.bool b, .string s, .string t, .int .i64 e] 24)).alloc (Obj.cells #[.bool c, .string p, .string q, .int .i64 g] 24)).heap[w.heap.size]? = some (Obj.cells #[.bool b, .string s, .string t, .int .i64 e] 24) := by rw [heap_below _ _ _ (by simp only [size_al]; omega)]; have := heap_alloc_last w (Obj.cells #[.bool b, .string s, .string t, .int .i64 e] 24); simpa only [size_al] using this
        have Ry_0 : ((w.alloc (Obj.cells #[.bool b, .string s, .string t, .int .i64 e] 24)).alloc (Obj.cells #[.bool c, .string p, .string q, .int .i64 g] 24)).heap[w.heap.size + 1]? = some (Obj.cells #[.bool c, .string p, .string q, .int .i64 g] 24) := by have := heap_alloc_last (w.alloc (Obj.cells #[.bool b, .string s, .string t, .int .i64 e] 24)) (Obj.cells #[.bool c, .string p, .string q, .int .i64 g] 24); simpa only [size_al] using this
        have B0 : Below w.heap.size w ((w.alloc (Obj.cells #[.bool b, .string s, .string t, .int .i64 e] 24)).alloc (Obj.cells #[.bool c, .string p, .string q, .int .i64 g] 24)) := (((Below.refl _ _).alloc (by first | omega | (simp only [size_al]; omega)) _).alloc (by first | omega | (simp only [size_al]; omega)) _)
        go_enter Tryz.func25, Tryz.ntmps25
        go_wp2_with fail
        refine (nat_Mul n f s q x 0 HS.out HQ.out HX.out LN.out LF.out _).mono ?_
        rintro r w1 ⟨rfl, b1⟩
        have B1 : Below w.heap.size w w1 := btr B0 b1
        have Rx_1 : w1.heap[w.heap.size]? = some (Obj.cells #[.bool b, .string s, .string t, .int .i64 e] 24) := heap_of b1 _ _ _ Rx_0
        have Ry_1 : w1.heap[w.heap.size + 1]? = some (Obj.cells #[.bool c, .string p, .string q, .int .i64 g] 24) := heap_of b1 _ _ _ Ry_0
        clear b1 B0 Rx_0 Ry_0
        have cx_1_0 := cells4 Rx_1 0 _ rfl
        have cx_1_1 := cells4 Rx_1 1 _ rfl
        have cx_1_2 := cells4 Rx_1 2 _ rfl
        have cx_1_3 := cells4 Rx_1 3 _ rfl
        have cy_1_0 := cells4 Ry_1 0 _ rfl
        have cy_1_1 := cells4 Ry_1 1 _ rfl
        have cy_1_2 := cells4 Ry_1 2 _ rfl
        have cy_1_3 := cells4 Ry_1 3 _ rfl
        go_wp2_with fail
        refine (nat_Mul m d p t _ 4 HP.out HT.out HY.out LM.out LD.out _).mono ?_
        rintro r w2 ⟨rfl, b2⟩
        have B2 : Below w.heap.size w w2 := btr B1 b2
        have Rx_2 : w2.heap[w.heap.size]? = some (Obj.cells #[.bool b, .string s, .string t, .int .i64 e] 24) := heap_of b2 _ _ _ Rx_1
        have Ry_2 : w2.heap[w.heap.size + 1]? = some (Obj.cells #[.bool c, .string p, .string q, .int .i64 g] 24) := heap_of b2 _ _ _ Ry_1
        clear b2 B1 Rx_1 cx_1_0 cx_1_1 cx_1_2 cx_1_3 Ry_1 cy_1_0 cy_1_1 cy_1_2 cy_1_3
        have cx_2_0 := cells4 Rx_2 0 _ rfl
        have cx_2_1 := cells4 Rx_2 1 _ rfl
        have cx_2_2 := cells4 Rx_2 2 _ rfl
        have cx_2_3 := cells4 Rx_2 3 _ rfl
        have cy_2_0 := cells4 Ry_2 0 _ rfl
        have cy_2_1 := cells4 Ry_2 1 _ rfl
        have cy_2_2 := cells4 Ry_2 2 _ rfl
        have cy_2_3 := cells4 Ry_2 3 _ rfl
        go_wp2
        try simp only [Exit.inBlock, Exit.then]
        refine bodyPost_ret (results_tmp4 rfl _ _ _) rfl ?_
        exact ⟨rfl, B2⟩
      · skip
        have Rx_0 : ((w.alloc (Obj.cells #[.bool b, .string s, .string t, .int .i64 e] 24)).alloc (Obj.cells #[.bool c, .string p, .string q, .int .i64 g] 24)).heap[w.heap.size]? = some (Obj.cells #[.bool b, .string s, .string t, .int .i64 e] 24) := by rw [heap_below _ _ _ (by simp only [size_al]; omega)]; have := heap_alloc_last w (Obj.cells #[.bool b, .string s, .string t, .int .i64 e] 24); simpa only [size_al] using this
        have Ry_0 : ((w.alloc (Obj.cells #[.bool b, .string s, .string t, .int .i64 e] 24)).alloc (Obj.cells #[.bool c, .string p, .string q, .int .i64 g] 24)).heap[w.heap.size + 1]? = some (Obj.cells #[.bool c, .string p, .string q, .int .i64 g] 24) := by have := heap_alloc_last (w.alloc (Obj.cells #[.bool b, .string s, .string t, .int .i64 e] 24)) (Obj.cells #[.bool c, .string p, .string q, .int .i64 g] 24); simpa only [size_al] using this
        have B0 : Below w.heap.size w ((w.alloc (Obj.cells #[.bool b, .string s, .string t, .int .i64 e] 24)).alloc (Obj.cells #[.bool c, .string p, .string q, .int .i64 g] 24)) := (((Below.refl _ _).alloc (by first | omega | (simp only [size_al]; omega)) _).alloc (by first | omega | (simp only [size_al]; omega)) _)
        go_enter Tryz.func25, Tryz.ntmps25
        go_wp2_with fail
        refine (nat_Mul n f s q x 0 HS.out HQ.out HX.out LN.out LF.out _).mono ?_
        rintro r w1 ⟨rfl, b1⟩
        have B1 : Below w.heap.size w w1 := btr B0 b1
        have Rx_1 : w1.heap[w.heap.size]? = some (Obj.cells #[.bool b, .string s, .string t, .int .i64 e] 24) := heap_of b1 _ _ _ Rx_0
        have Ry_1 : w1.heap[w.heap.size + 1]? = some (Obj.cells #[.bool c, .string p, .string q, .int .i64 g] 24) := heap_of b1 _ _ _ Ry_0
        clear b1 B0 Rx_0 Ry_0
        have cx_1_0 := cells4 Rx_1 0 _ rfl
        have cx_1_1 := cells4 Rx_1 1 _ rfl
        have cx_1_2 := cells4 Rx_1 2 _ rfl
        have cx_1_3 := cells4 Rx_1 3 _ rfl
        have cy_1_0 := cells4 Ry_1 0 _ rfl
        have cy_1_1 := cells4 Ry_1 1 _ rfl
        have cy_1_2 := cells4 Ry_1 2 _ rfl
        have cy_1_3 := cells4 Ry_1 3 _ rfl
        go_wp2_with fail
        refine (nat_Mul m d p t _ 4 HP.out HT.out HY.out LM.out LD.out _).mono ?_
        rintro r w2 ⟨rfl, b2⟩
        have B2 : Below w.heap.size w w2 := btr B1 b2
        have Rx_2 : w2.heap[w.heap.size]? = some (Obj.cells #[.bool b, .string s, .string t, .int .i64 e] 24) := heap_of b2 _ _ _ Rx_1
        have Ry_2 : w2.heap[w.heap.size + 1]? = some (Obj.cells #[.bool c, .string p, .string q, .int .i64 g] 24) := heap_of b2 _ _ _ Ry_1
        clear b2 B1 Rx_1 cx_1_0 cx_1_1 cx_1_2 cx_1_3 Ry_1 cy_1_0 cy_1_1 cy_1_2 cy_1_3
        have cx_2_0 := cells4 Rx_2 0 _ rfl
        have cx_2_1 := cells4 Rx_2 1 _ rfl
        have cx_2_2 := cells4 Rx_2 2 _ rfl
        have cx_2_3 := cells4 Rx_2 3 _ rfl
        have cy_2_0 := cells4 Ry_2 0 _ rfl
        have cy_2_1 := cells4 Ry_2 1 _ rfl
        have cy_2_2 := cells4 Ry_2 2 _ rfl
        have cy_2_3 := cells4 Ry_2 3 _ rfl
        go_wp2
        try simp only [Exit.inBlock, Exit.then]
        refine bodyPost_ret (results_tmp4 rfl _ _ _) rfl ?_
        exact ⟨rfl, B2⟩
  · rw [if_neg (fun h => l1 (Nat.le_trans (nl_mono _ _ (mul_pow_le _ _)) h.1))] at hr2
    cases hr2
    clear hs ht hp hq ln ld lm lf he hK hi hj hx hy l1
    rcases hk with ⟨rfl, dk, rfl⟩ | ⟨rfl, dk, rfl⟩
    · skip
      have Rx_0 : ((w.alloc (Obj.cells #[.bool b, .string s, .string t, .int .i64 e] 24)).alloc (Obj.cells #[.bool c, .string p, .string q, .int .i64 g] 24)).heap[w.heap.size]? = some (Obj.cells #[.bool b, .string s, .string t, .int .i64 e] 24) := by rw [heap_below _ _ _ (by simp only [size_al]; omega)]; have := heap_alloc_last w (Obj.cells #[.bool b, .string s, .string t, .int .i64 e] 24); simpa only [size_al] using this
      have Ry_0 : ((w.alloc (Obj.cells #[.bool b, .string s, .string t, .int .i64 e] 24)).alloc (Obj.cells #[.bool c, .string p, .string q, .int .i64 g] 24)).heap[w.heap.size + 1]? = some (Obj.cells #[.bool c, .string p, .string q, .int .i64 g] 24) := by have := heap_alloc_last (w.alloc (Obj.cells #[.bool b, .string s, .string t, .int .i64 e] 24)) (Obj.cells #[.bool c, .string p, .string q, .int .i64 g] 24); simpa only [size_al] using this
      have B0 : Below w.heap.size w ((w.alloc (Obj.cells #[.bool b, .string s, .string t, .int .i64 e] 24)).alloc (Obj.cells #[.bool c, .string p, .string q, .int .i64 g] 24)) := (((Below.refl _ _).alloc (by first | omega | (simp only [size_al]; omega)) _).alloc (by first | omega | (simp only [size_al]; omega)) _)
      go_enter Tryz.func25, Tryz.ntmps25
      go_wp2_with fail
      refine (nat_Mul n f s q _ 4 HS.out HQ.out HX.out LN.out LF.out _).mono ?_
      rintro r w1 ⟨rfl, b1⟩
      have B1 : Below w.heap.size w w1 := btr B0 b1
      have Rx_1 : w1.heap[w.heap.size]? = some (Obj.cells #[.bool b, .string s, .string t, .int .i64 e] 24) := heap_of b1 _ _ _ Rx_0
      have Ry_1 : w1.heap[w.heap.size + 1]? = some (Obj.cells #[.bool c, .string p, .string q, .int .i64 g] 24) := heap_of b1 _ _ _ Ry_0
      clear b1 B0 Rx_0 Ry_0
      have cx_1_0 := cells4 Rx_1 0 _ rfl
      have cx_1_1 := cells4 Rx_1 1 _ rfl
      have cx_1_2 := cells4 Rx_1 2 _ rfl
      have cx_1_3 := cells4 Rx_1 3 _ rfl
      have cy_1_0 := cells4 Ry_1 0 _ rfl
      have cy_1_1 := cells4 Ry_1 1 _ rfl
      have cy_1_2 := cells4 Ry_1 2 _ rfl
      have cy_1_3 := cells4 Ry_1 3 _ rfl
      go_wp2_with fail
      refine (nat_Mul m d p t y ey HP.out HT.out HY.out LM.out LD.out _).mono ?_
      rintro r w2 ⟨rfl, b2⟩
      have B2 : Below w.heap.size w w2 := btr B1 b2
      have Rx_2 : w2.heap[w.heap.size]? = some (Obj.cells #[.bool b, .string s, .string t, .int .i64 e] 24) := heap_of b2 _ _ _ Rx_1
      have Ry_2 : w2.heap[w.heap.size + 1]? = some (Obj.cells #[.bool c, .string p, .string q, .int .i64 g] 24) := heap_of b2 _ _ _ Ry_1
      clear b2 B1 Rx_1 cx_1_0 cx_1_1 cx_1_2 cx_1_3 Ry_1 cy_1_0 cy_1_1 cy_1_2 cy_1_3
      have cx_2_0 := cells4 Rx_2 0 _ rfl
      have cx_2_1 := cells4 Rx_2 1 _ rfl
      have cx_2_2 := cells4 Rx_2 2 _ rfl
      have cx_2_3 := cells4 Rx_2 3 _ rfl
      have cy_2_0 := cells4 Ry_2 0 _ rfl
      have cy_2_1 := cells4 Ry_2 1 _ rfl
      have cy_2_2 := cells4 Ry_2 2 _ rfl
      have cy_2_3 := cells4 Ry_2 3 _ rfl
      go_wp2
      try simp only [Exit.inBlock, Exit.then]
      refine bodyPost_ret (results_tmp4 rfl _ _ _) rfl ?_
      exact ⟨rfl, B2⟩
    · skip
      have Rx_0 : ((w.alloc (Obj.cells #[.bool b, .string s, .string t, .int .i64 e] 24)).alloc (Obj.cells #[.bool c, .string p, .string q, .int .i64 g] 24)).heap[w.heap.size]? = some (Obj.cells #[.bool b, .string s, .string t, .int .i64 e] 24) := by rw [heap_below _ _ _ (by simp only [size_al]; omega)]; have := heap_alloc_last w (Obj.cells #[.bool b, .string s, .string t, .int .i64 e] 24); simpa only [size_al] using this
      have Ry_0 : ((w.alloc (Obj.cells #[.bool b, .string s, .string t, .int .i64 e] 24)).alloc (Obj.cells #[.bool c, .string p, .string q, .int .i64 g] 24)).heap[w.heap.size + 1]? = some (Obj.cells #[.bool c, .string p, .string q, .int .i64 g] 24) := by have := heap_alloc_last (w.alloc (Obj.cells #[.bool b, .string s, .string t, .int .i64 e] 24)) (Obj.cells #[.bool c, .string p, .string q, .int .i64 g] 24); simpa only [size_al] using this
      have B0 : Below w.heap.size w ((w.alloc (Obj.cells #[.bool b, .string s, .string t, .int .i64 e] 24)).alloc (Obj.cells #[.bool c, .string p, .string q, .int .i64 g] 24)) := (((Below.refl _ _).alloc (by first | omega | (simp only [size_al]; omega)) _).alloc (by first | omega | (simp only [size_al]; omega)) _)
      go_enter Tryz.func25, Tryz.ntmps25
      go_wp2_with fail
      refine (nat_Mul n f s q _ 4 HS.out HQ.out HX.out LN.out LF.out _).mono ?_
      rintro r w1 ⟨rfl, b1⟩
      have B1 : Below w.heap.size w w1 := btr B0 b1
      have Rx_1 : w1.heap[w.heap.size]? = some (Obj.cells #[.bool b, .string s, .string t, .int .i64 e] 24) := heap_of b1 _ _ _ Rx_0
      have Ry_1 : w1.heap[w.heap.size + 1]? = some (Obj.cells #[.bool c, .string p, .string q, .int .i64 g] 24) := heap_of b1 _ _ _ Ry_0
      clear b1 B0 Rx_0 Ry_0
      have cx_1_0 := cells4 Rx_1 0 _ rfl
      have cx_1_1 := cells4 Rx_1 1 _ rfl
      have cx_1_2 := cells4 Rx_1 2 _ rfl
      have cx_1_3 := cells4 Rx_1 3 _ rfl
      have cy_1_0 := cells4 Ry_1 0 _ rfl
      have cy_1_1 := cells4 Ry_1 1 _ rfl
      have cy_1_2 := cells4 Ry_1 2 _ rfl
      have cy_1_3 := cells4 Ry_1 3 _ rfl
      go_wp2_with fail
      refine (nat_Mul m d p t y ey HP.out HT.out HY.out LM.out LD.out _).mono ?_
      rintro r w2 ⟨rfl, b2⟩
      have B2 : Below w.heap.size w w2 := btr B1 b2
      have Rx_2 : w2.heap[w.heap.size]? = some (Obj.cells #[.bool b, .string s, .string t, .int .i64 e] 24) := heap_of b2 _ _ _ Rx_1
      have Ry_2 : w2.heap[w.heap.size + 1]? = some (Obj.cells #[.bool c, .string p, .string q, .int .i64 g] 24) := heap_of b2 _ _ _ Ry_1
      clear b2 B1 Rx_1 cx_1_0 cx_1_1 cx_1_2 cx_1_3 Ry_1 cy_1_0 cy_1_1 cy_1_2 cy_1_3
      have cx_2_0 := cells4 Rx_2 0 _ rfl
      have cx_2_1 := cells4 Rx_2 1 _ rfl
      have cx_2_2 := cells4 Rx_2 2 _ rfl
      have cx_2_3 := cells4 Rx_2 3 _ rfl
      have cy_2_0 := cells4 Ry_2 0 _ rfl
      have cy_2_1 := cells4 Ry_2 1 _ rfl
      have cy_2_2 := cells4 Ry_2 2 _ rfl
      have cy_2_3 := cells4 Ry_2 3 _ rfl
      go_wp2
      try simp only [Exit.inBlock, Exit.then]
      refine bodyPost_ret (results_tmp4 rfl _ _ _) rfl ?_
      exact ⟨rfl, B2⟩
end Go.Proofs.YtknkkagapcigfaaGreatDoor
