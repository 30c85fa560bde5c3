/-
  What the functions product, Mul and Quo of package exact return.
-/
import Derived.Test.YthiongcednmjiaaDoorX5
import Derived.Test.YthiongcednmjiaaDoorList8
namespace Go.Proofs.YthiongcednmjiaaDoor
open Go.RowKit WMath XMath

def prodX (b1 : Bool) (n1 d1 : Nat) (e1 : Int) (b2 : Bool) (n2 d2 : Nat) (e2 : Int) : XN × Int :=
  if nl (n1 * n2) ≤ 16384 ∧ nl (d1 * d2) ≤ 16384 then XMath.mk (b1 != b2) (n1 * n2) (d1 * d2) (e1 + e2) else (XZ, 4)
theorem lg_no (n : Nat) (h : ¬ nl n ≤ 16384) : lg n = (⟨#[]⟩, 4) := by unfold lg; rw [if_neg h]
set_option maxRecDepth 100000 in
set_option maxHeartbeats 2000000 in
theorem productx (b : Bool) (n d : Nat) (e : Int) (s t : ByteArray) (c : Bool) (m f : Nat) (g : Int) (p q : ByteArray) (rb : Bool) (rn rd : Nat) (re err : Int) (u v : ByteArray)
    (hs : nbA n = s) (ht : nbA d = t) (hp : nbA m = p) (hq : nbA f = q) (ln : nl n ≤ 16384) (ld : nl d ≤ 16384) (lm : nl m ≤ 16384) (lf : nl f ≤ 16384) (d0 : d * f ≠ 0) (he : -10000000 ≤ e ∧ e ≤ 10000000 ∧ -10000000 ≤ g ∧ g ≤ 10000000)
    (hr : prodX b n d e c m f g = (⟨rb, rn, rd, re⟩, err)) (hu : nbA rn = u) (hv : nbA rd = v) (w : World) (hT : TabAt w) :
    Calls Tryd.prog 54 #[.agg #[.bool b, .string s, .string t, .int .i64 e], .agg #[.bool c, .string p, .string q, .int .i64 g]] w fun r w' => r = .returned (.tuple #[.agg #[.bool rb, .string u, .string v, .int .i64 re], .int .i64 err]) ∧ Below w.heap.size w w' := by
  have HS := box hs
  have HT := box ht
  have HP := box hp
  have HQ := box hq
  have LN := box ln
  have LD := box ld
  have LM := box lm
  have LF := box lf
  have TT := box hT
  unfold prodX at hr
  by_cases h1 : nl (n * m) ≤ 16384
  · obtain ⟨x, hx⟩ : ∃ x, nbA (n * m) = x := ⟨_, rfl⟩
    have HX := box (lg_ok (n * m) x h1 hx)
    by_cases h2 : nl (d * f) ≤ 16384
    · obtain ⟨y, hy⟩ : ∃ x, nbA (d * f) = x := ⟨_, rfl⟩
      have HY := box (lg_ok (d * f) y h2 hy)
      rw [if_pos ⟨h1, h2⟩] at hr
      have n1 : IntKind.i64.wrap (e + g) = e + g := wrap_i64_is _ (by omega) (by omega)
      have HF := box (fun w hT => formx (b != c) (n * m) (d * f) (e + g) x y rb rn rd re err u v hx hy h1 h2 d0 (by omega) (by omega) hr hu hv w hT)
      clear hs ht hp hq ln ld lm lf hT hr hu hv h1 h2 hx hy d0 he
      have Rx_0 : (((w.alloc (Obj.cells #[.bool b, .string s, .string t, .int .i64 e] 24)).alloc (Obj.cells #[.bool c, .string p, .string q, .int .i64 g] 24)).alloc (Obj.cells #[.bool false, .string ⟨#[]⟩, .string ⟨#[]⟩, .int .i64 0] 24)).heap[w.heap.size]? = some (Obj.cells #[.bool b, .string s, .string t, .int .i64 e] 24) := by rw [heap_below _ _ _ (by simp only [size_al]; omega), heap_below _ _ _ (by simp only [size_al]; omega)]; have := heap_alloc_last w (Obj.cells #[.bool b, .string s, .string t, .int .i64 e] 24); simpa only [size_al] using this
      have Ry_0 : (((w.alloc (Obj.cells #[.bool b, .string s, .string t, .int .i64 e] 24)).alloc (Obj.cells #[.bool c, .string p, .string q, .int .i64 g] 24)).alloc (Obj.cells #[.bool false, .string ⟨#[]⟩, .string ⟨#[]⟩, .int .i64 0] 24)).heap[w.heap.size + 1]? = some (Obj.cells #[.bool c, .string p, .string q, .int .i64 g] 24) := by rw [heap_below _ _ _ (by simp only [size_al]; omega)]; have := heap_alloc_last (w.alloc (Obj.cells #[.bool b, .string s, .string t, .int .i64 e] 24)) (Obj.cells #[.bool c, .string p, .string q, .int .i64 g] 24); simpa only [size_al] using this
      have Rz_0 : (((w.alloc (Obj.cells #[.bool b, .string s, .string t, .int .i64 e] 24)).alloc (Obj.cells #[.bool c, .string p, .string q, .int .i64 g] 24)).alloc (Obj.cells #[.bool false, .string ⟨#[]⟩, .string ⟨#[]⟩, .int .i64 0] 24)).heap[w.heap.size + 1 + 1]? = some (Obj.cells #[.bool false, .string ⟨#[]⟩, .string ⟨#[]⟩, .int .i64 0] 24) := by have := heap_alloc_last ((w.alloc (Obj.cells #[.bool b, .string s, .string t, .int .i64 e] 24)).alloc (Obj.cells #[.bool c, .string p, .string q, .int .i64 g] 24)) (Obj.cells #[.bool false, .string ⟨#[]⟩, .string ⟨#[]⟩, .int .i64 0] 24); simpa only [size_al] using this
      have B0 : Below w.heap.size w (((w.alloc (Obj.cells #[.bool b, .string s, .string t, .int .i64 e] 24)).alloc (Obj.cells #[.bool c, .string p, .string q, .int .i64 g] 24)).alloc (Obj.cells #[.bool false, .string ⟨#[]⟩, .string ⟨#[]⟩, .int .i64 0] 24)) := ((((Below.refl _ _).alloc (by first | omega | (simp only [size_al]; omega)) _).alloc (by first | omega | (simp only [size_al]; omega)) _).alloc (by first | omega | (simp only [size_al]; omega)) _)
      go_enter Tryd.func54, Tryd.ntmps54
      go_wp2_with fail
      refine (pn_mul_ok n m s p x 0 HS.out HP.out LN.out LM.out HX.out _).mono ?_
      rintro r w1 ⟨rfl, b1⟩
      have B1 : Below w.heap.size w w1 := btr B0 b1
      have Rx_1 : w1.heap[w.heap.size]? = some (Obj.cells #[.bool b, .string s, .string t, .int .i64 e] 24) := heap_of b1 _ _ _ Rx_0
      have Ry_1 : w1.heap[w.heap.size + 1]? = some (Obj.cells #[.bool c, .string p, .string q, .int .i64 g] 24) := heap_of b1 _ _ _ Ry_0
      have Rz_1 : w1.heap[w.heap.size + 1 + 1]? = some (Obj.cells #[.bool false, .string ⟨#[]⟩, .string ⟨#[]⟩, .int .i64 0] 24) := heap_of b1 _ _ _ Rz_0
      clear b1 B0 Rx_0 Ry_0 Rz_0
      have cx_1_0 := cells4 Rx_1 0 _ rfl
      have cx_1_1 := cells4 Rx_1 1 _ rfl
      have cx_1_2 := cells4 Rx_1 2 _ rfl
      have cx_1_3 := cells4 Rx_1 3 _ rfl
      have cy_1_0 := cells4 Ry_1 0 _ rfl
      have cy_1_1 := cells4 Ry_1 1 _ rfl
      have cy_1_2 := cells4 Ry_1 2 _ rfl
      have cy_1_3 := cells4 Ry_1 3 _ rfl
      have cz_1_0 := cells4 Rz_1 0 _ rfl
      have cz_1_1 := cells4 Rz_1 1 _ rfl
      have cz_1_2 := cells4 Rz_1 2 _ rfl
      have cz_1_3 := cells4 Rz_1 3 _ rfl
      go_wp2_with fail
      refine (pn_mul_ok d f t q y 0 HT.out HQ.out LD.out LF.out HY.out _).mono ?_
      rintro r w2 ⟨rfl, b2⟩
      have B2 : Below w.heap.size w w2 := btr B1 b2
      have Rx_2 : w2.heap[w.heap.size]? = some (Obj.cells #[.bool b, .string s, .string t, .int .i64 e] 24) := heap_of b2 _ _ _ Rx_1
      have Ry_2 : w2.heap[w.heap.size + 1]? = some (Obj.cells #[.bool c, .string p, .string q, .int .i64 g] 24) := heap_of b2 _ _ _ Ry_1
      have Rz_2 : w2.heap[w.heap.size + 1 + 1]? = some (Obj.cells #[.bool false, .string ⟨#[]⟩, .string ⟨#[]⟩, .int .i64 0] 24) := heap_of b2 _ _ _ Rz_1
      clear b2 B1 Rx_1 cx_1_0 cx_1_1 cx_1_2 cx_1_3 Ry_1 cy_1_0 cy_1_1 cy_1_2 cy_1_3 Rz_1 cz_1_0 cz_1_1 cz_1_2 cz_1_3
      have cx_2_0 := cells4 Rx_2 0 _ rfl
      have cx_2_1 := cells4 Rx_2 1 _ rfl
      have cx_2_2 := cells4 Rx_2 2 _ rfl
      have cx_2_3 := cells4 Rx_2 3 _ rfl
      have cy_2_0 := cells4 Ry_2 0 _ rfl
      have cy_2_1 := cells4 Ry_2 1 _ rfl
      have cy_2_2 := cells4 Ry_2 2 _ rfl
      have cy_2_3 := cells4 Ry_2 3 _ rfl
      have cz_2_0 := cells4 Rz_2 0 _ rfl
      have cz_2_1 := cells4 Rz_2 1 _ rfl
      have cz_2_2 := cells4 Rz_2 2 _ rfl
      have cz_2_3 := cells4 Rz_2 3 _ rfl
      go_wp2_with fail
      refine (HF.out _ (tabB TT.out B2)).mono ?_
      rintro r w3 ⟨rfl, b3⟩
      have B3 : Below w.heap.size w w3 := btr B2 b3
      have Rx_3 : w3.heap[w.heap.size]? = some (Obj.cells #[.bool b, .string s, .string t, .int .i64 e] 24) := heap_of b3 _ _ _ Rx_2
      have Ry_3 : w3.heap[w.heap.size + 1]? = some (Obj.cells #[.bool c, .string p, .string q, .int .i64 g] 24) := heap_of b3 _ _ _ Ry_2
      have Rz_3 : w3.heap[w.heap.size + 1 + 1]? = some (Obj.cells #[.bool false, .string ⟨#[]⟩, .string ⟨#[]⟩, .int .i64 0] 24) := heap_of b3 _ _ _ Rz_2
      clear b3 B2 Rx_2 cx_2_0 cx_2_1 cx_2_2 cx_2_3 Ry_2 cy_2_0 cy_2_1 cy_2_2 cy_2_3 Rz_2 cz_2_0 cz_2_1 cz_2_2 cz_2_3
      have cx_3_0 := cells4 Rx_3 0 _ rfl
      have cx_3_1 := cells4 Rx_3 1 _ rfl
      have cx_3_2 := cells4 Rx_3 2 _ rfl
      have cx_3_3 := cells4 Rx_3 3 _ rfl
      have cy_3_0 := cells4 Ry_3 0 _ rfl
      have cy_3_1 := cells4 Ry_3 1 _ rfl
      have cy_3_2 := cells4 Ry_3 2 _ rfl
      have cy_3_3 := cells4 Ry_3 3 _ rfl
      have cz_3_0 := cells4 Rz_3 0 _ rfl
      have cz_3_1 := cells4 Rz_3 1 _ rfl
      have cz_3_2 := cells4 Rz_3 2 _ rfl
      have cz_3_3 := cells4 Rz_3 3 _ rfl
      have q0 := fz (k := 0) Rz_3
      have q1 := fz (k := 1) Rz_3
      have q2 := fz (k := 2) Rz_3
      have q3 := fz (k := 3) Rz_3
      obtain ⟨E0, E1, E2, E3⟩ := set4_cells Rz_3 rfl (.bool rb) (.string u) (.string v) (.int .i64 re)
      go_wp2
      exact bodyPost_ret (v := .tuple #[.agg #[.bool rb, .string u, .string v, .int .i64 re], .int .i64 err]) (by simp [results, Tryd.results54, go_sem, E0, E1, E2, E3]) rfl ⟨rfl, set4_below B3 (by first | exact Nat.le_refl _ | omega) _ _ _ _⟩
    · have HY := box (lg_no (d * f) h2)
      rw [if_neg (fun h => h2 h.2)] at hr
      obtain ⟨rfl, rfl, rfl, rfl, rfl⟩ := xz_is hr
      rw [nbA_zero] at hu hv
      subst hu hv
      clear hs ht hp hq ln ld lm lf hT hr h1 h2 hx d0 he
      have Rx_0 : (((w.alloc (Obj.cells #[.bool b, .string s, .string t, .int .i64 e] 24)).alloc (Obj.cells #[.bool c, .string p, .string q, .int .i64 g] 24)).alloc (Obj.cells #[.bool false, .string ⟨#[]⟩, .string ⟨#[]⟩, .int .i64 0] 24)).heap[w.heap.size]? = some (Obj.cells #[.bool b, .string s, .string t, .int .i64 e] 24) := by rw [heap_below _ _ _ (by simp only [size_al]; omega), heap_below _ _ _ (by simp only [size_al]; omega)]; have := heap_alloc_last w (Obj.cells #[.bool b, .string s, .string t, .int .i64 e] 24); simpa only [size_al] using this
      have Ry_0 : (((w.alloc (Obj.cells #[.bool b, .string s, .string t, .int .i64 e] 24)).alloc (Obj.cells #[.bool c, .string p, .string q, .int .i64 g] 24)).alloc (Obj.cells #[.bool false, .string ⟨#[]⟩, .string ⟨#[]⟩, .int .i64 0] 24)).heap[w.heap.size + 1]? = some (Obj.cells #[.bool c, .string p, .string q, .int .i64 g] 24) := by rw [heap_below _ _ _ (by simp only [size_al]; omega)]; have := heap_alloc_last (w.alloc (Obj.cells #[.bool b, .string s, .string t, .int .i64 e] 24)) (Obj.cells #[.bool c, .string p, .string q, .int .i64 g] 24); simpa only [size_al] using this
      have Rz_0 : (((w.alloc (Obj.cells #[.bool b, .string s, .string t, .int .i64 e] 24)).alloc (Obj.cells #[.bool c, .string p, .string q, .int .i64 g] 24)).alloc (Obj.cells #[.bool false, .string ⟨#[]⟩, .string ⟨#[]⟩, .int .i64 0] 24)).heap[w.heap.size + 1 + 1]? = some (Obj.cells #[.bool false, .string ⟨#[]⟩, .string ⟨#[]⟩, .int .i64 0] 24) := by have := heap_alloc_last ((w.alloc (Obj.cells #[.bool b, .string s, .string t, .int .i64 e] 24)).alloc (Obj.cells #[.bool c, .string p, .string q, .int .i64 g] 24)) (Obj.cells #[.bool false, .string ⟨#[]⟩, .string ⟨#[]⟩, .int .i64 0] 24); simpa only [size_al] using this
      have B0 : Below w.heap.size w (((w.alloc (Obj.cells #[.bool b, .string s, .string t, .int .i64 e] 24)).alloc (Obj.cells #[.bool c, .string p, .string q, .int .i64 g] 24)).alloc (Obj.cells #[.bool false, .string ⟨#[]⟩, .string ⟨#[]⟩, .int .i64 0] 24)) := ((((Below.refl _ _).alloc (by first | omega | (simp only [size_al]; omega)) _).alloc (by first | omega | (simp only [size_al]; omega)) _).alloc (by first | omega | (simp only [size_al]; omega)) _)
      go_enter Tryd.func54, Tryd.ntmps54
      go_wp2_with fail
      refine (pn_mul_ok n m s p x 0 HS.out HP.out LN.out LM.out HX.out _).mono ?_
      rintro r w1 ⟨rfl, b1⟩
      have B1 : Below w.heap.size w w1 := btr B0 b1
      have Rx_1 : w1.heap[w.heap.size]? = some (Obj.cells #[.bool b, .string s, .string t, .int .i64 e] 24) := heap_of b1 _ _ _ Rx_0
      have Ry_1 : w1.heap[w.heap.size + 1]? = some (Obj.cells #[.bool c, .string p, .string q, .int .i64 g] 24) := heap_of b1 _ _ _ Ry_0
      have Rz_1 : w1.heap[w.heap.size + 1 + 1]? = some (Obj.cells #[.bool false, .string ⟨#[]⟩, .string ⟨#[]⟩, .int .i64 0] 24) := heap_of b1 _ _ _ Rz_0
      clear b1 B0 Rx_0 Ry_0 Rz_0
      have cx_1_0 := cells4 Rx_1 0 _ rfl
      have cx_1_1 := cells4 Rx_1 1 _ rfl
      have cx_1_2 := cells4 Rx_1 2 _ rfl
      have cx_1_3 := cells4 Rx_1 3 _ rfl
      have cy_1_0 := cells4 Ry_1 0 _ rfl
      have cy_1_1 := cells4 Ry_1 1 _ rfl
      have cy_1_2 := cells4 Ry_1 2 _ rfl
      have cy_1_3 := cells4 Ry_1 3 _ rfl
      have cz_1_0 := cells4 Rz_1 0 _ rfl
      have cz_1_1 := cells4 Rz_1 1 _ rfl
      have cz_1_2 := cells4 Rz_1 2 _ rfl
      have cz_1_3 := cells4 Rz_1 3 _ rfl
      go_wp2_with fail
      refine (pn_mul_ok d f t q _ 4 HT.out HQ.out LD.out LF.out HY.out _).mono ?_
      rintro r w2 ⟨rfl, b2⟩
      have B2 : Below w.heap.size w w2 := btr B1 b2
      have Rx_2 : w2.heap[w.heap.size]? = some (Obj.cells #[.bool b, .string s, .string t, .int .i64 e] 24) := heap_of b2 _ _ _ Rx_1
      have Ry_2 : w2.heap[w.heap.size + 1]? = some (Obj.cells #[.bool c, .string p, .string q, .int .i64 g] 24) := heap_of b2 _ _ _ Ry_1
      have Rz_2 : w2.heap[w.heap.size + 1 + 1]? = some (Obj.cells #[.bool false, .string ⟨#[]⟩, .string ⟨#[]⟩, .int .i64 0] 24) := heap_of b2 _ _ _ Rz_1
      clear b2 B1 Rx_1 cx_1_0 cx_1_1 cx_1_2 cx_1_3 Ry_1 cy_1_0 cy_1_1 cy_1_2 cy_1_3 Rz_1 cz_1_0 cz_1_1 cz_1_2 cz_1_3
      have cx_2_0 := cells4 Rx_2 0 _ rfl
      have cx_2_1 := cells4 Rx_2 1 _ rfl
      have cx_2_2 := cells4 Rx_2 2 _ rfl
      have cx_2_3 := cells4 Rx_2 3 _ rfl
      have cy_2_0 := cells4 Ry_2 0 _ rfl
      have cy_2_1 := cells4 Ry_2 1 _ rfl
      have cy_2_2 := cells4 Ry_2 2 _ rfl
      have cy_2_3 := cells4 Ry_2 3 _ rfl
      have cz_2_0 := cells4 Rz_2 0 _ rfl
      have cz_2_1 := cells4 Rz_2 1 _ rfl
      have cz_2_2 := cells4 Rz_2 2 _ rfl
      have cz_2_3 := cells4 Rz_2 3 _ rfl
      have q0 := fz (k := 0) Rz_2
      have q1 := fz (k := 1) Rz_2
      have q2 := fz (k := 2) Rz_2
      have q3 := fz (k := 3) Rz_2
      obtain ⟨E0, E1, E2, E3⟩ := set4_cells Rz_2 rfl (.bool false) (.string ⟨#[]⟩) (.string ⟨#[]⟩) (.int .i64 0)
      go_wp2
      exact bodyPost_ret (v := .tuple #[.agg #[.bool false, .string ⟨#[]⟩, .string ⟨#[]⟩, .int .i64 0], .int .i64 4]) (by simp [results, Tryd.results54, go_sem, E0, E1, E2, E3]) rfl ⟨rfl, set4_below B2 (by first | exact Nat.le_refl _ | omega) _ _ _ _⟩
  · have HX := box (lg_no (n * m) h1)
    rw [if_neg (fun h => h1 h.1)] at hr
    obtain ⟨rfl, rfl, rfl, rfl, rfl⟩ := xz_is hr
    rw [nbA_zero] at hu hv
    subst hu hv
    clear hs ht hp hq ln ld lm lf hT hr h1 d0 he
    have Rx_0 : (((w.alloc (Obj.cells #[.bool b, .string s, .string t, .int .i64 e] 24)).alloc (Obj.cells #[.bool c, .string p, .string q, .int .i64 g] 24)).alloc (Obj.cells #[.bool false, .string ⟨#[]⟩, .string ⟨#[]⟩, .int .i64 0] 24)).heap[w.heap.size]? = some (Obj.cells #[.bool b, .string s, .string t, .int .i64 e] 24) := by rw [heap_below _ _ _ (by simp only [size_al]; omega), heap_below _ _ _ (by simp only [size_al]; omega)]; have := heap_alloc_last w (Obj.cells #[.bool b, .string s, .string t, .int .i64 e] 24); simpa only [size_al] using this
    have Ry_0 : (((w.alloc (Obj.cells #[.bool b, .string s, .string t, .int .i64 e] 24)).alloc (Obj.cells #[.bool c, .string p, .string q, .int .i64 g] 24)).alloc (Obj.cells #[.bool false, .string ⟨#[]⟩, .string ⟨#[]⟩, .int .i64 0] 24)).heap[w.heap.size + 1]? = some (Obj.cells #[.bool c, .string p, .string q, .int .i64 g] 24) := by rw [heap_below _ _ _ (by simp only [size_al]; omega)]; have := heap_alloc_last (w.alloc (Obj.cells #[.bool b, .string s, .string t, .int .i64 e] 24)) (Obj.cells #[.bool c, .string p, .string q, .int .i64 g] 24); simpa only [size_al] using this
    have Rz_0 : (((w.alloc (Obj.cells #[.bool b, .string s, .string t, .int .i64 e] 24)).alloc (Obj.cells #[.bool c, .string p, .string q, .int .i64 g] 24)).alloc (Obj.cells #[.bool false, .string ⟨#[]⟩, .string ⟨#[]⟩, .int .i64 0] 24)).heap[w.heap.size + 1 + 1]? = some (Obj.cells #[.bool false, .string ⟨#[]⟩, .string ⟨#[]⟩, .int .i64 0] 24) := by have := heap_alloc_last ((w.alloc (Obj.cells #[.bool b, .string s, .string t, .int .i64 e] 24)).alloc (Obj.cells #[.bool c, .string p, .string q, .int .i64 g] 24)) (Obj.cells #[.bool false, .string ⟨#[]⟩, .string ⟨#[]⟩, .int .i64 0] 24); simpa only [size_al] using this
    have B0 : Below w.heap.size w (((w.alloc (Obj.cells #[.bool b, .string s, .string t, .int .i64 e] 24)).alloc (Obj.cells #[.bool c, .string p, .string q, .int .i64 g] 24)).alloc (Obj.cells #[.bool false, .string ⟨#[]⟩, .string ⟨#[]⟩, .int .i64 0] 24)) := ((((Below.refl _ _).alloc (by first | omega | (simp only [size_al]; omega)) _).alloc (by first | omega | (simp only [size_al]; omega)) _).alloc (by first | omega | (simp only [size_al]; omega)) _)
    go_enter Tryd.func54, Tryd.ntmps54
    go_wp2_with fail
    refine (pn_mul_ok n m s p _ 4 HS.out HP.out LN.out LM.out HX.out _).mono ?_
    rintro r w1 ⟨rfl, b1⟩
    have B1 : Below w.heap.size w w1 := btr B0 b1
    have Rx_1 : w1.heap[w.heap.size]? = some (Obj.cells #[.bool b, .string s, .string t, .int .i64 e] 24) := heap_of b1 _ _ _ Rx_0
    have Ry_1 : w1.heap[w.heap.size + 1]? = some (Obj.cells #[.bool c, .string p, .string q, .int .i64 g] 24) := heap_of b1 _ _ _ Ry_0
    have Rz_1 : w1.heap[w.heap.size + 1 + 1]? = some (Obj.cells #[.bool false, .string ⟨#[]⟩, .string ⟨#[]⟩, .int .i64 0] 24) := heap_of b1 _ _ _ Rz_0
    clear b1 B0 Rx_0 Ry_0 Rz_0
    have cx_1_0 := cells4 Rx_1 0 _ rfl
    have cx_1_1 := cells4 Rx_1 1 _ rfl
    have cx_1_2 := cells4 Rx_1 2 _ rfl
    have cx_1_3 := cells4 Rx_1 3 _ rfl
    have cy_1_0 := cells4 Ry_1 0 _ rfl
    have cy_1_1 := cells4 Ry_1 1 _ rfl
    have cy_1_2 := cells4 Ry_1 2 _ rfl
    have cy_1_3 := cells4 Ry_1 3 _ rfl
    have cz_1_0 := cells4 Rz_1 0 _ rfl
    have cz_1_1 := cells4 Rz_1 1 _ rfl
    have cz_1_2 := cells4 Rz_1 2 _ rfl
    have cz_1_3 := cells4 Rz_1 3 _ rfl
    have q0 := fz (k := 0) Rz_1
    have q1 := fz (k := 1) Rz_1
    have q2 := fz (k := 2) Rz_1
    have q3 := fz (k := 3) Rz_1
    obtain ⟨E0, E1, E2, E3⟩ := set4_cells Rz_1 rfl (.bool false) (.string ⟨#[]⟩) (.string ⟨#[]⟩) (.int .i64 0)
    go_wp2
    exact bodyPost_ret (v := .tuple #[.agg #[.bool false, .string ⟨#[]⟩, .string ⟨#[]⟩, .int .i64 0], .int .i64 4]) (by simp [results, Tryd.results54, go_sem, E0, E1, E2, E3]) rfl ⟨rfl, set4_below B1 (by first | exact Nat.le_refl _ | omega) _ _ _ _⟩

theorem prod_mul (b : Bool) (n d : Nat) (e : Int) (c : Bool) (m f : Nat) (g : Int) (h : ¬ (n = 0 ∨ m = 0)) : mulX (XN.mk b n d e) (XN.mk c m f g) = prodX b n d e c m f g := by
  unfold mulX prodX
  rw [if_neg h]
theorem prod_quo (b : Bool) (n d : Nat) (e : Int) (c : Bool) (m f : Nat) (g : Int) (h : n ≠ 0) (k : m ≠ 0) : quoX (XN.mk b n d e) (XN.mk c m f g) = prodX b n d e c f m (-g) := by
  unfold quoX prodX
  rw [if_neg k, if_neg h, ← Int.sub_eq_add_neg]
set_option maxRecDepth 100000 in
set_option maxHeartbeats 4000000 in
theorem Mulx_ok (b : Bool) (n d : Nat) (e : Int) (s t : ByteArray) (c : Bool) (m f : Nat) (g : Int) (p q : ByteArray) (rb : Bool) (rn rd : Nat) (re err : Int) (u v : ByteArray)
    (hs : nbA n = s) (ht : nbA d = t) (hp : nbA m = p) (hq : nbA f = q) (hx : (XN.mk b n d e).can) (hy : (XN.mk c m f g).can) (hr : mulX (XN.mk b n d e) (XN.mk c m f g) = (⟨rb, rn, rd, re⟩, err)) (hu : nbA rn = u) (hv : nbA rd = v) (w : World) (hT : TabAt w) :
    Calls Tryd.prog 24 #[.agg #[.bool b, .string s, .string t, .int .i64 e], .agg #[.bool c, .string p, .string q, .int .i64 g]] w fun r w' => r = .returned (.tuple #[.agg #[.bool rb, .string u, .string v, .int .i64 re], .int .i64 err]) ∧ Below w.heap.size w w' := by
  have M1 := box (may_yes hs ht hx)
  have M2 := box (may_yes hp hq hy)
  have TT := box hT
  rcases x_cases hs ht hx with ⟨n0, rfl, rfl, rfl, rfl, rfl⟩ | ⟨n0, e0⟩
  · obtain ⟨rfl, rfl, rfl, rfl, rfl⟩ := x0_is (by rw [← hr]; unfold mulX; rw [if_pos (Or.inl n0)])
    rw [nbA_zero] at hu
    rw [nb1] at hv
    subst hu hv
    clear hs ht hp hq hx hy hr hT n0
    have Rx_0 : (((w.alloc (Obj.cells #[.bool false, .string ⟨#[]⟩, .string ⟨#[1]⟩, .int .i64 0] 24)).alloc (Obj.cells #[.bool c, .string p, .string q, .int .i64 g] 24)).alloc (Obj.cells #[.bool false, .string ⟨#[]⟩, .string ⟨#[]⟩, .int .i64 0] 24)).heap[w.heap.size]? = some (Obj.cells #[.bool false, .string ⟨#[]⟩, .string ⟨#[1]⟩, .int .i64 0] 24) := by rw [heap_below _ _ _ (by simp only [size_al]; omega), heap_below _ _ _ (by simp only [size_al]; omega)]; have := heap_alloc_last w (Obj.cells #[.bool false, .string ⟨#[]⟩, .string ⟨#[1]⟩, .int .i64 0] 24); simpa only [size_al] using this
    have Ry_0 : (((w.alloc (Obj.cells #[.bool false, .string ⟨#[]⟩, .string ⟨#[1]⟩, .int .i64 0] 24)).alloc (Obj.cells #[.bool c, .string p, .string q, .int .i64 g] 24)).alloc (Obj.cells #[.bool false, .string ⟨#[]⟩, .string ⟨#[]⟩, .int .i64 0] 24)).heap[w.heap.size + 1]? = some (Obj.cells #[.bool c, .string p, .string q, .int .i64 g] 24) := by rw [heap_below _ _ _ (by simp only [size_al]; omega)]; have := heap_alloc_last (w.alloc (Obj.cells #[.bool false, .string ⟨#[]⟩, .string ⟨#[1]⟩, .int .i64 0] 24)) (Obj.cells #[.bool c, .string p, .string q, .int .i64 g] 24); simpa only [size_al] using this
    have Rz_0 : (((w.alloc (Obj.cells #[.bool false, .string ⟨#[]⟩, .string ⟨#[1]⟩, .int .i64 0] 24)).alloc (Obj.cells #[.bool c, .string p, .string q, .int .i64 g] 24)).alloc (Obj.cells #[.bool false, .string ⟨#[]⟩, .string ⟨#[]⟩, .int .i64 0] 24)).heap[w.heap.size + 1 + 1]? = some (Obj.cells #[.bool false, .string ⟨#[]⟩, .string ⟨#[]⟩, .int .i64 0] 24) := by have := heap_alloc_last ((w.alloc (Obj.cells #[.bool false, .string ⟨#[]⟩, .string ⟨#[1]⟩, .int .i64 0] 24)).alloc (Obj.cells #[.bool c, .string p, .string q, .int .i64 g] 24)) (Obj.cells #[.bool false, .string ⟨#[]⟩, .string ⟨#[]⟩, .int .i64 0] 24); simpa only [size_al] using this
    have B0 : Below w.heap.size w (((w.alloc (Obj.cells #[.bool false, .string ⟨#[]⟩, .string ⟨#[1]⟩, .int .i64 0] 24)).alloc (Obj.cells #[.bool c, .string p, .string q, .int .i64 g] 24)).alloc (Obj.cells #[.bool false, .string ⟨#[]⟩, .string ⟨#[]⟩, .int .i64 0] 24)) := ((((Below.refl _ _).alloc (by first | omega | (simp only [size_al]; omega)) _).alloc (by first | omega | (simp only [size_al]; omega)) _).alloc (by first | omega | (simp only [size_al]; omega)) _)
    go_enter Tryd.func24, Tryd.ntmps24
    go_wp2_with fail
    refine (xmay2 _ _ _ _ _ _ _ _ true true true M1.out M2.out rfl _ (((w.alloc (Obj.cells #[.bool false, .string ⟨#[]⟩, .string ⟨#[1]⟩, .int .i64 0] 24)).alloc (Obj.cells #[.bool c, .string p, .string q, .int .i64 g] 24)).alloc (Obj.cells #[.bool false, .string ⟨#[]⟩, .string ⟨#[]⟩, .int .i64 0] 24)) _ (by simp only [size_al]) (tabB TT.out B0)).mono ?_
    rintro r w1 ⟨rfl, b1⟩
    have B1 : Below w.heap.size w w1 := btr B0 b1
    have Rx_1 : w1.heap[w.heap.size]? = some (Obj.cells #[.bool false, .string ⟨#[]⟩, .string ⟨#[1]⟩, .int .i64 0] 24) := heap_of b1 _ _ _ Rx_0
    have Ry_1 : w1.heap[w.heap.size + 1]? = some (Obj.cells #[.bool c, .string p, .string q, .int .i64 g] 24) := heap_of b1 _ _ _ Ry_0
    have Rz_1 : w1.heap[w.heap.size + 1 + 1]? = some (Obj.cells #[.bool false, .string ⟨#[]⟩, .string ⟨#[]⟩, .int .i64 0] 24) := heap_of b1 _ _ _ Rz_0
    clear b1 B0 Rx_0 Ry_0 Rz_0
    have cx_1_0 := cells4 Rx_1 0 _ rfl
    have cx_1_1 := cells4 Rx_1 1 _ rfl
    have cx_1_2 := cells4 Rx_1 2 _ rfl
    have cx_1_3 := cells4 Rx_1 3 _ rfl
    have cy_1_0 := cells4 Ry_1 0 _ rfl
    have cy_1_1 := cells4 Ry_1 1 _ rfl
    have cy_1_2 := cells4 Ry_1 2 _ rfl
    have cy_1_3 := cells4 Ry_1 3 _ rfl
    have cz_1_0 := cells4 Rz_1 0 _ rfl
    have cz_1_1 := cells4 Rz_1 1 _ rfl
    have cz_1_2 := cells4 Rz_1 2 _ rfl
    have cz_1_3 := cells4 Rz_1 3 _ rfl
    go_wp2_with fail
    obtain ⟨F, hF1, hF2⟩ := below_fun w1
    have fx_0 := fun u => cells4 (heap_of (hF1 u) _ _ _ Rx_1) 0 _ rfl
    have fx_1 := fun u => cells4 (heap_of (hF1 u) _ _ _ Rx_1) 1 _ rfl
    have fx_2 := fun u => cells4 (heap_of (hF1 u) _ _ _ Rx_1) 2 _ rfl
    have fx_3 := fun u => cells4 (heap_of (hF1 u) _ _ _ Rx_1) 3 _ rfl
    have fy_0 := fun u => cells4 (heap_of (hF1 u) _ _ _ Ry_1) 0 _ rfl
    have fy_1 := fun u => cells4 (heap_of (hF1 u) _ _ _ Ry_1) 1 _ rfl
    have fy_2 := fun u => cells4 (heap_of (hF1 u) _ _ _ Ry_1) 2 _ rfl
    have fy_3 := fun u => cells4 (heap_of (hF1 u) _ _ _ Ry_1) 3 _ rfl
    have fz_0 := fun u => cells4 (heap_of (hF1 u) _ _ _ Rz_1) 0 _ rfl
    have fz_1 := fun u => cells4 (heap_of (hF1 u) _ _ _ Rz_1) 1 _ rfl
    have fz_2 := fun u => cells4 (heap_of (hF1 u) _ _ _ Rz_1) 2 _ rfl
    have fz_3 := fun u => cells4 (heap_of (hF1 u) _ _ _ Rz_1) 3 _ rfl
    refine wp_region_below F hF2 (by kernel_rfl) (by kernel_rfl) ?_
    repeat first | go_big_quiet_step (first | (go_at_call 38; exact quietF hF1 hF2 (zerox _)) | fail) | quiet_step (first | (go_at_call 38; exact quietF hF1 hF2 (zerox _)) | fail)
    refine wpQuiet_nil ?_
    rintro _ ⟨uW, rfl⟩
    have B2 := btr B1 (hF1 uW)
    have Rx_2 := heap_of (hF1 uW) _ _ _ Rx_1
    have Ry_2 := heap_of (hF1 uW) _ _ _ Ry_1
    have Rz_2 := heap_of (hF1 uW) _ _ _ Rz_1
    obtain ⟨w2, hw⟩ : ∃ V, F uW = V := ⟨_, rfl⟩
    rw [hw] at B2 Rx_2 Ry_2 Rz_2
    try rw [hw]
    clear hw hF1 hF2 B1 fx_0 fx_1 fx_2 fx_3 fy_0 fy_1 fy_2 fy_3 fz_0 fz_1 fz_2 fz_3 Rx_1 cx_1_0 cx_1_1 cx_1_2 cx_1_3 Ry_1 cy_1_0 cy_1_1 cy_1_2 cy_1_3 Rz_1 cz_1_0 cz_1_1 cz_1_2 cz_1_3
    clear F
    have cx_2_0 := cells4 Rx_2 0 _ rfl
    have cx_2_1 := cells4 Rx_2 1 _ rfl
    have cx_2_2 := cells4 Rx_2 2 _ rfl
    have cx_2_3 := cells4 Rx_2 3 _ rfl
    have cy_2_0 := cells4 Ry_2 0 _ rfl
    have cy_2_1 := cells4 Ry_2 1 _ rfl
    have cy_2_2 := cells4 Ry_2 2 _ rfl
    have cy_2_3 := cells4 Ry_2 3 _ rfl
    have cz_2_0 := cells4 Rz_2 0 _ rfl
    have cz_2_1 := cells4 Rz_2 1 _ rfl
    have cz_2_2 := cells4 Rz_2 2 _ rfl
    have cz_2_3 := cells4 Rz_2 3 _ rfl
    go_wp2_with fail
    refine (zerox _).mono ?_
    rintro r w3 ⟨rfl, b3⟩
    have B3 : Below w.heap.size w w3 := btr B2 b3
    have Rx_3 : w3.heap[w.heap.size]? = some (Obj.cells #[.bool false, .string ⟨#[]⟩, .string ⟨#[1]⟩, .int .i64 0] 24) := heap_of b3 _ _ _ Rx_2
    have Ry_3 : w3.heap[w.heap.size + 1]? = some (Obj.cells #[.bool c, .string p, .string q, .int .i64 g] 24) := heap_of b3 _ _ _ Ry_2
    have Rz_3 : w3.heap[w.heap.size + 1 + 1]? = some (Obj.cells #[.bool false, .string ⟨#[]⟩, .string ⟨#[]⟩, .int .i64 0] 24) := heap_of b3 _ _ _ Rz_2
    clear b3 B2 Rx_2 cx_2_0 cx_2_1 cx_2_2 cx_2_3 Ry_2 cy_2_0 cy_2_1 cy_2_2 cy_2_3 Rz_2 cz_2_0 cz_2_1 cz_2_2 cz_2_3
    have cx_3_0 := cells4 Rx_3 0 _ rfl
    have cx_3_1 := cells4 Rx_3 1 _ rfl
    have cx_3_2 := cells4 Rx_3 2 _ rfl
    have cx_3_3 := cells4 Rx_3 3 _ rfl
    have cy_3_0 := cells4 Ry_3 0 _ rfl
    have cy_3_1 := cells4 Ry_3 1 _ rfl
    have cy_3_2 := cells4 Ry_3 2 _ rfl
    have cy_3_3 := cells4 Ry_3 3 _ rfl
    have cz_3_0 := cells4 Rz_3 0 _ rfl
    have cz_3_1 := cells4 Rz_3 1 _ rfl
    have cz_3_2 := cells4 Rz_3 2 _ rfl
    have cz_3_3 := cells4 Rz_3 3 _ rfl
    have q0 := fz (k := 0) Rz_3
    have q1 := fz (k := 1) Rz_3
    have q2 := fz (k := 2) Rz_3
    have q3 := fz (k := 3) Rz_3
    obtain ⟨E0, E1, E2, E3⟩ := set4_cells Rz_3 rfl (.bool false) (.string ⟨#[]⟩) (.string ⟨#[1]⟩) (.int .i64 0)
    go_wp2
    exact bodyPost_ret (v := .tuple #[.agg #[.bool false, .string ⟨#[]⟩, .string ⟨#[1]⟩, .int .i64 0], .int .i64 0]) (by simp [results, Tryd.results24, go_sem, E0, E1, E2, E3]) rfl ⟨rfl, set4_below B3 (by first | exact Nat.le_refl _ | omega) _ _ _ _⟩
  · rcases x_cases hp hq hy with ⟨m0, rfl, rfl, rfl, rfl, rfl⟩ | ⟨m0, e1⟩
    · obtain ⟨rfl, rfl, rfl, rfl, rfl⟩ := x0_is (by rw [← hr]; unfold mulX; rw [if_pos (Or.inr m0)])
      rw [nbA_zero] at hu
      rw [nb1] at hv
      subst hu hv
      clear hs ht hp hq hx hy hr hT n0 m0
      cases b
      · have Rx_0 : (((w.alloc (Obj.cells #[.bool false, .string s, .string t, .int .i64 e] 24)).alloc (Obj.cells #[.bool false, .string ⟨#[]⟩, .string ⟨#[1]⟩, .int .i64 0] 24)).alloc (Obj.cells #[.bool false, .string ⟨#[]⟩, .string ⟨#[]⟩, .int .i64 0] 24)).heap[w.heap.size]? = some (Obj.cells #[.bool false, .string s, .string t, .int .i64 e] 24) := by rw [heap_below _ _ _ (by simp only [size_al]; omega), heap_below _ _ _ (by simp only [size_al]; omega)]; have := heap_alloc_last w (Obj.cells #[.bool false, .string s, .string t, .int .i64 e] 24); simpa only [size_al] using this
        have Ry_0 : (((w.alloc (Obj.cells #[.bool false, .string s, .string t, .int .i64 e] 24)).alloc (Obj.cells #[.bool false, .string ⟨#[]⟩, .string ⟨#[1]⟩, .int .i64 0] 24)).alloc (Obj.cells #[.bool false, .string ⟨#[]⟩, .string ⟨#[]⟩, .int .i64 0] 24)).heap[w.heap.size + 1]? = some (Obj.cells #[.bool false, .string ⟨#[]⟩, .string ⟨#[1]⟩, .int .i64 0] 24) := by rw [heap_below _ _ _ (by simp only [size_al]; omega)]; have := heap_alloc_last (w.alloc (Obj.cells #[.bool false, .string s, .string t, .int .i64 e] 24)) (Obj.cells #[.bool false, .string ⟨#[]⟩, .string ⟨#[1]⟩, .int .i64 0] 24); simpa only [size_al] using this
        have Rz_0 : (((w.alloc (Obj.cells #[.bool false, .string s, .string t, .int .i64 e] 24)).alloc (Obj.cells #[.bool false, .string ⟨#[]⟩, .string ⟨#[1]⟩, .int .i64 0] 24)).alloc (Obj.cells #[.bool false, .string ⟨#[]⟩, .string ⟨#[]⟩, .int .i64 0] 24)).heap[w.heap.size + 1 + 1]? = some (Obj.cells #[.bool false, .string ⟨#[]⟩, .string ⟨#[]⟩, .int .i64 0] 24) := by have := heap_alloc_last ((w.alloc (Obj.cells #[.bool false, .string s, .string t, .int .i64 e] 24)).alloc (Obj.cells #[.bool false, .string ⟨#[]⟩, .string ⟨#[1]⟩, .int .i64 0] 24)) (Obj.cells #[.bool false, .string ⟨#[]⟩, .string ⟨#[]⟩, .int .i64 0] 24); simpa only [size_al] using this
        have B0 : Below w.heap.size w (((w.alloc (Obj.cells #[.bool false, .string s, .string t, .int .i64 e] 24)).alloc (Obj.cells #[.bool false, .string ⟨#[]⟩, .string ⟨#[1]⟩, .int .i64 0] 24)).alloc (Obj.cells #[.bool false, .string ⟨#[]⟩, .string ⟨#[]⟩, .int .i64 0] 24)) := ((((Below.refl _ _).alloc (by first | omega | (simp only [size_al]; omega)) _).alloc (by first | omega | (simp only [size_al]; omega)) _).alloc (by first | omega | (simp only [size_al]; omega)) _)
        go_enter Tryd.func24, Tryd.ntmps24
        go_wp2_with fail
        refine (xmay2 _ _ _ _ _ _ _ _ true true true M1.out M2.out rfl _ (((w.alloc (Obj.cells #[.bool false, .string s, .string t, .int .i64 e] 24)).alloc (Obj.cells #[.bool false, .string ⟨#[]⟩, .string ⟨#[1]⟩, .int .i64 0] 24)).alloc (Obj.cells #[.bool false, .string ⟨#[]⟩, .string ⟨#[]⟩, .int .i64 0] 24)) _ (by simp only [size_al]) (tabB TT.out B0)).mono ?_
        rintro r w1 ⟨rfl, b1⟩
        have B1 : Below w.heap.size w w1 := btr B0 b1
        have Rx_1 : w1.heap[w.heap.size]? = some (Obj.cells #[.bool false, .string s, .string t, .int .i64 e] 24) := heap_of b1 _ _ _ Rx_0
        have Ry_1 : w1.heap[w.heap.size + 1]? = some (Obj.cells #[.bool false, .string ⟨#[]⟩, .string ⟨#[1]⟩, .int .i64 0] 24) := heap_of b1 _ _ _ Ry_0
        have Rz_1 : w1.heap[w.heap.size + 1 + 1]? = some (Obj.cells #[.bool false, .string ⟨#[]⟩, .string ⟨#[]⟩, .int .i64 0] 24) := heap_of b1 _ _ _ Rz_0
        clear b1 B0 Rx_0 Ry_0 Rz_0
        have cx_1_0 := cells4 Rx_1 0 _ rfl
        have cx_1_1 := cells4 Rx_1 1 _ rfl
        have cx_1_2 := cells4 Rx_1 2 _ rfl
        have cx_1_3 := cells4 Rx_1 3 _ rfl
        have cy_1_0 := cells4 Ry_1 0 _ rfl
        have cy_1_1 := cells4 Ry_1 1 _ rfl
        have cy_1_2 := cells4 Ry_1 2 _ rfl
        have cy_1_3 := cells4 Ry_1 3 _ rfl
        have cz_1_0 := cells4 Rz_1 0 _ rfl
        have cz_1_1 := cells4 Rz_1 1 _ rfl
        have cz_1_2 := cells4 Rz_1 2 _ rfl
        have cz_1_3 := cells4 Rz_1 3 _ rfl
        go_wp2_with fail
        obtain ⟨F, hF1, hF2⟩ := below_fun w1
        have fx_0 := fun u => cells4 (heap_of (hF1 u) _ _ _ Rx_1) 0 _ rfl
        have fx_1 := fun u => cells4 (heap_of (hF1 u) _ _ _ Rx_1) 1 _ rfl
        have fx_2 := fun u => cells4 (heap_of (hF1 u) _ _ _ Rx_1) 2 _ rfl
        have fx_3 := fun u => cells4 (heap_of (hF1 u) _ _ _ Rx_1) 3 _ rfl
        have fy_0 := fun u => cells4 (heap_of (hF1 u) _ _ _ Ry_1) 0 _ rfl
        have fy_1 := fun u => cells4 (heap_of (hF1 u) _ _ _ Ry_1) 1 _ rfl
        have fy_2 := fun u => cells4 (heap_of (hF1 u) _ _ _ Ry_1) 2 _ rfl
        have fy_3 := fun u => cells4 (heap_of (hF1 u) _ _ _ Ry_1) 3 _ rfl
        have fz_0 := fun u => cells4 (heap_of (hF1 u) _ _ _ Rz_1) 0 _ rfl
        have fz_1 := fun u => cells4 (heap_of (hF1 u) _ _ _ Rz_1) 1 _ rfl
        have fz_2 := fun u => cells4 (heap_of (hF1 u) _ _ _ Rz_1) 2 _ rfl
        have fz_3 := fun u => cells4 (heap_of (hF1 u) _ _ _ Rz_1) 3 _ rfl
        refine wp_region_below F hF2 (by kernel_rfl) (by kernel_rfl) ?_
        repeat first | go_big_quiet_step (first | (go_at_call 38; exact quietF hF1 hF2 (zerox _)) | fail) | quiet_step (first | (go_at_call 38; exact quietF hF1 hF2 (zerox _)) | fail)
        refine wpQuiet_nil ?_
        rintro _ ⟨uW, rfl⟩
        have B2 := btr B1 (hF1 uW)
        have Rx_2 := heap_of (hF1 uW) _ _ _ Rx_1
        have Ry_2 := heap_of (hF1 uW) _ _ _ Ry_1
        have Rz_2 := heap_of (hF1 uW) _ _ _ Rz_1
        obtain ⟨w2, hw⟩ : ∃ V, F uW = V := ⟨_, rfl⟩
        rw [hw] at B2 Rx_2 Ry_2 Rz_2
        try rw [hw]
        clear hw hF1 hF2 B1 fx_0 fx_1 fx_2 fx_3 fy_0 fy_1 fy_2 fy_3 fz_0 fz_1 fz_2 fz_3 Rx_1 cx_1_0 cx_1_1 cx_1_2 cx_1_3 Ry_1 cy_1_0 cy_1_1 cy_1_2 cy_1_3 Rz_1 cz_1_0 cz_1_1 cz_1_2 cz_1_3
        clear F
        have cx_2_0 := cells4 Rx_2 0 _ rfl
        have cx_2_1 := cells4 Rx_2 1 _ rfl
        have cx_2_2 := cells4 Rx_2 2 _ rfl
        have cx_2_3 := cells4 Rx_2 3 _ rfl
        have cy_2_0 := cells4 Ry_2 0 _ rfl
        have cy_2_1 := cells4 Ry_2 1 _ rfl
        have cy_2_2 := cells4 Ry_2 2 _ rfl
        have cy_2_3 := cells4 Ry_2 3 _ rfl
        have cz_2_0 := cells4 Rz_2 0 _ rfl
        have cz_2_1 := cells4 Rz_2 1 _ rfl
        have cz_2_2 := cells4 Rz_2 2 _ rfl
        have cz_2_3 := cells4 Rz_2 3 _ rfl
        go_wp2_with fail
        refine (zerox _).mono ?_
        rintro r w3 ⟨rfl, b3⟩
        have B3 : Below w.heap.size w w3 := btr B2 b3
        have Rx_3 : w3.heap[w.heap.size]? = some (Obj.cells #[.bool false, .string s, .string t, .int .i64 e] 24) := heap_of b3 _ _ _ Rx_2
        have Ry_3 : w3.heap[w.heap.size + 1]? = some (Obj.cells #[.bool false, .string ⟨#[]⟩, .string ⟨#[1]⟩, .int .i64 0] 24) := heap_of b3 _ _ _ Ry_2
        have Rz_3 : w3.heap[w.heap.size + 1 + 1]? = some (Obj.cells #[.bool false, .string ⟨#[]⟩, .string ⟨#[]⟩, .int .i64 0] 24) := heap_of b3 _ _ _ Rz_2
        clear b3 B2 Rx_2 cx_2_0 cx_2_1 cx_2_2 cx_2_3 Ry_2 cy_2_0 cy_2_1 cy_2_2 cy_2_3 Rz_2 cz_2_0 cz_2_1 cz_2_2 cz_2_3
        have cx_3_0 := cells4 Rx_3 0 _ rfl
        have cx_3_1 := cells4 Rx_3 1 _ rfl
        have cx_3_2 := cells4 Rx_3 2 _ rfl
        have cx_3_3 := cells4 Rx_3 3 _ rfl
        have cy_3_0 := cells4 Ry_3 0 _ rfl
        have cy_3_1 := cells4 Ry_3 1 _ rfl
        have cy_3_2 := cells4 Ry_3 2 _ rfl
        have cy_3_3 := cells4 Ry_3 3 _ rfl
        have cz_3_0 := cells4 Rz_3 0 _ rfl
        have cz_3_1 := cells4 Rz_3 1 _ rfl
        have cz_3_2 := cells4 Rz_3 2 _ rfl
        have cz_3_3 := cells4 Rz_3 3 _ rfl
        have q0 := fz (k := 0) Rz_3
        have q1 := fz (k := 1) Rz_3
        have q2 := fz (k := 2) Rz_3
        have q3 := fz (k := 3) Rz_3
        obtain ⟨E0, E1, E2, E3⟩ := set4_cells Rz_3 rfl (.bool false) (.string ⟨#[]⟩) (.string ⟨#[1]⟩) (.int .i64 0)
        go_wp2
        exact bodyPost_ret (v := .tuple #[.agg #[.bool false, .string ⟨#[]⟩, .string ⟨#[1]⟩, .int .i64 0], .int .i64 0]) (by simp [results, Tryd.results24, go_sem, E0, E1, E2, E3]) rfl ⟨rfl, set4_below B3 (by first | exact Nat.le_refl _ | omega) _ _ _ _⟩
      · have Rx_0 : (((w.alloc (Obj.cells #[.bool true, .string s, .string t, .int .i64 e] 24)).alloc (Obj.cells #[.bool false, .string ⟨#[]⟩, .string ⟨#[1]⟩, .int .i64 0] 24)).alloc (Obj.cells #[.bool false, .string ⟨#[]⟩, .string ⟨#[]⟩, .int .i64 0] 24)).heap[w.heap.size]? = some (Obj.cells #[.bool true, .string s, .string t, .int .i64 e] 24) := by rw [heap_below _ _ _ (by simp only [size_al]; omega), heap_below _ _ _ (by simp only [size_al]; omega)]; have := heap_alloc_last w (Obj.cells #[.bool true, .string s, .string t, .int .i64 e] 24); simpa only [size_al] using this
        have Ry_0 : (((w.alloc (Obj.cells #[.bool true, .string s, .string t, .int .i64 e] 24)).alloc (Obj.cells #[.bool false, .string ⟨#[]⟩, .string ⟨#[1]⟩, .int .i64 0] 24)).alloc (Obj.cells #[.bool false, .string ⟨#[]⟩, .string ⟨#[]⟩, .int .i64 0] 24)).heap[w.heap.size + 1]? = some (Obj.cells #[.bool false, .string ⟨#[]⟩, .string ⟨#[1]⟩, .int .i64 0] 24) := by rw [heap_below _ _ _ (by simp only [size_al]; omega)]; have := heap_alloc_last (w.alloc (Obj.cells #[.bool true, .string s, .string t, .int .i64 e] 24)) (Obj.cells #[.bool false, .string ⟨#[]⟩, .string ⟨#[1]⟩, .int .i64 0] 24); simpa only [size_al] using this
        have Rz_0 : (((w.alloc (Obj.cells #[.bool true, .string s, .string t, .int .i64 e] 24)).alloc (Obj.cells #[.bool false, .string ⟨#[]⟩, .string ⟨#[1]⟩, .int .i64 0] 24)).alloc (Obj.cells #[.bool false, .string ⟨#[]⟩, .string ⟨#[]⟩, .int .i64 0] 24)).heap[w.heap.size + 1 + 1]? = some (Obj.cells #[.bool false, .string ⟨#[]⟩, .string ⟨#[]⟩, .int .i64 0] 24) := by have := heap_alloc_last ((w.alloc (Obj.cells #[.bool true, .string s, .string t, .int .i64 e] 24)).alloc (Obj.cells #[.bool false, .string ⟨#[]⟩, .string ⟨#[1]⟩, .int .i64 0] 24)) (Obj.cells #[.bool false, .string ⟨#[]⟩, .string ⟨#[]⟩, .int .i64 0] 24); simpa only [size_al] using this
        have B0 : Below w.heap.size w (((w.alloc (Obj.cells #[.bool true, .string s, .string t, .int .i64 e] 24)).alloc (Obj.cells #[.bool false, .string ⟨#[]⟩, .string ⟨#[1]⟩, .int .i64 0] 24)).alloc (Obj.cells #[.bool false, .string ⟨#[]⟩, .string ⟨#[]⟩, .int .i64 0] 24)) := ((((Below.refl _ _).alloc (by first | omega | (simp only [size_al]; omega)) _).alloc (by first | omega | (simp only [size_al]; omega)) _).alloc (by first | omega | (simp only [size_al]; omega)) _)
        go_enter Tryd.func24, Tryd.ntmps24
        go_wp2_with fail
        refine (xmay2 _ _ _ _ _ _ _ _ true true true M1.out M2.out rfl _ (((w.alloc (Obj.cells #[.bool true, .string s, .string t, .int .i64 e] 24)).alloc (Obj.cells #[.bool false, .string ⟨#[]⟩, .string ⟨#[1]⟩, .int .i64 0] 24)).alloc (Obj.cells #[.bool false, .string ⟨#[]⟩, .string ⟨#[]⟩, .int .i64 0] 24)) _ (by simp only [size_al]) (tabB TT.out B0)).mono ?_
        rintro r w1 ⟨rfl, b1⟩
        have B1 : Below w.heap.size w w1 := btr B0 b1
        have Rx_1 : w1.heap[w.heap.size]? = some (Obj.cells #[.bool true, .string s, .string t, .int .i64 e] 24) := heap_of b1 _ _ _ Rx_0
        have Ry_1 : w1.heap[w.heap.size + 1]? = some (Obj.cells #[.bool false, .string ⟨#[]⟩, .string ⟨#[1]⟩, .int .i64 0] 24) := heap_of b1 _ _ _ Ry_0
        have Rz_1 : w1.heap[w.heap.size + 1 + 1]? = some (Obj.cells #[.bool false, .string ⟨#[]⟩, .string ⟨#[]⟩, .int .i64 0] 24) := heap_of b1 _ _ _ Rz_0
        clear b1 B0 Rx_0 Ry_0 Rz_0
        have cx_1_0 := cells4 Rx_1 0 _ rfl
        have cx_1_1 := cells4 Rx_1 1 _ rfl
        have cx_1_2 := cells4 Rx_1 2 _ rfl
        have cx_1_3 := cells4 Rx_1 3 _ rfl
        have cy_1_0 := cells4 Ry_1 0 _ rfl
        have cy_1_1 := cells4 Ry_1 1 _ rfl
        have cy_1_2 := cells4 Ry_1 2 _ rfl
        have cy_1_3 := cells4 Ry_1 3 _ rfl
        have cz_1_0 := cells4 Rz_1 0 _ rfl
        have cz_1_1 := cells4 Rz_1 1 _ rfl
        have cz_1_2 := cells4 Rz_1 2 _ rfl
        have cz_1_3 := cells4 Rz_1 3 _ rfl
        go_wp2_with fail
        obtain ⟨F, hF1, hF2⟩ := below_fun w1
        have fx_0 := fun u => cells4 (heap_of (hF1 u) _ _ _ Rx_1) 0 _ rfl
        have fx_1 := fun u => cells4 (heap_of (hF1 u) _ _ _ Rx_1) 1 _ rfl
        have fx_2 := fun u => cells4 (heap_of (hF1 u) _ _ _ Rx_1) 2 _ rfl
        have fx_3 := fun u => cells4 (heap_of (hF1 u) _ _ _ Rx_1) 3 _ rfl
        have fy_0 := fun u => cells4 (heap_of (hF1 u) _ _ _ Ry_1) 0 _ rfl
        have fy_1 := fun u => cells4 (heap_of (hF1 u) _ _ _ Ry_1) 1 _ rfl
        have fy_2 := fun u => cells4 (heap_of (hF1 u) _ _ _ Ry_1) 2 _ rfl
        have fy_3 := fun u => cells4 (heap_of (hF1 u) _ _ _ Ry_1) 3 _ rfl
        have fz_0 := fun u => cells4 (heap_of (hF1 u) _ _ _ Rz_1) 0 _ rfl
        have fz_1 := fun u => cells4 (heap_of (hF1 u) _ _ _ Rz_1) 1 _ rfl
        have fz_2 := fun u => cells4 (heap_of (hF1 u) _ _ _ Rz_1) 2 _ rfl
        have fz_3 := fun u => cells4 (heap_of (hF1 u) _ _ _ Rz_1) 3 _ rfl
        refine wp_region_below F hF2 (by kernel_rfl) (by kernel_rfl) ?_
        repeat first | go_big_quiet_step (first | (go_at_call 38; exact quietF hF1 hF2 (zerox _)) | fail) | quiet_step (first | (go_at_call 38; exact quietF hF1 hF2 (zerox _)) | fail)
        refine wpQuiet_nil ?_
        rintro _ ⟨uW, rfl⟩
        have B2 := btr B1 (hF1 uW)
        have Rx_2 := heap_of (hF1 uW) _ _ _ Rx_1
        have Ry_2 := heap_of (hF1 uW) _ _ _ Ry_1
        have Rz_2 := heap_of (hF1 uW) _ _ _ Rz_1
        obtain ⟨w2, hw⟩ : ∃ V, F uW = V := ⟨_, rfl⟩
        rw [hw] at B2 Rx_2 Ry_2 Rz_2
        try rw [hw]
        clear hw hF1 hF2 B1 fx_0 fx_1 fx_2 fx_3 fy_0 fy_1 fy_2 fy_3 fz_0 fz_1 fz_2 fz_3 Rx_1 cx_1_0 cx_1_1 cx_1_2 cx_1_3 Ry_1 cy_1_0 cy_1_1 cy_1_2 cy_1_3 Rz_1 cz_1_0 cz_1_1 cz_1_2 cz_1_3
        clear F
        have cx_2_0 := cells4 Rx_2 0 _ rfl
        have cx_2_1 := cells4 Rx_2 1 _ rfl
        have cx_2_2 := cells4 Rx_2 2 _ rfl
        have cx_2_3 := cells4 Rx_2 3 _ rfl
        have cy_2_0 := cells4 Ry_2 0 _ rfl
        have cy_2_1 := cells4 Ry_2 1 _ rfl
        have cy_2_2 := cells4 Ry_2 2 _ rfl
        have cy_2_3 := cells4 Ry_2 3 _ rfl
        have cz_2_0 := cells4 Rz_2 0 _ rfl
        have cz_2_1 := cells4 Rz_2 1 _ rfl
        have cz_2_2 := cells4 Rz_2 2 _ rfl
        have cz_2_3 := cells4 Rz_2 3 _ rfl
        go_wp2_with fail
        refine (zerox _).mono ?_
        rintro r w3 ⟨rfl, b3⟩
        have B3 : Below w.heap.size w w3 := btr B2 b3
        have Rx_3 : w3.heap[w.heap.size]? = some (Obj.cells #[.bool true, .string s, .string t, .int .i64 e] 24) := heap_of b3 _ _ _ Rx_2
        have Ry_3 : w3.heap[w.heap.size + 1]? = some (Obj.cells #[.bool false, .string ⟨#[]⟩, .string ⟨#[1]⟩, .int .i64 0] 24) := heap_of b3 _ _ _ Ry_2
        have Rz_3 : w3.heap[w.heap.size + 1 + 1]? = some (Obj.cells #[.bool false, .string ⟨#[]⟩, .string ⟨#[]⟩, .int .i64 0] 24) := heap_of b3 _ _ _ Rz_2
        clear b3 B2 Rx_2 cx_2_0 cx_2_1 cx_2_2 cx_2_3 Ry_2 cy_2_0 cy_2_1 cy_2_2 cy_2_3 Rz_2 cz_2_0 cz_2_1 cz_2_2 cz_2_3
        have cx_3_0 := cells4 Rx_3 0 _ rfl
        have cx_3_1 := cells4 Rx_3 1 _ rfl
        have cx_3_2 := cells4 Rx_3 2 _ rfl
        have cx_3_3 := cells4 Rx_3 3 _ rfl
        have cy_3_0 := cells4 Ry_3 0 _ rfl
        have cy_3_1 := cells4 Ry_3 1 _ rfl
        have cy_3_2 := cells4 Ry_3 2 _ rfl
        have cy_3_3 := cells4 Ry_3 3 _ rfl
        have cz_3_0 := cells4 Rz_3 0 _ rfl
        have cz_3_1 := cells4 Rz_3 1 _ rfl
        have cz_3_2 := cells4 Rz_3 2 _ rfl
        have cz_3_3 := cells4 Rz_3 3 _ rfl
        have q0 := fz (k := 0) Rz_3
        have q1 := fz (k := 1) Rz_3
        have q2 := fz (k := 2) Rz_3
        have q3 := fz (k := 3) Rz_3
        obtain ⟨E0, E1, E2, E3⟩ := set4_cells Rz_3 rfl (.bool false) (.string ⟨#[]⟩) (.string ⟨#[1]⟩) (.int .i64 0)
        go_wp2
        exact bodyPost_ret (v := .tuple #[.agg #[.bool false, .string ⟨#[]⟩, .string ⟨#[1]⟩, .int .i64 0], .int .i64 0]) (by simp [results, Tryd.results24, go_sem, E0, E1, E2, E3]) rfl ⟨rfl, set4_below B3 (by first | exact Nat.le_refl _ | omega) _ _ _ _⟩
    · rw [prod_mul b n d e c m f g (by omega)] at hr
      obtain ⟨a1, a2, a3, a4, a5⟩ := hx
      obtain ⟨z1, z2, z3, z4, z5⟩ := hy
      have df : d * f ≠ 0 := by
        have k1 := M1.out.1 rfl
        have k2 := M2.out.1 rfl
        rw [mayX_iff b n d s t e hs ht] at k1
        rw [mayX_iff c m f p q g hp hq] at k2
        exact mul_ne k1.d0 k2.d0
      have HF := box (fun w hT => productx b n d e s t c m f g p q rb rn rd re err u v hs ht hp hq a1 a2 z1 z2 df ⟨by have : -1048576 ≤ e := a3; omega, by have : e ≤ 1048576 := a4; omega, by have : -1048576 ≤ g := z3; omega, by have : g ≤ 1048576 := z4; omega⟩ hr hu hv w hT)
      clear hs ht hp hq a1 a2 a3 a4 a5 z1 z2 z3 z4 z5 df hr hu hv hT n0 m0
      cases b
      all_goals cases c
      · have Rx_0 : (((w.alloc (Obj.cells #[.bool false, .string s, .string t, .int .i64 e] 24)).alloc (Obj.cells #[.bool false, .string p, .string q, .int .i64 g] 24)).alloc (Obj.cells #[.bool false, .string ⟨#[]⟩, .string ⟨#[]⟩, .int .i64 0] 24)).heap[w.heap.size]? = some (Obj.cells #[.bool false, .string s, .string t, .int .i64 e] 24) := by rw [heap_below _ _ _ (by simp only [size_al]; omega), heap_below _ _ _ (by simp only [size_al]; omega)]; have := heap_alloc_last w (Obj.cells #[.bool false, .string s, .string t, .int .i64 e] 24); simpa only [size_al] using this
        have Ry_0 : (((w.alloc (Obj.cells #[.bool false, .string s, .string t, .int .i64 e] 24)).alloc (Obj.cells #[.bool false, .string p, .string q, .int .i64 g] 24)).alloc (Obj.cells #[.bool false, .string ⟨#[]⟩, .string ⟨#[]⟩, .int .i64 0] 24)).heap[w.heap.size + 1]? = some (Obj.cells #[.bool false, .string p, .string q, .int .i64 g] 24) := by rw [heap_below _ _ _ (by simp only [size_al]; omega)]; have := heap_alloc_last (w.alloc (Obj.cells #[.bool false, .string s, .string t, .int .i64 e] 24)) (Obj.cells #[.bool false, .string p, .string q, .int .i64 g] 24); simpa only [size_al] using this
        have Rz_0 : (((w.alloc (Obj.cells #[.bool false, .string s, .string t, .int .i64 e] 24)).alloc (Obj.cells #[.bool false, .string p, .string q, .int .i64 g] 24)).alloc (Obj.cells #[.bool false, .string ⟨#[]⟩, .string ⟨#[]⟩, .int .i64 0] 24)).heap[w.heap.size + 1 + 1]? = some (Obj.cells #[.bool false, .string ⟨#[]⟩, .string ⟨#[]⟩, .int .i64 0] 24) := by have := heap_alloc_last ((w.alloc (Obj.cells #[.bool false, .string s, .string t, .int .i64 e] 24)).alloc (Obj.cells #[.bool false, .string p, .string q, .int .i64 g] 24)) (Obj.cells #[.bool false, .string ⟨#[]⟩, .string ⟨#[]⟩, .int .i64 0] 24); simpa only [size_al] using this
        have B0 : Below w.heap.size w (((w.alloc (Obj.cells #[.bool false, .string s, .string t, .int .i64 e] 24)).alloc (Obj.cells #[.bool false, .string p, .string q, .int .i64 g] 24)).alloc (Obj.cells #[.bool false, .string ⟨#[]⟩, .string ⟨#[]⟩, .int .i64 0] 24)) := ((((Below.refl _ _).alloc (by first | omega | (simp only [size_al]; omega)) _).alloc (by first | omega | (simp only [size_al]; omega)) _).alloc (by first | omega | (simp only [size_al]; omega)) _)
        go_enter Tryd.func24, Tryd.ntmps24
        go_wp2_with fail
        refine (xmay2 _ _ _ _ _ _ _ _ true true true M1.out M2.out rfl _ (((w.alloc (Obj.cells #[.bool false, .string s, .string t, .int .i64 e] 24)).alloc (Obj.cells #[.bool false, .string p, .string q, .int .i64 g] 24)).alloc (Obj.cells #[.bool false, .string ⟨#[]⟩, .string ⟨#[]⟩, .int .i64 0] 24)) _ (by simp only [size_al]) (tabB TT.out B0)).mono ?_
        rintro r w1 ⟨rfl, b1⟩
        have B1 : Below w.heap.size w w1 := btr B0 b1
        have Rx_1 : w1.heap[w.heap.size]? = some (Obj.cells #[.bool false, .string s, .string t, .int .i64 e] 24) := heap_of b1 _ _ _ Rx_0
        have Ry_1 : w1.heap[w.heap.size + 1]? = some (Obj.cells #[.bool false, .string p, .string q, .int .i64 g] 24) := heap_of b1 _ _ _ Ry_0
        have Rz_1 : w1.heap[w.heap.size + 1 + 1]? = some (Obj.cells #[.bool false, .string ⟨#[]⟩, .string ⟨#[]⟩, .int .i64 0] 24) := heap_of b1 _ _ _ Rz_0
        clear b1 B0 Rx_0 Ry_0 Rz_0
        have cx_1_0 := cells4 Rx_1 0 _ rfl
        have cx_1_1 := cells4 Rx_1 1 _ rfl
        have cx_1_2 := cells4 Rx_1 2 _ rfl
        have cx_1_3 := cells4 Rx_1 3 _ rfl
        have cy_1_0 := cells4 Ry_1 0 _ rfl
        have cy_1_1 := cells4 Ry_1 1 _ rfl
        have cy_1_2 := cells4 Ry_1 2 _ rfl
        have cy_1_3 := cells4 Ry_1 3 _ rfl
        have cz_1_0 := cells4 Rz_1 0 _ rfl
        have cz_1_1 := cells4 Rz_1 1 _ rfl
        have cz_1_2 := cells4 Rz_1 2 _ rfl
        have cz_1_3 := cells4 Rz_1 3 _ rfl
        go_wp2_with fail
        obtain ⟨F, hF1, hF2⟩ := below_fun w1
        have fx_0 := fun u => cells4 (heap_of (hF1 u) _ _ _ Rx_1) 0 _ rfl
        have fx_1 := fun u => cells4 (heap_of (hF1 u) _ _ _ Rx_1) 1 _ rfl
        have fx_2 := fun u => cells4 (heap_of (hF1 u) _ _ _ Rx_1) 2 _ rfl
        have fx_3 := fun u => cells4 (heap_of (hF1 u) _ _ _ Rx_1) 3 _ rfl
        have fy_0 := fun u => cells4 (heap_of (hF1 u) _ _ _ Ry_1) 0 _ rfl
        have fy_1 := fun u => cells4 (heap_of (hF1 u) _ _ _ Ry_1) 1 _ rfl
        have fy_2 := fun u => cells4 (heap_of (hF1 u) _ _ _ Ry_1) 2 _ rfl
        have fy_3 := fun u => cells4 (heap_of (hF1 u) _ _ _ Ry_1) 3 _ rfl
        have fz_0 := fun u => cells4 (heap_of (hF1 u) _ _ _ Rz_1) 0 _ rfl
        have fz_1 := fun u => cells4 (heap_of (hF1 u) _ _ _ Rz_1) 1 _ rfl
        have fz_2 := fun u => cells4 (heap_of (hF1 u) _ _ _ Rz_1) 2 _ rfl
        have fz_3 := fun u => cells4 (heap_of (hF1 u) _ _ _ Rz_1) 3 _ rfl
        refine wp_region_below F hF2 (by kernel_rfl) (by kernel_rfl) ?_
        repeat first | go_big_quiet_step (first | (go_at_call 38; exact quietF hF1 hF2 (zerox _)) | fail) | quiet_step (first | (go_at_call 38; exact quietF hF1 hF2 (zerox _)) | fail)
        refine wpQuiet_nil ?_
        rintro _ ⟨uW, rfl⟩
        have B2 := btr B1 (hF1 uW)
        have Rx_2 := heap_of (hF1 uW) _ _ _ Rx_1
        have Ry_2 := heap_of (hF1 uW) _ _ _ Ry_1
        have Rz_2 := heap_of (hF1 uW) _ _ _ Rz_1
        obtain ⟨w2, hw⟩ : ∃ V, F uW = V := ⟨_, rfl⟩
        rw [hw] at B2 Rx_2 Ry_2 Rz_2
        try rw [hw]
        clear hw hF1 hF2 B1 fx_0 fx_1 fx_2 fx_3 fy_0 fy_1 fy_2 fy_3 fz_0 fz_1 fz_2 fz_3 Rx_1 cx_1_0 cx_1_1 cx_1_2 cx_1_3 Ry_1 cy_1_0 cy_1_1 cy_1_2 cy_1_3 Rz_1 cz_1_0 cz_1_1 cz_1_2 cz_1_3
        clear F
        have cx_2_0 := cells4 Rx_2 0 _ rfl
        have cx_2_1 := cells4 Rx_2 1 _ rfl
        have cx_2_2 := cells4 Rx_2 2 _ rfl
        have cx_2_3 := cells4 Rx_2 3 _ rfl
        have cy_2_0 := cells4 Ry_2 0 _ rfl
        have cy_2_1 := cells4 Ry_2 1 _ rfl
        have cy_2_2 := cells4 Ry_2 2 _ rfl
        have cy_2_3 := cells4 Ry_2 3 _ rfl
        have cz_2_0 := cells4 Rz_2 0 _ rfl
        have cz_2_1 := cells4 Rz_2 1 _ rfl
        have cz_2_2 := cells4 Rz_2 2 _ rfl
        have cz_2_3 := cells4 Rz_2 3 _ rfl
        go_wp2_with fail
        refine (HF.out _ (tabB TT.out B2)).mono ?_
        rintro r w3 ⟨rfl, b3⟩
        have B3 : Below w.heap.size w w3 := btr B2 b3
        have Rx_3 : w3.heap[w.heap.size]? = some (Obj.cells #[.bool false, .string s, .string t, .int .i64 e] 24) := heap_of b3 _ _ _ Rx_2
        have Ry_3 : w3.heap[w.heap.size + 1]? = some (Obj.cells #[.bool false, .string p, .string q, .int .i64 g] 24) := heap_of b3 _ _ _ Ry_2
        have Rz_3 : w3.heap[w.heap.size + 1 + 1]? = some (Obj.cells #[.bool false, .string ⟨#[]⟩, .string ⟨#[]⟩, .int .i64 0] 24) := heap_of b3 _ _ _ Rz_2
        clear b3 B2 Rx_2 cx_2_0 cx_2_1 cx_2_2 cx_2_3 Ry_2 cy_2_0 cy_2_1 cy_2_2 cy_2_3 Rz_2 cz_2_0 cz_2_1 cz_2_2 cz_2_3
        have cx_3_0 := cells4 Rx_3 0 _ rfl
        have cx_3_1 := cells4 Rx_3 1 _ rfl
        have cx_3_2 := cells4 Rx_3 2 _ rfl
        have cx_3_3 := cells4 Rx_3 3 _ rfl
        have cy_3_0 := cells4 Ry_3 0 _ rfl
        have cy_3_1 := cells4 Ry_3 1 _ rfl
        have cy_3_2 := cells4 Ry_3 2 _ rfl
        have cy_3_3 := cells4 Ry_3 3 _ rfl
        have cz_3_0 := cells4 Rz_3 0 _ rfl
        have cz_3_1 := cells4 Rz_3 1 _ rfl
        have cz_3_2 := cells4 Rz_3 2 _ rfl
        have cz_3_3 := cells4 Rz_3 3 _ rfl
        have q0 := fz (k := 0) Rz_3
        have q1 := fz (k := 1) Rz_3
        have q2 := fz (k := 2) Rz_3
        have q3 := fz (k := 3) Rz_3
        obtain ⟨E0, E1, E2, E3⟩ := set4_cells Rz_3 rfl (.bool rb) (.string u) (.string v) (.int .i64 re)
        go_wp2
        exact bodyPost_ret (v := .tuple #[.agg #[.bool rb, .string u, .string v, .int .i64 re], .int .i64 err]) (by simp [results, Tryd.results24, go_sem, E0, E1, E2, E3]) rfl ⟨rfl, set4_below B3 (by first | exact Nat.le_refl _ | omega) _ _ _ _⟩
      · have Rx_0 : (((w.alloc (Obj.cells #[.bool false, .string s, .string t, .int .i64 e] 24)).alloc (Obj.cells #[.bool true, .string p, .string q, .int .i64 g] 24)).alloc (Obj.cells #[.bool false, .string ⟨#[]⟩, .string ⟨#[]⟩, .int .i64 0] 24)).heap[w.heap.size]? = some (Obj.cells #[.bool false, .string s, .string t, .int .i64 e] 24) := by rw [heap_below _ _ _ (by simp only [size_al]; omega), heap_below _ _ _ (by simp only [size_al]; omega)]; have := heap_alloc_last w (Obj.cells #[.bool false, .string s, .string t, .int .i64 e] 24); simpa only [size_al] using this
        have Ry_0 : (((w.alloc (Obj.cells #[.bool false, .string s, .string t, .int .i64 e] 24)).alloc (Obj.cells #[.bool true, .string p, .string q, .int .i64 g] 24)).alloc (Obj.cells #[.bool false, .string ⟨#[]⟩, .string ⟨#[]⟩, .int .i64 0] 24)).heap[w.heap.size + 1]? = some (Obj.cells #[.bool true, .string p, .string q, .int .i64 g] 24) := by rw [heap_below _ _ _ (by simp only [size_al]; omega)]; have := heap_alloc_last (w.alloc (Obj.cells #[.bool false, .string s, .string t, .int .i64 e] 24)) (Obj.cells #[.bool true, .string p, .string q, .int .i64 g] 24); simpa only [size_al] using this
        have Rz_0 : (((w.alloc (Obj.cells #[.bool false, .string s, .string t, .int .i64 e] 24)).alloc (Obj.cells #[.bool true, .string p, .string q, .int .i64 g] 24)).alloc (Obj.cells #[.bool false, .string ⟨#[]⟩, .string ⟨#[]⟩, .int .i64 0] 24)).heap[w.heap.size + 1 + 1]? = some (Obj.cells #[.bool false, .string ⟨#[]⟩, .string ⟨#[]⟩, .int .i64 0] 24) := by have := heap_alloc_last ((w.alloc (Obj.cells #[.bool false, .string s, .string t, .int .i64 e] 24)).alloc (Obj.cells #[.bool true, .string p, .string q, .int .i64 g] 24)) (Obj.cells #[.bool false, .string ⟨#[]⟩, .string ⟨#[]⟩, .int .i64 0] 24); simpa only [size_al] using this
        have B0 : Below w.heap.size w (((w.alloc (Obj.cells #[.bool false, .string s, .string t, .int .i64 e] 24)).alloc (Obj.cells #[.bool true, .string p, .string q, .int .i64 g] 24)).alloc (Obj.cells #[.bool false, .string ⟨#[]⟩, .string ⟨#[]⟩, .int .i64 0] 24)) := ((((Below.refl _ _).alloc (by first | omega | (simp only [size_al]; omega)) _).alloc (by first | omega | (simp only [size_al]; omega)) _).alloc (by first | omega | (simp only [size_al]; omega)) _)
        go_enter Tryd.func24, Tryd.ntmps24
        go_wp2_with fail
        refine (xmay2 _ _ _ _ _ _ _ _ true true true M1.out M2.out rfl _ (((w.alloc (Obj.cells #[.bool false, .string s, .string t, .int .i64 e] 24)).alloc (Obj.cells #[.bool true, .string p, .string q, .int .i64 g] 24)).alloc (Obj.cells #[.bool false, .string ⟨#[]⟩, .string ⟨#[]⟩, .int .i64 0] 24)) _ (by simp only [size_al]) (tabB TT.out B0)).mono ?_
        rintro r w1 ⟨rfl, b1⟩
        have B1 : Below w.heap.size w w1 := btr B0 b1
        have Rx_1 : w1.heap[w.heap.size]? = some (Obj.cells #[.bool false, .string s, .string t, .int .i64 e] 24) := heap_of b1 _ _ _ Rx_0
        have Ry_1 : w1.heap[w.heap.size + 1]? = some (Obj.cells #[.bool true, .string p, .string q, .int .i64 g] 24) := heap_of b1 _ _ _ Ry_0
        have Rz_1 : w1.heap[w.heap.size + 1 + 1]? = some (Obj.cells #[.bool false, .string ⟨#[]⟩, .string ⟨#[]⟩, .int .i64 0] 24) := heap_of b1 _ _ _ Rz_0
        clear b1 B0 Rx_0 Ry_0 Rz_0
        have cx_1_0 := cells4 Rx_1 0 _ rfl
        have cx_1_1 := cells4 Rx_1 1 _ rfl
        have cx_1_2 := cells4 Rx_1 2 _ rfl
        have cx_1_3 := cells4 Rx_1 3 _ rfl
        have cy_1_0 := cells4 Ry_1 0 _ rfl
        have cy_1_1 := cells4 Ry_1 1 _ rfl
        have cy_1_2 := cells4 Ry_1 2 _ rfl
        have cy_1_3 := cells4 Ry_1 3 _ rfl
        have cz_1_0 := cells4 Rz_1 0 _ rfl
        have cz_1_1 := cells4 Rz_1 1 _ rfl
        have cz_1_2 := cells4 Rz_1 2 _ rfl
        have cz_1_3 := cells4 Rz_1 3 _ rfl
        go_wp2_with fail
        obtain ⟨F, hF1, hF2⟩ := below_fun w1
        have fx_0 := fun u => cells4 (heap_of (hF1 u) _ _ _ Rx_1) 0 _ rfl
        have fx_1 := fun u => cells4 (heap_of (hF1 u) _ _ _ Rx_1) 1 _ rfl
        have fx_2 := fun u => cells4 (heap_of (hF1 u) _ _ _ Rx_1) 2 _ rfl
        have fx_3 := fun u => cells4 (heap_of (hF1 u) _ _ _ Rx_1) 3 _ rfl
        have fy_0 := fun u => cells4 (heap_of (hF1 u) _ _ _ Ry_1) 0 _ rfl
        have fy_1 := fun u => cells4 (heap_of (hF1 u) _ _ _ Ry_1) 1 _ rfl
        have fy_2 := fun u => cells4 (heap_of (hF1 u) _ _ _ Ry_1) 2 _ rfl
        have fy_3 := fun u => cells4 (heap_of (hF1 u) _ _ _ Ry_1) 3 _ rfl
        have fz_0 := fun u => cells4 (heap_of (hF1 u) _ _ _ Rz_1) 0 _ rfl
        have fz_1 := fun u => cells4 (heap_of (hF1 u) _ _ _ Rz_1) 1 _ rfl
        have fz_2 := fun u => cells4 (heap_of (hF1 u) _ _ _ Rz_1) 2 _ rfl
        have fz_3 := fun u => cells4 (heap_of (hF1 u) _ _ _ Rz_1) 3 _ rfl
        refine wp_region_below F hF2 (by kernel_rfl) (by kernel_rfl) ?_
        repeat first | go_big_quiet_step (first | (go_at_call 38; exact quietF hF1 hF2 (zerox _)) | fail) | quiet_step (first | (go_at_call 38; exact quietF hF1 hF2 (zerox _)) | fail)
        refine wpQuiet_nil ?_
        rintro _ ⟨uW, rfl⟩
        have B2 := btr B1 (hF1 uW)
        have Rx_2 := heap_of (hF1 uW) _ _ _ Rx_1
        have Ry_2 := heap_of (hF1 uW) _ _ _ Ry_1
        have Rz_2 := heap_of (hF1 uW) _ _ _ Rz_1
        obtain ⟨w2, hw⟩ : ∃ V, F uW = V := ⟨_, rfl⟩
        rw [hw] at B2 Rx_2 Ry_2 Rz_2
        try rw [hw]
        clear hw hF1 hF2 B1 fx_0 fx_1 fx_2 fx_3 fy_0 fy_1 fy_2 fy_3 fz_0 fz_1 fz_2 fz_3 Rx_1 cx_1_0 cx_1_1 cx_1_2 cx_1_3 Ry_1 cy_1_0 cy_1_1 cy_1_2 cy_1_3 Rz_1 cz_1_0 cz_1_1 cz_1_2 cz_1_3
        clear F
        have cx_2_0 := cells4 Rx_2 0 _ rfl
        have cx_2_1 := cells4 Rx_2 1 _ rfl
        have cx_2_2 := cells4 Rx_2 2 _ rfl
        have cx_2_3 := cells4 Rx_2 3 _ rfl
        have cy_2_0 := cells4 Ry_2 0 _ rfl
        have cy_2_1 := cells4 Ry_2 1 _ rfl
        have cy_2_2 := cells4 Ry_2 2 _ rfl
        have cy_2_3 := cells4 Ry_2 3 _ rfl
        have cz_2_0 := cells4 Rz_2 0 _ rfl
        have cz_2_1 := cells4 Rz_2 1 _ rfl
        have cz_2_2 := cells4 Rz_2 2 _ rfl
        have cz_2_3 := cells4 Rz_2 3 _ rfl
        go_wp2_with fail
        refine (HF.out _ (tabB TT.out B2)).mono ?_
        rintro r w3 ⟨rfl, b3⟩
        have B3 : Below w.heap.size w w3 := btr B2 b3
        have Rx_3 : w3.heap[w.heap.size]? = some (Obj.cells #[.bool false, .string s, .string t, .int .i64 e] 24) := heap_of b3 _ _ _ Rx_2
        have Ry_3 : w3.heap[w.heap.size + 1]? = some (Obj.cells #[.bool true, .string p, .string q, .int .i64 g] 24) := heap_of b3 _ _ _ Ry_2
        have Rz_3 : w3.heap[w.heap.size + 1 + 1]? = some (Obj.cells #[.bool false, .string ⟨#[]⟩, .string ⟨#[]⟩, .int .i64 0] 24) := heap_of b3 _ _ _ Rz_2
        clear b3 B2 Rx_2 cx_2_0 cx_2_1 cx_2_2 cx_2_3 Ry_2 cy_2_0 cy_2_1 cy_2_2 cy_2_3 Rz_2 cz_2_0 cz_2_1 cz_2_2 cz_2_3
        have cx_3_0 := cells4 Rx_3 0 _ rfl
        have cx_3_1 := cells4 Rx_3 1 _ rfl
        have cx_3_2 := cells4 Rx_3 2 _ rfl
        have cx_3_3 := cells4 Rx_3 3 _ rfl
        have cy_3_0 := cells4 Ry_3 0 _ rfl
        have cy_3_1 := cells4 Ry_3 1 _ rfl
        have cy_3_2 := cells4 Ry_3 2 _ rfl
        have cy_3_3 := cells4 Ry_3 3 _ rfl
        have cz_3_0 := cells4 Rz_3 0 _ rfl
        have cz_3_1 := cells4 Rz_3 1 _ rfl
        have cz_3_2 := cells4 Rz_3 2 _ rfl
        have cz_3_3 := cells4 Rz_3 3 _ rfl
        have q0 := fz (k := 0) Rz_3
        have q1 := fz (k := 1) Rz_3
        have q2 := fz (k := 2) Rz_3
        have q3 := fz (k := 3) Rz_3
        obtain ⟨E0, E1, E2, E3⟩ := set4_cells Rz_3 rfl (.bool rb) (.string u) (.string v) (.int .i64 re)
        go_wp2
        exact bodyPost_ret (v := .tuple #[.agg #[.bool rb, .string u, .string v, .int .i64 re], .int .i64 err]) (by simp [results, Tryd.results24, go_sem, E0, E1, E2, E3]) rfl ⟨rfl, set4_below B3 (by first | exact Nat.le_refl _ | omega) _ _ _ _⟩
      · have Rx_0 : (((w.alloc (Obj.cells #[.bool true, .string s, .string t, .int .i64 e] 24)).alloc (Obj.cells #[.bool false, .string p, .string q, .int .i64 g] 24)).alloc (Obj.cells #[.bool false, .string ⟨#[]⟩, .string ⟨#[]⟩, .int .i64 0] 24)).heap[w.heap.size]? = some (Obj.cells #[.bool true, .string s, .string t, .int .i64 e] 24) := by rw [heap_below _ _ _ (by simp only [size_al]; omega), heap_below _ _ _ (by simp only [size_al]; omega)]; have := heap_alloc_last w (Obj.cells #[.bool true, .string s, .string t, .int .i64 e] 24); simpa only [size_al] using this
        have Ry_0 : (((w.alloc (Obj.cells #[.bool true, .string s, .string t, .int .i64 e] 24)).alloc (Obj.cells #[.bool false, .string p, .string q, .int .i64 g] 24)).alloc (Obj.cells #[.bool false, .string ⟨#[]⟩, .string ⟨#[]⟩, .int .i64 0] 24)).heap[w.heap.size + 1]? = some (Obj.cells #[.bool false, .string p, .string q, .int .i64 g] 24) := by rw [heap_below _ _ _ (by simp only [size_al]; omega)]; have := heap_alloc_last (w.alloc (Obj.cells #[.bool true, .string s, .string t, .int .i64 e] 24)) (Obj.cells #[.bool false, .string p, .string q, .int .i64 g] 24); simpa only [size_al] using this
        have Rz_0 : (((w.alloc (Obj.cells #[.bool true, .string s, .string t, .int .i64 e] 24)).alloc (Obj.cells #[.bool false, .string p, .string q, .int .i64 g] 24)).alloc (Obj.cells #[.bool false, .string ⟨#[]⟩, .string ⟨#[]⟩, .int .i64 0] 24)).heap[w.heap.size + 1 + 1]? = some (Obj.cells #[.bool false, .string ⟨#[]⟩, .string ⟨#[]⟩, .int .i64 0] 24) := by have := heap_alloc_last ((w.alloc (Obj.cells #[.bool true, .string s, .string t, .int .i64 e] 24)).alloc (Obj.cells #[.bool false, .string p, .string q, .int .i64 g] 24)) (Obj.cells #[.bool false, .string ⟨#[]⟩, .string ⟨#[]⟩, .int .i64 0] 24); simpa only [size_al] using this
        have B0 : Below w.heap.size w (((w.alloc (Obj.cells #[.bool true, .string s, .string t, .int .i64 e] 24)).alloc (Obj.cells #[.bool false, .string p, .string q, .int .i64 g] 24)).alloc (Obj.cells #[.bool false, .string ⟨#[]⟩, .string ⟨#[]⟩, .int .i64 0] 24)) := ((((Below.refl _ _).alloc (by first | omega | (simp only [size_al]; omega)) _).alloc (by first | omega | (simp only [size_al]; omega)) _).alloc (by first | omega | (simp only [size_al]; omega)) _)
        go_enter Tryd.func24, Tryd.ntmps24
        go_wp2_with fail
        refine (xmay2 _ _ _ _ _ _ _ _ true true true M1.out M2.out rfl _ (((w.alloc (Obj.cells #[.bool true, .string s, .string t, .int .i64 e] 24)).alloc (Obj.cells #[.bool false, .string p, .string q, .int .i64 g] 24)).alloc (Obj.cells #[.bool false, .string ⟨#[]⟩, .string ⟨#[]⟩, .int .i64 0] 24)) _ (by simp only [size_al]) (tabB TT.out B0)).mono ?_
        rintro r w1 ⟨rfl, b1⟩
        have B1 : Below w.heap.size w w1 := btr B0 b1
        have Rx_1 : w1.heap[w.heap.size]? = some (Obj.cells #[.bool true, .string s, .string t, .int .i64 e] 24) := heap_of b1 _ _ _ Rx_0
        have Ry_1 : w1.heap[w.heap.size + 1]? = some (Obj.cells #[.bool false, .string p, .string q, .int .i64 g] 24) := heap_of b1 _ _ _ Ry_0
        have Rz_1 : w1.heap[w.heap.size + 1 + 1]? = some (Obj.cells #[.bool false, .string ⟨#[]⟩, .string ⟨#[]⟩, .int .i64 0] 24) := heap_of b1 _ _ _ Rz_0
        clear b1 B0 Rx_0 Ry_0 Rz_0
        have cx_1_0 := cells4 Rx_1 0 _ rfl
        have cx_1_1 := cells4 Rx_1 1 _ rfl
        have cx_1_2 := cells4 Rx_1 2 _ rfl
        have cx_1_3 := cells4 Rx_1 3 _ rfl
        have cy_1_0 := cells4 Ry_1 0 _ rfl
        have cy_1_1 := cells4 Ry_1 1 _ rfl
        have cy_1_2 := cells4 Ry_1 2 _ rfl
        have cy_1_3 := cells4 Ry_1 3 _ rfl
        have cz_1_0 := cells4 Rz_1 0 _ rfl
        have cz_1_1 := cells4 Rz_1 1 _ rfl
        have cz_1_2 := cells4 Rz_1 2 _ rfl
        have cz_1_3 := cells4 Rz_1 3 _ rfl
        go_wp2_with fail
        obtain ⟨F, hF1, hF2⟩ := below_fun w1
        have fx_0 := fun u => cells4 (heap_of (hF1 u) _ _ _ Rx_1) 0 _ rfl
        have fx_1 := fun u => cells4 (heap_of (hF1 u) _ _ _ Rx_1) 1 _ rfl
        have fx_2 := fun u => cells4 (heap_of (hF1 u) _ _ _ Rx_1) 2 _ rfl
        have fx_3 := fun u => cells4 (heap_of (hF1 u) _ _ _ Rx_1) 3 _ rfl
        have fy_0 := fun u => cells4 (heap_of (hF1 u) _ _ _ Ry_1) 0 _ rfl
        have fy_1 := fun u => cells4 (heap_of (hF1 u) _ _ _ Ry_1) 1 _ rfl
        have fy_2 := fun u => cells4 (heap_of (hF1 u) _ _ _ Ry_1) 2 _ rfl
        have fy_3 := fun u => cells4 (heap_of (hF1 u) _ _ _ Ry_1) 3 _ rfl
        have fz_0 := fun u => cells4 (heap_of (hF1 u) _ _ _ Rz_1) 0 _ rfl
        have fz_1 := fun u => cells4 (heap_of (hF1 u) _ _ _ Rz_1) 1 _ rfl
        have fz_2 := fun u => cells4 (heap_of (hF1 u) _ _ _ Rz_1) 2 _ rfl
        have fz_3 := fun u => cells4 (heap_of (hF1 u) _ _ _ Rz_1) 3 _ rfl
        refine wp_region_below F hF2 (by kernel_rfl) (by kernel_rfl) ?_
        repeat first | go_big_quiet_step (first | (go_at_call 38; exact quietF hF1 hF2 (zerox _)) | fail) | quiet_step (first | (go_at_call 38; exact quietF hF1 hF2 (zerox _)) | fail)
        refine wpQuiet_nil ?_
        rintro _ ⟨uW, rfl⟩
        have B2 := btr B1 (hF1 uW)
        have Rx_2 := heap_of (hF1 uW) _ _ _ Rx_1
        have Ry_2 := heap_of (hF1 uW) _ _ _ Ry_1
        have Rz_2 := heap_of (hF1 uW) _ _ _ Rz_1
        obtain ⟨w2, hw⟩ : ∃ V, F uW = V := ⟨_, rfl⟩
        rw [hw] at B2 Rx_2 Ry_2 Rz_2
        try rw [hw]
        clear hw hF1 hF2 B1 fx_0 fx_1 fx_2 fx_3 fy_0 fy_1 fy_2 fy_3 fz_0 fz_1 fz_2 fz_3 Rx_1 cx_1_0 cx_1_1 cx_1_2 cx_1_3 Ry_1 cy_1_0 cy_1_1 cy_1_2 cy_1_3 Rz_1 cz_1_0 cz_1_1 cz_1_2 cz_1_3
        clear F
        have cx_2_0 := cells4 Rx_2 0 _ rfl
        have cx_2_1 := cells4 Rx_2 1 _ rfl
        have cx_2_2 := cells4 Rx_2 2 _ rfl
        have cx_2_3 := cells4 Rx_2 3 _ rfl
        have cy_2_0 := cells4 Ry_2 0 _ rfl
        have cy_2_1 := cells4 Ry_2 1 _ rfl
        have cy_2_2 := cells4 Ry_2 2 _ rfl
        have cy_2_3 := cells4 Ry_2 3 _ rfl
        have cz_2_0 := cells4 Rz_2 0 _ rfl
        have cz_2_1 := cells4 Rz_2 1 _ rfl
        have cz_2_2 := cells4 Rz_2 2 _ rfl
        have cz_2_3 := cells4 Rz_2 3 _ rfl
        go_wp2_with fail
        refine (HF.out _ (tabB TT.out B2)).mono ?_
        rintro r w3 ⟨rfl, b3⟩
        have B3 : Below w.heap.size w w3 := btr B2 b3
        have Rx_3 : w3.heap[w.heap.size]? = some (Obj.cells #[.bool true, .string s, .string t, .int .i64 e] 24) := heap_of b3 _ _ _ Rx_2
        have Ry_3 : w3.heap[w.heap.size + 1]? = some (Obj.cells #[.bool false, .string p, .string q, .int .i64 g] 24) := heap_of b3 _ _ _ Ry_2
        have Rz_3 : w3.heap[w.heap.size + 1 + 1]? = some (Obj.cells #[.bool false, .string ⟨#[]⟩, .string ⟨#[]⟩, .int .i64 0] 24) := heap_of b3 _ _ _ Rz_2
        clear b3 B2 Rx_2 cx_2_0 cx_2_1 cx_2_2 cx_2_3 Ry_2 cy_2_0 cy_2_1 cy_2_2 cy_2_3 Rz_2 cz_2_0 cz_2_1 cz_2_2 cz_2_3
        have cx_3_0 := cells4 Rx_3 0 _ rfl
        have cx_3_1 := cells4 Rx_3 1 _ rfl
        have cx_3_2 := cells4 Rx_3 2 _ rfl
        have cx_3_3 := cells4 Rx_3 3 _ rfl
        have cy_3_0 := cells4 Ry_3 0 _ rfl
        have cy_3_1 := cells4 Ry_3 1 _ rfl
        have cy_3_2 := cells4 Ry_3 2 _ rfl
        have cy_3_3 := cells4 Ry_3 3 _ rfl
        have cz_3_0 := cells4 Rz_3 0 _ rfl
        have cz_3_1 := cells4 Rz_3 1 _ rfl
        have cz_3_2 := cells4 Rz_3 2 _ rfl
        have cz_3_3 := cells4 Rz_3 3 _ rfl
        have q0 := fz (k := 0) Rz_3
        have q1 := fz (k := 1) Rz_3
        have q2 := fz (k := 2) Rz_3
        have q3 := fz (k := 3) Rz_3
        obtain ⟨E0, E1, E2, E3⟩ := set4_cells Rz_3 rfl (.bool rb) (.string u) (.string v) (.int .i64 re)
        go_wp2
        exact bodyPost_ret (v := .tuple #[.agg #[.bool rb, .string u, .string v, .int .i64 re], .int .i64 err]) (by simp [results, Tryd.results24, go_sem, E0, E1, E2, E3]) rfl ⟨rfl, set4_below B3 (by first | exact Nat.le_refl _ | omega) _ _ _ _⟩
      · have Rx_0 : (((w.alloc (Obj.cells #[.bool true, .string s, .string t, .int .i64 e] 24)).alloc (Obj.cells #[.bool true, .string p, .string q, .int .i64 g] 24)).alloc (Obj.cells #[.bool false, .string ⟨#[]⟩, .string ⟨#[]⟩, .int .i64 0] 24)).heap[w.heap.size]? = some (Obj.cells #[.bool true, .string s, .string t, .int .i64 e] 24) := by rw [heap_below _ _ _ (by simp only [size_al]; omega), heap_below _ _ _ (by simp only [size_al]; omega)]; have := heap_alloc_last w (Obj.cells #[.bool true, .string s, .string t, .int .i64 e] 24); simpa only [size_al] using this
        have Ry_0 : (((w.alloc (Obj.cells #[.bool true, .string s, .string t, .int .i64 e] 24)).alloc (Obj.cells #[.bool true, .string p, .string q, .int .i64 g] 24)).alloc (Obj.cells #[.bool false, .string ⟨#[]⟩, .string ⟨#[]⟩, .int .i64 0] 24)).heap[w.heap.size + 1]? = some (Obj.cells #[.bool true, .string p, .string q, .int .i64 g] 24) := by rw [heap_below _ _ _ (by simp only [size_al]; omega)]; have := heap_alloc_last (w.alloc (Obj.cells #[.bool true, .string s, .string t, .int .i64 e] 24)) (Obj.cells #[.bool true, .string p, .string q, .int .i64 g] 24); simpa only [size_al] using this
        have Rz_0 : (((w.alloc (Obj.cells #[.bool true, .string s, .string t, .int .i64 e] 24)).alloc (Obj.cells #[.bool true, .string p, .string q, .int .i64 g] 24)).alloc (Obj.cells #[.bool false, .string ⟨#[]⟩, .string ⟨#[]⟩, .int .i64 0] 24)).heap[w.heap.size + 1 + 1]? = some (Obj.cells #[.bool false, .string ⟨#[]⟩, .string ⟨#[]⟩, .int .i64 0] 24) := by have := heap_alloc_last ((w.alloc (Obj.cells #[.bool true, .string s, .string t, .int .i64 e] 24)).alloc (Obj.cells #[.bool true, .string p, .string q, .int .i64 g] 24)) (Obj.cells #[.bool false, .string ⟨#[]⟩, .string ⟨#[]⟩, .int .i64 0] 24); simpa only [size_al] using this
        have B0 : Below w.heap.size w (((w.alloc (Obj.cells #[.bool true, .string s, .string t, .int .i64 e] 24)).alloc (Obj.cells #[.bool true, .string p, .string q, .int .i64 g] 24)).alloc (Obj.cells #[.bool false, .string ⟨#[]⟩, .string ⟨#[]⟩, .int .i64 0] 24)) := ((((Below.refl _ _).alloc (by first | omega | (simp only [size_al]; omega)) _).alloc (by first | omega | (simp only [size_al]; omega)) _).alloc (by first | omega | (simp only [size_al]; omega)) _)
        go_enter Tryd.func24, Tryd.ntmps24
        go_wp2_with fail
        refine (xmay2 _ _ _ _ _ _ _ _ true true true M1.out M2.out rfl _ (((w.alloc (Obj.cells #[.bool true, .string s, .string t, .int .i64 e] 24)).alloc (Obj.cells #[.bool true, .string p, .string q, .int .i64 g] 24)).alloc (Obj.cells #[.bool false, .string ⟨#[]⟩, .string ⟨#[]⟩, .int .i64 0] 24)) _ (by simp only [size_al]) (tabB TT.out B0)).mono ?_
        rintro r w1 ⟨rfl, b1⟩
        have B1 : Below w.heap.size w w1 := btr B0 b1
        have Rx_1 : w1.heap[w.heap.size]? = some (Obj.cells #[.bool true, .string s, .string t, .int .i64 e] 24) := heap_of b1 _ _ _ Rx_0
        have Ry_1 : w1.heap[w.heap.size + 1]? = some (Obj.cells #[.bool true, .string p, .string q, .int .i64 g] 24) := heap_of b1 _ _ _ Ry_0
        have Rz_1 : w1.heap[w.heap.size + 1 + 1]? = some (Obj.cells #[.bool false, .string ⟨#[]⟩, .string ⟨#[]⟩, .int .i64 0] 24) := heap_of b1 _ _ _ Rz_0
        clear b1 B0 Rx_0 Ry_0 Rz_0
        have cx_1_0 := cells4 Rx_1 0 _ rfl
        have cx_1_1 := cells4 Rx_1 1 _ rfl
        have cx_1_2 := cells4 Rx_1 2 _ rfl
        have cx_1_3 := cells4 Rx_1 3 _ rfl
        have cy_1_0 := cells4 Ry_1 0 _ rfl
        have cy_1_1 := cells4 Ry_1 1 _ rfl
        have cy_1_2 := cells4 Ry_1 2 _ rfl
        have cy_1_3 := cells4 Ry_1 3 _ rfl
        have cz_1_0 := cells4 Rz_1 0 _ rfl
        have cz_1_1 := cells4 Rz_1 1 _ rfl
        have cz_1_2 := cells4 Rz_1 2 _ rfl
        have cz_1_3 := cells4 Rz_1 3 _ rfl
        go_wp2_with fail
        obtain ⟨F, hF1, hF2⟩ := below_fun w1
        have fx_0 := fun u => cells4 (heap_of (hF1 u) _ _ _ Rx_1) 0 _ rfl
        have fx_1 := fun u => cells4 (heap_of (hF1 u) _ _ _ Rx_1) 1 _ rfl
        have fx_2 := fun u => cells4 (heap_of (hF1 u) _ _ _ Rx_1) 2 _ rfl
        have fx_3 := fun u => cells4 (heap_of (hF1 u) _ _ _ Rx_1) 3 _ rfl
        have fy_0 := fun u => cells4 (heap_of (hF1 u) _ _ _ Ry_1) 0 _ rfl
        have fy_1 := fun u => cells4 (heap_of (hF1 u) _ _ _ Ry_1) 1 _ rfl
        have fy_2 := fun u => cells4 (heap_of (hF1 u) _ _ _ Ry_1) 2 _ rfl
        have fy_3 := fun u => cells4 (heap_of (hF1 u) _ _ _ Ry_1) 3 _ rfl
        have fz_0 := fun u => cells4 (heap_of (hF1 u) _ _ _ Rz_1) 0 _ rfl
        have fz_1 := fun u => cells4 (heap_of (hF1 u) _ _ _ Rz_1) 1 _ rfl
        have fz_2 := fun u => cells4 (heap_of (hF1 u) _ _ _ Rz_1) 2 _ rfl
        have fz_3 := fun u => cells4 (heap_of (hF1 u) _ _ _ Rz_1) 3 _ rfl
        refine wp_region_below F hF2 (by kernel_rfl) (by kernel_rfl) ?_
        repeat first | go_big_quiet_step (first | (go_at_call 38; exact quietF hF1 hF2 (zerox _)) | fail) | quiet_step (first | (go_at_call 38; exact quietF hF1 hF2 (zerox _)) | fail)
        refine wpQuiet_nil ?_
        rintro _ ⟨uW, rfl⟩
        have B2 := btr B1 (hF1 uW)
        have Rx_2 := heap_of (hF1 uW) _ _ _ Rx_1
        have Ry_2 := heap_of (hF1 uW) _ _ _ Ry_1
        have Rz_2 := heap_of (hF1 uW) _ _ _ Rz_1
        obtain ⟨w2, hw⟩ : ∃ V, F uW = V := ⟨_, rfl⟩
        rw [hw] at B2 Rx_2 Ry_2 Rz_2
        try rw [hw]
        clear hw hF1 hF2 B1 fx_0 fx_1 fx_2 fx_3 fy_0 fy_1 fy_2 fy_3 fz_0 fz_1 fz_2 fz_3 Rx_1 cx_1_0 cx_1_1 cx_1_2 cx_1_3 Ry_1 cy_1_0 cy_1_1 cy_1_2 cy_1_3 Rz_1 cz_1_0 cz_1_1 cz_1_2 cz_1_3
        clear F
        have cx_2_0 := cells4 Rx_2 0 _ rfl
        have cx_2_1 := cells4 Rx_2 1 _ rfl
        have cx_2_2 := cells4 Rx_2 2 _ rfl
        have cx_2_3 := cells4 Rx_2 3 _ rfl
        have cy_2_0 := cells4 Ry_2 0 _ rfl
        have cy_2_1 := cells4 Ry_2 1 _ rfl
        have cy_2_2 := cells4 Ry_2 2 _ rfl
        have cy_2_3 := cells4 Ry_2 3 _ rfl
        have cz_2_0 := cells4 Rz_2 0 _ rfl
        have cz_2_1 := cells4 Rz_2 1 _ rfl
        have cz_2_2 := cells4 Rz_2 2 _ rfl
        have cz_2_3 := cells4 Rz_2 3 _ rfl
        go_wp2_with fail
        refine (HF.out _ (tabB TT.out B2)).mono ?_
        rintro r w3 ⟨rfl, b3⟩
        have B3 : Below w.heap.size w w3 := btr B2 b3
        have Rx_3 : w3.heap[w.heap.size]? = some (Obj.cells #[.bool true, .string s, .string t, .int .i64 e] 24) := heap_of b3 _ _ _ Rx_2
        have Ry_3 : w3.heap[w.heap.size + 1]? = some (Obj.cells #[.bool true, .string p, .string q, .int .i64 g] 24) := heap_of b3 _ _ _ Ry_2
        have Rz_3 : w3.heap[w.heap.size + 1 + 1]? = some (Obj.cells #[.bool false, .string ⟨#[]⟩, .string ⟨#[]⟩, .int .i64 0] 24) := heap_of b3 _ _ _ Rz_2
        clear b3 B2 Rx_2 cx_2_0 cx_2_1 cx_2_2 cx_2_3 Ry_2 cy_2_0 cy_2_1 cy_2_2 cy_2_3 Rz_2 cz_2_0 cz_2_1 cz_2_2 cz_2_3
        have cx_3_0 := cells4 Rx_3 0 _ rfl
        have cx_3_1 := cells4 Rx_3 1 _ rfl
        have cx_3_2 := cells4 Rx_3 2 _ rfl
        have cx_3_3 := cells4 Rx_3 3 _ rfl
        have cy_3_0 := cells4 Ry_3 0 _ rfl
        have cy_3_1 := cells4 Ry_3 1 _ rfl
        have cy_3_2 := cells4 Ry_3 2 _ rfl
        have cy_3_3 := cells4 Ry_3 3 _ rfl
        have cz_3_0 := cells4 Rz_3 0 _ rfl
        have cz_3_1 := cells4 Rz_3 1 _ rfl
        have cz_3_2 := cells4 Rz_3 2 _ rfl
        have cz_3_3 := cells4 Rz_3 3 _ rfl
        have q0 := fz (k := 0) Rz_3
        have q1 := fz (k := 1) Rz_3
        have q2 := fz (k := 2) Rz_3
        have q3 := fz (k := 3) Rz_3
        obtain ⟨E0, E1, E2, E3⟩ := set4_cells Rz_3 rfl (.bool rb) (.string u) (.string v) (.int .i64 re)
        go_wp2
        exact bodyPost_ret (v := .tuple #[.agg #[.bool rb, .string u, .string v, .int .i64 re], .int .i64 err]) (by simp [results, Tryd.results24, go_sem, E0, E1, E2, E3]) rfl ⟨rfl, set4_below B3 (by first | exact Nat.le_refl _ | omega) _ _ _ _⟩
set_option maxRecDepth 100000 in
theorem Mulx_no (b : Bool) (e : Int) (s t : ByteArray) (c : Bool) (g : Int) (p q : ByteArray) (o1 o2 : Bool) (m1 : IsM o1 b s t e) (m2 : IsM o2 c p q g) (ho : (o1 && o2) = false) (w : World) (hT : TabAt w) :
    Calls Tryd.prog 24 #[.agg #[.bool b, .string s, .string t, .int .i64 e], .agg #[.bool c, .string p, .string q, .int .i64 g]] w fun r w' => r = .returned (.tuple #[.agg #[.bool false, .string ⟨#[]⟩, .string ⟨#[]⟩, .int .i64 0], .int .i64 2]) ∧ Below w.heap.size w w' := by
  have M1 := box m1
  have M2 := box m2
  have MO := box ho
  have TT := box hT
  clear m1 m2 ho hT
  have Rx_0 : (((w.alloc (Obj.cells #[.bool b, .string s, .string t, .int .i64 e] 24)).alloc (Obj.cells #[.bool c, .string p, .string q, .int .i64 g] 24)).alloc (Obj.cells #[.bool false, .string ⟨#[]⟩, .string ⟨#[]⟩, .int .i64 0] 24)).heap[w.heap.size]? = some (Obj.cells #[.bool b, .string s, .string t, .int .i64 e] 24) := by rw [heap_below _ _ _ (by simp only [size_al]; omega), heap_below _ _ _ (by simp only [size_al]; omega)]; have := heap_alloc_last w (Obj.cells #[.bool b, .string s, .string t, .int .i64 e] 24); simpa only [size_al] using this
  have Ry_0 : (((w.alloc (Obj.cells #[.bool b, .string s, .string t, .int .i64 e] 24)).alloc (Obj.cells #[.bool c, .string p, .string q, .int .i64 g] 24)).alloc (Obj.cells #[.bool false, .string ⟨#[]⟩, .string ⟨#[]⟩, .int .i64 0] 24)).heap[w.heap.size + 1]? = some (Obj.cells #[.bool c, .string p, .string q, .int .i64 g] 24) := by rw [heap_below _ _ _ (by simp only [size_al]; omega)]; have := heap_alloc_last (w.alloc (Obj.cells #[.bool b, .string s, .string t, .int .i64 e] 24)) (Obj.cells #[.bool c, .string p, .string q, .int .i64 g] 24); simpa only [size_al] using this
  have Rz_0 : (((w.alloc (Obj.cells #[.bool b, .string s, .string t, .int .i64 e] 24)).alloc (Obj.cells #[.bool c, .string p, .string q, .int .i64 g] 24)).alloc (Obj.cells #[.bool false, .string ⟨#[]⟩, .string ⟨#[]⟩, .int .i64 0] 24)).heap[w.heap.size + 1 + 1]? = some (Obj.cells #[.bool false, .string ⟨#[]⟩, .string ⟨#[]⟩, .int .i64 0] 24) := by have := heap_alloc_last ((w.alloc (Obj.cells #[.bool b, .string s, .string t, .int .i64 e] 24)).alloc (Obj.cells #[.bool c, .string p, .string q, .int .i64 g] 24)) (Obj.cells #[.bool false, .string ⟨#[]⟩, .string ⟨#[]⟩, .int .i64 0] 24); simpa only [size_al] using this
  have B0 : Below w.heap.size w (((w.alloc (Obj.cells #[.bool b, .string s, .string t, .int .i64 e] 24)).alloc (Obj.cells #[.bool c, .string p, .string q, .int .i64 g] 24)).alloc (Obj.cells #[.bool false, .string ⟨#[]⟩, .string ⟨#[]⟩, .int .i64 0] 24)) := ((((Below.refl _ _).alloc (by first | omega | (simp only [size_al]; omega)) _).alloc (by first | omega | (simp only [size_al]; omega)) _).alloc (by first | omega | (simp only [size_al]; omega)) _)
  go_enter Tryd.func24, Tryd.ntmps24
  go_wp2_with fail
  refine (xmay2 _ _ _ _ _ _ _ _ o1 o2 false M1.out M2.out MO.out _ (((w.alloc (Obj.cells #[.bool b, .string s, .string t, .int .i64 e] 24)).alloc (Obj.cells #[.bool c, .string p, .string q, .int .i64 g] 24)).alloc (Obj.cells #[.bool false, .string ⟨#[]⟩, .string ⟨#[]⟩, .int .i64 0] 24)) _ (by simp only [size_al]) (tabB TT.out B0)).mono ?_
  rintro r w1 ⟨rfl, b1⟩
  have B1 : Below w.heap.size w w1 := btr B0 b1
  have Rx_1 : w1.heap[w.heap.size]? = some (Obj.cells #[.bool b, .string s, .string t, .int .i64 e] 24) := heap_of b1 _ _ _ Rx_0
  have Ry_1 : w1.heap[w.heap.size + 1]? = some (Obj.cells #[.bool c, .string p, .string q, .int .i64 g] 24) := heap_of b1 _ _ _ Ry_0
  have Rz_1 : w1.heap[w.heap.size + 1 + 1]? = some (Obj.cells #[.bool false, .string ⟨#[]⟩, .string ⟨#[]⟩, .int .i64 0] 24) := heap_of b1 _ _ _ Rz_0
  clear b1 B0 Rx_0 Ry_0 Rz_0
  have cx_1_0 := cells4 Rx_1 0 _ rfl
  have cx_1_1 := cells4 Rx_1 1 _ rfl
  have cx_1_2 := cells4 Rx_1 2 _ rfl
  have cx_1_3 := cells4 Rx_1 3 _ rfl
  have cy_1_0 := cells4 Ry_1 0 _ rfl
  have cy_1_1 := cells4 Ry_1 1 _ rfl
  have cy_1_2 := cells4 Ry_1 2 _ rfl
  have cy_1_3 := cells4 Ry_1 3 _ rfl
  have cz_1_0 := cells4 Rz_1 0 _ rfl
  have cz_1_1 := cells4 Rz_1 1 _ rfl
  have cz_1_2 := cells4 Rz_1 2 _ rfl
  have cz_1_3 := cells4 Rz_1 3 _ rfl
  have q0 := fz (k := 0) Rz_1
  have q1 := fz (k := 1) Rz_1
  have q2 := fz (k := 2) Rz_1
  have q3 := fz (k := 3) Rz_1
  obtain ⟨E0, E1, E2, E3⟩ := set4_cells Rz_1 rfl (.bool false) (.string ⟨#[]⟩) (.string ⟨#[]⟩) (.int .i64 0)
  go_wp2
  exact bodyPost_ret (v := .tuple #[.agg #[.bool false, .string ⟨#[]⟩, .string ⟨#[]⟩, .int .i64 0], .int .i64 2]) (by simp [results, Tryd.results24, go_sem, E0, E1, E2, E3]) rfl ⟨rfl, set4_below B1 (by first | exact Nat.le_refl _ | omega) _ _ _ _⟩
end Go.Proofs.YthiongcednmjiaaDoor
