/-
  What the functions Mul and Quo of the document's answer for layer 6 return.
-/
import Derived.Test.YthiongcednmjiaaDoorY1
import Derived.Test.YthiongcednmjiaaDoorNat5
namespace Go.Proofs.YthiongcednmjiaaDoor
open Go.RowKit WMath XMath

theorem lg_no' (n : Nat) (h : ¬ nl n ≤ 16384) : lg n = (⟨#[]⟩, 4) := by unfold lg; rw [if_neg h]
theorem mk_out (neg : Bool) (n d : Nat) (e : Int) (hn : n % 2 = 1) (hd : d % 2 = 1) (he : ¬ (-1048576 ≤ e ∧ e ≤ 1048576)) : XMath.mk neg n d e = (XZ, 4) := by
  unfold XMath.mk
  rw [if_neg (by omega), tz_odd n hn, tz_odd d hd, if_neg (by omega)]

set_option maxRecDepth 100000 in
set_option maxHeartbeats 2000000 in
theorem rMul_ok (b : Bool) (n d : Nat) (e : Int) (s t : ByteArray) (c : Bool) (m f : Nat) (g : Int) (p q : ByteArray) (rb : Bool) (rn rd : Nat) (re err : Int) (u v : ByteArray)
    (hs : nbA n = s) (ht : nbA d = t) (hp : nbA m = p) (hq : nbA f = q) (hx : (XN.mk b n d e).can) (hy : (XN.mk c m f g).can) (hr : mulX (XN.mk b n d e) (XN.mk c m f g) = (⟨rb, rn, rd, re⟩, err)) (hu : nbA rn = u) (hv : nbA rd = v) (w : World) :
    Calls Tryd.prog 26 #[.agg #[.bool b, .string s, .string t, .int .i64 e], .agg #[.bool c, .string p, .string q, .int .i64 g]] w fun r w' => r = .returned (.tuple #[.agg #[.bool rb, .string u, .string v, .int .i64 re], .int .i64 err]) ∧ Below w.heap.size w w' := by
  rcases x_cases hs ht hx with ⟨n0, rfl, rfl, rfl, rfl, rfl⟩ | ⟨n0, e0⟩
  · obtain ⟨rfl, rfl, rfl, rfl, rfl⟩ := x0_is (by rw [← hr]; unfold mulX; rw [if_pos (Or.inl n0)])
    rw [nbA_zero] at hu
    rw [nb1] at hv
    subst hu hv
    clear hs ht hp hq hx hy hr n0
    have Rx_0 : (((w.alloc (Obj.cells #[.bool false, .string ⟨#[]⟩, .string ⟨#[1]⟩, .int .i64 0] 24)).alloc (Obj.cells #[.bool c, .string p, .string q, .int .i64 g] 24)).alloc (Obj.cells #[.bool false, .string ⟨#[]⟩, .string ⟨#[]⟩, .int .i64 0] 24)).heap[w.heap.size]? = some (Obj.cells #[.bool false, .string ⟨#[]⟩, .string ⟨#[1]⟩, .int .i64 0] 24) := by rw [heap_below _ _ _ (by simp only [size_al]; omega), heap_below _ _ _ (by simp only [size_al]; omega)]; have := heap_alloc_last w (Obj.cells #[.bool false, .string ⟨#[]⟩, .string ⟨#[1]⟩, .int .i64 0] 24); simpa only [size_al] using this
    have Ry_0 : (((w.alloc (Obj.cells #[.bool false, .string ⟨#[]⟩, .string ⟨#[1]⟩, .int .i64 0] 24)).alloc (Obj.cells #[.bool c, .string p, .string q, .int .i64 g] 24)).alloc (Obj.cells #[.bool false, .string ⟨#[]⟩, .string ⟨#[]⟩, .int .i64 0] 24)).heap[w.heap.size + 1]? = some (Obj.cells #[.bool c, .string p, .string q, .int .i64 g] 24) := by rw [heap_below _ _ _ (by simp only [size_al]; omega)]; have := heap_alloc_last (w.alloc (Obj.cells #[.bool false, .string ⟨#[]⟩, .string ⟨#[1]⟩, .int .i64 0] 24)) (Obj.cells #[.bool c, .string p, .string q, .int .i64 g] 24); simpa only [size_al] using this
    have Rz_0 : (((w.alloc (Obj.cells #[.bool false, .string ⟨#[]⟩, .string ⟨#[1]⟩, .int .i64 0] 24)).alloc (Obj.cells #[.bool c, .string p, .string q, .int .i64 g] 24)).alloc (Obj.cells #[.bool false, .string ⟨#[]⟩, .string ⟨#[]⟩, .int .i64 0] 24)).heap[w.heap.size + 1 + 1]? = some (Obj.cells #[.bool false, .string ⟨#[]⟩, .string ⟨#[]⟩, .int .i64 0] 24) := by have := heap_alloc_last ((w.alloc (Obj.cells #[.bool false, .string ⟨#[]⟩, .string ⟨#[1]⟩, .int .i64 0] 24)).alloc (Obj.cells #[.bool c, .string p, .string q, .int .i64 g] 24)) (Obj.cells #[.bool false, .string ⟨#[]⟩, .string ⟨#[]⟩, .int .i64 0] 24); simpa only [size_al] using this
    have B0 : Below w.heap.size w (((w.alloc (Obj.cells #[.bool false, .string ⟨#[]⟩, .string ⟨#[1]⟩, .int .i64 0] 24)).alloc (Obj.cells #[.bool c, .string p, .string q, .int .i64 g] 24)).alloc (Obj.cells #[.bool false, .string ⟨#[]⟩, .string ⟨#[]⟩, .int .i64 0] 24)) := ((((Below.refl _ _).alloc (by first | omega | (simp only [size_al]; omega)) _).alloc (by first | omega | (simp only [size_al]; omega)) _).alloc (by first | omega | (simp only [size_al]; omega)) _)
    go_enter Tryd.func26, Tryd.ntmps26
    go_wp2_with fail
    refine (xnull _).mono ?_
    rintro r w1 ⟨rfl, b1⟩
    have B1 : Below w.heap.size w w1 := btr B0 b1
    have Rx_1 : w1.heap[w.heap.size]? = some (Obj.cells #[.bool false, .string ⟨#[]⟩, .string ⟨#[1]⟩, .int .i64 0] 24) := heap_of b1 _ _ _ Rx_0
    have Ry_1 : w1.heap[w.heap.size + 1]? = some (Obj.cells #[.bool c, .string p, .string q, .int .i64 g] 24) := heap_of b1 _ _ _ Ry_0
    have Rz_1 : w1.heap[w.heap.size + 1 + 1]? = some (Obj.cells #[.bool false, .string ⟨#[]⟩, .string ⟨#[]⟩, .int .i64 0] 24) := heap_of b1 _ _ _ Rz_0
    clear b1 B0 Rx_0 Ry_0 Rz_0
    have cx_1_0 := cells4 Rx_1 0 _ rfl
    have cx_1_1 := cells4 Rx_1 1 _ rfl
    have cx_1_2 := cells4 Rx_1 2 _ rfl
    have cx_1_3 := cells4 Rx_1 3 _ rfl
    have cy_1_0 := cells4 Ry_1 0 _ rfl
    have cy_1_1 := cells4 Ry_1 1 _ rfl
    have cy_1_2 := cells4 Ry_1 2 _ rfl
    have cy_1_3 := cells4 Ry_1 3 _ rfl
    have cz_1_0 := cells4 Rz_1 0 _ rfl
    have cz_1_1 := cells4 Rz_1 1 _ rfl
    have cz_1_2 := cells4 Rz_1 2 _ rfl
    have cz_1_3 := cells4 Rz_1 3 _ rfl
    have q0 := fz (k := 0) Rz_1
    have q1 := fz (k := 1) Rz_1
    have q2 := fz (k := 2) Rz_1
    have q3 := fz (k := 3) Rz_1
    obtain ⟨E0, E1, E2, E3⟩ := set4_cells Rz_1 rfl (.bool false) (.string ⟨#[]⟩) (.string ⟨#[1]⟩) (.int .i64 0)
    go_wp2
    exact bodyPost_ret (v := .tuple #[.agg #[.bool false, .string ⟨#[]⟩, .string ⟨#[1]⟩, .int .i64 0], .int .i64 0]) (by simp [results, Tryd.results26, go_sem, E0, E1, E2, E3]) rfl ⟨rfl, set4_below B1 (by first | exact Nat.le_refl _ | omega) _ _ _ _⟩
  · rcases x_cases hp hq hy with ⟨m0, rfl, rfl, rfl, rfl, rfl⟩ | ⟨m0, e1⟩
    · obtain ⟨rfl, rfl, rfl, rfl, rfl⟩ := x0_is (by rw [← hr]; unfold mulX; rw [if_pos (Or.inr m0)])
      rw [nbA_zero] at hu
      rw [nb1] at hv
      subst hu hv
      clear hs ht hp hq hx hy hr n0 m0
      have Rx_0 : (((w.alloc (Obj.cells #[.bool b, .string s, .string t, .int .i64 e] 24)).alloc (Obj.cells #[.bool false, .string ⟨#[]⟩, .string ⟨#[1]⟩, .int .i64 0] 24)).alloc (Obj.cells #[.bool false, .string ⟨#[]⟩, .string ⟨#[]⟩, .int .i64 0] 24)).heap[w.heap.size]? = some (Obj.cells #[.bool b, .string s, .string t, .int .i64 e] 24) := by rw [heap_below _ _ _ (by simp only [size_al]; omega), heap_below _ _ _ (by simp only [size_al]; omega)]; have := heap_alloc_last w (Obj.cells #[.bool b, .string s, .string t, .int .i64 e] 24); simpa only [size_al] using this
      have Ry_0 : (((w.alloc (Obj.cells #[.bool b, .string s, .string t, .int .i64 e] 24)).alloc (Obj.cells #[.bool false, .string ⟨#[]⟩, .string ⟨#[1]⟩, .int .i64 0] 24)).alloc (Obj.cells #[.bool false, .string ⟨#[]⟩, .string ⟨#[]⟩, .int .i64 0] 24)).heap[w.heap.size + 1]? = some (Obj.cells #[.bool false, .string ⟨#[]⟩, .string ⟨#[1]⟩, .int .i64 0] 24) := by rw [heap_below _ _ _ (by simp only [size_al]; omega)]; have := heap_alloc_last (w.alloc (Obj.cells #[.bool b, .string s, .string t, .int .i64 e] 24)) (Obj.cells #[.bool false, .string ⟨#[]⟩, .string ⟨#[1]⟩, .int .i64 0] 24); simpa only [size_al] using this
      have Rz_0 : (((w.alloc (Obj.cells #[.bool b, .string s, .string t, .int .i64 e] 24)).alloc (Obj.cells #[.bool false, .string ⟨#[]⟩, .string ⟨#[1]⟩, .int .i64 0] 24)).alloc (Obj.cells #[.bool false, .string ⟨#[]⟩, .string ⟨#[]⟩, .int .i64 0] 24)).heap[w.heap.size + 1 + 1]? = some (Obj.cells #[.bool false, .string ⟨#[]⟩, .string ⟨#[]⟩, .int .i64 0] 24) := by have := heap_alloc_last ((w.alloc (Obj.cells #[.bool b, .string s, .string t, .int .i64 e] 24)).alloc (Obj.cells #[.bool false, .string ⟨#[]⟩, .string ⟨#[1]⟩, .int .i64 0] 24)) (Obj.cells #[.bool false, .string ⟨#[]⟩, .string ⟨#[]⟩, .int .i64 0] 24); simpa only [size_al] using this
      have B0 : Below w.heap.size w (((w.alloc (Obj.cells #[.bool b, .string s, .string t, .int .i64 e] 24)).alloc (Obj.cells #[.bool false, .string ⟨#[]⟩, .string ⟨#[1]⟩, .int .i64 0] 24)).alloc (Obj.cells #[.bool false, .string ⟨#[]⟩, .string ⟨#[]⟩, .int .i64 0] 24)) := ((((Below.refl _ _).alloc (by first | omega | (simp only [size_al]; omega)) _).alloc (by first | omega | (simp only [size_al]; omega)) _).alloc (by first | omega | (simp only [size_al]; omega)) _)
      go_enter Tryd.func26, Tryd.ntmps26
      go_wp2_with fail
      refine (xnull _).mono ?_
      rintro r w1 ⟨rfl, b1⟩
      have B1 : Below w.heap.size w w1 := btr B0 b1
      have Rx_1 : w1.heap[w.heap.size]? = some (Obj.cells #[.bool b, .string s, .string t, .int .i64 e] 24) := heap_of b1 _ _ _ Rx_0
      have Ry_1 : w1.heap[w.heap.size + 1]? = some (Obj.cells #[.bool false, .string ⟨#[]⟩, .string ⟨#[1]⟩, .int .i64 0] 24) := heap_of b1 _ _ _ Ry_0
      have Rz_1 : w1.heap[w.heap.size + 1 + 1]? = some (Obj.cells #[.bool false, .string ⟨#[]⟩, .string ⟨#[]⟩, .int .i64 0] 24) := heap_of b1 _ _ _ Rz_0
      clear b1 B0 Rx_0 Ry_0 Rz_0
      have cx_1_0 := cells4 Rx_1 0 _ rfl
      have cx_1_1 := cells4 Rx_1 1 _ rfl
      have cx_1_2 := cells4 Rx_1 2 _ rfl
      have cx_1_3 := cells4 Rx_1 3 _ rfl
      have cy_1_0 := cells4 Ry_1 0 _ rfl
      have cy_1_1 := cells4 Ry_1 1 _ rfl
      have cy_1_2 := cells4 Ry_1 2 _ rfl
      have cy_1_3 := cells4 Ry_1 3 _ rfl
      have cz_1_0 := cells4 Rz_1 0 _ rfl
      have cz_1_1 := cells4 Rz_1 1 _ rfl
      have cz_1_2 := cells4 Rz_1 2 _ rfl
      have cz_1_3 := cells4 Rz_1 3 _ rfl
      have q0 := fz (k := 0) Rz_1
      have q1 := fz (k := 1) Rz_1
      have q2 := fz (k := 2) Rz_1
      have q3 := fz (k := 3) Rz_1
      obtain ⟨E0, E1, E2, E3⟩ := set4_cells Rz_1 rfl (.bool false) (.string ⟨#[]⟩) (.string ⟨#[1]⟩) (.int .i64 0)
      go_wp2
      exact bodyPost_ret (v := .tuple #[.agg #[.bool false, .string ⟨#[]⟩, .string ⟨#[1]⟩, .int .i64 0], .int .i64 0]) (by simp [results, Tryd.results26, go_sem, E0, E1, E2, E3]) rfl ⟨rfl, set4_below B1 (by first | exact Nat.le_refl _ | omega) _ _ _ _⟩
    · have h3 : -1048576 ≤ e ∧ e ≤ 1048576 := ⟨hx.2.2.1, hx.2.2.2.1⟩
      have g3 : -1048576 ≤ g ∧ g ≤ 1048576 := ⟨hy.2.2.1, hy.2.2.2.1⟩
      obtain ⟨o1, o2, _⟩ := hx.odd n0
      obtain ⟨o3, o4, _⟩ := hy.odd m0
      have HS := box hs
      have HT := box ht
      have HP := box hp
      have HQ := box hq
      have LN : Box (nl n ≤ 20000) := box (by have : nl n ≤ 16384 := hx.1; omega)
      have LD : Box (nl d ≤ 20000) := box (by have : nl d ≤ 16384 := hx.2.1; omega)
      have LM : Box (nl m ≤ 20000) := box (by have : nl m ≤ 16384 := hy.1; omega)
      have LF : Box (nl f ≤ 20000) := box (by have : nl f ≤ 16384 := hy.2.1; omega)
      obtain ⟨E, hE⟩ : ∃ E, e + g = E := ⟨_, rfl⟩
      have n1 : IntKind.i64.wrap (e + g) = E := by rw [wrap_i64_is _ (by omega) (by omega), hE]
      have hr2 : (if nl (n * m) ≤ 16384 ∧ nl (d * f) ≤ 16384 then XMath.mk (b != c) (n * m) (d * f) E else (XZ, 4)) = (⟨rb, rn, rd, re⟩, err) := by
        rw [← hr, ← hE]
        unfold mulX
        rw [if_neg (show ¬ (n = 0 ∨ m = 0) by omega)]
      have oa := mul_odd _ _ o1 o3
      have ob := mul_odd _ _ o2 o4
      clear hr hE hx hy hs ht hp hq
      by_cases h1 : nl (n * m) ≤ 16384
      · obtain ⟨x, hx⟩ : ∃ x, nbA (n * m) = x := ⟨_, rfl⟩
        have HX := box (lg_ok (n * m) x h1 hx)
        by_cases h2 : nl (d * f) ≤ 16384
        · obtain ⟨y, hy⟩ : ∃ x, nbA (d * f) = x := ⟨_, rfl⟩
          have HY := box (lg_ok (d * f) y h2 hy)
          rw [if_pos ⟨h1, h2⟩] at hr2
          by_cases hin : -1048576 ≤ E ∧ E ≤ 1048576
          · have c1 : decide (E < -1048576) = false := decide_eq_false (by omega)
            have c2 : decide (1048576 < E) = false := decide_eq_false (by omega)
            have HF := box (fun w => rmake_ok (b != c) (n * m) (d * f) E x y rb rn rd re err u v hx hy h1 h2 (fun h => by rw [h] at ob; exact absurd ob (by decide)) hin.1 hin.2 hr2 hu hv w)
            clear hx hy h1 h2 hin hr2 hu hv oa ob n0 m0 h3 g3 o1 o2 o3 o4
            have Rx_0 : (((w.alloc (Obj.cells #[.bool b, .string s, .string t, .int .i64 e] 24)).alloc (Obj.cells #[.bool c, .string p, .string q, .int .i64 g] 24)).alloc (Obj.cells #[.bool false, .string ⟨#[]⟩, .string ⟨#[]⟩, .int .i64 0] 24)).heap[w.heap.size]? = some (Obj.cells #[.bool b, .string s, .string t, .int .i64 e] 24) := by rw [heap_below _ _ _ (by simp only [size_al]; omega), heap_below _ _ _ (by simp only [size_al]; omega)]; have := heap_alloc_last w (Obj.cells #[.bool b, .string s, .string t, .int .i64 e] 24); simpa only [size_al] using this
            have Ry_0 : (((w.alloc (Obj.cells #[.bool b, .string s, .string t, .int .i64 e] 24)).alloc (Obj.cells #[.bool c, .string p, .string q, .int .i64 g] 24)).alloc (Obj.cells #[.bool false, .string ⟨#[]⟩, .string ⟨#[]⟩, .int .i64 0] 24)).heap[w.heap.size + 1]? = some (Obj.cells #[.bool c, .string p, .string q, .int .i64 g] 24) := by rw [heap_below _ _ _ (by simp only [size_al]; omega)]; have := heap_alloc_last (w.alloc (Obj.cells #[.bool b, .string s, .string t, .int .i64 e] 24)) (Obj.cells #[.bool c, .string p, .string q, .int .i64 g] 24); simpa only [size_al] using this
            have Rz_0 : (((w.alloc (Obj.cells #[.bool b, .string s, .string t, .int .i64 e] 24)).alloc (Obj.cells #[.bool c, .string p, .string q, .int .i64 g] 24)).alloc (Obj.cells #[.bool false, .string ⟨#[]⟩, .string ⟨#[]⟩, .int .i64 0] 24)).heap[w.heap.size + 1 + 1]? = some (Obj.cells #[.bool false, .string ⟨#[]⟩, .string ⟨#[]⟩, .int .i64 0] 24) := by have := heap_alloc_last ((w.alloc (Obj.cells #[.bool b, .string s, .string t, .int .i64 e] 24)).alloc (Obj.cells #[.bool c, .string p, .string q, .int .i64 g] 24)) (Obj.cells #[.bool false, .string ⟨#[]⟩, .string ⟨#[]⟩, .int .i64 0] 24); simpa only [size_al] using this
            have B0 : Below w.heap.size w (((w.alloc (Obj.cells #[.bool b, .string s, .string t, .int .i64 e] 24)).alloc (Obj.cells #[.bool c, .string p, .string q, .int .i64 g] 24)).alloc (Obj.cells #[.bool false, .string ⟨#[]⟩, .string ⟨#[]⟩, .int .i64 0] 24)) := ((((Below.refl _ _).alloc (by first | omega | (simp only [size_al]; omega)) _).alloc (by first | omega | (simp only [size_al]; omega)) _).alloc (by first | omega | (simp only [size_al]; omega)) _)
            go_enter Tryd.func26, Tryd.ntmps26
            go_wp2_with fail
            refine (nat_Mul n m s p x 0 HS.out HP.out HX.out LN.out LM.out _).mono ?_
            rintro r w1 ⟨rfl, b1⟩
            have B1 : Below w.heap.size w w1 := btr B0 b1
            have Rx_1 : w1.heap[w.heap.size]? = some (Obj.cells #[.bool b, .string s, .string t, .int .i64 e] 24) := heap_of b1 _ _ _ Rx_0
            have Ry_1 : w1.heap[w.heap.size + 1]? = some (Obj.cells #[.bool c, .string p, .string q, .int .i64 g] 24) := heap_of b1 _ _ _ Ry_0
            have Rz_1 : w1.heap[w.heap.size + 1 + 1]? = some (Obj.cells #[.bool false, .string ⟨#[]⟩, .string ⟨#[]⟩, .int .i64 0] 24) := heap_of b1 _ _ _ Rz_0
            clear b1 B0 Rx_0 Ry_0 Rz_0
            have cx_1_0 := cells4 Rx_1 0 _ rfl
            have cx_1_1 := cells4 Rx_1 1 _ rfl
            have cx_1_2 := cells4 Rx_1 2 _ rfl
            have cx_1_3 := cells4 Rx_1 3 _ rfl
            have cy_1_0 := cells4 Ry_1 0 _ rfl
            have cy_1_1 := cells4 Ry_1 1 _ rfl
            have cy_1_2 := cells4 Ry_1 2 _ rfl
            have cy_1_3 := cells4 Ry_1 3 _ rfl
            have cz_1_0 := cells4 Rz_1 0 _ rfl
            have cz_1_1 := cells4 Rz_1 1 _ rfl
            have cz_1_2 := cells4 Rz_1 2 _ rfl
            have cz_1_3 := cells4 Rz_1 3 _ rfl
            go_wp2_with fail
            refine (nat_Mul d f t q y 0 HT.out HQ.out HY.out LD.out LF.out _).mono ?_
            rintro r w2 ⟨rfl, b2⟩
            have B2 : Below w.heap.size w w2 := btr B1 b2
            have Rx_2 : w2.heap[w.heap.size]? = some (Obj.cells #[.bool b, .string s, .string t, .int .i64 e] 24) := heap_of b2 _ _ _ Rx_1
            have Ry_2 : w2.heap[w.heap.size + 1]? = some (Obj.cells #[.bool c, .string p, .string q, .int .i64 g] 24) := heap_of b2 _ _ _ Ry_1
            have Rz_2 : w2.heap[w.heap.size + 1 + 1]? = some (Obj.cells #[.bool false, .string ⟨#[]⟩, .string ⟨#[]⟩, .int .i64 0] 24) := heap_of b2 _ _ _ Rz_1
            clear b2 B1 Rx_1 cx_1_0 cx_1_1 cx_1_2 cx_1_3 Ry_1 cy_1_0 cy_1_1 cy_1_2 cy_1_3 Rz_1 cz_1_0 cz_1_1 cz_1_2 cz_1_3
            have cx_2_0 := cells4 Rx_2 0 _ rfl
            have cx_2_1 := cells4 Rx_2 1 _ rfl
            have cx_2_2 := cells4 Rx_2 2 _ rfl
            have cx_2_3 := cells4 Rx_2 3 _ rfl
            have cy_2_0 := cells4 Ry_2 0 _ rfl
            have cy_2_1 := cells4 Ry_2 1 _ rfl
            have cy_2_2 := cells4 Ry_2 2 _ rfl
            have cy_2_3 := cells4 Ry_2 3 _ rfl
            have cz_2_0 := cells4 Rz_2 0 _ rfl
            have cz_2_1 := cells4 Rz_2 1 _ rfl
            have cz_2_2 := cells4 Rz_2 2 _ rfl
            have cz_2_3 := cells4 Rz_2 3 _ rfl
            go_wp2_with fail
            refine (HF.out _).mono ?_
            rintro r w3 ⟨rfl, b3⟩
            have B3 : Below w.heap.size w w3 := btr B2 b3
            have Rx_3 : w3.heap[w.heap.size]? = some (Obj.cells #[.bool b, .string s, .string t, .int .i64 e] 24) := heap_of b3 _ _ _ Rx_2
            have Ry_3 : w3.heap[w.heap.size + 1]? = some (Obj.cells #[.bool c, .string p, .string q, .int .i64 g] 24) := heap_of b3 _ _ _ Ry_2
            have Rz_3 : w3.heap[w.heap.size + 1 + 1]? = some (Obj.cells #[.bool false, .string ⟨#[]⟩, .string ⟨#[]⟩, .int .i64 0] 24) := heap_of b3 _ _ _ Rz_2
            clear b3 B2 Rx_2 cx_2_0 cx_2_1 cx_2_2 cx_2_3 Ry_2 cy_2_0 cy_2_1 cy_2_2 cy_2_3 Rz_2 cz_2_0 cz_2_1 cz_2_2 cz_2_3
            have cx_3_0 := cells4 Rx_3 0 _ rfl
            have cx_3_1 := cells4 Rx_3 1 _ rfl
            have cx_3_2 := cells4 Rx_3 2 _ rfl
            have cx_3_3 := cells4 Rx_3 3 _ rfl
            have cy_3_0 := cells4 Ry_3 0 _ rfl
            have cy_3_1 := cells4 Ry_3 1 _ rfl
            have cy_3_2 := cells4 Ry_3 2 _ rfl
            have cy_3_3 := cells4 Ry_3 3 _ rfl
            have cz_3_0 := cells4 Rz_3 0 _ rfl
            have cz_3_1 := cells4 Rz_3 1 _ rfl
            have cz_3_2 := cells4 Rz_3 2 _ rfl
            have cz_3_3 := cells4 Rz_3 3 _ rfl
            have q0 := fz (k := 0) Rz_3
            have q1 := fz (k := 1) Rz_3
            have q2 := fz (k := 2) Rz_3
            have q3 := fz (k := 3) Rz_3
            obtain ⟨E0, E1, E2, E3⟩ := set4_cells Rz_3 rfl (.bool rb) (.string u) (.string v) (.int .i64 re)
            go_wp2
            exact bodyPost_ret (v := .tuple #[.agg #[.bool rb, .string u, .string v, .int .i64 re], .int .i64 err]) (by simp [results, Tryd.results26, go_sem, E0, E1, E2, E3]) rfl ⟨rfl, set4_below B3 (by first | exact Nat.le_refl _ | omega) _ _ _ _⟩
          · rw [mk_out _ _ _ _ oa ob hin] at hr2
            obtain ⟨rfl, rfl, rfl, rfl, rfl⟩ := xz_is hr2
            rw [nbA_zero] at hu hv
            subst hu hv
            have c12 : decide (E < -1048576) = true ∨ (decide (E < -1048576) = false ∧ decide (1048576 < E) = true) := by
              by_cases hh : E < -1048576
              · exact Or.inl (decide_eq_true hh)
              · exact Or.inr ⟨decide_eq_false hh, decide_eq_true (by omega)⟩
            clear hx hy h1 h2 hin hr2 oa ob n0 m0 h3 g3 o1 o2 o3 o4
            rcases c12 with c1 | ⟨c1, c2⟩
            · have Rx_0 : (((w.alloc (Obj.cells #[.bool b, .string s, .string t, .int .i64 e] 24)).alloc (Obj.cells #[.bool c, .string p, .string q, .int .i64 g] 24)).alloc (Obj.cells #[.bool false, .string ⟨#[]⟩, .string ⟨#[]⟩, .int .i64 0] 24)).heap[w.heap.size]? = some (Obj.cells #[.bool b, .string s, .string t, .int .i64 e] 24) := by rw [heap_below _ _ _ (by simp only [size_al]; omega), heap_below _ _ _ (by simp only [size_al]; omega)]; have := heap_alloc_last w (Obj.cells #[.bool b, .string s, .string t, .int .i64 e] 24); simpa only [size_al] using this
              have Ry_0 : (((w.alloc (Obj.cells #[.bool b, .string s, .string t, .int .i64 e] 24)).alloc (Obj.cells #[.bool c, .string p, .string q, .int .i64 g] 24)).alloc (Obj.cells #[.bool false, .string ⟨#[]⟩, .string ⟨#[]⟩, .int .i64 0] 24)).heap[w.heap.size + 1]? = some (Obj.cells #[.bool c, .string p, .string q, .int .i64 g] 24) := by rw [heap_below _ _ _ (by simp only [size_al]; omega)]; have := heap_alloc_last (w.alloc (Obj.cells #[.bool b, .string s, .string t, .int .i64 e] 24)) (Obj.cells #[.bool c, .string p, .string q, .int .i64 g] 24); simpa only [size_al] using this
              have Rz_0 : (((w.alloc (Obj.cells #[.bool b, .string s, .string t, .int .i64 e] 24)).alloc (Obj.cells #[.bool c, .string p, .string q, .int .i64 g] 24)).alloc (Obj.cells #[.bool false, .string ⟨#[]⟩, .string ⟨#[]⟩, .int .i64 0] 24)).heap[w.heap.size + 1 + 1]? = some (Obj.cells #[.bool false, .string ⟨#[]⟩, .string ⟨#[]⟩, .int .i64 0] 24) := by have := heap_alloc_last ((w.alloc (Obj.cells #[.bool b, .string s, .string t, .int .i64 e] 24)).alloc (Obj.cells #[.bool c, .string p, .string q, .int .i64 g] 24)) (Obj.cells #[.bool false, .string ⟨#[]⟩, .string ⟨#[]⟩, .int .i64 0] 24); simpa only [size_al] using this
              have B0 : Below w.heap.size w (((w.alloc (Obj.cells #[.bool b, .string s, .string t, .int .i64 e] 24)).alloc (Obj.cells #[.bool c, .string p, .string q, .int .i64 g] 24)).alloc (Obj.cells #[.bool false, .string ⟨#[]⟩, .string ⟨#[]⟩, .int .i64 0] 24)) := ((((Below.refl _ _).alloc (by first | omega | (simp only [size_al]; omega)) _).alloc (by first | omega | (simp only [size_al]; omega)) _).alloc (by first | omega | (simp only [size_al]; omega)) _)
              go_enter Tryd.func26, Tryd.ntmps26
              go_wp2_with fail
              refine (nat_Mul n m s p x 0 HS.out HP.out HX.out LN.out LM.out _).mono ?_
              rintro r w1 ⟨rfl, b1⟩
              have B1 : Below w.heap.size w w1 := btr B0 b1
              have Rx_1 : w1.heap[w.heap.size]? = some (Obj.cells #[.bool b, .string s, .string t, .int .i64 e] 24) := heap_of b1 _ _ _ Rx_0
              have Ry_1 : w1.heap[w.heap.size + 1]? = some (Obj.cells #[.bool c, .string p, .string q, .int .i64 g] 24) := heap_of b1 _ _ _ Ry_0
              have Rz_1 : w1.heap[w.heap.size + 1 + 1]? = some (Obj.cells #[.bool false, .string ⟨#[]⟩, .string ⟨#[]⟩, .int .i64 0] 24) := heap_of b1 _ _ _ Rz_0
              clear b1 B0 Rx_0 Ry_0 Rz_0
              have cx_1_0 := cells4 Rx_1 0 _ rfl
              have cx_1_1 := cells4 Rx_1 1 _ rfl
              have cx_1_2 := cells4 Rx_1 2 _ rfl
              have cx_1_3 := cells4 Rx_1 3 _ rfl
              have cy_1_0 := cells4 Ry_1 0 _ rfl
              have cy_1_1 := cells4 Ry_1 1 _ rfl
              have cy_1_2 := cells4 Ry_1 2 _ rfl
              have cy_1_3 := cells4 Ry_1 3 _ rfl
              have cz_1_0 := cells4 Rz_1 0 _ rfl
              have cz_1_1 := cells4 Rz_1 1 _ rfl
              have cz_1_2 := cells4 Rz_1 2 _ rfl
              have cz_1_3 := cells4 Rz_1 3 _ rfl
              go_wp2_with fail
              refine (nat_Mul d f t q y 0 HT.out HQ.out HY.out LD.out LF.out _).mono ?_
              rintro r w2 ⟨rfl, b2⟩
              have B2 : Below w.heap.size w w2 := btr B1 b2
              have Rx_2 : w2.heap[w.heap.size]? = some (Obj.cells #[.bool b, .string s, .string t, .int .i64 e] 24) := heap_of b2 _ _ _ Rx_1
              have Ry_2 : w2.heap[w.heap.size + 1]? = some (Obj.cells #[.bool c, .string p, .string q, .int .i64 g] 24) := heap_of b2 _ _ _ Ry_1
              have Rz_2 : w2.heap[w.heap.size + 1 + 1]? = some (Obj.cells #[.bool false, .string ⟨#[]⟩, .string ⟨#[]⟩, .int .i64 0] 24) := heap_of b2 _ _ _ Rz_1
              clear b2 B1 Rx_1 cx_1_0 cx_1_1 cx_1_2 cx_1_3 Ry_1 cy_1_0 cy_1_1 cy_1_2 cy_1_3 Rz_1 cz_1_0 cz_1_1 cz_1_2 cz_1_3
              have cx_2_0 := cells4 Rx_2 0 _ rfl
              have cx_2_1 := cells4 Rx_2 1 _ rfl
              have cx_2_2 := cells4 Rx_2 2 _ rfl
              have cx_2_3 := cells4 Rx_2 3 _ rfl
              have cy_2_0 := cells4 Ry_2 0 _ rfl
              have cy_2_1 := cells4 Ry_2 1 _ rfl
              have cy_2_2 := cells4 Ry_2 2 _ rfl
              have cy_2_3 := cells4 Ry_2 3 _ rfl
              have cz_2_0 := cells4 Rz_2 0 _ rfl
              have cz_2_1 := cells4 Rz_2 1 _ rfl
              have cz_2_2 := cells4 Rz_2 2 _ rfl
              have cz_2_3 := cells4 Rz_2 3 _ rfl
              have q0 := fz (k := 0) Rz_2
              have q1 := fz (k := 1) Rz_2
              have q2 := fz (k := 2) Rz_2
              have q3 := fz (k := 3) Rz_2
              obtain ⟨E0, E1, E2, E3⟩ := set4_cells Rz_2 rfl (.bool false) (.string ⟨#[]⟩) (.string ⟨#[]⟩) (.int .i64 0)
              go_wp2
              exact bodyPost_ret (v := .tuple #[.agg #[.bool false, .string ⟨#[]⟩, .string ⟨#[]⟩, .int .i64 0], .int .i64 4]) (by simp [results, Tryd.results26, go_sem, E0, E1, E2, E3]) rfl ⟨rfl, set4_below B2 (by first | exact Nat.le_refl _ | omega) _ _ _ _⟩
            · have Rx_0 : (((w.alloc (Obj.cells #[.bool b, .string s, .string t, .int .i64 e] 24)).alloc (Obj.cells #[.bool c, .string p, .string q, .int .i64 g] 24)).alloc (Obj.cells #[.bool false, .string ⟨#[]⟩, .string ⟨#[]⟩, .int .i64 0] 24)).heap[w.heap.size]? = some (Obj.cells #[.bool b, .string s, .string t, .int .i64 e] 24) := by rw [heap_below _ _ _ (by simp only [size_al]; omega), heap_below _ _ _ (by simp only [size_al]; omega)]; have := heap_alloc_last w (Obj.cells #[.bool b, .string s, .string t, .int .i64 e] 24); simpa only [size_al] using this
              have Ry_0 : (((w.alloc (Obj.cells #[.bool b, .string s, .string t, .int .i64 e] 24)).alloc (Obj.cells #[.bool c, .string p, .string q, .int .i64 g] 24)).alloc (Obj.cells #[.bool false, .string ⟨#[]⟩, .string ⟨#[]⟩, .int .i64 0] 24)).heap[w.heap.size + 1]? = some (Obj.cells #[.bool c, .string p, .string q, .int .i64 g] 24) := by rw [heap_below _ _ _ (by simp only [size_al]; omega)]; have := heap_alloc_last (w.alloc (Obj.cells #[.bool b, .string s, .string t, .int .i64 e] 24)) (Obj.cells #[.bool c, .string p, .string q, .int .i64 g] 24); simpa only [size_al] using this
              have Rz_0 : (((w.alloc (Obj.cells #[.bool b, .string s, .string t, .int .i64 e] 24)).alloc (Obj.cells #[.bool c, .string p, .string q, .int .i64 g] 24)).alloc (Obj.cells #[.bool false, .string ⟨#[]⟩, .string ⟨#[]⟩, .int .i64 0] 24)).heap[w.heap.size + 1 + 1]? = some (Obj.cells #[.bool false, .string ⟨#[]⟩, .string ⟨#[]⟩, .int .i64 0] 24) := by have := heap_alloc_last ((w.alloc (Obj.cells #[.bool b, .string s, .string t, .int .i64 e] 24)).alloc (Obj.cells #[.bool c, .string p, .string q, .int .i64 g] 24)) (Obj.cells #[.bool false, .string ⟨#[]⟩, .string ⟨#[]⟩, .int .i64 0] 24); simpa only [size_al] using this
              have B0 : Below w.heap.size w (((w.alloc (Obj.cells #[.bool b, .string s, .string t, .int .i64 e] 24)).alloc (Obj.cells #[.bool c, .string p, .string q, .int .i64 g] 24)).alloc (Obj.cells #[.bool false, .string ⟨#[]⟩, .string ⟨#[]⟩, .int .i64 0] 24)) := ((((Below.refl _ _).alloc (by first | omega | (simp only [size_al]; omega)) _).alloc (by first | omega | (simp only [size_al]; omega)) _).alloc (by first | omega | (simp only [size_al]; omega)) _)
              go_enter Tryd.func26, Tryd.ntmps26
              go_wp2_with fail
              refine (nat_Mul n m s p x 0 HS.out HP.out HX.out LN.out LM.out _).mono ?_
              rintro r w1 ⟨rfl, b1⟩
              have B1 : Below w.heap.size w w1 := btr B0 b1
              have Rx_1 : w1.heap[w.heap.size]? = some (Obj.cells #[.bool b, .string s, .string t, .int .i64 e] 24) := heap_of b1 _ _ _ Rx_0
              have Ry_1 : w1.heap[w.heap.size + 1]? = some (Obj.cells #[.bool c, .string p, .string q, .int .i64 g] 24) := heap_of b1 _ _ _ Ry_0
              have Rz_1 : w1.heap[w.heap.size + 1 + 1]? = some (Obj.cells #[.bool false, .string ⟨#[]⟩, .string ⟨#[]⟩, .int .i64 0] 24) := heap_of b1 _ _ _ Rz_0
              clear b1 B0 Rx_0 Ry_0 Rz_0
              have cx_1_0 := cells4 Rx_1 0 _ rfl
              have cx_1_1 := cells4 Rx_1 1 _ rfl
              have cx_1_2 := cells4 Rx_1 2 _ rfl
              have cx_1_3 := cells4 Rx_1 3 _ rfl
              have cy_1_0 := cells4 Ry_1 0 _ rfl
              have cy_1_1 := cells4 Ry_1 1 _ rfl
              have cy_1_2 := cells4 Ry_1 2 _ rfl
              have cy_1_3 := cells4 Ry_1 3 _ rfl
              have cz_1_0 := cells4 Rz_1 0 _ rfl
              have cz_1_1 := cells4 Rz_1 1 _ rfl
              have cz_1_2 := cells4 Rz_1 2 _ rfl
              have cz_1_3 := cells4 Rz_1 3 _ rfl
              go_wp2_with fail
              refine (nat_Mul d f t q y 0 HT.out HQ.out HY.out LD.out LF.out _).mono ?_
              rintro r w2 ⟨rfl, b2⟩
              have B2 : Below w.heap.size w w2 := btr B1 b2
              have Rx_2 : w2.heap[w.heap.size]? = some (Obj.cells #[.bool b, .string s, .string t, .int .i64 e] 24) := heap_of b2 _ _ _ Rx_1
              have Ry_2 : w2.heap[w.heap.size + 1]? = some (Obj.cells #[.bool c, .string p, .string q, .int .i64 g] 24) := heap_of b2 _ _ _ Ry_1
              have Rz_2 : w2.heap[w.heap.size + 1 + 1]? = some (Obj.cells #[.bool false, .string ⟨#[]⟩, .string ⟨#[]⟩, .int .i64 0] 24) := heap_of b2 _ _ _ Rz_1
              clear b2 B1 Rx_1 cx_1_0 cx_1_1 cx_1_2 cx_1_3 Ry_1 cy_1_0 cy_1_1 cy_1_2 cy_1_3 Rz_1 cz_1_0 cz_1_1 cz_1_2 cz_1_3
              have cx_2_0 := cells4 Rx_2 0 _ rfl
              have cx_2_1 := cells4 Rx_2 1 _ rfl
              have cx_2_2 := cells4 Rx_2 2 _ rfl
              have cx_2_3 := cells4 Rx_2 3 _ rfl
              have cy_2_0 := cells4 Ry_2 0 _ rfl
              have cy_2_1 := cells4 Ry_2 1 _ rfl
              have cy_2_2 := cells4 Ry_2 2 _ rfl
              have cy_2_3 := cells4 Ry_2 3 _ rfl
              have cz_2_0 := cells4 Rz_2 0 _ rfl
              have cz_2_1 := cells4 Rz_2 1 _ rfl
              have cz_2_2 := cells4 Rz_2 2 _ rfl
              have cz_2_3 := cells4 Rz_2 3 _ rfl
              have q0 := fz (k := 0) Rz_2
              have q1 := fz (k := 1) Rz_2
              have q2 := fz (k := 2) Rz_2
              have q3 := fz (k := 3) Rz_2
              obtain ⟨E0, E1, E2, E3⟩ := set4_cells Rz_2 rfl (.bool false) (.string ⟨#[]⟩) (.string ⟨#[]⟩) (.int .i64 0)
              go_wp2
              exact bodyPost_ret (v := .tuple #[.agg #[.bool false, .string ⟨#[]⟩, .string ⟨#[]⟩, .int .i64 0], .int .i64 4]) (by simp [results, Tryd.results26, go_sem, E0, E1, E2, E3]) rfl ⟨rfl, set4_below B2 (by first | exact Nat.le_refl _ | omega) _ _ _ _⟩
        · have HY := box (lg_no' (d * f) h2)
          rw [if_neg (fun h => h2 h.2)] at hr2
          obtain ⟨rfl, rfl, rfl, rfl, rfl⟩ := xz_is hr2
          rw [nbA_zero] at hu hv
          subst hu hv
          clear hx h1 h2 hr2 oa ob n0 m0 h3 g3 o1 o2 o3 o4
          have Rx_0 : (((w.alloc (Obj.cells #[.bool b, .string s, .string t, .int .i64 e] 24)).alloc (Obj.cells #[.bool c, .string p, .string q, .int .i64 g] 24)).alloc (Obj.cells #[.bool false, .string ⟨#[]⟩, .string ⟨#[]⟩, .int .i64 0] 24)).heap[w.heap.size]? = some (Obj.cells #[.bool b, .string s, .string t, .int .i64 e] 24) := by rw [heap_below _ _ _ (by simp only [size_al]; omega), heap_below _ _ _ (by simp only [size_al]; omega)]; have := heap_alloc_last w (Obj.cells #[.bool b, .string s, .string t, .int .i64 e] 24); simpa only [size_al] using this
          have Ry_0 : (((w.alloc (Obj.cells #[.bool b, .string s, .string t, .int .i64 e] 24)).alloc (Obj.cells #[.bool c, .string p, .string q, .int .i64 g] 24)).alloc (Obj.cells #[.bool false, .string ⟨#[]⟩, .string ⟨#[]⟩, .int .i64 0] 24)).heap[w.heap.size + 1]? = some (Obj.cells #[.bool c, .string p, .string q, .int .i64 g] 24) := by rw [heap_below _ _ _ (by simp only [size_al]; omega)]; have := heap_alloc_last (w.alloc (Obj.cells #[.bool b, .string s, .string t, .int .i64 e] 24)) (Obj.cells #[.bool c, .string p, .string q, .int .i64 g] 24); simpa only [size_al] using this
          have Rz_0 : (((w.alloc (Obj.cells #[.bool b, .string s, .string t, .int .i64 e] 24)).alloc (Obj.cells #[.bool c, .string p, .string q, .int .i64 g] 24)).alloc (Obj.cells #[.bool false, .string ⟨#[]⟩, .string ⟨#[]⟩, .int .i64 0] 24)).heap[w.heap.size + 1 + 1]? = some (Obj.cells #[.bool false, .string ⟨#[]⟩, .string ⟨#[]⟩, .int .i64 0] 24) := by have := heap_alloc_last ((w.alloc (Obj.cells #[.bool b, .string s, .string t, .int .i64 e] 24)).alloc (Obj.cells #[.bool c, .string p, .string q, .int .i64 g] 24)) (Obj.cells #[.bool false, .string ⟨#[]⟩, .string ⟨#[]⟩, .int .i64 0] 24); simpa only [size_al] using this
          have B0 : Below w.heap.size w (((w.alloc (Obj.cells #[.bool b, .string s, .string t, .int .i64 e] 24)).alloc (Obj.cells #[.bool c, .string p, .string q, .int .i64 g] 24)).alloc (Obj.cells #[.bool false, .string ⟨#[]⟩, .string ⟨#[]⟩, .int .i64 0] 24)) := ((((Below.refl _ _).alloc (by first | omega | (simp only [size_al]; omega)) _).alloc (by first | omega | (simp only [size_al]; omega)) _).alloc (by first | omega | (simp only [size_al]; omega)) _)
          go_enter Tryd.func26, Tryd.ntmps26
          go_wp2_with fail
          refine (nat_Mul n m s p x 0 HS.out HP.out HX.out LN.out LM.out _).mono ?_
          rintro r w1 ⟨rfl, b1⟩
          have B1 : Below w.heap.size w w1 := btr B0 b1
          have Rx_1 : w1.heap[w.heap.size]? = some (Obj.cells #[.bool b, .string s, .string t, .int .i64 e] 24) := heap_of b1 _ _ _ Rx_0
          have Ry_1 : w1.heap[w.heap.size + 1]? = some (Obj.cells #[.bool c, .string p, .string q, .int .i64 g] 24) := heap_of b1 _ _ _ Ry_0
          have Rz_1 : w1.heap[w.heap.size + 1 + 1]? = some (Obj.cells #[.bool false, .string ⟨#[]⟩, .string ⟨#[]⟩, .int .i64 0] 24) := heap_of b1 _ _ _ Rz_0
          clear b1 B0 Rx_0 Ry_0 Rz_0
          have cx_1_0 := cells4 Rx_1 0 _ rfl
          have cx_1_1 := cells4 Rx_1 1 _ rfl
          have cx_1_2 := cells4 Rx_1 2 _ rfl
          have cx_1_3 := cells4 Rx_1 3 _ rfl
          have cy_1_0 := cells4 Ry_1 0 _ rfl
          have cy_1_1 := cells4 Ry_1 1 _ rfl
          have cy_1_2 := cells4 Ry_1 2 _ rfl
          have cy_1_3 := cells4 Ry_1 3 _ rfl
          have cz_1_0 := cells4 Rz_1 0 _ rfl
          have cz_1_1 := cells4 Rz_1 1 _ rfl
          have cz_1_2 := cells4 Rz_1 2 _ rfl
          have cz_1_3 := cells4 Rz_1 3 _ rfl
          go_wp2_with fail
          refine (nat_Mul d f t q _ 4 HT.out HQ.out HY.out LD.out LF.out _).mono ?_
          rintro r w2 ⟨rfl, b2⟩
          have B2 : Below w.heap.size w w2 := btr B1 b2
          have Rx_2 : w2.heap[w.heap.size]? = some (Obj.cells #[.bool b, .string s, .string t, .int .i64 e] 24) := heap_of b2 _ _ _ Rx_1
          have Ry_2 : w2.heap[w.heap.size + 1]? = some (Obj.cells #[.bool c, .string p, .string q, .int .i64 g] 24) := heap_of b2 _ _ _ Ry_1
          have Rz_2 : w2.heap[w.heap.size + 1 + 1]? = some (Obj.cells #[.bool false, .string ⟨#[]⟩, .string ⟨#[]⟩, .int .i64 0] 24) := heap_of b2 _ _ _ Rz_1
          clear b2 B1 Rx_1 cx_1_0 cx_1_1 cx_1_2 cx_1_3 Ry_1 cy_1_0 cy_1_1 cy_1_2 cy_1_3 Rz_1 cz_1_0 cz_1_1 cz_1_2 cz_1_3
          have cx_2_0 := cells4 Rx_2 0 _ rfl
          have cx_2_1 := cells4 Rx_2 1 _ rfl
          have cx_2_2 := cells4 Rx_2 2 _ rfl
          have cx_2_3 := cells4 Rx_2 3 _ rfl
          have cy_2_0 := cells4 Ry_2 0 _ rfl
          have cy_2_1 := cells4 Ry_2 1 _ rfl
          have cy_2_2 := cells4 Ry_2 2 _ rfl
          have cy_2_3 := cells4 Ry_2 3 _ rfl
          have cz_2_0 := cells4 Rz_2 0 _ rfl
          have cz_2_1 := cells4 Rz_2 1 _ rfl
          have cz_2_2 := cells4 Rz_2 2 _ rfl
          have cz_2_3 := cells4 Rz_2 3 _ rfl
          have q0 := fz (k := 0) Rz_2
          have q1 := fz (k := 1) Rz_2
          have q2 := fz (k := 2) Rz_2
          have q3 := fz (k := 3) Rz_2
          obtain ⟨E0, E1, E2, E3⟩ := set4_cells Rz_2 rfl (.bool false) (.string ⟨#[]⟩) (.string ⟨#[]⟩) (.int .i64 0)
          go_wp2
          exact bodyPost_ret (v := .tuple #[.agg #[.bool false, .string ⟨#[]⟩, .string ⟨#[]⟩, .int .i64 0], .int .i64 4]) (by simp [results, Tryd.results26, go_sem, E0, E1, E2, E3]) rfl ⟨rfl, set4_below B2 (by first | exact Nat.le_refl _ | omega) _ _ _ _⟩
      · have HX := box (lg_no' (n * m) h1)
        obtain ⟨y, ff, hy⟩ : ∃ y ff, lg (d * f) = (y, ff) := ⟨_, _, rfl⟩
        have HY := box hy
        rw [if_neg (fun h => h1 h.1)] at hr2
        obtain ⟨rfl, rfl, rfl, rfl, rfl⟩ := xz_is hr2
        rw [nbA_zero] at hu hv
        subst hu hv
        clear hy h1 hr2 oa ob n0 m0 h3 g3 o1 o2 o3 o4
        have Rx_0 : (((w.alloc (Obj.cells #[.bool b, .string s, .string t, .int .i64 e] 24)).alloc (Obj.cells #[.bool c, .string p, .string q, .int .i64 g] 24)).alloc (Obj.cells #[.bool false, .string ⟨#[]⟩, .string ⟨#[]⟩, .int .i64 0] 24)).heap[w.heap.size]? = some (Obj.cells #[.bool b, .string s, .string t, .int .i64 e] 24) := by rw [heap_below _ _ _ (by simp only [size_al]; omega), heap_below _ _ _ (by simp only [size_al]; omega)]; have := heap_alloc_last w (Obj.cells #[.bool b, .string s, .string t, .int .i64 e] 24); simpa only [size_al] using this
        have Ry_0 : (((w.alloc (Obj.cells #[.bool b, .string s, .string t, .int .i64 e] 24)).alloc (Obj.cells #[.bool c, .string p, .string q, .int .i64 g] 24)).alloc (Obj.cells #[.bool false, .string ⟨#[]⟩, .string ⟨#[]⟩, .int .i64 0] 24)).heap[w.heap.size + 1]? = some (Obj.cells #[.bool c, .string p, .string q, .int .i64 g] 24) := by rw [heap_below _ _ _ (by simp only [size_al]; omega)]; have := heap_alloc_last (w.alloc (Obj.cells #[.bool b, .string s, .string t, .int .i64 e] 24)) (Obj.cells #[.bool c, .string p, .string q, .int .i64 g] 24); simpa only [size_al] using this
        have Rz_0 : (((w.alloc (Obj.cells #[.bool b, .string s, .string t, .int .i64 e] 24)).alloc (Obj.cells #[.bool c, .string p, .string q, .int .i64 g] 24)).alloc (Obj.cells #[.bool false, .string ⟨#[]⟩, .string ⟨#[]⟩, .int .i64 0] 24)).heap[w.heap.size + 1 + 1]? = some (Obj.cells #[.bool false, .string ⟨#[]⟩, .string ⟨#[]⟩, .int .i64 0] 24) := by have := heap_alloc_last ((w.alloc (Obj.cells #[.bool b, .string s, .string t, .int .i64 e] 24)).alloc (Obj.cells #[.bool c, .string p, .string q, .int .i64 g] 24)) (Obj.cells #[.bool false, .string ⟨#[]⟩, .string ⟨#[]⟩, .int .i64 0] 24); simpa only [size_al] using this
        have B0 : Below w.heap.size w (((w.alloc (Obj.cells #[.bool b, .string s, .string t, .int .i64 e] 24)).alloc (Obj.cells #[.bool c, .string p, .string q, .int .i64 g] 24)).alloc (Obj.cells #[.bool false, .string ⟨#[]⟩, .string ⟨#[]⟩, .int .i64 0] 24)) := ((((Below.refl _ _).alloc (by first | omega | (simp only [size_al]; omega)) _).alloc (by first | omega | (simp only [size_al]; omega)) _).alloc (by first | omega | (simp only [size_al]; omega)) _)
        go_enter Tryd.func26, Tryd.ntmps26
        go_wp2_with fail
        refine (nat_Mul n m s p _ 4 HS.out HP.out HX.out LN.out LM.out _).mono ?_
        rintro r w1 ⟨rfl, b1⟩
        have B1 : Below w.heap.size w w1 := btr B0 b1
        have Rx_1 : w1.heap[w.heap.size]? = some (Obj.cells #[.bool b, .string s, .string t, .int .i64 e] 24) := heap_of b1 _ _ _ Rx_0
        have Ry_1 : w1.heap[w.heap.size + 1]? = some (Obj.cells #[.bool c, .string p, .string q, .int .i64 g] 24) := heap_of b1 _ _ _ Ry_0
        have Rz_1 : w1.heap[w.heap.size + 1 + 1]? = some (Obj.cells #[.bool false, .string ⟨#[]⟩, .string ⟨#[]⟩, .int .i64 0] 24) := heap_of b1 _ _ _ Rz_0
        clear b1 B0 Rx_0 Ry_0 Rz_0
        have cx_1_0 := cells4 Rx_1 0 _ rfl
        have cx_1_1 := cells4 Rx_1 1 _ rfl
        have cx_1_2 := cells4 Rx_1 2 _ rfl
        have cx_1_3 := cells4 Rx_1 3 _ rfl
        have cy_1_0 := cells4 Ry_1 0 _ rfl
        have cy_1_1 := cells4 Ry_1 1 _ rfl
        have cy_1_2 := cells4 Ry_1 2 _ rfl
        have cy_1_3 := cells4 Ry_1 3 _ rfl
        have cz_1_0 := cells4 Rz_1 0 _ rfl
        have cz_1_1 := cells4 Rz_1 1 _ rfl
        have cz_1_2 := cells4 Rz_1 2 _ rfl
        have cz_1_3 := cells4 Rz_1 3 _ rfl
        go_wp2_with fail
        refine (nat_Mul d f t q y ff HT.out HQ.out HY.out LD.out LF.out _).mono ?_
        rintro r w2 ⟨rfl, b2⟩
        have B2 : Below w.heap.size w w2 := btr B1 b2
        have Rx_2 : w2.heap[w.heap.size]? = some (Obj.cells #[.bool b, .string s, .string t, .int .i64 e] 24) := heap_of b2 _ _ _ Rx_1
        have Ry_2 : w2.heap[w.heap.size + 1]? = some (Obj.cells #[.bool c, .string p, .string q, .int .i64 g] 24) := heap_of b2 _ _ _ Ry_1
        have Rz_2 : w2.heap[w.heap.size + 1 + 1]? = some (Obj.cells #[.bool false, .string ⟨#[]⟩, .string ⟨#[]⟩, .int .i64 0] 24) := heap_of b2 _ _ _ Rz_1
        clear b2 B1 Rx_1 cx_1_0 cx_1_1 cx_1_2 cx_1_3 Ry_1 cy_1_0 cy_1_1 cy_1_2 cy_1_3 Rz_1 cz_1_0 cz_1_1 cz_1_2 cz_1_3
        have cx_2_0 := cells4 Rx_2 0 _ rfl
        have cx_2_1 := cells4 Rx_2 1 _ rfl
        have cx_2_2 := cells4 Rx_2 2 _ rfl
        have cx_2_3 := cells4 Rx_2 3 _ rfl
        have cy_2_0 := cells4 Ry_2 0 _ rfl
        have cy_2_1 := cells4 Ry_2 1 _ rfl
        have cy_2_2 := cells4 Ry_2 2 _ rfl
        have cy_2_3 := cells4 Ry_2 3 _ rfl
        have cz_2_0 := cells4 Rz_2 0 _ rfl
        have cz_2_1 := cells4 Rz_2 1 _ rfl
        have cz_2_2 := cells4 Rz_2 2 _ rfl
        have cz_2_3 := cells4 Rz_2 3 _ rfl
        have q0 := fz (k := 0) Rz_2
        have q1 := fz (k := 1) Rz_2
        have q2 := fz (k := 2) Rz_2
        have q3 := fz (k := 3) Rz_2
        obtain ⟨E0, E1, E2, E3⟩ := set4_cells Rz_2 rfl (.bool false) (.string ⟨#[]⟩) (.string ⟨#[]⟩) (.int .i64 0)
        go_wp2
        exact bodyPost_ret (v := .tuple #[.agg #[.bool false, .string ⟨#[]⟩, .string ⟨#[]⟩, .int .i64 0], .int .i64 4]) (by simp [results, Tryd.results26, go_sem, E0, E1, E2, E3]) rfl ⟨rfl, set4_below B2 (by first | exact Nat.le_refl _ | omega) _ _ _ _⟩

set_option maxRecDepth 100000 in
set_option maxHeartbeats 2000000 in
theorem rQuo_ok (b : Bool) (n d : Nat) (e : Int) (s t : ByteArray) (c : Bool) (m f : Nat) (g : Int) (p q : ByteArray) (rb : Bool) (rn rd : Nat) (re err : Int) (u v : ByteArray)
    (hs : nbA n = s) (ht : nbA d = t) (hp : nbA m = p) (hq : nbA f = q) (hx : (XN.mk b n d e).can) (hy : (XN.mk c m f g).can) (hr : quoX (XN.mk b n d e) (XN.mk c m f g) = (⟨rb, rn, rd, re⟩, err)) (hu : nbA rn = u) (hv : nbA rd = v) (w : World) :
    Calls Tryd.prog 27 #[.agg #[.bool b, .string s, .string t, .int .i64 e], .agg #[.bool c, .string p, .string q, .int .i64 g]] w fun r w' => r = .returned (.tuple #[.agg #[.bool rb, .string u, .string v, .int .i64 re], .int .i64 err]) ∧ Below w.heap.size w w' := by
  rcases x_cases hp hq hy with ⟨m0, rfl, rfl, rfl, rfl, rfl⟩ | ⟨m0, e1⟩
  · have hz : ((XZ, 2) : XN × Int) = (⟨rb, rn, rd, re⟩, err) := by rw [← hr]; unfold quoX; rw [if_pos m0]
    injection hz with h1 h2
    unfold XZ at h1
    injection h1 with a1 a2 a3 a4
    subst a1 a2 a3 a4 h2
    rw [nbA_zero] at hu hv
    subst hu hv
    clear hs ht hp hq hx hy hr m0
    have Rx_0 : (((w.alloc (Obj.cells #[.bool b, .string s, .string t, .int .i64 e] 24)).alloc (Obj.cells #[.bool false, .string ⟨#[]⟩, .string ⟨#[1]⟩, .int .i64 0] 24)).alloc (Obj.cells #[.bool false, .string ⟨#[]⟩, .string ⟨#[]⟩, .int .i64 0] 24)).heap[w.heap.size]? = some (Obj.cells #[.bool b, .string s, .string t, .int .i64 e] 24) := by rw [heap_below _ _ _ (by simp only [size_al]; omega), heap_below _ _ _ (by simp only [size_al]; omega)]; have := heap_alloc_last w (Obj.cells #[.bool b, .string s, .string t, .int .i64 e] 24); simpa only [size_al] using this
    have Ry_0 : (((w.alloc (Obj.cells #[.bool b, .string s, .string t, .int .i64 e] 24)).alloc (Obj.cells #[.bool false, .string ⟨#[]⟩, .string ⟨#[1]⟩, .int .i64 0] 24)).alloc (Obj.cells #[.bool false, .string ⟨#[]⟩, .string ⟨#[]⟩, .int .i64 0] 24)).heap[w.heap.size + 1]? = some (Obj.cells #[.bool false, .string ⟨#[]⟩, .string ⟨#[1]⟩, .int .i64 0] 24) := by rw [heap_below _ _ _ (by simp only [size_al]; omega)]; have := heap_alloc_last (w.alloc (Obj.cells #[.bool b, .string s, .string t, .int .i64 e] 24)) (Obj.cells #[.bool false, .string ⟨#[]⟩, .string ⟨#[1]⟩, .int .i64 0] 24); simpa only [size_al] using this
    have Rz_0 : (((w.alloc (Obj.cells #[.bool b, .string s, .string t, .int .i64 e] 24)).alloc (Obj.cells #[.bool false, .string ⟨#[]⟩, .string ⟨#[1]⟩, .int .i64 0] 24)).alloc (Obj.cells #[.bool false, .string ⟨#[]⟩, .string ⟨#[]⟩, .int .i64 0] 24)).heap[w.heap.size + 1 + 1]? = some (Obj.cells #[.bool false, .string ⟨#[]⟩, .string ⟨#[]⟩, .int .i64 0] 24) := by have := heap_alloc_last ((w.alloc (Obj.cells #[.bool b, .string s, .string t, .int .i64 e] 24)).alloc (Obj.cells #[.bool false, .string ⟨#[]⟩, .string ⟨#[1]⟩, .int .i64 0] 24)) (Obj.cells #[.bool false, .string ⟨#[]⟩, .string ⟨#[]⟩, .int .i64 0] 24); simpa only [size_al] using this
    have B0 : Below w.heap.size w (((w.alloc (Obj.cells #[.bool b, .string s, .string t, .int .i64 e] 24)).alloc (Obj.cells #[.bool false, .string ⟨#[]⟩, .string ⟨#[1]⟩, .int .i64 0] 24)).alloc (Obj.cells #[.bool false, .string ⟨#[]⟩, .string ⟨#[]⟩, .int .i64 0] 24)) := ((((Below.refl _ _).alloc (by first | omega | (simp only [size_al]; omega)) _).alloc (by first | omega | (simp only [size_al]; omega)) _).alloc (by first | omega | (simp only [size_al]; omega)) _)
    go_enter Tryd.func27, Tryd.ntmps27
    clear B0 Rx_0 Ry_0 Rz_0
    go_wp2
    exact bodyPost_ret (v := .tuple #[.agg #[.bool false, .string ⟨#[]⟩, .string ⟨#[]⟩, .int .i64 0], .int .i64 2]) (by simp [results, Tryd.results27, go_sem]) rfl ⟨rfl, ((((Below.refl _ _).alloc (by first | omega | (simp only [size_al]; omega)) _).alloc (by first | omega | (simp only [size_al]; omega)) _).alloc (by first | omega | (simp only [size_al]; omega)) _)⟩
  · rcases x_cases hs ht hx with ⟨n0, rfl, rfl, rfl, rfl, rfl⟩ | ⟨n0, e0⟩
    · obtain ⟨rfl, rfl, rfl, rfl, rfl⟩ := x0_is (by rw [← hr]; unfold quoX; rw [if_neg m0, if_pos n0])
      rw [nbA_zero] at hu
      rw [nb1] at hv
      subst hu hv
      clear hs ht hp hq hx hy hr n0 m0
      have Rx_0 : (((w.alloc (Obj.cells #[.bool false, .string ⟨#[]⟩, .string ⟨#[1]⟩, .int .i64 0] 24)).alloc (Obj.cells #[.bool c, .string p, .string q, .int .i64 g] 24)).alloc (Obj.cells #[.bool false, .string ⟨#[]⟩, .string ⟨#[]⟩, .int .i64 0] 24)).heap[w.heap.size]? = some (Obj.cells #[.bool false, .string ⟨#[]⟩, .string ⟨#[1]⟩, .int .i64 0] 24) := by rw [heap_below _ _ _ (by simp only [size_al]; omega), heap_below _ _ _ (by simp only [size_al]; omega)]; have := heap_alloc_last w (Obj.cells #[.bool false, .string ⟨#[]⟩, .string ⟨#[1]⟩, .int .i64 0] 24); simpa only [size_al] using this
      have Ry_0 : (((w.alloc (Obj.cells #[.bool false, .string ⟨#[]⟩, .string ⟨#[1]⟩, .int .i64 0] 24)).alloc (Obj.cells #[.bool c, .string p, .string q, .int .i64 g] 24)).alloc (Obj.cells #[.bool false, .string ⟨#[]⟩, .string ⟨#[]⟩, .int .i64 0] 24)).heap[w.heap.size + 1]? = some (Obj.cells #[.bool c, .string p, .string q, .int .i64 g] 24) := by rw [heap_below _ _ _ (by simp only [size_al]; omega)]; have := heap_alloc_last (w.alloc (Obj.cells #[.bool false, .string ⟨#[]⟩, .string ⟨#[1]⟩, .int .i64 0] 24)) (Obj.cells #[.bool c, .string p, .string q, .int .i64 g] 24); simpa only [size_al] using this
      have Rz_0 : (((w.alloc (Obj.cells #[.bool false, .string ⟨#[]⟩, .string ⟨#[1]⟩, .int .i64 0] 24)).alloc (Obj.cells #[.bool c, .string p, .string q, .int .i64 g] 24)).alloc (Obj.cells #[.bool false, .string ⟨#[]⟩, .string ⟨#[]⟩, .int .i64 0] 24)).heap[w.heap.size + 1 + 1]? = some (Obj.cells #[.bool false, .string ⟨#[]⟩, .string ⟨#[]⟩, .int .i64 0] 24) := by have := heap_alloc_last ((w.alloc (Obj.cells #[.bool false, .string ⟨#[]⟩, .string ⟨#[1]⟩, .int .i64 0] 24)).alloc (Obj.cells #[.bool c, .string p, .string q, .int .i64 g] 24)) (Obj.cells #[.bool false, .string ⟨#[]⟩, .string ⟨#[]⟩, .int .i64 0] 24); simpa only [size_al] using this
      have B0 : Below w.heap.size w (((w.alloc (Obj.cells #[.bool false, .string ⟨#[]⟩, .string ⟨#[1]⟩, .int .i64 0] 24)).alloc (Obj.cells #[.bool c, .string p, .string q, .int .i64 g] 24)).alloc (Obj.cells #[.bool false, .string ⟨#[]⟩, .string ⟨#[]⟩, .int .i64 0] 24)) := ((((Below.refl _ _).alloc (by first | omega | (simp only [size_al]; omega)) _).alloc (by first | omega | (simp only [size_al]; omega)) _).alloc (by first | omega | (simp only [size_al]; omega)) _)
      go_enter Tryd.func27, Tryd.ntmps27
      go_wp2_with fail
      refine (xnull _).mono ?_
      rintro r w1 ⟨rfl, b1⟩
      have B1 : Below w.heap.size w w1 := btr B0 b1
      have Rx_1 : w1.heap[w.heap.size]? = some (Obj.cells #[.bool false, .string ⟨#[]⟩, .string ⟨#[1]⟩, .int .i64 0] 24) := heap_of b1 _ _ _ Rx_0
      have Ry_1 : w1.heap[w.heap.size + 1]? = some (Obj.cells #[.bool c, .string p, .string q, .int .i64 g] 24) := heap_of b1 _ _ _ Ry_0
      have Rz_1 : w1.heap[w.heap.size + 1 + 1]? = some (Obj.cells #[.bool false, .string ⟨#[]⟩, .string ⟨#[]⟩, .int .i64 0] 24) := heap_of b1 _ _ _ Rz_0
      clear b1 B0 Rx_0 Ry_0 Rz_0
      have cx_1_0 := cells4 Rx_1 0 _ rfl
      have cx_1_1 := cells4 Rx_1 1 _ rfl
      have cx_1_2 := cells4 Rx_1 2 _ rfl
      have cx_1_3 := cells4 Rx_1 3 _ rfl
      have cy_1_0 := cells4 Ry_1 0 _ rfl
      have cy_1_1 := cells4 Ry_1 1 _ rfl
      have cy_1_2 := cells4 Ry_1 2 _ rfl
      have cy_1_3 := cells4 Ry_1 3 _ rfl
      have cz_1_0 := cells4 Rz_1 0 _ rfl
      have cz_1_1 := cells4 Rz_1 1 _ rfl
      have cz_1_2 := cells4 Rz_1 2 _ rfl
      have cz_1_3 := cells4 Rz_1 3 _ rfl
      have q0 := fz (k := 0) Rz_1
      have q1 := fz (k := 1) Rz_1
      have q2 := fz (k := 2) Rz_1
      have q3 := fz (k := 3) Rz_1
      obtain ⟨E0, E1, E2, E3⟩ := set4_cells Rz_1 rfl (.bool false) (.string ⟨#[]⟩) (.string ⟨#[1]⟩) (.int .i64 0)
      go_wp2
      exact bodyPost_ret (v := .tuple #[.agg #[.bool false, .string ⟨#[]⟩, .string ⟨#[1]⟩, .int .i64 0], .int .i64 0]) (by simp [results, Tryd.results27, go_sem, E0, E1, E2, E3]) rfl ⟨rfl, set4_below B1 (by first | exact Nat.le_refl _ | omega) _ _ _ _⟩
    · have h3 : -1048576 ≤ e ∧ e ≤ 1048576 := ⟨hx.2.2.1, hx.2.2.2.1⟩
      have g3 : -1048576 ≤ g ∧ g ≤ 1048576 := ⟨hy.2.2.1, hy.2.2.2.1⟩
      obtain ⟨o1, o2, _⟩ := hx.odd n0
      obtain ⟨o3, o4, _⟩ := hy.odd m0
      have HS := box hs
      have HT := box ht
      have HP := box hp
      have HQ := box hq
      have LN : Box (nl n ≤ 20000) := box (by have : nl n ≤ 16384 := hx.1; omega)
      have LD : Box (nl d ≤ 20000) := box (by have : nl d ≤ 16384 := hx.2.1; omega)
      have LM : Box (nl m ≤ 20000) := box (by have : nl m ≤ 16384 := hy.1; omega)
      have LF : Box (nl f ≤ 20000) := box (by have : nl f ≤ 16384 := hy.2.1; omega)
      obtain ⟨E, hE⟩ : ∃ E, e - g = E := ⟨_, rfl⟩
      have n1 : IntKind.i64.wrap (e - g) = E := by rw [wrap_i64_is _ (by omega) (by omega), hE]
      have hr2 : (if nl (n * f) ≤ 16384 ∧ nl (d * m) ≤ 16384 then XMath.mk (b != c) (n * f) (d * m) E else (XZ, 4)) = (⟨rb, rn, rd, re⟩, err) := by
        rw [← hr, ← hE]
        unfold quoX
        rw [if_neg m0, if_neg n0]
      have oa := mul_odd _ _ o1 o4
      have ob := mul_odd _ _ o2 o3
      clear hr hE hx hy hs ht hp hq
      by_cases h1 : nl (n * f) ≤ 16384
      · obtain ⟨x, hx⟩ : ∃ x, nbA (n * f) = x := ⟨_, rfl⟩
        have HX := box (lg_ok (n * f) x h1 hx)
        by_cases h2 : nl (d * m) ≤ 16384
        · obtain ⟨y, hy⟩ : ∃ x, nbA (d * m) = x := ⟨_, rfl⟩
          have HY := box (lg_ok (d * m) y h2 hy)
          rw [if_pos ⟨h1, h2⟩] at hr2
          by_cases hin : -1048576 ≤ E ∧ E ≤ 1048576
          · have c1 : decide (E < -1048576) = false := decide_eq_false (by omega)
            have c2 : decide (1048576 < E) = false := decide_eq_false (by omega)
            have HF := box (fun w => rmake_ok (b != c) (n * f) (d * m) E x y rb rn rd re err u v hx hy h1 h2 (fun h => by rw [h] at ob; exact absurd ob (by decide)) hin.1 hin.2 hr2 hu hv w)
            clear hx hy h1 h2 hin hr2 hu hv oa ob n0 m0 h3 g3 o1 o2 o3 o4
            have Rx_0 : (((w.alloc (Obj.cells #[.bool b, .string s, .string t, .int .i64 e] 24)).alloc (Obj.cells #[.bool c, .string p, .string q, .int .i64 g] 24)).alloc (Obj.cells #[.bool false, .string ⟨#[]⟩, .string ⟨#[]⟩, .int .i64 0] 24)).heap[w.heap.size]? = some (Obj.cells #[.bool b, .string s, .string t, .int .i64 e] 24) := by rw [heap_below _ _ _ (by simp only [size_al]; omega), heap_below _ _ _ (by simp only [size_al]; omega)]; have := heap_alloc_last w (Obj.cells #[.bool b, .string s, .string t, .int .i64 e] 24); simpa only [size_al] using this
            have Ry_0 : (((w.alloc (Obj.cells #[.bool b, .string s, .string t, .int .i64 e] 24)).alloc (Obj.cells #[.bool c, .string p, .string q, .int .i64 g] 24)).alloc (Obj.cells #[.bool false, .string ⟨#[]⟩, .string ⟨#[]⟩, .int .i64 0] 24)).heap[w.heap.size + 1]? = some (Obj.cells #[.bool c, .string p, .string q, .int .i64 g] 24) := by rw [heap_below _ _ _ (by simp only [size_al]; omega)]; have := heap_alloc_last (w.alloc (Obj.cells #[.bool b, .string s, .string t, .int .i64 e] 24)) (Obj.cells #[.bool c, .string p, .string q, .int .i64 g] 24); simpa only [size_al] using this
            have Rz_0 : (((w.alloc (Obj.cells #[.bool b, .string s, .string t, .int .i64 e] 24)).alloc (Obj.cells #[.bool c, .string p, .string q, .int .i64 g] 24)).alloc (Obj.cells #[.bool false, .string ⟨#[]⟩, .string ⟨#[]⟩, .int .i64 0] 24)).heap[w.heap.size + 1 + 1]? = some (Obj.cells #[.bool false, .string ⟨#[]⟩, .string ⟨#[]⟩, .int .i64 0] 24) := by have := heap_alloc_last ((w.alloc (Obj.cells #[.bool b, .string s, .string t, .int .i64 e] 24)).alloc (Obj.cells #[.bool c, .string p, .string q, .int .i64 g] 24)) (Obj.cells #[.bool false, .string ⟨#[]⟩, .string ⟨#[]⟩, .int .i64 0] 24); simpa only [size_al] using this
            have B0 : Below w.heap.size w (((w.alloc (Obj.cells #[.bool b, .string s, .string t, .int .i64 e] 24)).alloc (Obj.cells #[.bool c, .string p, .string q, .int .i64 g] 24)).alloc (Obj.cells #[.bool false, .string ⟨#[]⟩, .string ⟨#[]⟩, .int .i64 0] 24)) := ((((Below.refl _ _).alloc (by first | omega | (simp only [size_al]; omega)) _).alloc (by first | omega | (simp only [size_al]; omega)) _).alloc (by first | omega | (simp only [size_al]; omega)) _)
            go_enter Tryd.func27, Tryd.ntmps27
            go_wp2_with fail
            refine (nat_Mul n f s q x 0 HS.out HQ.out HX.out LN.out LF.out _).mono ?_
            rintro r w1 ⟨rfl, b1⟩
            have B1 : Below w.heap.size w w1 := btr B0 b1
            have Rx_1 : w1.heap[w.heap.size]? = some (Obj.cells #[.bool b, .string s, .string t, .int .i64 e] 24) := heap_of b1 _ _ _ Rx_0
            have Ry_1 : w1.heap[w.heap.size + 1]? = some (Obj.cells #[.bool c, .string p, .string q, .int .i64 g] 24) := heap_of b1 _ _ _ Ry_0
            have Rz_1 : w1.heap[w.heap.size + 1 + 1]? = some (Obj.cells #[.bool false, .string ⟨#[]⟩, .string ⟨#[]⟩, .int .i64 0] 24) := heap_of b1 _ _ _ Rz_0
            clear b1 B0 Rx_0 Ry_0 Rz_0
            have cx_1_0 := cells4 Rx_1 0 _ rfl
            have cx_1_1 := cells4 Rx_1 1 _ rfl
            have cx_1_2 := cells4 Rx_1 2 _ rfl
            have cx_1_3 := cells4 Rx_1 3 _ rfl
            have cy_1_0 := cells4 Ry_1 0 _ rfl
            have cy_1_1 := cells4 Ry_1 1 _ rfl
            have cy_1_2 := cells4 Ry_1 2 _ rfl
            have cy_1_3 := cells4 Ry_1 3 _ rfl
            have cz_1_0 := cells4 Rz_1 0 _ rfl
            have cz_1_1 := cells4 Rz_1 1 _ rfl
            have cz_1_2 := cells4 Rz_1 2 _ rfl
            have cz_1_3 := cells4 Rz_1 3 _ rfl
            go_wp2_with fail
            refine (nat_Mul d m t p y 0 HT.out HP.out HY.out LD.out LM.out _).mono ?_
            rintro r w2 ⟨rfl, b2⟩
            have B2 : Below w.heap.size w w2 := btr B1 b2
            have Rx_2 : w2.heap[w.heap.size]? = some (Obj.cells #[.bool b, .string s, .string t, .int .i64 e] 24) := heap_of b2 _ _ _ Rx_1
            have Ry_2 : w2.heap[w.heap.size + 1]? = some (Obj.cells #[.bool c, .string p, .string q, .int .i64 g] 24) := heap_of b2 _ _ _ Ry_1
            have Rz_2 : w2.heap[w.heap.size + 1 + 1]? = some (Obj.cells #[.bool false, .string ⟨#[]⟩, .string ⟨#[]⟩, .int .i64 0] 24) := heap_of b2 _ _ _ Rz_1
            clear b2 B1 Rx_1 cx_1_0 cx_1_1 cx_1_2 cx_1_3 Ry_1 cy_1_0 cy_1_1 cy_1_2 cy_1_3 Rz_1 cz_1_0 cz_1_1 cz_1_2 cz_1_3
            have cx_2_0 := cells4 Rx_2 0 _ rfl
            have cx_2_1 := cells4 Rx_2 1 _ rfl
            have cx_2_2 := cells4 Rx_2 2 _ rfl
            have cx_2_3 := cells4 Rx_2 3 _ rfl
            have cy_2_0 := cells4 Ry_2 0 _ rfl
            have cy_2_1 := cells4 Ry_2 1 _ rfl
            have cy_2_2 := cells4 Ry_2 2 _ rfl
            have cy_2_3 := cells4 Ry_2 3 _ rfl
            have cz_2_0 := cells4 Rz_2 0 _ rfl
            have cz_2_1 := cells4 Rz_2 1 _ rfl
            have cz_2_2 := cells4 Rz_2 2 _ rfl
            have cz_2_3 := cells4 Rz_2 3 _ rfl
            go_wp2_with fail
            refine (HF.out _).mono ?_
            rintro r w3 ⟨rfl, b3⟩
            have B3 : Below w.heap.size w w3 := btr B2 b3
            have Rx_3 : w3.heap[w.heap.size]? = some (Obj.cells #[.bool b, .string s, .string t, .int .i64 e] 24) := heap_of b3 _ _ _ Rx_2
            have Ry_3 : w3.heap[w.heap.size + 1]? = some (Obj.cells #[.bool c, .string p, .string q, .int .i64 g] 24) := heap_of b3 _ _ _ Ry_2
            have Rz_3 : w3.heap[w.heap.size + 1 + 1]? = some (Obj.cells #[.bool false, .string ⟨#[]⟩, .string ⟨#[]⟩, .int .i64 0] 24) := heap_of b3 _ _ _ Rz_2
            clear b3 B2 Rx_2 cx_2_0 cx_2_1 cx_2_2 cx_2_3 Ry_2 cy_2_0 cy_2_1 cy_2_2 cy_2_3 Rz_2 cz_2_0 cz_2_1 cz_2_2 cz_2_3
            have cx_3_0 := cells4 Rx_3 0 _ rfl
            have cx_3_1 := cells4 Rx_3 1 _ rfl
            have cx_3_2 := cells4 Rx_3 2 _ rfl
            have cx_3_3 := cells4 Rx_3 3 _ rfl
            have cy_3_0 := cells4 Ry_3 0 _ rfl
            have cy_3_1 := cells4 Ry_3 1 _ rfl
            have cy_3_2 := cells4 Ry_3 2 _ rfl
            have cy_3_3 := cells4 Ry_3 3 _ rfl
            have cz_3_0 := cells4 Rz_3 0 _ rfl
            have cz_3_1 := cells4 Rz_3 1 _ rfl
            have cz_3_2 := cells4 Rz_3 2 _ rfl
            have cz_3_3 := cells4 Rz_3 3 _ rfl
            have q0 := fz (k := 0) Rz_3
            have q1 := fz (k := 1) Rz_3
            have q2 := fz (k := 2) Rz_3
            have q3 := fz (k := 3) Rz_3
            obtain ⟨E0, E1, E2, E3⟩ := set4_cells Rz_3 rfl (.bool rb) (.string u) (.string v) (.int .i64 re)
            go_wp2
            exact bodyPost_ret (v := .tuple #[.agg #[.bool rb, .string u, .string v, .int .i64 re], .int .i64 err]) (by simp [results, Tryd.results27, go_sem, E0, E1, E2, E3]) rfl ⟨rfl, set4_below B3 (by first | exact Nat.le_refl _ | omega) _ _ _ _⟩
          · rw [mk_out _ _ _ _ oa ob hin] at hr2
            obtain ⟨rfl, rfl, rfl, rfl, rfl⟩ := xz_is hr2
            rw [nbA_zero] at hu hv
            subst hu hv
            have c12 : decide (E < -1048576) = true ∨ (decide (E < -1048576) = false ∧ decide (1048576 < E) = true) := by
              by_cases hh : E < -1048576
              · exact Or.inl (decide_eq_true hh)
              · exact Or.inr ⟨decide_eq_false hh, decide_eq_true (by omega)⟩
            clear hx hy h1 h2 hin hr2 oa ob n0 m0 h3 g3 o1 o2 o3 o4
            rcases c12 with c1 | ⟨c1, c2⟩
            · have Rx_0 : (((w.alloc (Obj.cells #[.bool b, .string s, .string t, .int .i64 e] 24)).alloc (Obj.cells #[.bool c, .string p, .string q, .int .i64 g] 24)).alloc (Obj.cells #[.bool false, .string ⟨#[]⟩, .string ⟨#[]⟩, .int .i64 0] 24)).heap[w.heap.size]? = some (Obj.cells #[.bool b, .string s, .string t, .int .i64 e] 24) := by rw [heap_below _ _ _ (by simp only [size_al]; omega), heap_below _ _ _ (by simp only [size_al]; omega)]; have := heap_alloc_last w (Obj.cells #[.bool b, .string s, .string t, .int .i64 e] 24); simpa only [size_al] using this
              have Ry_0 : (((w.alloc (Obj.cells #[.bool b, .string s, .string t, .int .i64 e] 24)).alloc (Obj.cells #[.bool c, .string p, .string q, .int .i64 g] 24)).alloc (Obj.cells #[.bool false, .string ⟨#[]⟩, .string ⟨#[]⟩, .int .i64 0] 24)).heap[w.heap.size + 1]? = some (Obj.cells #[.bool c, .string p, .string q, .int .i64 g] 24) := by rw [heap_below _ _ _ (by simp only [size_al]; omega)]; have := heap_alloc_last (w.alloc (Obj.cells #[.bool b, .string s, .string t, .int .i64 e] 24)) (Obj.cells #[.bool c, .string p, .string q, .int .i64 g] 24); simpa only [size_al] using this
              have Rz_0 : (((w.alloc (Obj.cells #[.bool b, .string s, .string t, .int .i64 e] 24)).alloc (Obj.cells #[.bool c, .string p, .string q, .int .i64 g] 24)).alloc (Obj.cells #[.bool false, .string ⟨#[]⟩, .string ⟨#[]⟩, .int .i64 0] 24)).heap[w.heap.size + 1 + 1]? = some (Obj.cells #[.bool false, .string ⟨#[]⟩, .string ⟨#[]⟩, .int .i64 0] 24) := by have := heap_alloc_last ((w.alloc (Obj.cells #[.bool b, .string s, .string t, .int .i64 e] 24)).alloc (Obj.cells #[.bool c, .string p, .string q, .int .i64 g] 24)) (Obj.cells #[.bool false, .string ⟨#[]⟩, .string ⟨#[]⟩, .int .i64 0] 24); simpa only [size_al] using this
              have B0 : Below w.heap.size w (((w.alloc (Obj.cells #[.bool b, .string s, .string t, .int .i64 e] 24)).alloc (Obj.cells #[.bool c, .string p, .string q, .int .i64 g] 24)).alloc (Obj.cells #[.bool false, .string ⟨#[]⟩, .string ⟨#[]⟩, .int .i64 0] 24)) := ((((Below.refl _ _).alloc (by first | omega | (simp only [size_al]; omega)) _).alloc (by first | omega | (simp only [size_al]; omega)) _).alloc (by first | omega | (simp only [size_al]; omega)) _)
              go_enter Tryd.func27, Tryd.ntmps27
              go_wp2_with fail
              refine (nat_Mul n f s q x 0 HS.out HQ.out HX.out LN.out LF.out _).mono ?_
              rintro r w1 ⟨rfl, b1⟩
              have B1 : Below w.heap.size w w1 := btr B0 b1
              have Rx_1 : w1.heap[w.heap.size]? = some (Obj.cells #[.bool b, .string s, .string t, .int .i64 e] 24) := heap_of b1 _ _ _ Rx_0
              have Ry_1 : w1.heap[w.heap.size + 1]? = some (Obj.cells #[.bool c, .string p, .string q, .int .i64 g] 24) := heap_of b1 _ _ _ Ry_0
              have Rz_1 : w1.heap[w.heap.size + 1 + 1]? = some (Obj.cells #[.bool false, .string ⟨#[]⟩, .string ⟨#[]⟩, .int .i64 0] 24) := heap_of b1 _ _ _ Rz_0
              clear b1 B0 Rx_0 Ry_0 Rz_0
              have cx_1_0 := cells4 Rx_1 0 _ rfl
              have cx_1_1 := cells4 Rx_1 1 _ rfl
              have cx_1_2 := cells4 Rx_1 2 _ rfl
              have cx_1_3 := cells4 Rx_1 3 _ rfl
              have cy_1_0 := cells4 Ry_1 0 _ rfl
              have cy_1_1 := cells4 Ry_1 1 _ rfl
              have cy_1_2 := cells4 Ry_1 2 _ rfl
              have cy_1_3 := cells4 Ry_1 3 _ rfl
              have cz_1_0 := cells4 Rz_1 0 _ rfl
              have cz_1_1 := cells4 Rz_1 1 _ rfl
              have cz_1_2 := cells4 Rz_1 2 _ rfl
              have cz_1_3 := cells4 Rz_1 3 _ rfl
              go_wp2_with fail
              refine (nat_Mul d m t p y 0 HT.out HP.out HY.out LD.out LM.out _).mono ?_
              rintro r w2 ⟨rfl, b2⟩
              have B2 : Below w.heap.size w w2 := btr B1 b2
              have Rx_2 : w2.heap[w.heap.size]? = some (Obj.cells #[.bool b, .string s, .string t, .int .i64 e] 24) := heap_of b2 _ _ _ Rx_1
              have Ry_2 : w2.heap[w.heap.size + 1]? = some (Obj.cells #[.bool c, .string p, .string q, .int .i64 g] 24) := heap_of b2 _ _ _ Ry_1
              have Rz_2 : w2.heap[w.heap.size + 1 + 1]? = some (Obj.cells #[.bool false, .string ⟨#[]⟩, .string ⟨#[]⟩, .int .i64 0] 24) := heap_of b2 _ _ _ Rz_1
              clear b2 B1 Rx_1 cx_1_0 cx_1_1 cx_1_2 cx_1_3 Ry_1 cy_1_0 cy_1_1 cy_1_2 cy_1_3 Rz_1 cz_1_0 cz_1_1 cz_1_2 cz_1_3
              have cx_2_0 := cells4 Rx_2 0 _ rfl
              have cx_2_1 := cells4 Rx_2 1 _ rfl
              have cx_2_2 := cells4 Rx_2 2 _ rfl
              have cx_2_3 := cells4 Rx_2 3 _ rfl
              have cy_2_0 := cells4 Ry_2 0 _ rfl
              have cy_2_1 := cells4 Ry_2 1 _ rfl
              have cy_2_2 := cells4 Ry_2 2 _ rfl
              have cy_2_3 := cells4 Ry_2 3 _ rfl
              have cz_2_0 := cells4 Rz_2 0 _ rfl
              have cz_2_1 := cells4 Rz_2 1 _ rfl
              have cz_2_2 := cells4 Rz_2 2 _ rfl
              have cz_2_3 := cells4 Rz_2 3 _ rfl
              have q0 := fz (k := 0) Rz_2
              have q1 := fz (k := 1) Rz_2
              have q2 := fz (k := 2) Rz_2
              have q3 := fz (k := 3) Rz_2
              obtain ⟨E0, E1, E2, E3⟩ := set4_cells Rz_2 rfl (.bool false) (.string ⟨#[]⟩) (.string ⟨#[]⟩) (.int .i64 0)
              go_wp2
              exact bodyPost_ret (v := .tuple #[.agg #[.bool false, .string ⟨#[]⟩, .string ⟨#[]⟩, .int .i64 0], .int .i64 4]) (by simp [results, Tryd.results27, go_sem, E0, E1, E2, E3]) rfl ⟨rfl, set4_below B2 (by first | exact Nat.le_refl _ | omega) _ _ _ _⟩
            · have Rx_0 : (((w.alloc (Obj.cells #[.bool b, .string s, .string t, .int .i64 e] 24)).alloc (Obj.cells #[.bool c, .string p, .string q, .int .i64 g] 24)).alloc (Obj.cells #[.bool false, .string ⟨#[]⟩, .string ⟨#[]⟩, .int .i64 0] 24)).heap[w.heap.size]? = some (Obj.cells #[.bool b, .string s, .string t, .int .i64 e] 24) := by rw [heap_below _ _ _ (by simp only [size_al]; omega), heap_below _ _ _ (by simp only [size_al]; omega)]; have := heap_alloc_last w (Obj.cells #[.bool b, .string s, .string t, .int .i64 e] 24); simpa only [size_al] using this
              have Ry_0 : (((w.alloc (Obj.cells #[.bool b, .string s, .string t, .int .i64 e] 24)).alloc (Obj.cells #[.bool c, .string p, .string q, .int .i64 g] 24)).alloc (Obj.cells #[.bool false, .string ⟨#[]⟩, .string ⟨#[]⟩, .int .i64 0] 24)).heap[w.heap.size + 1]? = some (Obj.cells #[.bool c, .string p, .string q, .int .i64 g] 24) := by rw [heap_below _ _ _ (by simp only [size_al]; omega)]; have := heap_alloc_last (w.alloc (Obj.cells #[.bool b, .string s, .string t, .int .i64 e] 24)) (Obj.cells #[.bool c, .string p, .string q, .int .i64 g] 24); simpa only [size_al] using this
              have Rz_0 : (((w.alloc (Obj.cells #[.bool b, .string s, .string t, .int .i64 e] 24)).alloc (Obj.cells #[.bool c, .string p, .string q, .int .i64 g] 24)).alloc (Obj.cells #[.bool false, .string ⟨#[]⟩, .string ⟨#[]⟩, .int .i64 0] 24)).heap[w.heap.size + 1 + 1]? = some (Obj.cells #[.bool false, .string ⟨#[]⟩, .string ⟨#[]⟩, .int .i64 0] 24) := by have := heap_alloc_last ((w.alloc (Obj.cells #[.bool b, .string s, .string t, .int .i64 e] 24)).alloc (Obj.cells #[.bool c, .string p, .string q, .int .i64 g] 24)) (Obj.cells #[.bool false, .string ⟨#[]⟩, .string ⟨#[]⟩, .int .i64 0] 24); simpa only [size_al] using this
              have B0 : Below w.heap.size w (((w.alloc (Obj.cells #[.bool b, .string s, .string t, .int .i64 e] 24)).alloc (Obj.cells #[.bool c, .string p, .string q, .int .i64 g] 24)).alloc (Obj.cells #[.bool false, .string ⟨#[]⟩, .string ⟨#[]⟩, .int .i64 0] 24)) := ((((Below.refl _ _).alloc (by first | omega | (simp only [size_al]; omega)) _).alloc (by first | omega | (simp only [size_al]; omega)) _).alloc (by first | omega | (simp only [size_al]; omega)) _)
              go_enter Tryd.func27, Tryd.ntmps27
              go_wp2_with fail
              refine (nat_Mul n f s q x 0 HS.out HQ.out HX.out LN.out LF.out _).mono ?_
              rintro r w1 ⟨rfl, b1⟩
              have B1 : Below w.heap.size w w1 := btr B0 b1
              have Rx_1 : w1.heap[w.heap.size]? = some (Obj.cells #[.bool b, .string s, .string t, .int .i64 e] 24) := heap_of b1 _ _ _ Rx_0
              have Ry_1 : w1.heap[w.heap.size + 1]? = some (Obj.cells #[.bool c, .string p, .string q, .int .i64 g] 24) := heap_of b1 _ _ _ Ry_0
              have Rz_1 : w1.heap[w.heap.size + 1 + 1]? = some (Obj.cells #[.bool false, .string ⟨#[]⟩, .string ⟨#[]⟩, .int .i64 0] 24) := heap_of b1 _ _ _ Rz_0
              clear b1 B0 Rx_0 Ry_0 Rz_0
              have cx_1_0 := cells4 Rx_1 0 _ rfl
              have cx_1_1 := cells4 Rx_1 1 _ rfl
              have cx_1_2 := cells4 Rx_1 2 _ rfl
              have cx_1_3 := cells4 Rx_1 3 _ rfl
              have cy_1_0 := cells4 Ry_1 0 _ rfl
              have cy_1_1 := cells4 Ry_1 1 _ rfl
              have cy_1_2 := cells4 Ry_1 2 _ rfl
              have cy_1_3 := cells4 Ry_1 3 _ rfl
              have cz_1_0 := cells4 Rz_1 0 _ rfl
              have cz_1_1 := cells4 Rz_1 1 _ rfl
              have cz_1_2 := cells4 Rz_1 2 _ rfl
              have cz_1_3 := cells4 Rz_1 3 _ rfl
              go_wp2_with fail
              refine (nat_Mul d m t p y 0 HT.out HP.out HY.out LD.out LM.out _).mono ?_
              rintro r w2 ⟨rfl, b2⟩
              have B2 : Below w.heap.size w w2 := btr B1 b2
              have Rx_2 : w2.heap[w.heap.size]? = some (Obj.cells #[.bool b, .string s, .string t, .int .i64 e] 24) := heap_of b2 _ _ _ Rx_1
              have Ry_2 : w2.heap[w.heap.size + 1]? = some (Obj.cells #[.bool c, .string p, .string q, .int .i64 g] 24) := heap_of b2 _ _ _ Ry_1
              have Rz_2 : w2.heap[w.heap.size + 1 + 1]? = some (Obj.cells #[.bool false, .string ⟨#[]⟩, .string ⟨#[]⟩, .int .i64 0] 24) := heap_of b2 _ _ _ Rz_1
              clear b2 B1 Rx_1 cx_1_0 cx_1_1 cx_1_2 cx_1_3 Ry_1 cy_1_0 cy_1_1 cy_1_2 cy_1_3 Rz_1 cz_1_0 cz_1_1 cz_1_2 cz_1_3
              have cx_2_0 := cells4 Rx_2 0 _ rfl
              have cx_2_1 := cells4 Rx_2 1 _ rfl
              have cx_2_2 := cells4 Rx_2 2 _ rfl
              have cx_2_3 := cells4 Rx_2 3 _ rfl
              have cy_2_0 := cells4 Ry_2 0 _ rfl
              have cy_2_1 := cells4 Ry_2 1 _ rfl
              have cy_2_2 := cells4 Ry_2 2 _ rfl
              have cy_2_3 := cells4 Ry_2 3 _ rfl
              have cz_2_0 := cells4 Rz_2 0 _ rfl
              have cz_2_1 := cells4 Rz_2 1 _ rfl
              have cz_2_2 := cells4 Rz_2 2 _ rfl
              have cz_2_3 := cells4 Rz_2 3 _ rfl
              have q0 := fz (k := 0) Rz_2
              have q1 := fz (k := 1) Rz_2
              have q2 := fz (k := 2) Rz_2
              have q3 := fz (k := 3) Rz_2
              obtain ⟨E0, E1, E2, E3⟩ := set4_cells Rz_2 rfl (.bool false) (.string ⟨#[]⟩) (.string ⟨#[]⟩) (.int .i64 0)
              go_wp2
              exact bodyPost_ret (v := .tuple #[.agg #[.bool false, .string ⟨#[]⟩, .string ⟨#[]⟩, .int .i64 0], .int .i64 4]) (by simp [results, Tryd.results27, go_sem, E0, E1, E2, E3]) rfl ⟨rfl, set4_below B2 (by first | exact Nat.le_refl _ | omega) _ _ _ _⟩
        · have HY := box (lg_no' (d * m) h2)
          rw [if_neg (fun h => h2 h.2)] at hr2
          obtain ⟨rfl, rfl, rfl, rfl, rfl⟩ := xz_is hr2
          rw [nbA_zero] at hu hv
          subst hu hv
          clear hx h1 h2 hr2 oa ob n0 m0 h3 g3 o1 o2 o3 o4
          have Rx_0 : (((w.alloc (Obj.cells #[.bool b, .string s, .string t, .int .i64 e] 24)).alloc (Obj.cells #[.bool c, .string p, .string q, .int .i64 g] 24)).alloc (Obj.cells #[.bool false, .string ⟨#[]⟩, .string ⟨#[]⟩, .int .i64 0] 24)).heap[w.heap.size]? = some (Obj.cells #[.bool b, .string s, .string t, .int .i64 e] 24) := by rw [heap_below _ _ _ (by simp only [size_al]; omega), heap_below _ _ _ (by simp only [size_al]; omega)]; have := heap_alloc_last w (Obj.cells #[.bool b, .string s, .string t, .int .i64 e] 24); simpa only [size_al] using this
          have Ry_0 : (((w.alloc (Obj.cells #[.bool b, .string s, .string t, .int .i64 e] 24)).alloc (Obj.cells #[.bool c, .string p, .string q, .int .i64 g] 24)).alloc (Obj.cells #[.bool false, .string ⟨#[]⟩, .string ⟨#[]⟩, .int .i64 0] 24)).heap[w.heap.size + 1]? = some (Obj.cells #[.bool c, .string p, .string q, .int .i64 g] 24) := by rw [heap_below _ _ _ (by simp only [size_al]; omega)]; have := heap_alloc_last (w.alloc (Obj.cells #[.bool b, .string s, .string t, .int .i64 e] 24)) (Obj.cells #[.bool c, .string p, .string q, .int .i64 g] 24); simpa only [size_al] using this
          have Rz_0 : (((w.alloc (Obj.cells #[.bool b, .string s, .string t, .int .i64 e] 24)).alloc (Obj.cells #[.bool c, .string p, .string q, .int .i64 g] 24)).alloc (Obj.cells #[.bool false, .string ⟨#[]⟩, .string ⟨#[]⟩, .int .i64 0] 24)).heap[w.heap.size + 1 + 1]? = some (Obj.cells #[.bool false, .string ⟨#[]⟩, .string ⟨#[]⟩, .int .i64 0] 24) := by have := heap_alloc_last ((w.alloc (Obj.cells #[.bool b, .string s, .string t, .int .i64 e] 24)).alloc (Obj.cells #[.bool c, .string p, .string q, .int .i64 g] 24)) (Obj.cells #[.bool false, .string ⟨#[]⟩, .string ⟨#[]⟩, .int .i64 0] 24); simpa only [size_al] using this
          have B0 : Below w.heap.size w (((w.alloc (Obj.cells #[.bool b, .string s, .string t, .int .i64 e] 24)).alloc (Obj.cells #[.bool c, .string p, .string q, .int .i64 g] 24)).alloc (Obj.cells #[.bool false, .string ⟨#[]⟩, .string ⟨#[]⟩, .int .i64 0] 24)) := ((((Below.refl _ _).alloc (by first | omega | (simp only [size_al]; omega)) _).alloc (by first | omega | (simp only [size_al]; omega)) _).alloc (by first | omega | (simp only [size_al]; omega)) _)
          go_enter Tryd.func27, Tryd.ntmps27
          go_wp2_with fail
          refine (nat_Mul n f s q x 0 HS.out HQ.out HX.out LN.out LF.out _).mono ?_
          rintro r w1 ⟨rfl, b1⟩
          have B1 : Below w.heap.size w w1 := btr B0 b1
          have Rx_1 : w1.heap[w.heap.size]? = some (Obj.cells #[.bool b, .string s, .string t, .int .i64 e] 24) := heap_of b1 _ _ _ Rx_0
          have Ry_1 : w1.heap[w.heap.size + 1]? = some (Obj.cells #[.bool c, .string p, .string q, .int .i64 g] 24) := heap_of b1 _ _ _ Ry_0
          have Rz_1 : w1.heap[w.heap.size + 1 + 1]? = some (Obj.cells #[.bool false, .string ⟨#[]⟩, .string ⟨#[]⟩, .int .i64 0] 24) := heap_of b1 _ _ _ Rz_0
          clear b1 B0 Rx_0 Ry_0 Rz_0
          have cx_1_0 := cells4 Rx_1 0 _ rfl
          have cx_1_1 := cells4 Rx_1 1 _ rfl
          have cx_1_2 := cells4 Rx_1 2 _ rfl
          have cx_1_3 := cells4 Rx_1 3 _ rfl
          have cy_1_0 := cells4 Ry_1 0 _ rfl
          have cy_1_1 := cells4 Ry_1 1 _ rfl
          have cy_1_2 := cells4 Ry_1 2 _ rfl
          have cy_1_3 := cells4 Ry_1 3 _ rfl
          have cz_1_0 := cells4 Rz_1 0 _ rfl
          have cz_1_1 := cells4 Rz_1 1 _ rfl
          have cz_1_2 := cells4 Rz_1 2 _ rfl
          have cz_1_3 := cells4 Rz_1 3 _ rfl
          go_wp2_with fail
          refine (nat_Mul d m t p _ 4 HT.out HP.out HY.out LD.out LM.out _).mono ?_
          rintro r w2 ⟨rfl, b2⟩
          have B2 : Below w.heap.size w w2 := btr B1 b2
          have Rx_2 : w2.heap[w.heap.size]? = some (Obj.cells #[.bool b, .string s, .string t, .int .i64 e] 24) := heap_of b2 _ _ _ Rx_1
          have Ry_2 : w2.heap[w.heap.size + 1]? = some (Obj.cells #[.bool c, .string p, .string q, .int .i64 g] 24) := heap_of b2 _ _ _ Ry_1
          have Rz_2 : w2.heap[w.heap.size + 1 + 1]? = some (Obj.cells #[.bool false, .string ⟨#[]⟩, .string ⟨#[]⟩, .int .i64 0] 24) := heap_of b2 _ _ _ Rz_1
          clear b2 B1 Rx_1 cx_1_0 cx_1_1 cx_1_2 cx_1_3 Ry_1 cy_1_0 cy_1_1 cy_1_2 cy_1_3 Rz_1 cz_1_0 cz_1_1 cz_1_2 cz_1_3
          have cx_2_0 := cells4 Rx_2 0 _ rfl
          have cx_2_1 := cells4 Rx_2 1 _ rfl
          have cx_2_2 := cells4 Rx_2 2 _ rfl
          have cx_2_3 := cells4 Rx_2 3 _ rfl
          have cy_2_0 := cells4 Ry_2 0 _ rfl
          have cy_2_1 := cells4 Ry_2 1 _ rfl
          have cy_2_2 := cells4 Ry_2 2 _ rfl
          have cy_2_3 := cells4 Ry_2 3 _ rfl
          have cz_2_0 := cells4 Rz_2 0 _ rfl
          have cz_2_1 := cells4 Rz_2 1 _ rfl
          have cz_2_2 := cells4 Rz_2 2 _ rfl
          have cz_2_3 := cells4 Rz_2 3 _ rfl
          have q0 := fz (k := 0) Rz_2
          have q1 := fz (k := 1) Rz_2
          have q2 := fz (k := 2) Rz_2
          have q3 := fz (k := 3) Rz_2
          obtain ⟨E0, E1, E2, E3⟩ := set4_cells Rz_2 rfl (.bool false) (.string ⟨#[]⟩) (.string ⟨#[]⟩) (.int .i64 0)
          go_wp2
          exact bodyPost_ret (v := .tuple #[.agg #[.bool false, .string ⟨#[]⟩, .string ⟨#[]⟩, .int .i64 0], .int .i64 4]) (by simp [results, Tryd.results27, go_sem, E0, E1, E2, E3]) rfl ⟨rfl, set4_below B2 (by first | exact Nat.le_refl _ | omega) _ _ _ _⟩
      · have HX := box (lg_no' (n * f) h1)
        obtain ⟨y, ff, hy⟩ : ∃ y ff, lg (d * m) = (y, ff) := ⟨_, _, rfl⟩
        have HY := box hy
        rw [if_neg (fun h => h1 h.1)] at hr2
        obtain ⟨rfl, rfl, rfl, rfl, rfl⟩ := xz_is hr2
        rw [nbA_zero] at hu hv
        subst hu hv
        clear hy h1 hr2 oa ob n0 m0 h3 g3 o1 o2 o3 o4
        have Rx_0 : (((w.alloc (Obj.cells #[.bool b, .string s, .string t, .int .i64 e] 24)).alloc (Obj.cells #[.bool c, .string p, .string q, .int .i64 g] 24)).alloc (Obj.cells #[.bool false, .string ⟨#[]⟩, .string ⟨#[]⟩, .int .i64 0] 24)).heap[w.heap.size]? = some (Obj.cells #[.bool b, .string s, .string t, .int .i64 e] 24) := by rw [heap_below _ _ _ (by simp only [size_al]; omega), heap_below _ _ _ (by simp only [size_al]; omega)]; have := heap_alloc_last w (Obj.cells #[.bool b, .string s, .string t, .int .i64 e] 24); simpa only [size_al] using this
        have Ry_0 : (((w.alloc (Obj.cells #[.bool b, .string s, .string t, .int .i64 e] 24)).alloc (Obj.cells #[.bool c, .string p, .string q, .int .i64 g] 24)).alloc (Obj.cells #[.bool false, .string ⟨#[]⟩, .string ⟨#[]⟩, .int .i64 0] 24)).heap[w.heap.size + 1]? = some (Obj.cells #[.bool c, .string p, .string q, .int .i64 g] 24) := by rw [heap_below _ _ _ (by simp only [size_al]; omega)]; have := heap_alloc_last (w.alloc (Obj.cells #[.bool b, .string s, .string t, .int .i64 e] 24)) (Obj.cells #[.bool c, .string p, .string q, .int .i64 g] 24); simpa only [size_al] using this
        have Rz_0 : (((w.alloc (Obj.cells #[.bool b, .string s, .string t, .int .i64 e] 24)).alloc (Obj.cells #[.bool c, .string p, .string q, .int .i64 g] 24)).alloc (Obj.cells #[.bool false, .string ⟨#[]⟩, .string ⟨#[]⟩, .int .i64 0] 24)).heap[w.heap.size + 1 + 1]? = some (Obj.cells #[.bool false, .string ⟨#[]⟩, .string ⟨#[]⟩, .int .i64 0] 24) := by have := heap_alloc_last ((w.alloc (Obj.cells #[.bool b, .string s, .string t, .int .i64 e] 24)).alloc (Obj.cells #[.bool c, .string p, .string q, .int .i64 g] 24)) (Obj.cells #[.bool false, .string ⟨#[]⟩, .string ⟨#[]⟩, .int .i64 0] 24); simpa only [size_al] using this
        have B0 : Below w.heap.size w (((w.alloc (Obj.cells #[.bool b, .string s, .string t, .int .i64 e] 24)).alloc (Obj.cells #[.bool c, .string p, .string q, .int .i64 g] 24)).alloc (Obj.cells #[.bool false, .string ⟨#[]⟩, .string ⟨#[]⟩, .int .i64 0] 24)) := ((((Below.refl _ _).alloc (by first | omega | (simp only [size_al]; omega)) _).alloc (by first | omega | (simp only [size_al]; omega)) _).alloc (by first | omega | (simp only [size_al]; omega)) _)
        go_enter Tryd.func27, Tryd.ntmps27
        go_wp2_with fail
        refine (nat_Mul n f s q _ 4 HS.out HQ.out HX.out LN.out LF.out _).mono ?_
        rintro r w1 ⟨rfl, b1⟩
        have B1 : Below w.heap.size w w1 := btr B0 b1
        have Rx_1 : w1.heap[w.heap.size]? = some (Obj.cells #[.bool b, .string s, .string t, .int .i64 e] 24) := heap_of b1 _ _ _ Rx_0
        have Ry_1 : w1.heap[w.heap.size + 1]? = some (Obj.cells #[.bool c, .string p, .string q, .int .i64 g] 24) := heap_of b1 _ _ _ Ry_0
        have Rz_1 : w1.heap[w.heap.size + 1 + 1]? = some (Obj.cells #[.bool false, .string ⟨#[]⟩, .string ⟨#[]⟩, .int .i64 0] 24) := heap_of b1 _ _ _ Rz_0
        clear b1 B0 Rx_0 Ry_0 Rz_0
        have cx_1_0 := cells4 Rx_1 0 _ rfl
        have cx_1_1 := cells4 Rx_1 1 _ rfl
        have cx_1_2 := cells4 Rx_1 2 _ rfl
        have cx_1_3 := cells4 Rx_1 3 _ rfl
        have cy_1_0 := cells4 Ry_1 0 _ rfl
        have cy_1_1 := cells4 Ry_1 1 _ rfl
        have cy_1_2 := cells4 Ry_1 2 _ rfl
        have cy_1_3 := cells4 Ry_1 3 _ rfl
        have cz_1_0 := cells4 Rz_1 0 _ rfl
        have cz_1_1 := cells4 Rz_1 1 _ rfl
        have cz_1_2 := cells4 Rz_1 2 _ rfl
        have cz_1_3 := cells4 Rz_1 3 _ rfl
        go_wp2_with fail
        refine (nat_Mul d m t p y ff HT.out HP.out HY.out LD.out LM.out _).mono ?_
        rintro r w2 ⟨rfl, b2⟩
        have B2 : Below w.heap.size w w2 := btr B1 b2
        have Rx_2 : w2.heap[w.heap.size]? = some (Obj.cells #[.bool b, .string s, .string t, .int .i64 e] 24) := heap_of b2 _ _ _ Rx_1
        have Ry_2 : w2.heap[w.heap.size + 1]? = some (Obj.cells #[.bool c, .string p, .string q, .int .i64 g] 24) := heap_of b2 _ _ _ Ry_1
        have Rz_2 : w2.heap[w.heap.size + 1 + 1]? = some (Obj.cells #[.bool false, .string ⟨#[]⟩, .string ⟨#[]⟩, .int .i64 0] 24) := heap_of b2 _ _ _ Rz_1
        clear b2 B1 Rx_1 cx_1_0 cx_1_1 cx_1_2 cx_1_3 Ry_1 cy_1_0 cy_1_1 cy_1_2 cy_1_3 Rz_1 cz_1_0 cz_1_1 cz_1_2 cz_1_3
        have cx_2_0 := cells4 Rx_2 0 _ rfl
        have cx_2_1 := cells4 Rx_2 1 _ rfl
        have cx_2_2 := cells4 Rx_2 2 _ rfl
        have cx_2_3 := cells4 Rx_2 3 _ rfl
        have cy_2_0 := cells4 Ry_2 0 _ rfl
        have cy_2_1 := cells4 Ry_2 1 _ rfl
        have cy_2_2 := cells4 Ry_2 2 _ rfl
        have cy_2_3 := cells4 Ry_2 3 _ rfl
        have cz_2_0 := cells4 Rz_2 0 _ rfl
        have cz_2_1 := cells4 Rz_2 1 _ rfl
        have cz_2_2 := cells4 Rz_2 2 _ rfl
        have cz_2_3 := cells4 Rz_2 3 _ rfl
        have q0 := fz (k := 0) Rz_2
        have q1 := fz (k := 1) Rz_2
        have q2 := fz (k := 2) Rz_2
        have q3 := fz (k := 3) Rz_2
        obtain ⟨E0, E1, E2, E3⟩ := set4_cells Rz_2 rfl (.bool false) (.string ⟨#[]⟩) (.string ⟨#[]⟩) (.int .i64 0)
        go_wp2
        exact bodyPost_ret (v := .tuple #[.agg #[.bool false, .string ⟨#[]⟩, .string ⟨#[]⟩, .int .i64 0], .int .i64 4]) (by simp [results, Tryd.results27, go_sem, E0, E1, E2, E3]) rfl ⟨rfl, set4_below B2 (by first | exact Nat.le_refl _ | omega) _ _ _ _⟩
end Go.Proofs.YthiongcednmjiaaDoor
