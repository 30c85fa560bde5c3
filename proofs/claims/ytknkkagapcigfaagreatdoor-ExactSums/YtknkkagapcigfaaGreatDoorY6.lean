/-
  What the functions Add, sign and Cmp of the document's answer for layer 6 return.
-/
import Derived.Test.YtknkkagapcigfaaGreatDoorY5
import Derived.Test.YtknkkagapcigfaaGreatDoorX13
namespace Go.Proofs.YtknkkagapcigfaaGreatDoor
open Go.RowKit WMath XMath

set_option maxRecDepth 100000 in
set_option maxHeartbeats 4000000 in
theorem rAdd_ok (b : Bool) (n d : Nat) (e : Int) (s t : ByteArray) (c : Bool) (m f : Nat) (g : Int) (p q : ByteArray) (rb : Bool) (rn rd : Nat) (re err : Int) (u v : ByteArray)
    (hs : nbA n = s) (ht : nbA d = t) (hp : nbA m = p) (hq : nbA f = q) (hx : (XN.mk b n d e).can) (hy : (XN.mk c m f g).can) (hr : addX (XN.mk b n d e) (XN.mk c m f g) = (⟨rb, rn, rd, re⟩, err)) (hu : nbA rn = u) (hv : nbA rd = v) (w : World) :
    Calls Tryz.prog 11 #[.agg #[.bool b, .string s, .string t, .int .i64 e], .agg #[.bool c, .string p, .string q, .int .i64 g]] w fun r w' => r = .returned (.tuple #[.agg #[.bool rb, .string u, .string v, .int .i64 re], .int .i64 err]) ∧ Below w.heap.size w w' := by
  unfold addX at hr
  rcases x_cases hs ht hx with ⟨n0, rfl, rfl, rfl, rfl, rfl⟩ | ⟨n0, e0⟩
  · rw [if_pos n0] at hr
    injection hr with h1 h2
    injection h1 with a1 a2 a3 a4
    subst a1 a2 a3 a4 h2
    rw [hp] at hu
    rw [hq] at hv
    subst hu hv
    clear hs ht hp hq hx hy n0
    have Rx_0 : (((w.alloc (Obj.cells #[.bool false, .string ⟨#[]⟩, .string ⟨#[1]⟩, .int .i64 0] 24)).alloc (Obj.cells #[.bool c, .string p, .string q, .int .i64 g] 24)).alloc (Obj.cells #[.bool false, .string ⟨#[]⟩, .string ⟨#[]⟩, .int .i64 0] 24)).heap[w.heap.size]? = some (Obj.cells #[.bool false, .string ⟨#[]⟩, .string ⟨#[1]⟩, .int .i64 0] 24) := by rw [heap_below _ _ _ (by simp only [size_al]; omega), heap_below _ _ _ (by simp only [size_al]; omega)]; have := heap_alloc_last w (Obj.cells #[.bool false, .string ⟨#[]⟩, .string ⟨#[1]⟩, .int .i64 0] 24); simpa only [size_al] using this
    have Ry_0 : (((w.alloc (Obj.cells #[.bool false, .string ⟨#[]⟩, .string ⟨#[1]⟩, .int .i64 0] 24)).alloc (Obj.cells #[.bool c, .string p, .string q, .int .i64 g] 24)).alloc (Obj.cells #[.bool false, .string ⟨#[]⟩, .string ⟨#[]⟩, .int .i64 0] 24)).heap[w.heap.size + 1]? = some (Obj.cells #[.bool c, .string p, .string q, .int .i64 g] 24) := by rw [heap_below _ _ _ (by simp only [size_al]; omega)]; have := heap_alloc_last (w.alloc (Obj.cells #[.bool false, .string ⟨#[]⟩, .string ⟨#[1]⟩, .int .i64 0] 24)) (Obj.cells #[.bool c, .string p, .string q, .int .i64 g] 24); simpa only [size_al] using this
    have Rz_0 : (((w.alloc (Obj.cells #[.bool false, .string ⟨#[]⟩, .string ⟨#[1]⟩, .int .i64 0] 24)).alloc (Obj.cells #[.bool c, .string p, .string q, .int .i64 g] 24)).alloc (Obj.cells #[.bool false, .string ⟨#[]⟩, .string ⟨#[]⟩, .int .i64 0] 24)).heap[w.heap.size + 1 + 1]? = some (Obj.cells #[.bool false, .string ⟨#[]⟩, .string ⟨#[]⟩, .int .i64 0] 24) := by have := heap_alloc_last ((w.alloc (Obj.cells #[.bool false, .string ⟨#[]⟩, .string ⟨#[1]⟩, .int .i64 0] 24)).alloc (Obj.cells #[.bool c, .string p, .string q, .int .i64 g] 24)) (Obj.cells #[.bool false, .string ⟨#[]⟩, .string ⟨#[]⟩, .int .i64 0] 24); simpa only [size_al] using this
    have B0 : Below w.heap.size w (((w.alloc (Obj.cells #[.bool false, .string ⟨#[]⟩, .string ⟨#[1]⟩, .int .i64 0] 24)).alloc (Obj.cells #[.bool c, .string p, .string q, .int .i64 g] 24)).alloc (Obj.cells #[.bool false, .string ⟨#[]⟩, .string ⟨#[]⟩, .int .i64 0] 24)) := ((((Below.refl _ _).alloc (by first | omega | (simp only [size_al]; omega)) _).alloc (by first | omega | (simp only [size_al]; omega)) _).alloc (by first | omega | (simp only [size_al]; omega)) _)
    go_enter Tryz.func11, Tryz.ntmps11
    clear B0 Rx_0 Ry_0 Rz_0
    go_wp2
    exact bodyPost_ret (v := .tuple #[.agg #[.bool c, .string p, .string q, .int .i64 g], .int .i64 0]) (by simp [results, Tryz.results11, go_sem]) rfl ⟨rfl, ((((Below.refl _ _).alloc (by first | omega | (simp only [size_al]; omega)) _).alloc (by first | omega | (simp only [size_al]; omega)) _).alloc (by first | omega | (simp only [size_al]; omega)) _)⟩
  · rw [if_neg n0] at hr
    rcases x_cases hp hq hy with ⟨m0, rfl, rfl, rfl, rfl, rfl⟩ | ⟨m0, e1⟩
    · rw [if_pos m0] at hr
      injection hr with h1 h2
      injection h1 with a1 a2 a3 a4
      subst a1 a2 a3 a4 h2
      rw [hs] at hu
      rw [ht] at hv
      subst hu hv
      clear hs ht hp hq hx hy n0 m0
      have Rx_0 : (((w.alloc (Obj.cells #[.bool b, .string s, .string t, .int .i64 e] 24)).alloc (Obj.cells #[.bool false, .string ⟨#[]⟩, .string ⟨#[1]⟩, .int .i64 0] 24)).alloc (Obj.cells #[.bool false, .string ⟨#[]⟩, .string ⟨#[]⟩, .int .i64 0] 24)).heap[w.heap.size]? = some (Obj.cells #[.bool b, .string s, .string t, .int .i64 e] 24) := by rw [heap_below _ _ _ (by simp only [size_al]; omega), heap_below _ _ _ (by simp only [size_al]; omega)]; have := heap_alloc_last w (Obj.cells #[.bool b, .string s, .string t, .int .i64 e] 24); simpa only [size_al] using this
      have Ry_0 : (((w.alloc (Obj.cells #[.bool b, .string s, .string t, .int .i64 e] 24)).alloc (Obj.cells #[.bool false, .string ⟨#[]⟩, .string ⟨#[1]⟩, .int .i64 0] 24)).alloc (Obj.cells #[.bool false, .string ⟨#[]⟩, .string ⟨#[]⟩, .int .i64 0] 24)).heap[w.heap.size + 1]? = some (Obj.cells #[.bool false, .string ⟨#[]⟩, .string ⟨#[1]⟩, .int .i64 0] 24) := by rw [heap_below _ _ _ (by simp only [size_al]; omega)]; have := heap_alloc_last (w.alloc (Obj.cells #[.bool b, .string s, .string t, .int .i64 e] 24)) (Obj.cells #[.bool false, .string ⟨#[]⟩, .string ⟨#[1]⟩, .int .i64 0] 24); simpa only [size_al] using this
      have Rz_0 : (((w.alloc (Obj.cells #[.bool b, .string s, .string t, .int .i64 e] 24)).alloc (Obj.cells #[.bool false, .string ⟨#[]⟩, .string ⟨#[1]⟩, .int .i64 0] 24)).alloc (Obj.cells #[.bool false, .string ⟨#[]⟩, .string ⟨#[]⟩, .int .i64 0] 24)).heap[w.heap.size + 1 + 1]? = some (Obj.cells #[.bool false, .string ⟨#[]⟩, .string ⟨#[]⟩, .int .i64 0] 24) := by have := heap_alloc_last ((w.alloc (Obj.cells #[.bool b, .string s, .string t, .int .i64 e] 24)).alloc (Obj.cells #[.bool false, .string ⟨#[]⟩, .string ⟨#[1]⟩, .int .i64 0] 24)) (Obj.cells #[.bool false, .string ⟨#[]⟩, .string ⟨#[]⟩, .int .i64 0] 24); simpa only [size_al] using this
      have B0 : Below w.heap.size w (((w.alloc (Obj.cells #[.bool b, .string s, .string t, .int .i64 e] 24)).alloc (Obj.cells #[.bool false, .string ⟨#[]⟩, .string ⟨#[1]⟩, .int .i64 0] 24)).alloc (Obj.cells #[.bool false, .string ⟨#[]⟩, .string ⟨#[]⟩, .int .i64 0] 24)) := ((((Below.refl _ _).alloc (by first | omega | (simp only [size_al]; omega)) _).alloc (by first | omega | (simp only [size_al]; omega)) _).alloc (by first | omega | (simp only [size_al]; omega)) _)
      go_enter Tryz.func11, Tryz.ntmps11
      clear B0 Rx_0 Ry_0 Rz_0
      go_wp2
      exact bodyPost_ret (v := .tuple #[.agg #[.bool b, .string s, .string t, .int .i64 e], .int .i64 0]) (by simp [results, Tryz.results11, go_sem]) rfl ⟨rfl, ((((Below.refl _ _).alloc (by first | omega | (simp only [size_al]; omega)) _).alloc (by first | omega | (simp only [size_al]; omega)) _).alloc (by first | omega | (simp only [size_al]; omega)) _)⟩
    · rw [if_neg m0] at hr
      have ha : -1048576 ≤ e ∧ e ≤ 1048576 ∧ -1048576 ≤ g ∧ g ≤ 1048576 := ⟨hx.2.2.1, hx.2.2.2.1, hy.2.2.1, hy.2.2.2.1⟩
      have l1 : nl n ≤ 16384 := hx.1
      have l2 : nl d ≤ 16384 := hx.2.1
      have l3 : nl m ≤ 16384 := hy.1
      have l4 : nl f ≤ 16384 := hy.2.1
      have d1 : d ≠ 0 := hx.d0
      have d2 : f ≠ 0 := hy.d0
      obtain ⟨A, hA⟩ : ∃ A, XMath.sA (XN.mk b n d e) (XN.mk c m f g) = A := ⟨_, rfl⟩
      obtain ⟨B, hB⟩ : ∃ A, XMath.sA (XN.mk c m f g) (XN.mk b n d e) = A := ⟨_, rfl⟩
      obtain ⟨S, hS⟩ : ∃ A, sS (XN.mk b n d e) (XN.mk c m f g) = A := ⟨_, rfl⟩
      obtain ⟨Z, hZ⟩ : ∃ A, sN (XN.mk b n d e) (XN.mk c m f g) = A := ⟨_, rfl⟩
      obtain ⟨L, hL⟩ : ∃ L, min e g = L := ⟨_, rfl⟩
      have hS2 : S = (if b = c then A + B else if A < B then B - A else A - B) := by rw [← hS]; unfold sS; rw [hA, hB]
      have hZ2 : Z = (if b = c then b else if A < B then c else b) := by rw [← hZ]; unfold sN; rw [hA, hB]
      have hr2 : (if nl A ≤ 16384 ∧ nl B ≤ 16384 ∧ nl (d * f) ≤ 16384 ∧ nl S ≤ 16384 then XMath.mk Z S (d * f) L else (XZ, 4)) = (⟨rb, rn, rd, re⟩, err) := by rw [← hA, ← hB, ← hS, ← hZ, ← hL]; exact hr
      have HT2 := box ht
      have HQ2 := box hq
      have L2 : Box (nl d ≤ 20000) := box (by omega)
      have L4 : Box (nl f ≤ 20000) := box (by omega)
      by_cases h12 : nl A ≤ 16384 ∧ nl B ≤ 16384
      · obtain ⟨x, hxa⟩ : ∃ x, nbA A = x := ⟨_, rfl⟩
        obtain ⟨y, hyb⟩ : ∃ x, nbA B = x := ⟨_, rfl⟩
        have K1 := box (fun w => rTwo b n d e s t c m f g p q x y L 0 hs ht hp hq l1 l2 l3 l4 ha (by unfold twX; rw [hA, hB, if_pos h12, hxa, hyb]; show ((x, y), (min e g, (0 : Int))) = _; rw [hL]) w)
        have HA := box hxa
        have HB := box hyb
        have LA : Box (nl A ≤ 20000) := box (by omega)
        have LB : Box (nl B ≤ 20000) := box (by omega)
        by_cases h3 : nl (d * f) ≤ 16384
        · obtain ⟨z, hz⟩ : ∃ x, nbA (d * f) = x := ⟨_, rfl⟩
          have HX := box (lg_ok (d * f) z h3 hz)
          by_cases hbc : b = c
          · subst hbc
            rw [if_pos rfl] at hS2 hZ2
            by_cases h4 : nl S ≤ 16384
            · obtain ⟨y2, hy2⟩ : ∃ x, nbA S = x := ⟨_, rfl⟩
              rw [if_pos ⟨h12.1, h12.2, h3, h4⟩, hZ2] at hr2
              have HS2 : Box (lg (A + B) = (y2, 0)) := box (by rw [← hS2]; exact lg_ok S y2 h4 hy2)
              have K3 := box (fun w => rmake_ok b S (d * f) L y2 z rb rn rd re err u v hy2 hz h4 h3 (mul_ne d1 d2) (by omega) (by omega) hr2 hu hv w)
              have eb : (b == b) = true := by cases b <;> rfl
              clear hs ht hp hq hx hy hr hr2 hu hv n0 m0 l1 l2 l3 l4 d1 d2 hA hB hS hZ hS2 hZ2 h12 h3 h4 hxa hyb hz hy2 ha hL
              have Rx_0 : (((w.alloc (Obj.cells #[.bool b, .string s, .string t, .int .i64 e] 24)).alloc (Obj.cells #[.bool b, .string p, .string q, .int .i64 g] 24)).alloc (Obj.cells #[.bool false, .string ⟨#[]⟩, .string ⟨#[]⟩, .int .i64 0] 24)).heap[w.heap.size]? = some (Obj.cells #[.bool b, .string s, .string t, .int .i64 e] 24) := by rw [heap_below _ _ _ (by simp only [size_al]; omega), heap_below _ _ _ (by simp only [size_al]; omega)]; have := heap_alloc_last w (Obj.cells #[.bool b, .string s, .string t, .int .i64 e] 24); simpa only [size_al] using this
              have Ry_0 : (((w.alloc (Obj.cells #[.bool b, .string s, .string t, .int .i64 e] 24)).alloc (Obj.cells #[.bool b, .string p, .string q, .int .i64 g] 24)).alloc (Obj.cells #[.bool false, .string ⟨#[]⟩, .string ⟨#[]⟩, .int .i64 0] 24)).heap[w.heap.size + 1]? = some (Obj.cells #[.bool b, .string p, .string q, .int .i64 g] 24) := by rw [heap_below _ _ _ (by simp only [size_al]; omega)]; have := heap_alloc_last (w.alloc (Obj.cells #[.bool b, .string s, .string t, .int .i64 e] 24)) (Obj.cells #[.bool b, .string p, .string q, .int .i64 g] 24); simpa only [size_al] using this
              have Rz_0 : (((w.alloc (Obj.cells #[.bool b, .string s, .string t, .int .i64 e] 24)).alloc (Obj.cells #[.bool b, .string p, .string q, .int .i64 g] 24)).alloc (Obj.cells #[.bool false, .string ⟨#[]⟩, .string ⟨#[]⟩, .int .i64 0] 24)).heap[w.heap.size + 1 + 1]? = some (Obj.cells #[.bool false, .string ⟨#[]⟩, .string ⟨#[]⟩, .int .i64 0] 24) := by have := heap_alloc_last ((w.alloc (Obj.cells #[.bool b, .string s, .string t, .int .i64 e] 24)).alloc (Obj.cells #[.bool b, .string p, .string q, .int .i64 g] 24)) (Obj.cells #[.bool false, .string ⟨#[]⟩, .string ⟨#[]⟩, .int .i64 0] 24); simpa only [size_al] using this
              have B0 : Below w.heap.size w (((w.alloc (Obj.cells #[.bool b, .string s, .string t, .int .i64 e] 24)).alloc (Obj.cells #[.bool b, .string p, .string q, .int .i64 g] 24)).alloc (Obj.cells #[.bool false, .string ⟨#[]⟩, .string ⟨#[]⟩, .int .i64 0] 24)) := ((((Below.refl _ _).alloc (by first | omega | (simp only [size_al]; omega)) _).alloc (by first | omega | (simp only [size_al]; omega)) _).alloc (by first | omega | (simp only [size_al]; omega)) _)
              go_enter Tryz.func11, Tryz.ntmps11
              go_wp2_with fail
              refine (K1.out _).mono ?_
              rintro r w1 ⟨rfl, b1⟩
              have B1 : Below w.heap.size w w1 := btr B0 b1
              have Rx_1 : w1.heap[w.heap.size]? = some (Obj.cells #[.bool b, .string s, .string t, .int .i64 e] 24) := heap_of b1 _ _ _ Rx_0
              have Ry_1 : w1.heap[w.heap.size + 1]? = some (Obj.cells #[.bool b, .string p, .string q, .int .i64 g] 24) := heap_of b1 _ _ _ Ry_0
              have Rz_1 : w1.heap[w.heap.size + 1 + 1]? = some (Obj.cells #[.bool false, .string ⟨#[]⟩, .string ⟨#[]⟩, .int .i64 0] 24) := heap_of b1 _ _ _ Rz_0
              clear b1 B0 Rx_0 Ry_0 Rz_0
              have cx_1_0 := cells4 Rx_1 0 _ rfl
              have cx_1_1 := cells4 Rx_1 1 _ rfl
              have cx_1_2 := cells4 Rx_1 2 _ rfl
              have cx_1_3 := cells4 Rx_1 3 _ rfl
              have cy_1_0 := cells4 Ry_1 0 _ rfl
              have cy_1_1 := cells4 Ry_1 1 _ rfl
              have cy_1_2 := cells4 Ry_1 2 _ rfl
              have cy_1_3 := cells4 Ry_1 3 _ rfl
              have cz_1_0 := cells4 Rz_1 0 _ rfl
              have cz_1_1 := cells4 Rz_1 1 _ rfl
              have cz_1_2 := cells4 Rz_1 2 _ rfl
              have cz_1_3 := cells4 Rz_1 3 _ rfl
              go_wp2_with fail
              refine (nat_Mul d f t q z 0 HT2.out HQ2.out HX.out L2.out L4.out _).mono ?_
              rintro r w2 ⟨rfl, b2⟩
              have B2 : Below w.heap.size w w2 := btr B1 b2
              have Rx_2 : w2.heap[w.heap.size]? = some (Obj.cells #[.bool b, .string s, .string t, .int .i64 e] 24) := heap_of b2 _ _ _ Rx_1
              have Ry_2 : w2.heap[w.heap.size + 1]? = some (Obj.cells #[.bool b, .string p, .string q, .int .i64 g] 24) := heap_of b2 _ _ _ Ry_1
              have Rz_2 : w2.heap[w.heap.size + 1 + 1]? = some (Obj.cells #[.bool false, .string ⟨#[]⟩, .string ⟨#[]⟩, .int .i64 0] 24) := heap_of b2 _ _ _ Rz_1
              clear b2 B1 Rx_1 cx_1_0 cx_1_1 cx_1_2 cx_1_3 Ry_1 cy_1_0 cy_1_1 cy_1_2 cy_1_3 Rz_1 cz_1_0 cz_1_1 cz_1_2 cz_1_3
              have cx_2_0 := cells4 Rx_2 0 _ rfl
              have cx_2_1 := cells4 Rx_2 1 _ rfl
              have cx_2_2 := cells4 Rx_2 2 _ rfl
              have cx_2_3 := cells4 Rx_2 3 _ rfl
              have cy_2_0 := cells4 Ry_2 0 _ rfl
              have cy_2_1 := cells4 Ry_2 1 _ rfl
              have cy_2_2 := cells4 Ry_2 2 _ rfl
              have cy_2_3 := cells4 Ry_2 3 _ rfl
              have cz_2_0 := cells4 Rz_2 0 _ rfl
              have cz_2_1 := cells4 Rz_2 1 _ rfl
              have cz_2_2 := cells4 Rz_2 2 _ rfl
              have cz_2_3 := cells4 Rz_2 3 _ rfl
              go_wp2_with fail
              refine (nat_Add A B x y y2 0 HA.out HB.out HS2.out LA.out LB.out _).mono ?_
              rintro r w3 ⟨rfl, b3⟩
              have B3 : Below w.heap.size w w3 := btr B2 b3
              have Rx_3 : w3.heap[w.heap.size]? = some (Obj.cells #[.bool b, .string s, .string t, .int .i64 e] 24) := heap_of b3 _ _ _ Rx_2
              have Ry_3 : w3.heap[w.heap.size + 1]? = some (Obj.cells #[.bool b, .string p, .string q, .int .i64 g] 24) := heap_of b3 _ _ _ Ry_2
              have Rz_3 : w3.heap[w.heap.size + 1 + 1]? = some (Obj.cells #[.bool false, .string ⟨#[]⟩, .string ⟨#[]⟩, .int .i64 0] 24) := heap_of b3 _ _ _ Rz_2
              clear b3 B2 Rx_2 cx_2_0 cx_2_1 cx_2_2 cx_2_3 Ry_2 cy_2_0 cy_2_1 cy_2_2 cy_2_3 Rz_2 cz_2_0 cz_2_1 cz_2_2 cz_2_3
              have cx_3_0 := cells4 Rx_3 0 _ rfl
              have cx_3_1 := cells4 Rx_3 1 _ rfl
              have cx_3_2 := cells4 Rx_3 2 _ rfl
              have cx_3_3 := cells4 Rx_3 3 _ rfl
              have cy_3_0 := cells4 Ry_3 0 _ rfl
              have cy_3_1 := cells4 Ry_3 1 _ rfl
              have cy_3_2 := cells4 Ry_3 2 _ rfl
              have cy_3_3 := cells4 Ry_3 3 _ rfl
              have cz_3_0 := cells4 Rz_3 0 _ rfl
              have cz_3_1 := cells4 Rz_3 1 _ rfl
              have cz_3_2 := cells4 Rz_3 2 _ rfl
              have cz_3_3 := cells4 Rz_3 3 _ rfl
              go_wp2_with fail
              refine (K3.out _).mono ?_
              rintro r w4 ⟨rfl, b4⟩
              have B4 : Below w.heap.size w w4 := btr B3 b4
              have Rx_4 : w4.heap[w.heap.size]? = some (Obj.cells #[.bool b, .string s, .string t, .int .i64 e] 24) := heap_of b4 _ _ _ Rx_3
              have Ry_4 : w4.heap[w.heap.size + 1]? = some (Obj.cells #[.bool b, .string p, .string q, .int .i64 g] 24) := heap_of b4 _ _ _ Ry_3
              have Rz_4 : w4.heap[w.heap.size + 1 + 1]? = some (Obj.cells #[.bool false, .string ⟨#[]⟩, .string ⟨#[]⟩, .int .i64 0] 24) := heap_of b4 _ _ _ Rz_3
              clear b4 B3 Rx_3 cx_3_0 cx_3_1 cx_3_2 cx_3_3 Ry_3 cy_3_0 cy_3_1 cy_3_2 cy_3_3 Rz_3 cz_3_0 cz_3_1 cz_3_2 cz_3_3
              have cx_4_0 := cells4 Rx_4 0 _ rfl
              have cx_4_1 := cells4 Rx_4 1 _ rfl
              have cx_4_2 := cells4 Rx_4 2 _ rfl
              have cx_4_3 := cells4 Rx_4 3 _ rfl
              have cy_4_0 := cells4 Ry_4 0 _ rfl
              have cy_4_1 := cells4 Ry_4 1 _ rfl
              have cy_4_2 := cells4 Ry_4 2 _ rfl
              have cy_4_3 := cells4 Ry_4 3 _ rfl
              have cz_4_0 := cells4 Rz_4 0 _ rfl
              have cz_4_1 := cells4 Rz_4 1 _ rfl
              have cz_4_2 := cells4 Rz_4 2 _ rfl
              have cz_4_3 := cells4 Rz_4 3 _ rfl
              have q0 := fz (k := 0) Rz_4
              have q1 := fz (k := 1) Rz_4
              have q2 := fz (k := 2) Rz_4
              have q3 := fz (k := 3) Rz_4
              obtain ⟨E0, E1, E2, E3⟩ := set4_cells Rz_4 rfl (.bool rb) (.string u) (.string v) (.int .i64 re)
              go_wp2
              exact bodyPost_ret (v := .tuple #[.agg #[.bool rb, .string u, .string v, .int .i64 re], .int .i64 err]) (by simp [results, Tryz.results11, go_sem, E0, E1, E2, E3]) rfl ⟨rfl, set4_below B4 (by first | exact Nat.le_refl _ | omega) _ _ _ _⟩
            · rw [if_neg (fun h => h4 h.2.2.2)] at hr2
              obtain ⟨rfl, rfl, rfl, rfl, rfl⟩ := xz_is hr2
              rw [nbA_zero] at hu hv
              subst hu hv
              have HS2 : Box (lg (A + B) = (⟨#[]⟩, 4)) := box (by rw [← hS2]; exact lg_no S h4)
              have eb : (b == b) = true := by cases b <;> rfl
              clear hs ht hp hq hx hy hr hr2 n0 m0 l1 l2 l3 l4 d1 d2 hA hB hS hZ hS2 hZ2 h12 h3 h4 hxa hyb hz ha hL
              have Rx_0 : (((w.alloc (Obj.cells #[.bool b, .string s, .string t, .int .i64 e] 24)).alloc (Obj.cells #[.bool b, .string p, .string q, .int .i64 g] 24)).alloc (Obj.cells #[.bool false, .string ⟨#[]⟩, .string ⟨#[]⟩, .int .i64 0] 24)).heap[w.heap.size]? = some (Obj.cells #[.bool b, .string s, .string t, .int .i64 e] 24) := by rw [heap_below _ _ _ (by simp only [size_al]; omega), heap_below _ _ _ (by simp only [size_al]; omega)]; have := heap_alloc_last w (Obj.cells #[.bool b, .string s, .string t, .int .i64 e] 24); simpa only [size_al] using this
              have Ry_0 : (((w.alloc (Obj.cells #[.bool b, .string s, .string t, .int .i64 e] 24)).alloc (Obj.cells #[.bool b, .string p, .string q, .int .i64 g] 24)).alloc (Obj.cells #[.bool false, .string ⟨#[]⟩, .string ⟨#[]⟩, .int .i64 0] 24)).heap[w.heap.size + 1]? = some (Obj.cells #[.bool b, .string p, .string q, .int .i64 g] 24) := by rw [heap_below _ _ _ (by simp only [size_al]; omega)]; have := heap_alloc_last (w.alloc (Obj.cells #[.bool b, .string s, .string t, .int .i64 e] 24)) (Obj.cells #[.bool b, .string p, .string q, .int .i64 g] 24); simpa only [size_al] using this
              have Rz_0 : (((w.alloc (Obj.cells #[.bool b, .string s, .string t, .int .i64 e] 24)).alloc (Obj.cells #[.bool b, .string p, .string q, .int .i64 g] 24)).alloc (Obj.cells #[.bool false, .string ⟨#[]⟩, .string ⟨#[]⟩, .int .i64 0] 24)).heap[w.heap.size + 1 + 1]? = some (Obj.cells #[.bool false, .string ⟨#[]⟩, .string ⟨#[]⟩, .int .i64 0] 24) := by have := heap_alloc_last ((w.alloc (Obj.cells #[.bool b, .string s, .string t, .int .i64 e] 24)).alloc (Obj.cells #[.bool b, .string p, .string q, .int .i64 g] 24)) (Obj.cells #[.bool false, .string ⟨#[]⟩, .string ⟨#[]⟩, .int .i64 0] 24); simpa only [size_al] using this
              have B0 : Below w.heap.size w (((w.alloc (Obj.cells #[.bool b, .string s, .string t, .int .i64 e] 24)).alloc (Obj.cells #[.bool b, .string p, .string q, .int .i64 g] 24)).alloc (Obj.cells #[.bool false, .string ⟨#[]⟩, .string ⟨#[]⟩, .int .i64 0] 24)) := ((((Below.refl _ _).alloc (by first | omega | (simp only [size_al]; omega)) _).alloc (by first | omega | (simp only [size_al]; omega)) _).alloc (by first | omega | (simp only [size_al]; omega)) _)
              go_enter Tryz.func11, Tryz.ntmps11
              go_wp2_with fail
              refine (K1.out _).mono ?_
              rintro r w1 ⟨rfl, b1⟩
              have B1 : Below w.heap.size w w1 := btr B0 b1
              have Rx_1 : w1.heap[w.heap.size]? = some (Obj.cells #[.bool b, .string s, .string t, .int .i64 e] 24) := heap_of b1 _ _ _ Rx_0
              have Ry_1 : w1.heap[w.heap.size + 1]? = some (Obj.cells #[.bool b, .string p, .string q, .int .i64 g] 24) := heap_of b1 _ _ _ Ry_0
              have Rz_1 : w1.heap[w.heap.size + 1 + 1]? = some (Obj.cells #[.bool false, .string ⟨#[]⟩, .string ⟨#[]⟩, .int .i64 0] 24) := heap_of b1 _ _ _ Rz_0
              clear b1 B0 Rx_0 Ry_0 Rz_0
              have cx_1_0 := cells4 Rx_1 0 _ rfl
              have cx_1_1 := cells4 Rx_1 1 _ rfl
              have cx_1_2 := cells4 Rx_1 2 _ rfl
              have cx_1_3 := cells4 Rx_1 3 _ rfl
              have cy_1_0 := cells4 Ry_1 0 _ rfl
              have cy_1_1 := cells4 Ry_1 1 _ rfl
              have cy_1_2 := cells4 Ry_1 2 _ rfl
              have cy_1_3 := cells4 Ry_1 3 _ rfl
              have cz_1_0 := cells4 Rz_1 0 _ rfl
              have cz_1_1 := cells4 Rz_1 1 _ rfl
              have cz_1_2 := cells4 Rz_1 2 _ rfl
              have cz_1_3 := cells4 Rz_1 3 _ rfl
              go_wp2_with fail
              refine (nat_Mul d f t q z 0 HT2.out HQ2.out HX.out L2.out L4.out _).mono ?_
              rintro r w2 ⟨rfl, b2⟩
              have B2 : Below w.heap.size w w2 := btr B1 b2
              have Rx_2 : w2.heap[w.heap.size]? = some (Obj.cells #[.bool b, .string s, .string t, .int .i64 e] 24) := heap_of b2 _ _ _ Rx_1
              have Ry_2 : w2.heap[w.heap.size + 1]? = some (Obj.cells #[.bool b, .string p, .string q, .int .i64 g] 24) := heap_of b2 _ _ _ Ry_1
              have Rz_2 : w2.heap[w.heap.size + 1 + 1]? = some (Obj.cells #[.bool false, .string ⟨#[]⟩, .string ⟨#[]⟩, .int .i64 0] 24) := heap_of b2 _ _ _ Rz_1
              clear b2 B1 Rx_1 cx_1_0 cx_1_1 cx_1_2 cx_1_3 Ry_1 cy_1_0 cy_1_1 cy_1_2 cy_1_3 Rz_1 cz_1_0 cz_1_1 cz_1_2 cz_1_3
              have cx_2_0 := cells4 Rx_2 0 _ rfl
              have cx_2_1 := cells4 Rx_2 1 _ rfl
              have cx_2_2 := cells4 Rx_2 2 _ rfl
              have cx_2_3 := cells4 Rx_2 3 _ rfl
              have cy_2_0 := cells4 Ry_2 0 _ rfl
              have cy_2_1 := cells4 Ry_2 1 _ rfl
              have cy_2_2 := cells4 Ry_2 2 _ rfl
              have cy_2_3 := cells4 Ry_2 3 _ rfl
              have cz_2_0 := cells4 Rz_2 0 _ rfl
              have cz_2_1 := cells4 Rz_2 1 _ rfl
              have cz_2_2 := cells4 Rz_2 2 _ rfl
              have cz_2_3 := cells4 Rz_2 3 _ rfl
              go_wp2_with fail
              refine (nat_Add A B x y _ 4 HA.out HB.out HS2.out LA.out LB.out _).mono ?_
              rintro r w3 ⟨rfl, b3⟩
              have B3 : Below w.heap.size w w3 := btr B2 b3
              have Rx_3 : w3.heap[w.heap.size]? = some (Obj.cells #[.bool b, .string s, .string t, .int .i64 e] 24) := heap_of b3 _ _ _ Rx_2
              have Ry_3 : w3.heap[w.heap.size + 1]? = some (Obj.cells #[.bool b, .string p, .string q, .int .i64 g] 24) := heap_of b3 _ _ _ Ry_2
              have Rz_3 : w3.heap[w.heap.size + 1 + 1]? = some (Obj.cells #[.bool false, .string ⟨#[]⟩, .string ⟨#[]⟩, .int .i64 0] 24) := heap_of b3 _ _ _ Rz_2
              clear b3 B2 Rx_2 cx_2_0 cx_2_1 cx_2_2 cx_2_3 Ry_2 cy_2_0 cy_2_1 cy_2_2 cy_2_3 Rz_2 cz_2_0 cz_2_1 cz_2_2 cz_2_3
              have cx_3_0 := cells4 Rx_3 0 _ rfl
              have cx_3_1 := cells4 Rx_3 1 _ rfl
              have cx_3_2 := cells4 Rx_3 2 _ rfl
              have cx_3_3 := cells4 Rx_3 3 _ rfl
              have cy_3_0 := cells4 Ry_3 0 _ rfl
              have cy_3_1 := cells4 Ry_3 1 _ rfl
              have cy_3_2 := cells4 Ry_3 2 _ rfl
              have cy_3_3 := cells4 Ry_3 3 _ rfl
              have cz_3_0 := cells4 Rz_3 0 _ rfl
              have cz_3_1 := cells4 Rz_3 1 _ rfl
              have cz_3_2 := cells4 Rz_3 2 _ rfl
              have cz_3_3 := cells4 Rz_3 3 _ rfl
              have q0 := fz (k := 0) Rz_3
              have q1 := fz (k := 1) Rz_3
              have q2 := fz (k := 2) Rz_3
              have q3 := fz (k := 3) Rz_3
              obtain ⟨E0, E1, E2, E3⟩ := set4_cells Rz_3 rfl (.bool false) (.string ⟨#[]⟩) (.string ⟨#[]⟩) (.int .i64 0)
              go_wp2
              exact bodyPost_ret (v := .tuple #[.agg #[.bool false, .string ⟨#[]⟩, .string ⟨#[]⟩, .int .i64 0], .int .i64 4]) (by simp [results, Tryz.results11, go_sem, E0, E1, E2, E3]) rfl ⟨rfl, set4_below B3 (by first | exact Nat.le_refl _ | omega) _ _ _ _⟩
          · have eb : (b == c) = false := by cases b <;> cases c <;> first | rfl | exact absurd rfl hbc
            have h4 : nl S ≤ 16384 := by rw [← hS]; exact sS_nl (XN.mk b n d e) (XN.mk c m f g) (by rw [hA]; exact h12.1) (by rw [hB]; exact h12.2) hbc
            obtain ⟨y2, hy2⟩ : ∃ x, nbA S = x := ⟨_, rfl⟩
            rw [if_pos ⟨h12.1, h12.2, h3, h4⟩] at hr2
            rw [if_neg hbc] at hS2 hZ2
            obtain ⟨k, hk⟩ : ∃ k, cmpv A B = k := ⟨_, rfl⟩
            have HK := box hk
            have K3 := box (fun w => rmake_ok Z S (d * f) L y2 z rb rn rd re err u v hy2 hz h4 h3 (mul_ne d1 d2) (by omega) (by omega) hr2 hu hv w)
            by_cases hl : A < B
            · rw [if_pos hl] at hS2 hZ2
              have g0 : decide ((0 : Int) ≤ k) = false := decide_eq_false (by have := (cmpv_neg A B).2 hl; omega)
              have HS2 : Box (sb B A = (y2, 0)) := box (by unfold sb; rw [if_neg (by omega), ← hS2, hy2])
              subst hZ2
              clear hs ht hp hq hx hy hr hr2 hu hv n0 m0 l1 l2 l3 l4 d1 d2 hA hB hS hZ hS2 h12 h3 h4 hxa hyb hz hy2 ha hL hk hl hbc
              have Rx_0 : (((w.alloc (Obj.cells #[.bool b, .string s, .string t, .int .i64 e] 24)).alloc (Obj.cells #[.bool Z, .string p, .string q, .int .i64 g] 24)).alloc (Obj.cells #[.bool false, .string ⟨#[]⟩, .string ⟨#[]⟩, .int .i64 0] 24)).heap[w.heap.size]? = some (Obj.cells #[.bool b, .string s, .string t, .int .i64 e] 24) := by rw [heap_below _ _ _ (by simp only [size_al]; omega), heap_below _ _ _ (by simp only [size_al]; omega)]; have := heap_alloc_last w (Obj.cells #[.bool b, .string s, .string t, .int .i64 e] 24); simpa only [size_al] using this
              have Ry_0 : (((w.alloc (Obj.cells #[.bool b, .string s, .string t, .int .i64 e] 24)).alloc (Obj.cells #[.bool Z, .string p, .string q, .int .i64 g] 24)).alloc (Obj.cells #[.bool false, .string ⟨#[]⟩, .string ⟨#[]⟩, .int .i64 0] 24)).heap[w.heap.size + 1]? = some (Obj.cells #[.bool Z, .string p, .string q, .int .i64 g] 24) := by rw [heap_below _ _ _ (by simp only [size_al]; omega)]; have := heap_alloc_last (w.alloc (Obj.cells #[.bool b, .string s, .string t, .int .i64 e] 24)) (Obj.cells #[.bool Z, .string p, .string q, .int .i64 g] 24); simpa only [size_al] using this
              have Rz_0 : (((w.alloc (Obj.cells #[.bool b, .string s, .string t, .int .i64 e] 24)).alloc (Obj.cells #[.bool Z, .string p, .string q, .int .i64 g] 24)).alloc (Obj.cells #[.bool false, .string ⟨#[]⟩, .string ⟨#[]⟩, .int .i64 0] 24)).heap[w.heap.size + 1 + 1]? = some (Obj.cells #[.bool false, .string ⟨#[]⟩, .string ⟨#[]⟩, .int .i64 0] 24) := by have := heap_alloc_last ((w.alloc (Obj.cells #[.bool b, .string s, .string t, .int .i64 e] 24)).alloc (Obj.cells #[.bool Z, .string p, .string q, .int .i64 g] 24)) (Obj.cells #[.bool false, .string ⟨#[]⟩, .string ⟨#[]⟩, .int .i64 0] 24); simpa only [size_al] using this
              have B0 : Below w.heap.size w (((w.alloc (Obj.cells #[.bool b, .string s, .string t, .int .i64 e] 24)).alloc (Obj.cells #[.bool Z, .string p, .string q, .int .i64 g] 24)).alloc (Obj.cells #[.bool false, .string ⟨#[]⟩, .string ⟨#[]⟩, .int .i64 0] 24)) := ((((Below.refl _ _).alloc (by first | omega | (simp only [size_al]; omega)) _).alloc (by first | omega | (simp only [size_al]; omega)) _).alloc (by first | omega | (simp only [size_al]; omega)) _)
              go_enter Tryz.func11, Tryz.ntmps11
              go_wp2_with fail
              refine (K1.out _).mono ?_
              rintro r w1 ⟨rfl, b1⟩
              have B1 : Below w.heap.size w w1 := btr B0 b1
              have Rx_1 : w1.heap[w.heap.size]? = some (Obj.cells #[.bool b, .string s, .string t, .int .i64 e] 24) := heap_of b1 _ _ _ Rx_0
              have Ry_1 : w1.heap[w.heap.size + 1]? = some (Obj.cells #[.bool Z, .string p, .string q, .int .i64 g] 24) := heap_of b1 _ _ _ Ry_0
              have Rz_1 : w1.heap[w.heap.size + 1 + 1]? = some (Obj.cells #[.bool false, .string ⟨#[]⟩, .string ⟨#[]⟩, .int .i64 0] 24) := heap_of b1 _ _ _ Rz_0
              clear b1 B0 Rx_0 Ry_0 Rz_0
              have cx_1_0 := cells4 Rx_1 0 _ rfl
              have cx_1_1 := cells4 Rx_1 1 _ rfl
              have cx_1_2 := cells4 Rx_1 2 _ rfl
              have cx_1_3 := cells4 Rx_1 3 _ rfl
              have cy_1_0 := cells4 Ry_1 0 _ rfl
              have cy_1_1 := cells4 Ry_1 1 _ rfl
              have cy_1_2 := cells4 Ry_1 2 _ rfl
              have cy_1_3 := cells4 Ry_1 3 _ rfl
              have cz_1_0 := cells4 Rz_1 0 _ rfl
              have cz_1_1 := cells4 Rz_1 1 _ rfl
              have cz_1_2 := cells4 Rz_1 2 _ rfl
              have cz_1_3 := cells4 Rz_1 3 _ rfl
              go_wp2_with fail
              refine (nat_Mul d f t q z 0 HT2.out HQ2.out HX.out L2.out L4.out _).mono ?_
              rintro r w2 ⟨rfl, b2⟩
              have B2 : Below w.heap.size w w2 := btr B1 b2
              have Rx_2 : w2.heap[w.heap.size]? = some (Obj.cells #[.bool b, .string s, .string t, .int .i64 e] 24) := heap_of b2 _ _ _ Rx_1
              have Ry_2 : w2.heap[w.heap.size + 1]? = some (Obj.cells #[.bool Z, .string p, .string q, .int .i64 g] 24) := heap_of b2 _ _ _ Ry_1
              have Rz_2 : w2.heap[w.heap.size + 1 + 1]? = some (Obj.cells #[.bool false, .string ⟨#[]⟩, .string ⟨#[]⟩, .int .i64 0] 24) := heap_of b2 _ _ _ Rz_1
              clear b2 B1 Rx_1 cx_1_0 cx_1_1 cx_1_2 cx_1_3 Ry_1 cy_1_0 cy_1_1 cy_1_2 cy_1_3 Rz_1 cz_1_0 cz_1_1 cz_1_2 cz_1_3
              have cx_2_0 := cells4 Rx_2 0 _ rfl
              have cx_2_1 := cells4 Rx_2 1 _ rfl
              have cx_2_2 := cells4 Rx_2 2 _ rfl
              have cx_2_3 := cells4 Rx_2 3 _ rfl
              have cy_2_0 := cells4 Ry_2 0 _ rfl
              have cy_2_1 := cells4 Ry_2 1 _ rfl
              have cy_2_2 := cells4 Ry_2 2 _ rfl
              have cy_2_3 := cells4 Ry_2 3 _ rfl
              have cz_2_0 := cells4 Rz_2 0 _ rfl
              have cz_2_1 := cells4 Rz_2 1 _ rfl
              have cz_2_2 := cells4 Rz_2 2 _ rfl
              have cz_2_3 := cells4 Rz_2 3 _ rfl
              go_wp2_with fail
              refine (nat_cmp A B x y k HA.out HB.out HK.out _).mono ?_
              rintro r w' ⟨rfl, rfl⟩
              go_wp2_with fail
              refine (nat_Sub B A y x y2 0 HB.out HA.out HS2.out LB.out _).mono ?_
              rintro r w3 ⟨rfl, b3⟩
              have B3 : Below w.heap.size w w3 := btr B2 b3
              have Rx_3 : w3.heap[w.heap.size]? = some (Obj.cells #[.bool b, .string s, .string t, .int .i64 e] 24) := heap_of b3 _ _ _ Rx_2
              have Ry_3 : w3.heap[w.heap.size + 1]? = some (Obj.cells #[.bool Z, .string p, .string q, .int .i64 g] 24) := heap_of b3 _ _ _ Ry_2
              have Rz_3 : w3.heap[w.heap.size + 1 + 1]? = some (Obj.cells #[.bool false, .string ⟨#[]⟩, .string ⟨#[]⟩, .int .i64 0] 24) := heap_of b3 _ _ _ Rz_2
              clear b3 B2 Rx_2 cx_2_0 cx_2_1 cx_2_2 cx_2_3 Ry_2 cy_2_0 cy_2_1 cy_2_2 cy_2_3 Rz_2 cz_2_0 cz_2_1 cz_2_2 cz_2_3
              have cx_3_0 := cells4 Rx_3 0 _ rfl
              have cx_3_1 := cells4 Rx_3 1 _ rfl
              have cx_3_2 := cells4 Rx_3 2 _ rfl
              have cx_3_3 := cells4 Rx_3 3 _ rfl
              have cy_3_0 := cells4 Ry_3 0 _ rfl
              have cy_3_1 := cells4 Ry_3 1 _ rfl
              have cy_3_2 := cells4 Ry_3 2 _ rfl
              have cy_3_3 := cells4 Ry_3 3 _ rfl
              have cz_3_0 := cells4 Rz_3 0 _ rfl
              have cz_3_1 := cells4 Rz_3 1 _ rfl
              have cz_3_2 := cells4 Rz_3 2 _ rfl
              have cz_3_3 := cells4 Rz_3 3 _ rfl
              go_wp2_with fail
              refine (K3.out _).mono ?_
              rintro r w4 ⟨rfl, b4⟩
              have B4 : Below w.heap.size w w4 := btr B3 b4
              have Rx_4 : w4.heap[w.heap.size]? = some (Obj.cells #[.bool b, .string s, .string t, .int .i64 e] 24) := heap_of b4 _ _ _ Rx_3
              have Ry_4 : w4.heap[w.heap.size + 1]? = some (Obj.cells #[.bool Z, .string p, .string q, .int .i64 g] 24) := heap_of b4 _ _ _ Ry_3
              have Rz_4 : w4.heap[w.heap.size + 1 + 1]? = some (Obj.cells #[.bool false, .string ⟨#[]⟩, .string ⟨#[]⟩, .int .i64 0] 24) := heap_of b4 _ _ _ Rz_3
              clear b4 B3 Rx_3 cx_3_0 cx_3_1 cx_3_2 cx_3_3 Ry_3 cy_3_0 cy_3_1 cy_3_2 cy_3_3 Rz_3 cz_3_0 cz_3_1 cz_3_2 cz_3_3
              have cx_4_0 := cells4 Rx_4 0 _ rfl
              have cx_4_1 := cells4 Rx_4 1 _ rfl
              have cx_4_2 := cells4 Rx_4 2 _ rfl
              have cx_4_3 := cells4 Rx_4 3 _ rfl
              have cy_4_0 := cells4 Ry_4 0 _ rfl
              have cy_4_1 := cells4 Ry_4 1 _ rfl
              have cy_4_2 := cells4 Ry_4 2 _ rfl
              have cy_4_3 := cells4 Ry_4 3 _ rfl
              have cz_4_0 := cells4 Rz_4 0 _ rfl
              have cz_4_1 := cells4 Rz_4 1 _ rfl
              have cz_4_2 := cells4 Rz_4 2 _ rfl
              have cz_4_3 := cells4 Rz_4 3 _ rfl
              have q0 := fz (k := 0) Rz_4
              have q1 := fz (k := 1) Rz_4
              have q2 := fz (k := 2) Rz_4
              have q3 := fz (k := 3) Rz_4
              obtain ⟨E0, E1, E2, E3⟩ := set4_cells Rz_4 rfl (.bool rb) (.string u) (.string v) (.int .i64 re)
              go_wp2
              exact bodyPost_ret (v := .tuple #[.agg #[.bool rb, .string u, .string v, .int .i64 re], .int .i64 err]) (by simp [results, Tryz.results11, go_sem, E0, E1, E2, E3]) rfl ⟨rfl, set4_below B4 (by first | exact Nat.le_refl _ | omega) _ _ _ _⟩
            · rw [if_neg hl] at hS2 hZ2
              have g0 : decide ((0 : Int) ≤ k) = true := decide_eq_true (by have := mt (cmpv_neg A B).1 hl; omega)
              have HS2 : Box (sb A B = (y2, 0)) := box (by unfold sb; rw [if_neg hl, ← hS2, hy2])
              subst hZ2
              clear hs ht hp hq hx hy hr hr2 hu hv n0 m0 l1 l2 l3 l4 d1 d2 hA hB hS hZ hS2 h12 h3 h4 hxa hyb hz hy2 ha hL hk hl hbc
              have Rx_0 : (((w.alloc (Obj.cells #[.bool Z, .string s, .string t, .int .i64 e] 24)).alloc (Obj.cells #[.bool c, .string p, .string q, .int .i64 g] 24)).alloc (Obj.cells #[.bool false, .string ⟨#[]⟩, .string ⟨#[]⟩, .int .i64 0] 24)).heap[w.heap.size]? = some (Obj.cells #[.bool Z, .string s, .string t, .int .i64 e] 24) := by rw [heap_below _ _ _ (by simp only [size_al]; omega), heap_below _ _ _ (by simp only [size_al]; omega)]; have := heap_alloc_last w (Obj.cells #[.bool Z, .string s, .string t, .int .i64 e] 24); simpa only [size_al] using this
              have Ry_0 : (((w.alloc (Obj.cells #[.bool Z, .string s, .string t, .int .i64 e] 24)).alloc (Obj.cells #[.bool c, .string p, .string q, .int .i64 g] 24)).alloc (Obj.cells #[.bool false, .string ⟨#[]⟩, .string ⟨#[]⟩, .int .i64 0] 24)).heap[w.heap.size + 1]? = some (Obj.cells #[.bool c, .string p, .string q, .int .i64 g] 24) := by rw [heap_below _ _ _ (by simp only [size_al]; omega)]; have := heap_alloc_last (w.alloc (Obj.cells #[.bool Z, .string s, .string t, .int .i64 e] 24)) (Obj.cells #[.bool c, .string p, .string q, .int .i64 g] 24); simpa only [size_al] using this
              have Rz_0 : (((w.alloc (Obj.cells #[.bool Z, .string s, .string t, .int .i64 e] 24)).alloc (Obj.cells #[.bool c, .string p, .string q, .int .i64 g] 24)).alloc (Obj.cells #[.bool false, .string ⟨#[]⟩, .string ⟨#[]⟩, .int .i64 0] 24)).heap[w.heap.size + 1 + 1]? = some (Obj.cells #[.bool false, .string ⟨#[]⟩, .string ⟨#[]⟩, .int .i64 0] 24) := by have := heap_alloc_last ((w.alloc (Obj.cells #[.bool Z, .string s, .string t, .int .i64 e] 24)).alloc (Obj.cells #[.bool c, .string p, .string q, .int .i64 g] 24)) (Obj.cells #[.bool false, .string ⟨#[]⟩, .string ⟨#[]⟩, .int .i64 0] 24); simpa only [size_al] using this
              have B0 : Below w.heap.size w (((w.alloc (Obj.cells #[.bool Z, .string s, .string t, .int .i64 e] 24)).alloc (Obj.cells #[.bool c, .string p, .string q, .int .i64 g] 24)).alloc (Obj.cells #[.bool false, .string ⟨#[]⟩, .string ⟨#[]⟩, .int .i64 0] 24)) := ((((Below.refl _ _).alloc (by first | omega | (simp only [size_al]; omega)) _).alloc (by first | omega | (simp only [size_al]; omega)) _).alloc (by first | omega | (simp only [size_al]; omega)) _)
              go_enter Tryz.func11, Tryz.ntmps11
              go_wp2_with fail
              refine (K1.out _).mono ?_
              rintro r w1 ⟨rfl, b1⟩
              have B1 : Below w.heap.size w w1 := btr B0 b1
              have Rx_1 : w1.heap[w.heap.size]? = some (Obj.cells #[.bool Z, .string s, .string t, .int .i64 e] 24) := heap_of b1 _ _ _ Rx_0
              have Ry_1 : w1.heap[w.heap.size + 1]? = some (Obj.cells #[.bool c, .string p, .string q, .int .i64 g] 24) := heap_of b1 _ _ _ Ry_0
              have Rz_1 : w1.heap[w.heap.size + 1 + 1]? = some (Obj.cells #[.bool false, .string ⟨#[]⟩, .string ⟨#[]⟩, .int .i64 0] 24) := heap_of b1 _ _ _ Rz_0
              clear b1 B0 Rx_0 Ry_0 Rz_0
              have cx_1_0 := cells4 Rx_1 0 _ rfl
              have cx_1_1 := cells4 Rx_1 1 _ rfl
              have cx_1_2 := cells4 Rx_1 2 _ rfl
              have cx_1_3 := cells4 Rx_1 3 _ rfl
              have cy_1_0 := cells4 Ry_1 0 _ rfl
              have cy_1_1 := cells4 Ry_1 1 _ rfl
              have cy_1_2 := cells4 Ry_1 2 _ rfl
              have cy_1_3 := cells4 Ry_1 3 _ rfl
              have cz_1_0 := cells4 Rz_1 0 _ rfl
              have cz_1_1 := cells4 Rz_1 1 _ rfl
              have cz_1_2 := cells4 Rz_1 2 _ rfl
              have cz_1_3 := cells4 Rz_1 3 _ rfl
              go_wp2_with fail
              refine (nat_Mul d f t q z 0 HT2.out HQ2.out HX.out L2.out L4.out _).mono ?_
              rintro r w2 ⟨rfl, b2⟩
              have B2 : Below w.heap.size w w2 := btr B1 b2
              have Rx_2 : w2.heap[w.heap.size]? = some (Obj.cells #[.bool Z, .string s, .string t, .int .i64 e] 24) := heap_of b2 _ _ _ Rx_1
              have Ry_2 : w2.heap[w.heap.size + 1]? = some (Obj.cells #[.bool c, .string p, .string q, .int .i64 g] 24) := heap_of b2 _ _ _ Ry_1
              have Rz_2 : w2.heap[w.heap.size + 1 + 1]? = some (Obj.cells #[.bool false, .string ⟨#[]⟩, .string ⟨#[]⟩, .int .i64 0] 24) := heap_of b2 _ _ _ Rz_1
              clear b2 B1 Rx_1 cx_1_0 cx_1_1 cx_1_2 cx_1_3 Ry_1 cy_1_0 cy_1_1 cy_1_2 cy_1_3 Rz_1 cz_1_0 cz_1_1 cz_1_2 cz_1_3
              have cx_2_0 := cells4 Rx_2 0 _ rfl
              have cx_2_1 := cells4 Rx_2 1 _ rfl
              have cx_2_2 := cells4 Rx_2 2 _ rfl
              have cx_2_3 := cells4 Rx_2 3 _ rfl
              have cy_2_0 := cells4 Ry_2 0 _ rfl
              have cy_2_1 := cells4 Ry_2 1 _ rfl
              have cy_2_2 := cells4 Ry_2 2 _ rfl
              have cy_2_3 := cells4 Ry_2 3 _ rfl
              have cz_2_0 := cells4 Rz_2 0 _ rfl
              have cz_2_1 := cells4 Rz_2 1 _ rfl
              have cz_2_2 := cells4 Rz_2 2 _ rfl
              have cz_2_3 := cells4 Rz_2 3 _ rfl
              go_wp2_with fail
              refine (nat_cmp A B x y k HA.out HB.out HK.out _).mono ?_
              rintro r w' ⟨rfl, rfl⟩
              go_wp2_with fail
              refine (nat_Sub A B x y y2 0 HA.out HB.out HS2.out LA.out _).mono ?_
              rintro r w3 ⟨rfl, b3⟩
              have B3 : Below w.heap.size w w3 := btr B2 b3
              have Rx_3 : w3.heap[w.heap.size]? = some (Obj.cells #[.bool Z, .string s, .string t, .int .i64 e] 24) := heap_of b3 _ _ _ Rx_2
              have Ry_3 : w3.heap[w.heap.size + 1]? = some (Obj.cells #[.bool c, .string p, .string q, .int .i64 g] 24) := heap_of b3 _ _ _ Ry_2
              have Rz_3 : w3.heap[w.heap.size + 1 + 1]? = some (Obj.cells #[.bool false, .string ⟨#[]⟩, .string ⟨#[]⟩, .int .i64 0] 24) := heap_of b3 _ _ _ Rz_2
              clear b3 B2 Rx_2 cx_2_0 cx_2_1 cx_2_2 cx_2_3 Ry_2 cy_2_0 cy_2_1 cy_2_2 cy_2_3 Rz_2 cz_2_0 cz_2_1 cz_2_2 cz_2_3
              have cx_3_0 := cells4 Rx_3 0 _ rfl
              have cx_3_1 := cells4 Rx_3 1 _ rfl
              have cx_3_2 := cells4 Rx_3 2 _ rfl
              have cx_3_3 := cells4 Rx_3 3 _ rfl
              have cy_3_0 := cells4 Ry_3 0 _ rfl
              have cy_3_1 := cells4 Ry_3 1 _ rfl
              have cy_3_2 := cells4 Ry_3 2 _ rfl
              have cy_3_3 := cells4 Ry_3 3 _ rfl
              have cz_3_0 := cells4 Rz_3 0 _ rfl
              have cz_3_1 := cells4 Rz_3 1 _ rfl
              have cz_3_2 := cells4 Rz_3 2 _ rfl
              have cz_3_3 := cells4 Rz_3 3 _ rfl
              go_wp2_with fail
              refine (K3.out _).mono ?_
              rintro r w4 ⟨rfl, b4⟩
              have B4 : Below w.heap.size w w4 := btr B3 b4
              have Rx_4 : w4.heap[w.heap.size]? = some (Obj.cells #[.bool Z, .string s, .string t, .int .i64 e] 24) := heap_of b4 _ _ _ Rx_3
              have Ry_4 : w4.heap[w.heap.size + 1]? = some (Obj.cells #[.bool c, .string p, .string q, .int .i64 g] 24) := heap_of b4 _ _ _ Ry_3
              have Rz_4 : w4.heap[w.heap.size + 1 + 1]? = some (Obj.cells #[.bool false, .string ⟨#[]⟩, .string ⟨#[]⟩, .int .i64 0] 24) := heap_of b4 _ _ _ Rz_3
              clear b4 B3 Rx_3 cx_3_0 cx_3_1 cx_3_2 cx_3_3 Ry_3 cy_3_0 cy_3_1 cy_3_2 cy_3_3 Rz_3 cz_3_0 cz_3_1 cz_3_2 cz_3_3
              have cx_4_0 := cells4 Rx_4 0 _ rfl
              have cx_4_1 := cells4 Rx_4 1 _ rfl
              have cx_4_2 := cells4 Rx_4 2 _ rfl
              have cx_4_3 := cells4 Rx_4 3 _ rfl
              have cy_4_0 := cells4 Ry_4 0 _ rfl
              have cy_4_1 := cells4 Ry_4 1 _ rfl
              have cy_4_2 := cells4 Ry_4 2 _ rfl
              have cy_4_3 := cells4 Ry_4 3 _ rfl
              have cz_4_0 := cells4 Rz_4 0 _ rfl
              have cz_4_1 := cells4 Rz_4 1 _ rfl
              have cz_4_2 := cells4 Rz_4 2 _ rfl
              have cz_4_3 := cells4 Rz_4 3 _ rfl
              have q0 := fz (k := 0) Rz_4
              have q1 := fz (k := 1) Rz_4
              have q2 := fz (k := 2) Rz_4
              have q3 := fz (k := 3) Rz_4
              obtain ⟨E0, E1, E2, E3⟩ := set4_cells Rz_4 rfl (.bool rb) (.string u) (.string v) (.int .i64 re)
              go_wp2
              exact bodyPost_ret (v := .tuple #[.agg #[.bool rb, .string u, .string v, .int .i64 re], .int .i64 err]) (by simp [results, Tryz.results11, go_sem, E0, E1, E2, E3]) rfl ⟨rfl, set4_below B4 (by first | exact Nat.le_refl _ | omega) _ _ _ _⟩
        · have HX := box (lg_no (d * f) h3)
          rw [if_neg (fun h => h3 h.2.2.1)] at hr2
          obtain ⟨rfl, rfl, rfl, rfl, rfl⟩ := xz_is hr2
          rw [nbA_zero] at hu hv
          subst hu hv
          clear hs ht hp hq hx hy hr hr2 n0 m0 l1 l2 l3 l4 d1 d2 hA hB hS hZ hS2 hZ2 h12 h3 hxa hyb ha hL
          have Rx_0 : (((w.alloc (Obj.cells #[.bool b, .string s, .string t, .int .i64 e] 24)).alloc (Obj.cells #[.bool c, .string p, .string q, .int .i64 g] 24)).alloc (Obj.cells #[.bool false, .string ⟨#[]⟩, .string ⟨#[]⟩, .int .i64 0] 24)).heap[w.heap.size]? = some (Obj.cells #[.bool b, .string s, .string t, .int .i64 e] 24) := by rw [heap_below _ _ _ (by simp only [size_al]; omega), heap_below _ _ _ (by simp only [size_al]; omega)]; have := heap_alloc_last w (Obj.cells #[.bool b, .string s, .string t, .int .i64 e] 24); simpa only [size_al] using this
          have Ry_0 : (((w.alloc (Obj.cells #[.bool b, .string s, .string t, .int .i64 e] 24)).alloc (Obj.cells #[.bool c, .string p, .string q, .int .i64 g] 24)).alloc (Obj.cells #[.bool false, .string ⟨#[]⟩, .string ⟨#[]⟩, .int .i64 0] 24)).heap[w.heap.size + 1]? = some (Obj.cells #[.bool c, .string p, .string q, .int .i64 g] 24) := by rw [heap_below _ _ _ (by simp only [size_al]; omega)]; have := heap_alloc_last (w.alloc (Obj.cells #[.bool b, .string s, .string t, .int .i64 e] 24)) (Obj.cells #[.bool c, .string p, .string q, .int .i64 g] 24); simpa only [size_al] using this
          have Rz_0 : (((w.alloc (Obj.cells #[.bool b, .string s, .string t, .int .i64 e] 24)).alloc (Obj.cells #[.bool c, .string p, .string q, .int .i64 g] 24)).alloc (Obj.cells #[.bool false, .string ⟨#[]⟩, .string ⟨#[]⟩, .int .i64 0] 24)).heap[w.heap.size + 1 + 1]? = some (Obj.cells #[.bool false, .string ⟨#[]⟩, .string ⟨#[]⟩, .int .i64 0] 24) := by have := heap_alloc_last ((w.alloc (Obj.cells #[.bool b, .string s, .string t, .int .i64 e] 24)).alloc (Obj.cells #[.bool c, .string p, .string q, .int .i64 g] 24)) (Obj.cells #[.bool false, .string ⟨#[]⟩, .string ⟨#[]⟩, .int .i64 0] 24); simpa only [size_al] using this
          have B0 : Below w.heap.size w (((w.alloc (Obj.cells #[.bool b, .string s, .string t, .int .i64 e] 24)).alloc (Obj.cells #[.bool c, .string p, .string q, .int .i64 g] 24)).alloc (Obj.cells #[.bool false, .string ⟨#[]⟩, .string ⟨#[]⟩, .int .i64 0] 24)) := ((((Below.refl _ _).alloc (by first | omega | (simp only [size_al]; omega)) _).alloc (by first | omega | (simp only [size_al]; omega)) _).alloc (by first | omega | (simp only [size_al]; omega)) _)
          go_enter Tryz.func11, Tryz.ntmps11
          go_wp2_with fail
          refine (K1.out _).mono ?_
          rintro r w1 ⟨rfl, b1⟩
          have B1 : Below w.heap.size w w1 := btr B0 b1
          have Rx_1 : w1.heap[w.heap.size]? = some (Obj.cells #[.bool b, .string s, .string t, .int .i64 e] 24) := heap_of b1 _ _ _ Rx_0
          have Ry_1 : w1.heap[w.heap.size + 1]? = some (Obj.cells #[.bool c, .string p, .string q, .int .i64 g] 24) := heap_of b1 _ _ _ Ry_0
          have Rz_1 : w1.heap[w.heap.size + 1 + 1]? = some (Obj.cells #[.bool false, .string ⟨#[]⟩, .string ⟨#[]⟩, .int .i64 0] 24) := heap_of b1 _ _ _ Rz_0
          clear b1 B0 Rx_0 Ry_0 Rz_0
          have cx_1_0 := cells4 Rx_1 0 _ rfl
          have cx_1_1 := cells4 Rx_1 1 _ rfl
          have cx_1_2 := cells4 Rx_1 2 _ rfl
          have cx_1_3 := cells4 Rx_1 3 _ rfl
          have cy_1_0 := cells4 Ry_1 0 _ rfl
          have cy_1_1 := cells4 Ry_1 1 _ rfl
          have cy_1_2 := cells4 Ry_1 2 _ rfl
          have cy_1_3 := cells4 Ry_1 3 _ rfl
          have cz_1_0 := cells4 Rz_1 0 _ rfl
          have cz_1_1 := cells4 Rz_1 1 _ rfl
          have cz_1_2 := cells4 Rz_1 2 _ rfl
          have cz_1_3 := cells4 Rz_1 3 _ rfl
          go_wp2_with fail
          refine (nat_Mul d f t q _ 4 HT2.out HQ2.out HX.out L2.out L4.out _).mono ?_
          rintro r w2 ⟨rfl, b2⟩
          have B2 : Below w.heap.size w w2 := btr B1 b2
          have Rx_2 : w2.heap[w.heap.size]? = some (Obj.cells #[.bool b, .string s, .string t, .int .i64 e] 24) := heap_of b2 _ _ _ Rx_1
          have Ry_2 : w2.heap[w.heap.size + 1]? = some (Obj.cells #[.bool c, .string p, .string q, .int .i64 g] 24) := heap_of b2 _ _ _ Ry_1
          have Rz_2 : w2.heap[w.heap.size + 1 + 1]? = some (Obj.cells #[.bool false, .string ⟨#[]⟩, .string ⟨#[]⟩, .int .i64 0] 24) := heap_of b2 _ _ _ Rz_1
          clear b2 B1 Rx_1 cx_1_0 cx_1_1 cx_1_2 cx_1_3 Ry_1 cy_1_0 cy_1_1 cy_1_2 cy_1_3 Rz_1 cz_1_0 cz_1_1 cz_1_2 cz_1_3
          have cx_2_0 := cells4 Rx_2 0 _ rfl
          have cx_2_1 := cells4 Rx_2 1 _ rfl
          have cx_2_2 := cells4 Rx_2 2 _ rfl
          have cx_2_3 := cells4 Rx_2 3 _ rfl
          have cy_2_0 := cells4 Ry_2 0 _ rfl
          have cy_2_1 := cells4 Ry_2 1 _ rfl
          have cy_2_2 := cells4 Ry_2 2 _ rfl
          have cy_2_3 := cells4 Ry_2 3 _ rfl
          have cz_2_0 := cells4 Rz_2 0 _ rfl
          have cz_2_1 := cells4 Rz_2 1 _ rfl
          have cz_2_2 := cells4 Rz_2 2 _ rfl
          have cz_2_3 := cells4 Rz_2 3 _ rfl
          have q0 := fz (k := 0) Rz_2
          have q1 := fz (k := 1) Rz_2
          have q2 := fz (k := 2) Rz_2
          have q3 := fz (k := 3) Rz_2
          obtain ⟨E0, E1, E2, E3⟩ := set4_cells Rz_2 rfl (.bool false) (.string ⟨#[]⟩) (.string ⟨#[]⟩) (.int .i64 0)
          go_wp2
          exact bodyPost_ret (v := .tuple #[.agg #[.bool false, .string ⟨#[]⟩, .string ⟨#[]⟩, .int .i64 0], .int .i64 4]) (by simp [results, Tryz.results11, go_sem, E0, E1, E2, E3]) rfl ⟨rfl, set4_below B2 (by first | exact Nat.le_refl _ | omega) _ _ _ _⟩
      · have K1 := box (fun w => rTwo b n d e s t c m f g p q ⟨#[]⟩ ⟨#[]⟩ 0 4 hs ht hp hq l1 l2 l3 l4 ha (by unfold twX; rw [hA, hB, if_neg h12]) w)
        rw [if_neg (fun h => h12 ⟨h.1, h.2.1⟩)] at hr2
        obtain ⟨rfl, rfl, rfl, rfl, rfl⟩ := xz_is hr2
        rw [nbA_zero] at hu hv
        subst hu hv
        clear hs ht hp hq hx hy hr hr2 n0 m0 l1 l2 l3 l4 d1 d2 hA hB hS hZ hS2 hZ2 h12 ha hL
        have Rx_0 : (((w.alloc (Obj.cells #[.bool b, .string s, .string t, .int .i64 e] 24)).alloc (Obj.cells #[.bool c, .string p, .string q, .int .i64 g] 24)).alloc (Obj.cells #[.bool false, .string ⟨#[]⟩, .string ⟨#[]⟩, .int .i64 0] 24)).heap[w.heap.size]? = some (Obj.cells #[.bool b, .string s, .string t, .int .i64 e] 24) := by rw [heap_below _ _ _ (by simp only [size_al]; omega), heap_below _ _ _ (by simp only [size_al]; omega)]; have := heap_alloc_last w (Obj.cells #[.bool b, .string s, .string t, .int .i64 e] 24); simpa only [size_al] using this
        have Ry_0 : (((w.alloc (Obj.cells #[.bool b, .string s, .string t, .int .i64 e] 24)).alloc (Obj.cells #[.bool c, .string p, .string q, .int .i64 g] 24)).alloc (Obj.cells #[.bool false, .string ⟨#[]⟩, .string ⟨#[]⟩, .int .i64 0] 24)).heap[w.heap.size + 1]? = some (Obj.cells #[.bool c, .string p, .string q, .int .i64 g] 24) := by rw [heap_below _ _ _ (by simp only [size_al]; omega)]; have := heap_alloc_last (w.alloc (Obj.cells #[.bool b, .string s, .string t, .int .i64 e] 24)) (Obj.cells #[.bool c, .string p, .string q, .int .i64 g] 24); simpa only [size_al] using this
        have Rz_0 : (((w.alloc (Obj.cells #[.bool b, .string s, .string t, .int .i64 e] 24)).alloc (Obj.cells #[.bool c, .string p, .string q, .int .i64 g] 24)).alloc (Obj.cells #[.bool false, .string ⟨#[]⟩, .string ⟨#[]⟩, .int .i64 0] 24)).heap[w.heap.size + 1 + 1]? = some (Obj.cells #[.bool false, .string ⟨#[]⟩, .string ⟨#[]⟩, .int .i64 0] 24) := by have := heap_alloc_last ((w.alloc (Obj.cells #[.bool b, .string s, .string t, .int .i64 e] 24)).alloc (Obj.cells #[.bool c, .string p, .string q, .int .i64 g] 24)) (Obj.cells #[.bool false, .string ⟨#[]⟩, .string ⟨#[]⟩, .int .i64 0] 24); simpa only [size_al] using this
        have B0 : Below w.heap.size w (((w.alloc (Obj.cells #[.bool b, .string s, .string t, .int .i64 e] 24)).alloc (Obj.cells #[.bool c, .string p, .string q, .int .i64 g] 24)).alloc (Obj.cells #[.bool false, .string ⟨#[]⟩, .string ⟨#[]⟩, .int .i64 0] 24)) := ((((Below.refl _ _).alloc (by first | omega | (simp only [size_al]; omega)) _).alloc (by first | omega | (simp only [size_al]; omega)) _).alloc (by first | omega | (simp only [size_al]; omega)) _)
        go_enter Tryz.func11, Tryz.ntmps11
        go_wp2_with fail
        refine (K1.out _).mono ?_
        rintro r w1 ⟨rfl, b1⟩
        have B1 : Below w.heap.size w w1 := btr B0 b1
        have Rx_1 : w1.heap[w.heap.size]? = some (Obj.cells #[.bool b, .string s, .string t, .int .i64 e] 24) := heap_of b1 _ _ _ Rx_0
        have Ry_1 : w1.heap[w.heap.size + 1]? = some (Obj.cells #[.bool c, .string p, .string q, .int .i64 g] 24) := heap_of b1 _ _ _ Ry_0
        have Rz_1 : w1.heap[w.heap.size + 1 + 1]? = some (Obj.cells #[.bool false, .string ⟨#[]⟩, .string ⟨#[]⟩, .int .i64 0] 24) := heap_of b1 _ _ _ Rz_0
        clear b1 B0 Rx_0 Ry_0 Rz_0
        have cx_1_0 := cells4 Rx_1 0 _ rfl
        have cx_1_1 := cells4 Rx_1 1 _ rfl
        have cx_1_2 := cells4 Rx_1 2 _ rfl
        have cx_1_3 := cells4 Rx_1 3 _ rfl
        have cy_1_0 := cells4 Ry_1 0 _ rfl
        have cy_1_1 := cells4 Ry_1 1 _ rfl
        have cy_1_2 := cells4 Ry_1 2 _ rfl
        have cy_1_3 := cells4 Ry_1 3 _ rfl
        have cz_1_0 := cells4 Rz_1 0 _ rfl
        have cz_1_1 := cells4 Rz_1 1 _ rfl
        have cz_1_2 := cells4 Rz_1 2 _ rfl
        have cz_1_3 := cells4 Rz_1 3 _ rfl
        have q0 := fz (k := 0) Rz_1
        have q1 := fz (k := 1) Rz_1
        have q2 := fz (k := 2) Rz_1
        have q3 := fz (k := 3) Rz_1
        obtain ⟨E0, E1, E2, E3⟩ := set4_cells Rz_1 rfl (.bool false) (.string ⟨#[]⟩) (.string ⟨#[]⟩) (.int .i64 0)
        go_wp2
        exact bodyPost_ret (v := .tuple #[.agg #[.bool false, .string ⟨#[]⟩, .string ⟨#[]⟩, .int .i64 0], .int .i64 4]) (by simp [results, Tryz.results11, go_sem, E0, E1, E2, E3]) rfl ⟨rfl, set4_below B1 (by first | exact Nat.le_refl _ | omega) _ _ _ _⟩

theorem rsign (b : Bool) (n d : Nat) (e : Int) (s t : ByteArray) (c : Int) (hs : nbA n = s) (ht : nbA d = t) (hc : (XN.mk b n d e).can) (hr : sg (XN.mk b n d e) = c) (w : World) : Calls Tryz.prog 31 #[.agg #[.bool b, .string s, .string t, .int .i64 e]] w fun r w' => r = .returned (.int .i64 c) ∧ Below w.heap.size w w' := by
  rcases x_cases hs ht hc with ⟨n0, rfl, rfl, rfl, rfl, rfl⟩ | ⟨n0, e0⟩
  · have ec : c = 0 := by rw [← hr]; unfold sg; rw [if_pos n0]
    subst ec
    clear hs ht hc hr n0
    have Rx_0 : (w.alloc (Obj.cells #[.bool false, .string ⟨#[]⟩, .string ⟨#[1]⟩, .int .i64 0] 24)).heap[w.heap.size]? = some (Obj.cells #[.bool false, .string ⟨#[]⟩, .string ⟨#[1]⟩, .int .i64 0] 24) := by have := heap_alloc_last w (Obj.cells #[.bool false, .string ⟨#[]⟩, .string ⟨#[1]⟩, .int .i64 0] 24); simpa only [size_al] using this
    have B0 : Below w.heap.size w (w.alloc (Obj.cells #[.bool false, .string ⟨#[]⟩, .string ⟨#[1]⟩, .int .i64 0] 24)) := ((Below.refl _ _).alloc (by first | omega | (simp only [size_al]; omega)) _)
    go_enter Tryz.func31, Tryz.ntmps31
    go_wp2
    go_ret
    exact ⟨rfl, B0⟩
  · cases b
    · have ec : c = 1 := by rw [← hr]; unfold sg; rw [if_neg n0]; rfl
      subst ec
      clear hs ht hc hr n0
      have Rx_0 : (w.alloc (Obj.cells #[.bool false, .string s, .string t, .int .i64 e] 24)).heap[w.heap.size]? = some (Obj.cells #[.bool false, .string s, .string t, .int .i64 e] 24) := by have := heap_alloc_last w (Obj.cells #[.bool false, .string s, .string t, .int .i64 e] 24); simpa only [size_al] using this
      have B0 : Below w.heap.size w (w.alloc (Obj.cells #[.bool false, .string s, .string t, .int .i64 e] 24)) := ((Below.refl _ _).alloc (by first | omega | (simp only [size_al]; omega)) _)
      go_enter Tryz.func31, Tryz.ntmps31
      go_wp2
      go_ret
      exact ⟨rfl, B0⟩
    · have ec : c = -1 := by rw [← hr]; unfold sg; rw [if_neg n0]; rfl
      subst ec
      clear hs ht hc hr n0
      have Rx_0 : (w.alloc (Obj.cells #[.bool true, .string s, .string t, .int .i64 e] 24)).heap[w.heap.size]? = some (Obj.cells #[.bool true, .string s, .string t, .int .i64 e] 24) := by have := heap_alloc_last w (Obj.cells #[.bool true, .string s, .string t, .int .i64 e] 24); simpa only [size_al] using this
      have B0 : Below w.heap.size w (w.alloc (Obj.cells #[.bool true, .string s, .string t, .int .i64 e] 24)) := ((Below.refl _ _).alloc (by first | omega | (simp only [size_al]; omega)) _)
      go_enter Tryz.func31, Tryz.ntmps31
      go_wp2
      go_ret
      exact ⟨rfl, B0⟩

set_option maxRecDepth 100000 in
set_option maxHeartbeats 2000000 in
theorem rCmp_ok (b : Bool) (n d : Nat) (e : Int) (s t : ByteArray) (c : Bool) (m f : Nat) (g : Int) (p q : ByteArray) (k err : Int)
    (hs : nbA n = s) (ht : nbA d = t) (hp : nbA m = p) (hq : nbA f = q) (hx : (XN.mk b n d e).can) (hy : (XN.mk c m f g).can) (hr : cmpX (XN.mk b n d e) (XN.mk c m f g) = (k, err)) (w : World) :
    Calls Tryz.prog 13 #[.agg #[.bool b, .string s, .string t, .int .i64 e], .agg #[.bool c, .string p, .string q, .int .i64 g]] w fun r w' => r = .returned (.tuple #[.int .i64 k, .int .i64 err]) ∧ Below w.heap.size w w' := by
  obtain ⟨S, hS⟩ : ∃ S, sg (XN.mk b n d e) = S := ⟨_, rfl⟩
  obtain ⟨T, hTt⟩ : ∃ S, sg (XN.mk c m f g) = S := ⟨_, rfl⟩
  have HF := box (fun w => rsign b n d e s t S hs ht hx hS w)
  have HG := box (fun w => rsign c m f g p q T hp hq hy hTt w)
  have sb := sg_bd (XN.mk b n d e)
  rw [hS] at sb
  unfold cmpX at hr
  rw [hS, hTt] at hr
  by_cases h1 : S < T
  · rw [if_pos h1] at hr
    cases hr
    have d1 : decide (S < T) = true := decide_eq_true h1
    have d0 : (S == T) = false := by rw [Bool.eq_false_iff]; intro h; exact absurd (show S = T by simpa using h) (by omega)
    have d0' : decide (S = T) = false := decide_eq_false (by omega)
    clear hs ht hp hq hx hy hS hTt h1 sb
    have Rx_0 : ((w.alloc (Obj.cells #[.bool b, .string s, .string t, .int .i64 e] 24)).alloc (Obj.cells #[.bool c, .string p, .string q, .int .i64 g] 24)).heap[w.heap.size]? = some (Obj.cells #[.bool b, .string s, .string t, .int .i64 e] 24) := by rw [heap_below _ _ _ (by simp only [size_al]; omega)]; have := heap_alloc_last w (Obj.cells #[.bool b, .string s, .string t, .int .i64 e] 24); simpa only [size_al] using this
    have Ry_0 : ((w.alloc (Obj.cells #[.bool b, .string s, .string t, .int .i64 e] 24)).alloc (Obj.cells #[.bool c, .string p, .string q, .int .i64 g] 24)).heap[w.heap.size + 1]? = some (Obj.cells #[.bool c, .string p, .string q, .int .i64 g] 24) := by have := heap_alloc_last (w.alloc (Obj.cells #[.bool b, .string s, .string t, .int .i64 e] 24)) (Obj.cells #[.bool c, .string p, .string q, .int .i64 g] 24); simpa only [size_al] using this
    have B0 : Below w.heap.size w ((w.alloc (Obj.cells #[.bool b, .string s, .string t, .int .i64 e] 24)).alloc (Obj.cells #[.bool c, .string p, .string q, .int .i64 g] 24)) := (((Below.refl _ _).alloc (by first | omega | (simp only [size_al]; omega)) _).alloc (by first | omega | (simp only [size_al]; omega)) _)
    go_enter Tryz.func13, Tryz.ntmps13
    go_wp2_with fail
    obtain ⟨F, hF1, hF2⟩ := below_fun ((w.alloc (Obj.cells #[.bool b, .string s, .string t, .int .i64 e] 24)).alloc (Obj.cells #[.bool c, .string p, .string q, .int .i64 g] 24))
    have fx_0 := fun u => cells4 (heap_of (hF1 u) _ _ _ Rx_0) 0 _ rfl
    have fx_1 := fun u => cells4 (heap_of (hF1 u) _ _ _ Rx_0) 1 _ rfl
    have fx_2 := fun u => cells4 (heap_of (hF1 u) _ _ _ Rx_0) 2 _ rfl
    have fx_3 := fun u => cells4 (heap_of (hF1 u) _ _ _ Rx_0) 3 _ rfl
    have fy_0 := fun u => cells4 (heap_of (hF1 u) _ _ _ Ry_0) 0 _ rfl
    have fy_1 := fun u => cells4 (heap_of (hF1 u) _ _ _ Ry_0) 1 _ rfl
    have fy_2 := fun u => cells4 (heap_of (hF1 u) _ _ _ Ry_0) 2 _ rfl
    have fy_3 := fun u => cells4 (heap_of (hF1 u) _ _ _ Ry_0) 3 _ rfl
    refine wp_region_below F hF2 (by kernel_rfl) (by kernel_rfl) ?_
    repeat first | go_big_quiet_step (first | (go_at_call_of 31 (Value.agg #[.bool b, .string s, .string t, .int .i64 e]); exact quietF hF1 hF2 (HF.out _)) | (go_at_call_of 31 (Value.agg #[.bool c, .string p, .string q, .int .i64 g]); exact quietF hF1 hF2 (HG.out _)) | fail) | quiet_step (first | (go_at_call_of 31 (Value.agg #[.bool b, .string s, .string t, .int .i64 e]); exact quietF hF1 hF2 (HF.out _)) | (go_at_call_of 31 (Value.agg #[.bool c, .string p, .string q, .int .i64 g]); exact quietF hF1 hF2 (HG.out _)) | fail)
    refine wpQuiet_nil ?_
    rintro _ ⟨uW, rfl⟩
    have B1 := btr B0 (hF1 uW)
    have Rx_1 := heap_of (hF1 uW) _ _ _ Rx_0
    have Ry_1 := heap_of (hF1 uW) _ _ _ Ry_0
    obtain ⟨w1, hw⟩ : ∃ V, F uW = V := ⟨_, rfl⟩
    rw [hw] at B1 Rx_1 Ry_1
    try rw [hw]
    clear hw hF1 hF2 B0 fx_0 fx_1 fx_2 fx_3 fy_0 fy_1 fy_2 fy_3 Rx_0 Ry_0
    clear F
    have cx_1_0 := cells4 Rx_1 0 _ rfl
    have cx_1_1 := cells4 Rx_1 1 _ rfl
    have cx_1_2 := cells4 Rx_1 2 _ rfl
    have cx_1_3 := cells4 Rx_1 3 _ rfl
    have cy_1_0 := cells4 Ry_1 0 _ rfl
    have cy_1_1 := cells4 Ry_1 1 _ rfl
    have cy_1_2 := cells4 Ry_1 2 _ rfl
    have cy_1_3 := cells4 Ry_1 3 _ rfl
    go_wp2
    go_ret2
    exact ⟨rfl, B1⟩
  rw [if_neg h1] at hr
  have d1 : decide (S < T) = false := decide_eq_false h1
  by_cases h2 : T < S
  · rw [if_pos h2] at hr
    cases hr
    have d2 : decide (T < S) = true := decide_eq_true h2
    have d0 : (S == T) = false := by rw [Bool.eq_false_iff]; intro h; exact absurd (show S = T by simpa using h) (by omega)
    have d0' : decide (S = T) = false := decide_eq_false (by omega)
    clear hs ht hp hq hx hy hS hTt h1 h2 sb
    have Rx_0 : ((w.alloc (Obj.cells #[.bool b, .string s, .string t, .int .i64 e] 24)).alloc (Obj.cells #[.bool c, .string p, .string q, .int .i64 g] 24)).heap[w.heap.size]? = some (Obj.cells #[.bool b, .string s, .string t, .int .i64 e] 24) := by rw [heap_below _ _ _ (by simp only [size_al]; omega)]; have := heap_alloc_last w (Obj.cells #[.bool b, .string s, .string t, .int .i64 e] 24); simpa only [size_al] using this
    have Ry_0 : ((w.alloc (Obj.cells #[.bool b, .string s, .string t, .int .i64 e] 24)).alloc (Obj.cells #[.bool c, .string p, .string q, .int .i64 g] 24)).heap[w.heap.size + 1]? = some (Obj.cells #[.bool c, .string p, .string q, .int .i64 g] 24) := by have := heap_alloc_last (w.alloc (Obj.cells #[.bool b, .string s, .string t, .int .i64 e] 24)) (Obj.cells #[.bool c, .string p, .string q, .int .i64 g] 24); simpa only [size_al] using this
    have B0 : Below w.heap.size w ((w.alloc (Obj.cells #[.bool b, .string s, .string t, .int .i64 e] 24)).alloc (Obj.cells #[.bool c, .string p, .string q, .int .i64 g] 24)) := (((Below.refl _ _).alloc (by first | omega | (simp only [size_al]; omega)) _).alloc (by first | omega | (simp only [size_al]; omega)) _)
    go_enter Tryz.func13, Tryz.ntmps13
    go_wp2_with fail
    obtain ⟨F, hF1, hF2⟩ := below_fun ((w.alloc (Obj.cells #[.bool b, .string s, .string t, .int .i64 e] 24)).alloc (Obj.cells #[.bool c, .string p, .string q, .int .i64 g] 24))
    have fx_0 := fun u => cells4 (heap_of (hF1 u) _ _ _ Rx_0) 0 _ rfl
    have fx_1 := fun u => cells4 (heap_of (hF1 u) _ _ _ Rx_0) 1 _ rfl
    have fx_2 := fun u => cells4 (heap_of (hF1 u) _ _ _ Rx_0) 2 _ rfl
    have fx_3 := fun u => cells4 (heap_of (hF1 u) _ _ _ Rx_0) 3 _ rfl
    have fy_0 := fun u => cells4 (heap_of (hF1 u) _ _ _ Ry_0) 0 _ rfl
    have fy_1 := fun u => cells4 (heap_of (hF1 u) _ _ _ Ry_0) 1 _ rfl
    have fy_2 := fun u => cells4 (heap_of (hF1 u) _ _ _ Ry_0) 2 _ rfl
    have fy_3 := fun u => cells4 (heap_of (hF1 u) _ _ _ Ry_0) 3 _ rfl
    refine wp_region_below F hF2 (by kernel_rfl) (by kernel_rfl) ?_
    repeat first | go_big_quiet_step (first | (go_at_call_of 31 (Value.agg #[.bool b, .string s, .string t, .int .i64 e]); exact quietF hF1 hF2 (HF.out _)) | (go_at_call_of 31 (Value.agg #[.bool c, .string p, .string q, .int .i64 g]); exact quietF hF1 hF2 (HG.out _)) | fail) | quiet_step (first | (go_at_call_of 31 (Value.agg #[.bool b, .string s, .string t, .int .i64 e]); exact quietF hF1 hF2 (HF.out _)) | (go_at_call_of 31 (Value.agg #[.bool c, .string p, .string q, .int .i64 g]); exact quietF hF1 hF2 (HG.out _)) | fail)
    refine wpQuiet_nil ?_
    rintro _ ⟨uW, rfl⟩
    have B1 := btr B0 (hF1 uW)
    have Rx_1 := heap_of (hF1 uW) _ _ _ Rx_0
    have Ry_1 := heap_of (hF1 uW) _ _ _ Ry_0
    obtain ⟨w1, hw⟩ : ∃ V, F uW = V := ⟨_, rfl⟩
    rw [hw] at B1 Rx_1 Ry_1
    try rw [hw]
    clear hw hF1 hF2 B0 fx_0 fx_1 fx_2 fx_3 fy_0 fy_1 fy_2 fy_3 Rx_0 Ry_0
    clear F
    have cx_1_0 := cells4 Rx_1 0 _ rfl
    have cx_1_1 := cells4 Rx_1 1 _ rfl
    have cx_1_2 := cells4 Rx_1 2 _ rfl
    have cx_1_3 := cells4 Rx_1 3 _ rfl
    have cy_1_0 := cells4 Ry_1 0 _ rfl
    have cy_1_1 := cells4 Ry_1 1 _ rfl
    have cy_1_2 := cells4 Ry_1 2 _ rfl
    have cy_1_3 := cells4 Ry_1 3 _ rfl
    go_wp2
    go_ret2
    exact ⟨rfl, B1⟩
  rw [if_neg h2] at hr
  obtain rfl : S = T := by omega
  have d2 : decide (S < S) = false := decide_eq_false (by omega)
  have d0 : (S == S) = true := by simp
  by_cases h3 : S = 0
  · rw [if_pos h3] at hr
    cases hr
    have d3 : (S == 0) = true := by rw [h3]; rfl
    have d3' : decide (S = 0) = true := decide_eq_true h3
    clear hs ht hp hq hx hy hS hTt h1 h2 h3 sb
    have Rx_0 : ((w.alloc (Obj.cells #[.bool b, .string s, .string t, .int .i64 e] 24)).alloc (Obj.cells #[.bool c, .string p, .string q, .int .i64 g] 24)).heap[w.heap.size]? = some (Obj.cells #[.bool b, .string s, .string t, .int .i64 e] 24) := by rw [heap_below _ _ _ (by simp only [size_al]; omega)]; have := heap_alloc_last w (Obj.cells #[.bool b, .string s, .string t, .int .i64 e] 24); simpa only [size_al] using this
    have Ry_0 : ((w.alloc (Obj.cells #[.bool b, .string s, .string t, .int .i64 e] 24)).alloc (Obj.cells #[.bool c, .string p, .string q, .int .i64 g] 24)).heap[w.heap.size + 1]? = some (Obj.cells #[.bool c, .string p, .string q, .int .i64 g] 24) := by have := heap_alloc_last (w.alloc (Obj.cells #[.bool b, .string s, .string t, .int .i64 e] 24)) (Obj.cells #[.bool c, .string p, .string q, .int .i64 g] 24); simpa only [size_al] using this
    have B0 : Below w.heap.size w ((w.alloc (Obj.cells #[.bool b, .string s, .string t, .int .i64 e] 24)).alloc (Obj.cells #[.bool c, .string p, .string q, .int .i64 g] 24)) := (((Below.refl _ _).alloc (by first | omega | (simp only [size_al]; omega)) _).alloc (by first | omega | (simp only [size_al]; omega)) _)
    go_enter Tryz.func13, Tryz.ntmps13
    go_wp2_with fail
    obtain ⟨F, hF1, hF2⟩ := below_fun ((w.alloc (Obj.cells #[.bool b, .string s, .string t, .int .i64 e] 24)).alloc (Obj.cells #[.bool c, .string p, .string q, .int .i64 g] 24))
    have fx_0 := fun u => cells4 (heap_of (hF1 u) _ _ _ Rx_0) 0 _ rfl
    have fx_1 := fun u => cells4 (heap_of (hF1 u) _ _ _ Rx_0) 1 _ rfl
    have fx_2 := fun u => cells4 (heap_of (hF1 u) _ _ _ Rx_0) 2 _ rfl
    have fx_3 := fun u => cells4 (heap_of (hF1 u) _ _ _ Rx_0) 3 _ rfl
    have fy_0 := fun u => cells4 (heap_of (hF1 u) _ _ _ Ry_0) 0 _ rfl
    have fy_1 := fun u => cells4 (heap_of (hF1 u) _ _ _ Ry_0) 1 _ rfl
    have fy_2 := fun u => cells4 (heap_of (hF1 u) _ _ _ Ry_0) 2 _ rfl
    have fy_3 := fun u => cells4 (heap_of (hF1 u) _ _ _ Ry_0) 3 _ rfl
    refine wp_region_below F hF2 (by kernel_rfl) (by kernel_rfl) ?_
    repeat first | go_big_quiet_step (first | (go_at_call_of 31 (Value.agg #[.bool b, .string s, .string t, .int .i64 e]); exact quietF hF1 hF2 (HF.out _)) | (go_at_call_of 31 (Value.agg #[.bool c, .string p, .string q, .int .i64 g]); exact quietF hF1 hF2 (HG.out _)) | fail) | quiet_step (first | (go_at_call_of 31 (Value.agg #[.bool b, .string s, .string t, .int .i64 e]); exact quietF hF1 hF2 (HF.out _)) | (go_at_call_of 31 (Value.agg #[.bool c, .string p, .string q, .int .i64 g]); exact quietF hF1 hF2 (HG.out _)) | fail)
    refine wpQuiet_nil ?_
    rintro _ ⟨uW, rfl⟩
    have B1 := btr B0 (hF1 uW)
    have Rx_1 := heap_of (hF1 uW) _ _ _ Rx_0
    have Ry_1 := heap_of (hF1 uW) _ _ _ Ry_0
    obtain ⟨w1, hw⟩ : ∃ V, F uW = V := ⟨_, rfl⟩
    rw [hw] at B1 Rx_1 Ry_1
    try rw [hw]
    clear hw hF1 hF2 B0 fx_0 fx_1 fx_2 fx_3 fy_0 fy_1 fy_2 fy_3 Rx_0 Ry_0
    clear F
    have cx_1_0 := cells4 Rx_1 0 _ rfl
    have cx_1_1 := cells4 Rx_1 1 _ rfl
    have cx_1_2 := cells4 Rx_1 2 _ rfl
    have cx_1_3 := cells4 Rx_1 3 _ rfl
    have cy_1_0 := cells4 Ry_1 0 _ rfl
    have cy_1_1 := cells4 Ry_1 1 _ rfl
    have cy_1_2 := cells4 Ry_1 2 _ rfl
    have cy_1_3 := cells4 Ry_1 3 _ rfl
    go_wp2
    go_ret2
    exact ⟨rfl, B1⟩
  rw [if_neg h3] at hr
  have d3 : (S == 0) = false := by rw [Bool.eq_false_iff]; intro h; exact h3 (by simpa using h)
  have d3' : decide (S = 0) = false := decide_eq_false h3
  have ha : -1048576 ≤ e ∧ e ≤ 1048576 ∧ -1048576 ≤ g ∧ g ≤ 1048576 := ⟨hx.2.2.1, hx.2.2.2.1, hy.2.2.1, hy.2.2.2.1⟩
  obtain ⟨A, hA⟩ : ∃ A, XMath.sA (XN.mk b n d e) (XN.mk c m f g) = A := ⟨_, rfl⟩
  obtain ⟨B, hB⟩ : ∃ A, XMath.sA (XN.mk c m f g) (XN.mk b n d e) = A := ⟨_, rfl⟩
  rw [hA, hB] at hr
  obtain ⟨L, hL⟩ : ∃ L, min e g = L := ⟨_, rfl⟩
  by_cases h4 : nl A ≤ 16384 ∧ nl B ≤ 16384
  · rw [if_pos h4] at hr
    cases hr
    obtain ⟨x, hxa⟩ : ∃ x, nbA A = x := ⟨_, rfl⟩
    obtain ⟨y, hyb⟩ : ∃ x, nbA B = x := ⟨_, rfl⟩
    have K1 := box (fun w => rTwo b n d e s t c m f g p q x y L 0 hs ht hp hq hx.1 hx.2.1 hy.1 hy.2.1 ha (by unfold twX; rw [hA, hB, if_pos h4, hxa, hyb]; show ((x, y), (min e g, (0 : Int))) = _; rw [hL]) w)
    obtain ⟨z, hz⟩ : ∃ z, cmpv A B = z := ⟨_, rfl⟩
    have zb := cmpv_bd A B
    rw [hz] at zb
    have K2 := box (fun w => nat_cmp A B x y z hxa hyb hz w)
    have n1 : IntKind.i64.wrap (S * z) = S * z := wrap_i64_is _ (by rcases sb with h | h | h <;> rcases zb with k | k | k <;> rw [h, k] <;> decide) (by rcases sb with h | h | h <;> rcases zb with k | k | k <;> rw [h, k] <;> decide)
    rw [hz]
    clear hs ht hp hq hx hy hS hTt h1 h2 h3 sb ha hA hB h4 hxa hyb hz zb hL
    have Rx_0 : ((w.alloc (Obj.cells #[.bool b, .string s, .string t, .int .i64 e] 24)).alloc (Obj.cells #[.bool c, .string p, .string q, .int .i64 g] 24)).heap[w.heap.size]? = some (Obj.cells #[.bool b, .string s, .string t, .int .i64 e] 24) := by rw [heap_below _ _ _ (by simp only [size_al]; omega)]; have := heap_alloc_last w (Obj.cells #[.bool b, .string s, .string t, .int .i64 e] 24); simpa only [size_al] using this
    have Ry_0 : ((w.alloc (Obj.cells #[.bool b, .string s, .string t, .int .i64 e] 24)).alloc (Obj.cells #[.bool c, .string p, .string q, .int .i64 g] 24)).heap[w.heap.size + 1]? = some (Obj.cells #[.bool c, .string p, .string q, .int .i64 g] 24) := by have := heap_alloc_last (w.alloc (Obj.cells #[.bool b, .string s, .string t, .int .i64 e] 24)) (Obj.cells #[.bool c, .string p, .string q, .int .i64 g] 24); simpa only [size_al] using this
    have B0 : Below w.heap.size w ((w.alloc (Obj.cells #[.bool b, .string s, .string t, .int .i64 e] 24)).alloc (Obj.cells #[.bool c, .string p, .string q, .int .i64 g] 24)) := (((Below.refl _ _).alloc (by first | omega | (simp only [size_al]; omega)) _).alloc (by first | omega | (simp only [size_al]; omega)) _)
    go_enter Tryz.func13, Tryz.ntmps13
    go_wp2_with fail
    obtain ⟨F, hF1, hF2⟩ := below_fun ((w.alloc (Obj.cells #[.bool b, .string s, .string t, .int .i64 e] 24)).alloc (Obj.cells #[.bool c, .string p, .string q, .int .i64 g] 24))
    have fx_0 := fun u => cells4 (heap_of (hF1 u) _ _ _ Rx_0) 0 _ rfl
    have fx_1 := fun u => cells4 (heap_of (hF1 u) _ _ _ Rx_0) 1 _ rfl
    have fx_2 := fun u => cells4 (heap_of (hF1 u) _ _ _ Rx_0) 2 _ rfl
    have fx_3 := fun u => cells4 (heap_of (hF1 u) _ _ _ Rx_0) 3 _ rfl
    have fy_0 := fun u => cells4 (heap_of (hF1 u) _ _ _ Ry_0) 0 _ rfl
    have fy_1 := fun u => cells4 (heap_of (hF1 u) _ _ _ Ry_0) 1 _ rfl
    have fy_2 := fun u => cells4 (heap_of (hF1 u) _ _ _ Ry_0) 2 _ rfl
    have fy_3 := fun u => cells4 (heap_of (hF1 u) _ _ _ Ry_0) 3 _ rfl
    refine wp_region_below F hF2 (by kernel_rfl) (by kernel_rfl) ?_
    repeat first | go_big_quiet_step (first | (go_at_call_of 31 (Value.agg #[.bool b, .string s, .string t, .int .i64 e]); exact quietF hF1 hF2 (HF.out _)) | (go_at_call_of 31 (Value.agg #[.bool c, .string p, .string q, .int .i64 g]); exact quietF hF1 hF2 (HG.out _)) | fail) | quiet_step (first | (go_at_call_of 31 (Value.agg #[.bool b, .string s, .string t, .int .i64 e]); exact quietF hF1 hF2 (HF.out _)) | (go_at_call_of 31 (Value.agg #[.bool c, .string p, .string q, .int .i64 g]); exact quietF hF1 hF2 (HG.out _)) | fail)
    refine wpQuiet_nil ?_
    rintro _ ⟨uW, rfl⟩
    have B1 := btr B0 (hF1 uW)
    have Rx_1 := heap_of (hF1 uW) _ _ _ Rx_0
    have Ry_1 := heap_of (hF1 uW) _ _ _ Ry_0
    obtain ⟨w1, hw⟩ : ∃ V, F uW = V := ⟨_, rfl⟩
    rw [hw] at B1 Rx_1 Ry_1
    try rw [hw]
    clear hw hF1 hF2 B0 fx_0 fx_1 fx_2 fx_3 fy_0 fy_1 fy_2 fy_3 Rx_0 Ry_0
    clear F
    have cx_1_0 := cells4 Rx_1 0 _ rfl
    have cx_1_1 := cells4 Rx_1 1 _ rfl
    have cx_1_2 := cells4 Rx_1 2 _ rfl
    have cx_1_3 := cells4 Rx_1 3 _ rfl
    have cy_1_0 := cells4 Ry_1 0 _ rfl
    have cy_1_1 := cells4 Ry_1 1 _ rfl
    have cy_1_2 := cells4 Ry_1 2 _ rfl
    have cy_1_3 := cells4 Ry_1 3 _ rfl
    go_wp2_with fail
    refine (K1.out _).mono ?_
    rintro r w2 ⟨rfl, b2⟩
    have B2 : Below w.heap.size w w2 := btr B1 b2
    have Rx_2 : w2.heap[w.heap.size]? = some (Obj.cells #[.bool b, .string s, .string t, .int .i64 e] 24) := heap_of b2 _ _ _ Rx_1
    have Ry_2 : w2.heap[w.heap.size + 1]? = some (Obj.cells #[.bool c, .string p, .string q, .int .i64 g] 24) := heap_of b2 _ _ _ Ry_1
    clear b2 B1 Rx_1 cx_1_0 cx_1_1 cx_1_2 cx_1_3 Ry_1 cy_1_0 cy_1_1 cy_1_2 cy_1_3
    have cx_2_0 := cells4 Rx_2 0 _ rfl
    have cx_2_1 := cells4 Rx_2 1 _ rfl
    have cx_2_2 := cells4 Rx_2 2 _ rfl
    have cx_2_3 := cells4 Rx_2 3 _ rfl
    have cy_2_0 := cells4 Ry_2 0 _ rfl
    have cy_2_1 := cells4 Ry_2 1 _ rfl
    have cy_2_2 := cells4 Ry_2 2 _ rfl
    have cy_2_3 := cells4 Ry_2 3 _ rfl
    go_wp2_with fail
    refine (K2.out _).mono ?_
    rintro r w' ⟨rfl, rfl⟩
    go_wp2
    go_ret2
    exact ⟨rfl, B2⟩
  · rw [if_neg h4] at hr
    cases hr
    have K1 := box (fun w => rTwo b n d e s t c m f g p q ⟨#[]⟩ ⟨#[]⟩ 0 4 hs ht hp hq hx.1 hx.2.1 hy.1 hy.2.1 ha (by unfold twX; rw [hA, hB, if_neg h4]) w)
    clear hs ht hp hq hx hy hS hTt h1 h2 h3 sb ha hA hB h4 hL
    have Rx_0 : ((w.alloc (Obj.cells #[.bool b, .string s, .string t, .int .i64 e] 24)).alloc (Obj.cells #[.bool c, .string p, .string q, .int .i64 g] 24)).heap[w.heap.size]? = some (Obj.cells #[.bool b, .string s, .string t, .int .i64 e] 24) := by rw [heap_below _ _ _ (by simp only [size_al]; omega)]; have := heap_alloc_last w (Obj.cells #[.bool b, .string s, .string t, .int .i64 e] 24); simpa only [size_al] using this
    have Ry_0 : ((w.alloc (Obj.cells #[.bool b, .string s, .string t, .int .i64 e] 24)).alloc (Obj.cells #[.bool c, .string p, .string q, .int .i64 g] 24)).heap[w.heap.size + 1]? = some (Obj.cells #[.bool c, .string p, .string q, .int .i64 g] 24) := by have := heap_alloc_last (w.alloc (Obj.cells #[.bool b, .string s, .string t, .int .i64 e] 24)) (Obj.cells #[.bool c, .string p, .string q, .int .i64 g] 24); simpa only [size_al] using this
    have B0 : Below w.heap.size w ((w.alloc (Obj.cells #[.bool b, .string s, .string t, .int .i64 e] 24)).alloc (Obj.cells #[.bool c, .string p, .string q, .int .i64 g] 24)) := (((Below.refl _ _).alloc (by first | omega | (simp only [size_al]; omega)) _).alloc (by first | omega | (simp only [size_al]; omega)) _)
    go_enter Tryz.func13, Tryz.ntmps13
    go_wp2_with fail
    obtain ⟨F, hF1, hF2⟩ := below_fun ((w.alloc (Obj.cells #[.bool b, .string s, .string t, .int .i64 e] 24)).alloc (Obj.cells #[.bool c, .string p, .string q, .int .i64 g] 24))
    have fx_0 := fun u => cells4 (heap_of (hF1 u) _ _ _ Rx_0) 0 _ rfl
    have fx_1 := fun u => cells4 (heap_of (hF1 u) _ _ _ Rx_0) 1 _ rfl
    have fx_2 := fun u => cells4 (heap_of (hF1 u) _ _ _ Rx_0) 2 _ rfl
    have fx_3 := fun u => cells4 (heap_of (hF1 u) _ _ _ Rx_0) 3 _ rfl
    have fy_0 := fun u => cells4 (heap_of (hF1 u) _ _ _ Ry_0) 0 _ rfl
    have fy_1 := fun u => cells4 (heap_of (hF1 u) _ _ _ Ry_0) 1 _ rfl
    have fy_2 := fun u => cells4 (heap_of (hF1 u) _ _ _ Ry_0) 2 _ rfl
    have fy_3 := fun u => cells4 (heap_of (hF1 u) _ _ _ Ry_0) 3 _ rfl
    refine wp_region_below F hF2 (by kernel_rfl) (by kernel_rfl) ?_
    repeat first | go_big_quiet_step (first | (go_at_call_of 31 (Value.agg #[.bool b, .string s, .string t, .int .i64 e]); exact quietF hF1 hF2 (HF.out _)) | (go_at_call_of 31 (Value.agg #[.bool c, .string p, .string q, .int .i64 g]); exact quietF hF1 hF2 (HG.out _)) | fail) | quiet_step (first | (go_at_call_of 31 (Value.agg #[.bool b, .string s, .string t, .int .i64 e]); exact quietF hF1 hF2 (HF.out _)) | (go_at_call_of 31 (Value.agg #[.bool c, .string p, .string q, .int .i64 g]); exact quietF hF1 hF2 (HG.out _)) | fail)
    refine wpQuiet_nil ?_
    rintro _ ⟨uW, rfl⟩
    have B1 := btr B0 (hF1 uW)
    have Rx_1 := heap_of (hF1 uW) _ _ _ Rx_0
    have Ry_1 := heap_of (hF1 uW) _ _ _ Ry_0
    obtain ⟨w1, hw⟩ : ∃ V, F uW = V := ⟨_, rfl⟩
    rw [hw] at B1 Rx_1 Ry_1
    try rw [hw]
    clear hw hF1 hF2 B0 fx_0 fx_1 fx_2 fx_3 fy_0 fy_1 fy_2 fy_3 Rx_0 Ry_0
    clear F
    have cx_1_0 := cells4 Rx_1 0 _ rfl
    have cx_1_1 := cells4 Rx_1 1 _ rfl
    have cx_1_2 := cells4 Rx_1 2 _ rfl
    have cx_1_3 := cells4 Rx_1 3 _ rfl
    have cy_1_0 := cells4 Ry_1 0 _ rfl
    have cy_1_1 := cells4 Ry_1 1 _ rfl
    have cy_1_2 := cells4 Ry_1 2 _ rfl
    have cy_1_3 := cells4 Ry_1 3 _ rfl
    go_wp2_with fail
    refine (K1.out _).mono ?_
    rintro r w2 ⟨rfl, b2⟩
    have B2 : Below w.heap.size w w2 := btr B1 b2
    have Rx_2 : w2.heap[w.heap.size]? = some (Obj.cells #[.bool b, .string s, .string t, .int .i64 e] 24) := heap_of b2 _ _ _ Rx_1
    have Ry_2 : w2.heap[w.heap.size + 1]? = some (Obj.cells #[.bool c, .string p, .string q, .int .i64 g] 24) := heap_of b2 _ _ _ Ry_1
    clear b2 B1 Rx_1 cx_1_0 cx_1_1 cx_1_2 cx_1_3 Ry_1 cy_1_0 cy_1_1 cy_1_2 cy_1_3
    have cx_2_0 := cells4 Rx_2 0 _ rfl
    have cx_2_1 := cells4 Rx_2 1 _ rfl
    have cx_2_2 := cells4 Rx_2 2 _ rfl
    have cx_2_3 := cells4 Rx_2 3 _ rfl
    have cy_2_0 := cells4 Ry_2 0 _ rfl
    have cy_2_1 := cells4 Ry_2 1 _ rfl
    have cy_2_2 := cells4 Ry_2 2 _ rfl
    have cy_2_3 := cells4 Ry_2 3 _ rfl
    go_wp2
    go_ret2
    exact ⟨rfl, B2⟩
theorem xfar (b : Bool) (e : Int) (s t : ByteArray) (c : Bool) (g : Int) (p q : ByteArray) (he : -1048576 ≤ e ∧ e ≤ 1048576 ∧ -1048576 ≤ g ∧ g ≤ 1048576) (o : Bool) (ho : ((decide (4000 < e - g) || decide (e - g < -4000)) && (decide (e - g < 140000) && decide (-140000 < e - g))) = o) (w : World) : Calls Tryz.prog 10 #[.agg #[.bool b, .string s, .string t, .int .i64 e], .agg #[.bool c, .string p, .string q, .int .i64 g]] w fun r w' => r = .returned (.bool o) ∧ Below w.heap.size w w' := by
  obtain ⟨D, hD⟩ : ∃ D, e - g = D := ⟨_, rfl⟩
  have n1 : IntKind.i64.wrap (e - g) = D := by rw [wrap_i64_is _ (by omega) (by omega), hD]
  rw [hD] at ho
  clear hD he
  cases c1 : decide (4000 < D) <;> cases c2 : decide (D < -4000) <;> cases c3 : decide (D < 140000) <;> cases c4 : decide (-140000 < D) <;> rw [c1, c2, c3, c4] at ho <;> subst ho
  all_goals
    have Rx_0 : ((w.alloc (Obj.cells #[.bool b, .string s, .string t, .int .i64 e] 24)).alloc (Obj.cells #[.bool c, .string p, .string q, .int .i64 g] 24)).heap[w.heap.size]? = some (Obj.cells #[.bool b, .string s, .string t, .int .i64 e] 24) := by rw [heap_below _ _ _ (by simp only [size_al]; omega)]; have := heap_alloc_last w (Obj.cells #[.bool b, .string s, .string t, .int .i64 e] 24); simpa only [size_al] using this
    have Ry_0 : ((w.alloc (Obj.cells #[.bool b, .string s, .string t, .int .i64 e] 24)).alloc (Obj.cells #[.bool c, .string p, .string q, .int .i64 g] 24)).heap[w.heap.size + 1]? = some (Obj.cells #[.bool c, .string p, .string q, .int .i64 g] 24) := by have := heap_alloc_last (w.alloc (Obj.cells #[.bool b, .string s, .string t, .int .i64 e] 24)) (Obj.cells #[.bool c, .string p, .string q, .int .i64 g] 24); simpa only [size_al] using this
    have B0 : Below w.heap.size w ((w.alloc (Obj.cells #[.bool b, .string s, .string t, .int .i64 e] 24)).alloc (Obj.cells #[.bool c, .string p, .string q, .int .i64 g] 24)) := (((Below.refl _ _).alloc (by first | omega | (simp only [size_al]; omega)) _).alloc (by first | omega | (simp only [size_al]; omega)) _)
    go_enter Tryz.func10, Tryz.ntmps10
    go_wp2
    go_ret
    exact ⟨rfl, B0⟩
end Go.Proofs.YtknkkagapcigfaaGreatDoor
