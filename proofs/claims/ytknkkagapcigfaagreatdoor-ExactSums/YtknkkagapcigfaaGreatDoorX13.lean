/-
  What the functions Add, Sub and Cmp of package exact return.
-/
import Derived.Test.YtknkkagapcigfaaGreatDoorX12
namespace Go.Proofs.YtknkkagapcigfaaGreatDoor
open Go.RowKit WMath XMath

set_option maxRecDepth 100000 in
set_option maxHeartbeats 1000000 in
theorem Addx_ok (b : Bool) (n d : Nat) (e : Int) (s t : ByteArray) (c : Bool) (m f : Nat) (g : Int) (p q : ByteArray) (rb : Bool) (rn rd : Nat) (re err : Int) (u v : ByteArray)
    (hs : nbA n = s) (ht : nbA d = t) (hp : nbA m = p) (hq : nbA f = q) (hx : (XN.mk b n d e).can) (hy : (XN.mk c m f g).can) (hr : addX (XN.mk b n d e) (XN.mk c m f g) = (⟨rb, rn, rd, re⟩, err)) (hu : nbA rn = u) (hv : nbA rd = v) (w : World) (hT : TabAt w) :
    Calls Tryz.prog 7 #[.agg #[.bool b, .string s, .string t, .int .i64 e], .agg #[.bool c, .string p, .string q, .int .i64 g]] w fun r w' => r = .returned (.tuple #[.agg #[.bool rb, .string u, .string v, .int .i64 re], .int .i64 err]) ∧ Below w.heap.size w w' := by
  have M1 := box (may_yes hs ht hx)
  have M2 := box (may_yes hp hq hy)
  have HF := box (fun w hT => sumx b n d e s t c m f g p q rb rn rd re err u v hs ht hp hq hx hy hr hu hv w hT)
  have TT := box hT
  clear hs ht hp hq hx hy hr hu hv hT
  have Rx_0 : (((w.alloc (Obj.cells #[.bool b, .string s, .string t, .int .i64 e] 24)).alloc (Obj.cells #[.bool c, .string p, .string q, .int .i64 g] 24)).alloc (Obj.cells #[.bool false, .string ⟨#[]⟩, .string ⟨#[]⟩, .int .i64 0] 24)).heap[w.heap.size]? = some (Obj.cells #[.bool b, .string s, .string t, .int .i64 e] 24) := by rw [heap_below _ _ _ (by simp only [size_al]; omega), heap_below _ _ _ (by simp only [size_al]; omega)]; have := heap_alloc_last w (Obj.cells #[.bool b, .string s, .string t, .int .i64 e] 24); simpa only [size_al] using this
  have Ry_0 : (((w.alloc (Obj.cells #[.bool b, .string s, .string t, .int .i64 e] 24)).alloc (Obj.cells #[.bool c, .string p, .string q, .int .i64 g] 24)).alloc (Obj.cells #[.bool false, .string ⟨#[]⟩, .string ⟨#[]⟩, .int .i64 0] 24)).heap[w.heap.size + 1]? = some (Obj.cells #[.bool c, .string p, .string q, .int .i64 g] 24) := by rw [heap_below _ _ _ (by simp only [size_al]; omega)]; have := heap_alloc_last (w.alloc (Obj.cells #[.bool b, .string s, .string t, .int .i64 e] 24)) (Obj.cells #[.bool c, .string p, .string q, .int .i64 g] 24); simpa only [size_al] using this
  have Rz_0 : (((w.alloc (Obj.cells #[.bool b, .string s, .string t, .int .i64 e] 24)).alloc (Obj.cells #[.bool c, .string p, .string q, .int .i64 g] 24)).alloc (Obj.cells #[.bool false, .string ⟨#[]⟩, .string ⟨#[]⟩, .int .i64 0] 24)).heap[w.heap.size + 1 + 1]? = some (Obj.cells #[.bool false, .string ⟨#[]⟩, .string ⟨#[]⟩, .int .i64 0] 24) := by have := heap_alloc_last ((w.alloc (Obj.cells #[.bool b, .string s, .string t, .int .i64 e] 24)).alloc (Obj.cells #[.bool c, .string p, .string q, .int .i64 g] 24)) (Obj.cells #[.bool false, .string ⟨#[]⟩, .string ⟨#[]⟩, .int .i64 0] 24); simpa only [size_al] using this
  have B0 : Below w.heap.size w (((w.alloc (Obj.cells #[.bool b, .string s, .string t, .int .i64 e] 24)).alloc (Obj.cells #[.bool c, .string p, .string q, .int .i64 g] 24)).alloc (Obj.cells #[.bool false, .string ⟨#[]⟩, .string ⟨#[]⟩, .int .i64 0] 24)) := ((((Below.refl _ _).alloc (by first | omega | (simp only [size_al]; omega)) _).alloc (by first | omega | (simp only [size_al]; omega)) _).alloc (by first | omega | (simp only [size_al]; omega)) _)
  go_enter Tryz.func7, Tryz.ntmps7
  go_wp2_with fail
  refine (xmay2 _ _ _ _ _ _ _ _ true true true M1.out M2.out rfl _ (((w.alloc (Obj.cells #[.bool b, .string s, .string t, .int .i64 e] 24)).alloc (Obj.cells #[.bool c, .string p, .string q, .int .i64 g] 24)).alloc (Obj.cells #[.bool false, .string ⟨#[]⟩, .string ⟨#[]⟩, .int .i64 0] 24)) _ (by simp only [size_al]) (tabB TT.out B0)).mono ?_
  rintro r w1 ⟨rfl, b1⟩
  have B1 : Below w.heap.size w w1 := btr B0 b1
  have Rx_1 : w1.heap[w.heap.size]? = some (Obj.cells #[.bool b, .string s, .string t, .int .i64 e] 24) := heap_of b1 _ _ _ Rx_0
  have Ry_1 : w1.heap[w.heap.size + 1]? = some (Obj.cells #[.bool c, .string p, .string q, .int .i64 g] 24) := heap_of b1 _ _ _ Ry_0
  have Rz_1 : w1.heap[w.heap.size + 1 + 1]? = some (Obj.cells #[.bool false, .string ⟨#[]⟩, .string ⟨#[]⟩, .int .i64 0] 24) := heap_of b1 _ _ _ Rz_0
  clear b1 B0 Rx_0 Ry_0 Rz_0
  have cx_1_0 := cells4 Rx_1 0 _ rfl
  have cx_1_1 := cells4 Rx_1 1 _ rfl
  have cx_1_2 := cells4 Rx_1 2 _ rfl
  have cx_1_3 := cells4 Rx_1 3 _ rfl
  have cy_1_0 := cells4 Ry_1 0 _ rfl
  have cy_1_1 := cells4 Ry_1 1 _ rfl
  have cy_1_2 := cells4 Ry_1 2 _ rfl
  have cy_1_3 := cells4 Ry_1 3 _ rfl
  have cz_1_0 := cells4 Rz_1 0 _ rfl
  have cz_1_1 := cells4 Rz_1 1 _ rfl
  have cz_1_2 := cells4 Rz_1 2 _ rfl
  have cz_1_3 := cells4 Rz_1 3 _ rfl
  go_wp2_with fail
  refine (HF.out _ (tabB TT.out B1)).mono ?_
  rintro r w2 ⟨rfl, b2⟩
  have B2 : Below w.heap.size w w2 := btr B1 b2
  have Rx_2 : w2.heap[w.heap.size]? = some (Obj.cells #[.bool b, .string s, .string t, .int .i64 e] 24) := heap_of b2 _ _ _ Rx_1
  have Ry_2 : w2.heap[w.heap.size + 1]? = some (Obj.cells #[.bool c, .string p, .string q, .int .i64 g] 24) := heap_of b2 _ _ _ Ry_1
  have Rz_2 : w2.heap[w.heap.size + 1 + 1]? = some (Obj.cells #[.bool false, .string ⟨#[]⟩, .string ⟨#[]⟩, .int .i64 0] 24) := heap_of b2 _ _ _ Rz_1
  clear b2 B1 Rx_1 cx_1_0 cx_1_1 cx_1_2 cx_1_3 Ry_1 cy_1_0 cy_1_1 cy_1_2 cy_1_3 Rz_1 cz_1_0 cz_1_1 cz_1_2 cz_1_3
  have cx_2_0 := cells4 Rx_2 0 _ rfl
  have cx_2_1 := cells4 Rx_2 1 _ rfl
  have cx_2_2 := cells4 Rx_2 2 _ rfl
  have cx_2_3 := cells4 Rx_2 3 _ rfl
  have cy_2_0 := cells4 Ry_2 0 _ rfl
  have cy_2_1 := cells4 Ry_2 1 _ rfl
  have cy_2_2 := cells4 Ry_2 2 _ rfl
  have cy_2_3 := cells4 Ry_2 3 _ rfl
  have cz_2_0 := cells4 Rz_2 0 _ rfl
  have cz_2_1 := cells4 Rz_2 1 _ rfl
  have cz_2_2 := cells4 Rz_2 2 _ rfl
  have cz_2_3 := cells4 Rz_2 3 _ rfl
  have q0 := fz (k := 0) Rz_2
  have q1 := fz (k := 1) Rz_2
  have q2 := fz (k := 2) Rz_2
  have q3 := fz (k := 3) Rz_2
  obtain ⟨E0, E1, E2, E3⟩ := set4_cells Rz_2 rfl (.bool rb) (.string u) (.string v) (.int .i64 re)
  go_wp2
  exact bodyPost_ret (v := .tuple #[.agg #[.bool rb, .string u, .string v, .int .i64 re], .int .i64 err]) (by simp [results, Tryz.results7, go_sem, E0, E1, E2, E3]) rfl ⟨rfl, set4_below B2 (by first | exact Nat.le_refl _ | omega) _ _ _ _⟩
set_option maxRecDepth 100000 in
theorem Addx_no (b : Bool) (e : Int) (s t : ByteArray) (c : Bool) (g : Int) (p q : ByteArray) (o1 o2 : Bool) (m1 : IsM o1 b s t e) (m2 : IsM o2 c p q g) (ho : (o1 && o2) = false) (w : World) (hT : TabAt w) :
    Calls Tryz.prog 7 #[.agg #[.bool b, .string s, .string t, .int .i64 e], .agg #[.bool c, .string p, .string q, .int .i64 g]] w fun r w' => r = .returned (.tuple #[.agg #[.bool false, .string ⟨#[]⟩, .string ⟨#[]⟩, .int .i64 0], .int .i64 2]) ∧ Below w.heap.size w w' := by
  have M1 := box m1
  have M2 := box m2
  have MO := box ho
  have TT := box hT
  clear m1 m2 ho hT
  have Rx_0 : (((w.alloc (Obj.cells #[.bool b, .string s, .string t, .int .i64 e] 24)).alloc (Obj.cells #[.bool c, .string p, .string q, .int .i64 g] 24)).alloc (Obj.cells #[.bool false, .string ⟨#[]⟩, .string ⟨#[]⟩, .int .i64 0] 24)).heap[w.heap.size]? = some (Obj.cells #[.bool b, .string s, .string t, .int .i64 e] 24) := by rw [heap_below _ _ _ (by simp only [size_al]; omega), heap_below _ _ _ (by simp only [size_al]; omega)]; have := heap_alloc_last w (Obj.cells #[.bool b, .string s, .string t, .int .i64 e] 24); simpa only [size_al] using this
  have Ry_0 : (((w.alloc (Obj.cells #[.bool b, .string s, .string t, .int .i64 e] 24)).alloc (Obj.cells #[.bool c, .string p, .string q, .int .i64 g] 24)).alloc (Obj.cells #[.bool false, .string ⟨#[]⟩, .string ⟨#[]⟩, .int .i64 0] 24)).heap[w.heap.size + 1]? = some (Obj.cells #[.bool c, .string p, .string q, .int .i64 g] 24) := by rw [heap_below _ _ _ (by simp only [size_al]; omega)]; have := heap_alloc_last (w.alloc (Obj.cells #[.bool b, .string s, .string t, .int .i64 e] 24)) (Obj.cells #[.bool c, .string p, .string q, .int .i64 g] 24); simpa only [size_al] using this
  have Rz_0 : (((w.alloc (Obj.cells #[.bool b, .string s, .string t, .int .i64 e] 24)).alloc (Obj.cells #[.bool c, .string p, .string q, .int .i64 g] 24)).alloc (Obj.cells #[.bool false, .string ⟨#[]⟩, .string ⟨#[]⟩, .int .i64 0] 24)).heap[w.heap.size + 1 + 1]? = some (Obj.cells #[.bool false, .string ⟨#[]⟩, .string ⟨#[]⟩, .int .i64 0] 24) := by have := heap_alloc_last ((w.alloc (Obj.cells #[.bool b, .string s, .string t, .int .i64 e] 24)).alloc (Obj.cells #[.bool c, .string p, .string q, .int .i64 g] 24)) (Obj.cells #[.bool false, .string ⟨#[]⟩, .string ⟨#[]⟩, .int .i64 0] 24); simpa only [size_al] using this
  have B0 : Below w.heap.size w (((w.alloc (Obj.cells #[.bool b, .string s, .string t, .int .i64 e] 24)).alloc (Obj.cells #[.bool c, .string p, .string q, .int .i64 g] 24)).alloc (Obj.cells #[.bool false, .string ⟨#[]⟩, .string ⟨#[]⟩, .int .i64 0] 24)) := ((((Below.refl _ _).alloc (by first | omega | (simp only [size_al]; omega)) _).alloc (by first | omega | (simp only [size_al]; omega)) _).alloc (by first | omega | (simp only [size_al]; omega)) _)
  go_enter Tryz.func7, Tryz.ntmps7
  go_wp2_with fail
  refine (xmay2 _ _ _ _ _ _ _ _ o1 o2 false M1.out M2.out MO.out _ (((w.alloc (Obj.cells #[.bool b, .string s, .string t, .int .i64 e] 24)).alloc (Obj.cells #[.bool c, .string p, .string q, .int .i64 g] 24)).alloc (Obj.cells #[.bool false, .string ⟨#[]⟩, .string ⟨#[]⟩, .int .i64 0] 24)) _ (by simp only [size_al]) (tabB TT.out B0)).mono ?_
  rintro r w1 ⟨rfl, b1⟩
  have B1 : Below w.heap.size w w1 := btr B0 b1
  have Rx_1 : w1.heap[w.heap.size]? = some (Obj.cells #[.bool b, .string s, .string t, .int .i64 e] 24) := heap_of b1 _ _ _ Rx_0
  have Ry_1 : w1.heap[w.heap.size + 1]? = some (Obj.cells #[.bool c, .string p, .string q, .int .i64 g] 24) := heap_of b1 _ _ _ Ry_0
  have Rz_1 : w1.heap[w.heap.size + 1 + 1]? = some (Obj.cells #[.bool false, .string ⟨#[]⟩, .string ⟨#[]⟩, .int .i64 0] 24) := heap_of b1 _ _ _ Rz_0
  clear b1 B0 Rx_0 Ry_0 Rz_0
  have cx_1_0 := cells4 Rx_1 0 _ rfl
  have cx_1_1 := cells4 Rx_1 1 _ rfl
  have cx_1_2 := cells4 Rx_1 2 _ rfl
  have cx_1_3 := cells4 Rx_1 3 _ rfl
  have cy_1_0 := cells4 Ry_1 0 _ rfl
  have cy_1_1 := cells4 Ry_1 1 _ rfl
  have cy_1_2 := cells4 Ry_1 2 _ rfl
  have cy_1_3 := cells4 Ry_1 3 _ rfl
  have cz_1_0 := cells4 Rz_1 0 _ rfl
  have cz_1_1 := cells4 Rz_1 1 _ rfl
  have cz_1_2 := cells4 Rz_1 2 _ rfl
  have cz_1_3 := cells4 Rz_1 3 _ rfl
  have q0 := fz (k := 0) Rz_1
  have q1 := fz (k := 1) Rz_1
  have q2 := fz (k := 2) Rz_1
  have q3 := fz (k := 3) Rz_1
  obtain ⟨E0, E1, E2, E3⟩ := set4_cells Rz_1 rfl (.bool false) (.string ⟨#[]⟩) (.string ⟨#[]⟩) (.int .i64 0)
  go_wp2
  exact bodyPost_ret (v := .tuple #[.agg #[.bool false, .string ⟨#[]⟩, .string ⟨#[]⟩, .int .i64 0], .int .i64 2]) (by simp [results, Tryz.results7, go_sem, E0, E1, E2, E3]) rfl ⟨rfl, set4_below B1 (by first | exact Nat.le_refl _ | omega) _ _ _ _⟩
theorem neg_is (c : Bool) (m f : Nat) (g : Int) : negX (XN.mk c m f g) = XN.mk (negX (XN.mk c m f g)).b m f g := by
  unfold negX
  split <;> rfl
set_option maxRecDepth 100000 in
set_option maxHeartbeats 1000000 in
theorem Subx_ok (b : Bool) (n d : Nat) (e : Int) (s t : ByteArray) (c : Bool) (m f : Nat) (g : Int) (p q : ByteArray) (rb : Bool) (rn rd : Nat) (re err : Int) (u v : ByteArray)
    (hs : nbA n = s) (ht : nbA d = t) (hp : nbA m = p) (hq : nbA f = q) (hx : (XN.mk b n d e).can) (hy : (XN.mk c m f g).can) (hr : addX (XN.mk b n d e) (negX (XN.mk c m f g)) = (⟨rb, rn, rd, re⟩, err)) (hu : nbA rn = u) (hv : nbA rd = v) (w : World) (hT : TabAt w) :
    Calls Tryz.prog 8 #[.agg #[.bool b, .string s, .string t, .int .i64 e], .agg #[.bool c, .string p, .string q, .int .i64 g]] w fun r w' => r = .returned (.tuple #[.agg #[.bool rb, .string u, .string v, .int .i64 re], .int .i64 err]) ∧ Below w.heap.size w w' := by
  have M1 := box (may_yes hs ht hx)
  have M2 := box (may_yes hp hq hy)
  obtain ⟨k, hk⟩ : ∃ k, (negX (XN.mk c m f g)).b = k := ⟨_, rfl⟩
  have hz := neg_is c m f g
  rw [hk] at hz
  have HN := box (fun w => turnedx c m f g p q k hp hq hy hk w)
  have HF := box (fun w hT => sumx b n d e s t k m f g p q rb rn rd re err u v hs ht hp hq hx (by rw [← hz]; exact (neg_good _ hy).1) (by rw [← hz]; exact hr) hu hv w hT)
  have TT := box hT
  clear hs ht hp hq hx hy hr hu hv hT hk hz
  have Rx_0 : (((w.alloc (Obj.cells #[.bool b, .string s, .string t, .int .i64 e] 24)).alloc (Obj.cells #[.bool c, .string p, .string q, .int .i64 g] 24)).alloc (Obj.cells #[.bool false, .string ⟨#[]⟩, .string ⟨#[]⟩, .int .i64 0] 24)).heap[w.heap.size]? = some (Obj.cells #[.bool b, .string s, .string t, .int .i64 e] 24) := by rw [heap_below _ _ _ (by simp only [size_al]; omega), heap_below _ _ _ (by simp only [size_al]; omega)]; have := heap_alloc_last w (Obj.cells #[.bool b, .string s, .string t, .int .i64 e] 24); simpa only [size_al] using this
  have Ry_0 : (((w.alloc (Obj.cells #[.bool b, .string s, .string t, .int .i64 e] 24)).alloc (Obj.cells #[.bool c, .string p, .string q, .int .i64 g] 24)).alloc (Obj.cells #[.bool false, .string ⟨#[]⟩, .string ⟨#[]⟩, .int .i64 0] 24)).heap[w.heap.size + 1]? = some (Obj.cells #[.bool c, .string p, .string q, .int .i64 g] 24) := by rw [heap_below _ _ _ (by simp only [size_al]; omega)]; have := heap_alloc_last (w.alloc (Obj.cells #[.bool b, .string s, .string t, .int .i64 e] 24)) (Obj.cells #[.bool c, .string p, .string q, .int .i64 g] 24); simpa only [size_al] using this
  have Rz_0 : (((w.alloc (Obj.cells #[.bool b, .string s, .string t, .int .i64 e] 24)).alloc (Obj.cells #[.bool c, .string p, .string q, .int .i64 g] 24)).alloc (Obj.cells #[.bool false, .string ⟨#[]⟩, .string ⟨#[]⟩, .int .i64 0] 24)).heap[w.heap.size + 1 + 1]? = some (Obj.cells #[.bool false, .string ⟨#[]⟩, .string ⟨#[]⟩, .int .i64 0] 24) := by have := heap_alloc_last ((w.alloc (Obj.cells #[.bool b, .string s, .string t, .int .i64 e] 24)).alloc (Obj.cells #[.bool c, .string p, .string q, .int .i64 g] 24)) (Obj.cells #[.bool false, .string ⟨#[]⟩, .string ⟨#[]⟩, .int .i64 0] 24); simpa only [size_al] using this
  have B0 : Below w.heap.size w (((w.alloc (Obj.cells #[.bool b, .string s, .string t, .int .i64 e] 24)).alloc (Obj.cells #[.bool c, .string p, .string q, .int .i64 g] 24)).alloc (Obj.cells #[.bool false, .string ⟨#[]⟩, .string ⟨#[]⟩, .int .i64 0] 24)) := ((((Below.refl _ _).alloc (by first | omega | (simp only [size_al]; omega)) _).alloc (by first | omega | (simp only [size_al]; omega)) _).alloc (by first | omega | (simp only [size_al]; omega)) _)
  go_enter Tryz.func8, Tryz.ntmps8
  go_wp2_with fail
  refine (xmay2 _ _ _ _ _ _ _ _ true true true M1.out M2.out rfl _ (((w.alloc (Obj.cells #[.bool b, .string s, .string t, .int .i64 e] 24)).alloc (Obj.cells #[.bool c, .string p, .string q, .int .i64 g] 24)).alloc (Obj.cells #[.bool false, .string ⟨#[]⟩, .string ⟨#[]⟩, .int .i64 0] 24)) _ (by simp only [size_al]) (tabB TT.out B0)).mono ?_
  rintro r w1 ⟨rfl, b1⟩
  have B1 : Below w.heap.size w w1 := btr B0 b1
  have Rx_1 : w1.heap[w.heap.size]? = some (Obj.cells #[.bool b, .string s, .string t, .int .i64 e] 24) := heap_of b1 _ _ _ Rx_0
  have Ry_1 : w1.heap[w.heap.size + 1]? = some (Obj.cells #[.bool c, .string p, .string q, .int .i64 g] 24) := heap_of b1 _ _ _ Ry_0
  have Rz_1 : w1.heap[w.heap.size + 1 + 1]? = some (Obj.cells #[.bool false, .string ⟨#[]⟩, .string ⟨#[]⟩, .int .i64 0] 24) := heap_of b1 _ _ _ Rz_0
  clear b1 B0 Rx_0 Ry_0 Rz_0
  have cx_1_0 := cells4 Rx_1 0 _ rfl
  have cx_1_1 := cells4 Rx_1 1 _ rfl
  have cx_1_2 := cells4 Rx_1 2 _ rfl
  have cx_1_3 := cells4 Rx_1 3 _ rfl
  have cy_1_0 := cells4 Ry_1 0 _ rfl
  have cy_1_1 := cells4 Ry_1 1 _ rfl
  have cy_1_2 := cells4 Ry_1 2 _ rfl
  have cy_1_3 := cells4 Ry_1 3 _ rfl
  have cz_1_0 := cells4 Rz_1 0 _ rfl
  have cz_1_1 := cells4 Rz_1 1 _ rfl
  have cz_1_2 := cells4 Rz_1 2 _ rfl
  have cz_1_3 := cells4 Rz_1 3 _ rfl
  go_wp2_with fail
  go_region_with (first
    | (go_at_call 21; refine (HN.out _).mono ?_; rintro r w2 ⟨rfl, b2⟩; have b2' : Below w1.heap.size w1 w2 := ((Below.refl w1.heap.size w1).drew).trans b2; have B2 : Below w.heap.size w w2 := btr B1 b2'; have Rx_2 := heap_of b2' _ _ _ Rx_1; have Rz_2 := heap_of b2' _ _ _ Rz_1; have cx_2_0 := cells4 Rx_2 0 _ rfl; have cx_2_1 := cells4 Rx_2 1 _ rfl; have cx_2_2 := cells4 Rx_2 2 _ rfl; have cx_2_3 := cells4 Rx_2 3 _ rfl)
    | (go_at_call 20; refine (HF.out _ (tabB TT.out B2)).mono ?_; rintro r w3 ⟨rfl, b3⟩; have B3 : Below w.heap.size w w3 := btr B2 b3; have Rz_3 := heap_of b3 _ _ _ Rz_2; have cz_3_0 := cells4 Rz_3 0 _ rfl; have cz_3_1 := cells4 Rz_3 1 _ rfl; have cz_3_2 := cells4 Rz_3 2 _ rfl; have cz_3_3 := cells4 Rz_3 3 _ rfl; have q0 := fz (k := 0) Rz_3; have q1 := fz (k := 1) Rz_3; have q2 := fz (k := 2) Rz_3; have q3 := fz (k := 3) Rz_3))
  all_goals
    obtain ⟨E0, E1, E2, E3⟩ := set4_cells Rz_3 rfl (.bool rb) (.string u) (.string v) (.int .i64 re)
    go_wp2
    exact bodyPost_ret (v := .tuple #[.agg #[.bool rb, .string u, .string v, .int .i64 re], .int .i64 err]) (by simp [results, Tryz.results8, go_sem, E0, E1, E2, E3]) rfl ⟨rfl, set4_below B3 (by omega) _ _ _ _⟩
set_option maxRecDepth 100000 in
theorem Subx_no (b : Bool) (e : Int) (s t : ByteArray) (c : Bool) (g : Int) (p q : ByteArray) (o1 o2 : Bool) (m1 : IsM o1 b s t e) (m2 : IsM o2 c p q g) (ho : (o1 && o2) = false) (w : World) (hT : TabAt w) :
    Calls Tryz.prog 8 #[.agg #[.bool b, .string s, .string t, .int .i64 e], .agg #[.bool c, .string p, .string q, .int .i64 g]] w fun r w' => r = .returned (.tuple #[.agg #[.bool false, .string ⟨#[]⟩, .string ⟨#[]⟩, .int .i64 0], .int .i64 2]) ∧ Below w.heap.size w w' := by
  have M1 := box m1
  have M2 := box m2
  have MO := box ho
  have TT := box hT
  clear m1 m2 ho hT
  have Rx_0 : (((w.alloc (Obj.cells #[.bool b, .string s, .string t, .int .i64 e] 24)).alloc (Obj.cells #[.bool c, .string p, .string q, .int .i64 g] 24)).alloc (Obj.cells #[.bool false, .string ⟨#[]⟩, .string ⟨#[]⟩, .int .i64 0] 24)).heap[w.heap.size]? = some (Obj.cells #[.bool b, .string s, .string t, .int .i64 e] 24) := by rw [heap_below _ _ _ (by simp only [size_al]; omega), heap_below _ _ _ (by simp only [size_al]; omega)]; have := heap_alloc_last w (Obj.cells #[.bool b, .string s, .string t, .int .i64 e] 24); simpa only [size_al] using this
  have Ry_0 : (((w.alloc (Obj.cells #[.bool b, .string s, .string t, .int .i64 e] 24)).alloc (Obj.cells #[.bool c, .string p, .string q, .int .i64 g] 24)).alloc (Obj.cells #[.bool false, .string ⟨#[]⟩, .string ⟨#[]⟩, .int .i64 0] 24)).heap[w.heap.size + 1]? = some (Obj.cells #[.bool c, .string p, .string q, .int .i64 g] 24) := by rw [heap_below _ _ _ (by simp only [size_al]; omega)]; have := heap_alloc_last (w.alloc (Obj.cells #[.bool b, .string s, .string t, .int .i64 e] 24)) (Obj.cells #[.bool c, .string p, .string q, .int .i64 g] 24); simpa only [size_al] using this
  have Rz_0 : (((w.alloc (Obj.cells #[.bool b, .string s, .string t, .int .i64 e] 24)).alloc (Obj.cells #[.bool c, .string p, .string q, .int .i64 g] 24)).alloc (Obj.cells #[.bool false, .string ⟨#[]⟩, .string ⟨#[]⟩, .int .i64 0] 24)).heap[w.heap.size + 1 + 1]? = some (Obj.cells #[.bool false, .string ⟨#[]⟩, .string ⟨#[]⟩, .int .i64 0] 24) := by have := heap_alloc_last ((w.alloc (Obj.cells #[.bool b, .string s, .string t, .int .i64 e] 24)).alloc (Obj.cells #[.bool c, .string p, .string q, .int .i64 g] 24)) (Obj.cells #[.bool false, .string ⟨#[]⟩, .string ⟨#[]⟩, .int .i64 0] 24); simpa only [size_al] using this
  have B0 : Below w.heap.size w (((w.alloc (Obj.cells #[.bool b, .string s, .string t, .int .i64 e] 24)).alloc (Obj.cells #[.bool c, .string p, .string q, .int .i64 g] 24)).alloc (Obj.cells #[.bool false, .string ⟨#[]⟩, .string ⟨#[]⟩, .int .i64 0] 24)) := ((((Below.refl _ _).alloc (by first | omega | (simp only [size_al]; omega)) _).alloc (by first | omega | (simp only [size_al]; omega)) _).alloc (by first | omega | (simp only [size_al]; omega)) _)
  go_enter Tryz.func8, Tryz.ntmps8
  go_wp2_with fail
  refine (xmay2 _ _ _ _ _ _ _ _ o1 o2 false M1.out M2.out MO.out _ (((w.alloc (Obj.cells #[.bool b, .string s, .string t, .int .i64 e] 24)).alloc (Obj.cells #[.bool c, .string p, .string q, .int .i64 g] 24)).alloc (Obj.cells #[.bool false, .string ⟨#[]⟩, .string ⟨#[]⟩, .int .i64 0] 24)) _ (by simp only [size_al]) (tabB TT.out B0)).mono ?_
  rintro r w1 ⟨rfl, b1⟩
  have B1 : Below w.heap.size w w1 := btr B0 b1
  have Rx_1 : w1.heap[w.heap.size]? = some (Obj.cells #[.bool b, .string s, .string t, .int .i64 e] 24) := heap_of b1 _ _ _ Rx_0
  have Ry_1 : w1.heap[w.heap.size + 1]? = some (Obj.cells #[.bool c, .string p, .string q, .int .i64 g] 24) := heap_of b1 _ _ _ Ry_0
  have Rz_1 : w1.heap[w.heap.size + 1 + 1]? = some (Obj.cells #[.bool false, .string ⟨#[]⟩, .string ⟨#[]⟩, .int .i64 0] 24) := heap_of b1 _ _ _ Rz_0
  clear b1 B0 Rx_0 Ry_0 Rz_0
  have cx_1_0 := cells4 Rx_1 0 _ rfl
  have cx_1_1 := cells4 Rx_1 1 _ rfl
  have cx_1_2 := cells4 Rx_1 2 _ rfl
  have cx_1_3 := cells4 Rx_1 3 _ rfl
  have cy_1_0 := cells4 Ry_1 0 _ rfl
  have cy_1_1 := cells4 Ry_1 1 _ rfl
  have cy_1_2 := cells4 Ry_1 2 _ rfl
  have cy_1_3 := cells4 Ry_1 3 _ rfl
  have cz_1_0 := cells4 Rz_1 0 _ rfl
  have cz_1_1 := cells4 Rz_1 1 _ rfl
  have cz_1_2 := cells4 Rz_1 2 _ rfl
  have cz_1_3 := cells4 Rz_1 3 _ rfl
  have q0 := fz (k := 0) Rz_1
  have q1 := fz (k := 1) Rz_1
  have q2 := fz (k := 2) Rz_1
  have q3 := fz (k := 3) Rz_1
  obtain ⟨E0, E1, E2, E3⟩ := set4_cells Rz_1 rfl (.bool false) (.string ⟨#[]⟩) (.string ⟨#[]⟩) (.int .i64 0)
  go_wp2
  exact bodyPost_ret (v := .tuple #[.agg #[.bool false, .string ⟨#[]⟩, .string ⟨#[]⟩, .int .i64 0], .int .i64 2]) (by simp [results, Tryz.results8, go_sem, E0, E1, E2, E3]) rfl ⟨rfl, set4_below B1 (by first | exact Nat.le_refl _ | omega) _ _ _ _⟩

theorem cmpv_bd (a b : Nat) : cmpv a b = -1 ∨ cmpv a b = 0 ∨ cmpv a b = 1 := by
  unfold cmpv
  split
  · exact Or.inr (Or.inl rfl)
  · split
    · exact Or.inl rfl
    · exact Or.inr (Or.inr rfl)
theorem sg_bd (x : XN) : sg x = -1 ∨ sg x = 0 ∨ sg x = 1 := by
  unfold sg
  split
  · exact Or.inr (Or.inl rfl)
  · split
    · exact Or.inl rfl
    · exact Or.inr (Or.inr rfl)
set_option maxRecDepth 100000 in
set_option maxHeartbeats 2000000 in
theorem Cmpx_ok (b : Bool) (n d : Nat) (e : Int) (s t : ByteArray) (c : Bool) (m f : Nat) (g : Int) (p q : ByteArray) (k err : Int)
    (hs : nbA n = s) (ht : nbA d = t) (hp : nbA m = p) (hq : nbA f = q) (hx : (XN.mk b n d e).can) (hy : (XN.mk c m f g).can) (hr : cmpX (XN.mk b n d e) (XN.mk c m f g) = (k, err)) (w : World) (hT : TabAt w) :
    Calls Tryz.prog 9 #[.agg #[.bool b, .string s, .string t, .int .i64 e], .agg #[.bool c, .string p, .string q, .int .i64 g]] w fun r w' => r = .returned (.tuple #[.int .i64 k, .int .i64 err]) ∧ Below w.heap.size w w' := by
  have M1 := box (may_yes hs ht hx)
  have M2 := box (may_yes hp hq hy)
  have TT := box hT
  obtain ⟨S, hS⟩ : ∃ S, sg (XN.mk b n d e) = S := ⟨_, rfl⟩
  obtain ⟨T, hTt⟩ : ∃ S, sg (XN.mk c m f g) = S := ⟨_, rfl⟩
  have HF := box (fun w => signx b n d e s t S hs ht hx hS w)
  have HG := box (fun w => signx c m f g p q T hp hq hy hTt w)
  have sb := sg_bd (XN.mk b n d e)
  rw [hS] at sb
  unfold cmpX at hr
  rw [hS, hTt] at hr
  by_cases h1 : S < T
  · rw [if_pos h1] at hr
    cases hr
    have d1 : decide (S < T) = true := decide_eq_true h1
    clear hs ht hp hq hx hy hT hS hTt h1 sb
    have Rx_0 : ((w.alloc (Obj.cells #[.bool b, .string s, .string t, .int .i64 e] 24)).alloc (Obj.cells #[.bool c, .string p, .string q, .int .i64 g] 24)).heap[w.heap.size]? = some (Obj.cells #[.bool b, .string s, .string t, .int .i64 e] 24) := by rw [heap_below _ _ _ (by simp only [size_al]; omega)]; have := heap_alloc_last w (Obj.cells #[.bool b, .string s, .string t, .int .i64 e] 24); simpa only [size_al] using this
    have Ry_0 : ((w.alloc (Obj.cells #[.bool b, .string s, .string t, .int .i64 e] 24)).alloc (Obj.cells #[.bool c, .string p, .string q, .int .i64 g] 24)).heap[w.heap.size + 1]? = some (Obj.cells #[.bool c, .string p, .string q, .int .i64 g] 24) := by have := heap_alloc_last (w.alloc (Obj.cells #[.bool b, .string s, .string t, .int .i64 e] 24)) (Obj.cells #[.bool c, .string p, .string q, .int .i64 g] 24); simpa only [size_al] using this
    have B0 : Below w.heap.size w ((w.alloc (Obj.cells #[.bool b, .string s, .string t, .int .i64 e] 24)).alloc (Obj.cells #[.bool c, .string p, .string q, .int .i64 g] 24)) := (((Below.refl _ _).alloc (by first | omega | (simp only [size_al]; omega)) _).alloc (by first | omega | (simp only [size_al]; omega)) _)
    go_enter Tryz.func9, Tryz.ntmps9
    go_wp2_with fail
    refine (xmay2 _ _ _ _ _ _ _ _ true true true M1.out M2.out rfl _ ((w.alloc (Obj.cells #[.bool b, .string s, .string t, .int .i64 e] 24)).alloc (Obj.cells #[.bool c, .string p, .string q, .int .i64 g] 24)) _ (by simp only [size_al]) (tabB TT.out B0)).mono ?_
    rintro r w1 ⟨rfl, b1⟩
    have B1 : Below w.heap.size w w1 := btr B0 b1
    have Rx_1 : w1.heap[w.heap.size]? = some (Obj.cells #[.bool b, .string s, .string t, .int .i64 e] 24) := heap_of b1 _ _ _ Rx_0
    have Ry_1 : w1.heap[w.heap.size + 1]? = some (Obj.cells #[.bool c, .string p, .string q, .int .i64 g] 24) := heap_of b1 _ _ _ Ry_0
    clear b1 B0 Rx_0 Ry_0
    have cx_1_0 := cells4 Rx_1 0 _ rfl
    have cx_1_1 := cells4 Rx_1 1 _ rfl
    have cx_1_2 := cells4 Rx_1 2 _ rfl
    have cx_1_3 := cells4 Rx_1 3 _ rfl
    have cy_1_0 := cells4 Ry_1 0 _ rfl
    have cy_1_1 := cells4 Ry_1 1 _ rfl
    have cy_1_2 := cells4 Ry_1 2 _ rfl
    have cy_1_3 := cells4 Ry_1 3 _ rfl
    go_wp2_with fail
    obtain ⟨F, hF1, hF2⟩ := below_fun w1
    have fx_0 := fun u => cells4 (heap_of (hF1 u) _ _ _ Rx_1) 0 _ rfl
    have fx_1 := fun u => cells4 (heap_of (hF1 u) _ _ _ Rx_1) 1 _ rfl
    have fx_2 := fun u => cells4 (heap_of (hF1 u) _ _ _ Rx_1) 2 _ rfl
    have fx_3 := fun u => cells4 (heap_of (hF1 u) _ _ _ Rx_1) 3 _ rfl
    have fy_0 := fun u => cells4 (heap_of (hF1 u) _ _ _ Ry_1) 0 _ rfl
    have fy_1 := fun u => cells4 (heap_of (hF1 u) _ _ _ Ry_1) 1 _ rfl
    have fy_2 := fun u => cells4 (heap_of (hF1 u) _ _ _ Ry_1) 2 _ rfl
    have fy_3 := fun u => cells4 (heap_of (hF1 u) _ _ _ Ry_1) 3 _ rfl
    refine wp_region_below F hF2 (by kernel_rfl) (by kernel_rfl) ?_
    repeat first | go_big_quiet_step (first | (go_at_call_of 22 (Value.agg #[.bool b, .string s, .string t, .int .i64 e]); exact quietF hF1 hF2 (HF.out _)) | (go_at_call_of 22 (Value.agg #[.bool c, .string p, .string q, .int .i64 g]); exact quietF hF1 hF2 (HG.out _)) | fail) | quiet_step (first | (go_at_call_of 22 (Value.agg #[.bool b, .string s, .string t, .int .i64 e]); exact quietF hF1 hF2 (HF.out _)) | (go_at_call_of 22 (Value.agg #[.bool c, .string p, .string q, .int .i64 g]); exact quietF hF1 hF2 (HG.out _)) | fail)
    refine wpQuiet_nil ?_
    rintro _ ⟨uW, rfl⟩
    have B2 := btr B1 (hF1 uW)
    have Rx_2 := heap_of (hF1 uW) _ _ _ Rx_1
    have Ry_2 := heap_of (hF1 uW) _ _ _ Ry_1
    obtain ⟨w2, hw⟩ : ∃ V, F uW = V := ⟨_, rfl⟩
    rw [hw] at B2 Rx_2 Ry_2
    try rw [hw]
    clear hw hF1 hF2 B1 fx_0 fx_1 fx_2 fx_3 fy_0 fy_1 fy_2 fy_3 Rx_1 cx_1_0 cx_1_1 cx_1_2 cx_1_3 Ry_1 cy_1_0 cy_1_1 cy_1_2 cy_1_3
    clear F
    have cx_2_0 := cells4 Rx_2 0 _ rfl
    have cx_2_1 := cells4 Rx_2 1 _ rfl
    have cx_2_2 := cells4 Rx_2 2 _ rfl
    have cx_2_3 := cells4 Rx_2 3 _ rfl
    have cy_2_0 := cells4 Ry_2 0 _ rfl
    have cy_2_1 := cells4 Ry_2 1 _ rfl
    have cy_2_2 := cells4 Ry_2 2 _ rfl
    have cy_2_3 := cells4 Ry_2 3 _ rfl
    go_wp2
    go_ret2
    exact ⟨rfl, B2⟩
  rw [if_neg h1] at hr
  have d1 : decide (S < T) = false := decide_eq_false h1
  by_cases h2 : T < S
  · rw [if_pos h2] at hr
    cases hr
    have d2 : decide (T < S) = true := decide_eq_true h2
    clear hs ht hp hq hx hy hT hS hTt h1 h2 sb
    have Rx_0 : ((w.alloc (Obj.cells #[.bool b, .string s, .string t, .int .i64 e] 24)).alloc (Obj.cells #[.bool c, .string p, .string q, .int .i64 g] 24)).heap[w.heap.size]? = some (Obj.cells #[.bool b, .string s, .string t, .int .i64 e] 24) := by rw [heap_below _ _ _ (by simp only [size_al]; omega)]; have := heap_alloc_last w (Obj.cells #[.bool b, .string s, .string t, .int .i64 e] 24); simpa only [size_al] using this
    have Ry_0 : ((w.alloc (Obj.cells #[.bool b, .string s, .string t, .int .i64 e] 24)).alloc (Obj.cells #[.bool c, .string p, .string q, .int .i64 g] 24)).heap[w.heap.size + 1]? = some (Obj.cells #[.bool c, .string p, .string q, .int .i64 g] 24) := by have := heap_alloc_last (w.alloc (Obj.cells #[.bool b, .string s, .string t, .int .i64 e] 24)) (Obj.cells #[.bool c, .string p, .string q, .int .i64 g] 24); simpa only [size_al] using this
    have B0 : Below w.heap.size w ((w.alloc (Obj.cells #[.bool b, .string s, .string t, .int .i64 e] 24)).alloc (Obj.cells #[.bool c, .string p, .string q, .int .i64 g] 24)) := (((Below.refl _ _).alloc (by first | omega | (simp only [size_al]; omega)) _).alloc (by first | omega | (simp only [size_al]; omega)) _)
    go_enter Tryz.func9, Tryz.ntmps9
    go_wp2_with fail
    refine (xmay2 _ _ _ _ _ _ _ _ true true true M1.out M2.out rfl _ ((w.alloc (Obj.cells #[.bool b, .string s, .string t, .int .i64 e] 24)).alloc (Obj.cells #[.bool c, .string p, .string q, .int .i64 g] 24)) _ (by simp only [size_al]) (tabB TT.out B0)).mono ?_
    rintro r w1 ⟨rfl, b1⟩
    have B1 : Below w.heap.size w w1 := btr B0 b1
    have Rx_1 : w1.heap[w.heap.size]? = some (Obj.cells #[.bool b, .string s, .string t, .int .i64 e] 24) := heap_of b1 _ _ _ Rx_0
    have Ry_1 : w1.heap[w.heap.size + 1]? = some (Obj.cells #[.bool c, .string p, .string q, .int .i64 g] 24) := heap_of b1 _ _ _ Ry_0
    clear b1 B0 Rx_0 Ry_0
    have cx_1_0 := cells4 Rx_1 0 _ rfl
    have cx_1_1 := cells4 Rx_1 1 _ rfl
    have cx_1_2 := cells4 Rx_1 2 _ rfl
    have cx_1_3 := cells4 Rx_1 3 _ rfl
    have cy_1_0 := cells4 Ry_1 0 _ rfl
    have cy_1_1 := cells4 Ry_1 1 _ rfl
    have cy_1_2 := cells4 Ry_1 2 _ rfl
    have cy_1_3 := cells4 Ry_1 3 _ rfl
    go_wp2_with fail
    obtain ⟨F, hF1, hF2⟩ := below_fun w1
    have fx_0 := fun u => cells4 (heap_of (hF1 u) _ _ _ Rx_1) 0 _ rfl
    have fx_1 := fun u => cells4 (heap_of (hF1 u) _ _ _ Rx_1) 1 _ rfl
    have fx_2 := fun u => cells4 (heap_of (hF1 u) _ _ _ Rx_1) 2 _ rfl
    have fx_3 := fun u => cells4 (heap_of (hF1 u) _ _ _ Rx_1) 3 _ rfl
    have fy_0 := fun u => cells4 (heap_of (hF1 u) _ _ _ Ry_1) 0 _ rfl
    have fy_1 := fun u => cells4 (heap_of (hF1 u) _ _ _ Ry_1) 1 _ rfl
    have fy_2 := fun u => cells4 (heap_of (hF1 u) _ _ _ Ry_1) 2 _ rfl
    have fy_3 := fun u => cells4 (heap_of (hF1 u) _ _ _ Ry_1) 3 _ rfl
    refine wp_region_below F hF2 (by kernel_rfl) (by kernel_rfl) ?_
    repeat first | go_big_quiet_step (first | (go_at_call_of 22 (Value.agg #[.bool b, .string s, .string t, .int .i64 e]); exact quietF hF1 hF2 (HF.out _)) | (go_at_call_of 22 (Value.agg #[.bool c, .string p, .string q, .int .i64 g]); exact quietF hF1 hF2 (HG.out _)) | fail) | quiet_step (first | (go_at_call_of 22 (Value.agg #[.bool b, .string s, .string t, .int .i64 e]); exact quietF hF1 hF2 (HF.out _)) | (go_at_call_of 22 (Value.agg #[.bool c, .string p, .string q, .int .i64 g]); exact quietF hF1 hF2 (HG.out _)) | fail)
    refine wpQuiet_nil ?_
    rintro _ ⟨uW, rfl⟩
    have B2 := btr B1 (hF1 uW)
    have Rx_2 := heap_of (hF1 uW) _ _ _ Rx_1
    have Ry_2 := heap_of (hF1 uW) _ _ _ Ry_1
    obtain ⟨w2, hw⟩ : ∃ V, F uW = V := ⟨_, rfl⟩
    rw [hw] at B2 Rx_2 Ry_2
    try rw [hw]
    clear hw hF1 hF2 B1 fx_0 fx_1 fx_2 fx_3 fy_0 fy_1 fy_2 fy_3 Rx_1 cx_1_0 cx_1_1 cx_1_2 cx_1_3 Ry_1 cy_1_0 cy_1_1 cy_1_2 cy_1_3
    clear F
    have cx_2_0 := cells4 Rx_2 0 _ rfl
    have cx_2_1 := cells4 Rx_2 1 _ rfl
    have cx_2_2 := cells4 Rx_2 2 _ rfl
    have cx_2_3 := cells4 Rx_2 3 _ rfl
    have cy_2_0 := cells4 Ry_2 0 _ rfl
    have cy_2_1 := cells4 Ry_2 1 _ rfl
    have cy_2_2 := cells4 Ry_2 2 _ rfl
    have cy_2_3 := cells4 Ry_2 3 _ rfl
    go_wp2
    go_ret2
    exact ⟨rfl, B2⟩
  rw [if_neg h2] at hr
  have d2 : decide (T < S) = false := decide_eq_false h2
  by_cases h3 : S = 0
  · rw [if_pos h3] at hr
    cases hr
    have d3 : (S == 0) = true := by rw [h3]; rfl
    have d3' : decide (S = 0) = true := decide_eq_true h3
    clear hs ht hp hq hx hy hT hS hTt h1 h2 h3 sb
    have Rx_0 : ((w.alloc (Obj.cells #[.bool b, .string s, .string t, .int .i64 e] 24)).alloc (Obj.cells #[.bool c, .string p, .string q, .int .i64 g] 24)).heap[w.heap.size]? = some (Obj.cells #[.bool b, .string s, .string t, .int .i64 e] 24) := by rw [heap_below _ _ _ (by simp only [size_al]; omega)]; have := heap_alloc_last w (Obj.cells #[.bool b, .string s, .string t, .int .i64 e] 24); simpa only [size_al] using this
    have Ry_0 : ((w.alloc (Obj.cells #[.bool b, .string s, .string t, .int .i64 e] 24)).alloc (Obj.cells #[.bool c, .string p, .string q, .int .i64 g] 24)).heap[w.heap.size + 1]? = some (Obj.cells #[.bool c, .string p, .string q, .int .i64 g] 24) := by have := heap_alloc_last (w.alloc (Obj.cells #[.bool b, .string s, .string t, .int .i64 e] 24)) (Obj.cells #[.bool c, .string p, .string q, .int .i64 g] 24); simpa only [size_al] using this
    have B0 : Below w.heap.size w ((w.alloc (Obj.cells #[.bool b, .string s, .string t, .int .i64 e] 24)).alloc (Obj.cells #[.bool c, .string p, .string q, .int .i64 g] 24)) := (((Below.refl _ _).alloc (by first | omega | (simp only [size_al]; omega)) _).alloc (by first | omega | (simp only [size_al]; omega)) _)
    go_enter Tryz.func9, Tryz.ntmps9
    go_wp2_with fail
    refine (xmay2 _ _ _ _ _ _ _ _ true true true M1.out M2.out rfl _ ((w.alloc (Obj.cells #[.bool b, .string s, .string t, .int .i64 e] 24)).alloc (Obj.cells #[.bool c, .string p, .string q, .int .i64 g] 24)) _ (by simp only [size_al]) (tabB TT.out B0)).mono ?_
    rintro r w1 ⟨rfl, b1⟩
    have B1 : Below w.heap.size w w1 := btr B0 b1
    have Rx_1 : w1.heap[w.heap.size]? = some (Obj.cells #[.bool b, .string s, .string t, .int .i64 e] 24) := heap_of b1 _ _ _ Rx_0
    have Ry_1 : w1.heap[w.heap.size + 1]? = some (Obj.cells #[.bool c, .string p, .string q, .int .i64 g] 24) := heap_of b1 _ _ _ Ry_0
    clear b1 B0 Rx_0 Ry_0
    have cx_1_0 := cells4 Rx_1 0 _ rfl
    have cx_1_1 := cells4 Rx_1 1 _ rfl
    have cx_1_2 := cells4 Rx_1 2 _ rfl
    have cx_1_3 := cells4 Rx_1 3 _ rfl
    have cy_1_0 := cells4 Ry_1 0 _ rfl
    have cy_1_1 := cells4 Ry_1 1 _ rfl
    have cy_1_2 := cells4 Ry_1 2 _ rfl
    have cy_1_3 := cells4 Ry_1 3 _ rfl
    go_wp2_with fail
    obtain ⟨F, hF1, hF2⟩ := below_fun w1
    have fx_0 := fun u => cells4 (heap_of (hF1 u) _ _ _ Rx_1) 0 _ rfl
    have fx_1 := fun u => cells4 (heap_of (hF1 u) _ _ _ Rx_1) 1 _ rfl
    have fx_2 := fun u => cells4 (heap_of (hF1 u) _ _ _ Rx_1) 2 _ rfl
    have fx_3 := fun u => cells4 (heap_of (hF1 u) _ _ _ Rx_1) 3 _ rfl
    have fy_0 := fun u => cells4 (heap_of (hF1 u) _ _ _ Ry_1) 0 _ rfl
    have fy_1 := fun u => cells4 (heap_of (hF1 u) _ _ _ Ry_1) 1 _ rfl
    have fy_2 := fun u => cells4 (heap_of (hF1 u) _ _ _ Ry_1) 2 _ rfl
    have fy_3 := fun u => cells4 (heap_of (hF1 u) _ _ _ Ry_1) 3 _ rfl
    refine wp_region_below F hF2 (by kernel_rfl) (by kernel_rfl) ?_
    repeat first | go_big_quiet_step (first | (go_at_call_of 22 (Value.agg #[.bool b, .string s, .string t, .int .i64 e]); exact quietF hF1 hF2 (HF.out _)) | (go_at_call_of 22 (Value.agg #[.bool c, .string p, .string q, .int .i64 g]); exact quietF hF1 hF2 (HG.out _)) | fail) | quiet_step (first | (go_at_call_of 22 (Value.agg #[.bool b, .string s, .string t, .int .i64 e]); exact quietF hF1 hF2 (HF.out _)) | (go_at_call_of 22 (Value.agg #[.bool c, .string p, .string q, .int .i64 g]); exact quietF hF1 hF2 (HG.out _)) | fail)
    refine wpQuiet_nil ?_
    rintro _ ⟨uW, rfl⟩
    have B2 := btr B1 (hF1 uW)
    have Rx_2 := heap_of (hF1 uW) _ _ _ Rx_1
    have Ry_2 := heap_of (hF1 uW) _ _ _ Ry_1
    obtain ⟨w2, hw⟩ : ∃ V, F uW = V := ⟨_, rfl⟩
    rw [hw] at B2 Rx_2 Ry_2
    try rw [hw]
    clear hw hF1 hF2 B1 fx_0 fx_1 fx_2 fx_3 fy_0 fy_1 fy_2 fy_3 Rx_1 cx_1_0 cx_1_1 cx_1_2 cx_1_3 Ry_1 cy_1_0 cy_1_1 cy_1_2 cy_1_3
    clear F
    have cx_2_0 := cells4 Rx_2 0 _ rfl
    have cx_2_1 := cells4 Rx_2 1 _ rfl
    have cx_2_2 := cells4 Rx_2 2 _ rfl
    have cx_2_3 := cells4 Rx_2 3 _ rfl
    have cy_2_0 := cells4 Ry_2 0 _ rfl
    have cy_2_1 := cells4 Ry_2 1 _ rfl
    have cy_2_2 := cells4 Ry_2 2 _ rfl
    have cy_2_3 := cells4 Ry_2 3 _ rfl
    go_wp2
    go_ret2
    exact ⟨rfl, B2⟩
  rw [if_neg h3] at hr
  have d3 : (S == 0) = false := by rw [Bool.eq_false_iff]; intro h; exact h3 (by simpa using h)
  have d3' : decide (S = 0) = false := decide_eq_false h3
  have ha : -1048576 ≤ e ∧ e ≤ 1048576 ∧ -1048576 ≤ g ∧ g ≤ 1048576 := ⟨hx.2.2.1, hx.2.2.2.1, hy.2.2.1, hy.2.2.2.1⟩
  obtain ⟨A, hA⟩ : ∃ A, XMath.sA (XN.mk b n d e) (XN.mk c m f g) = A := ⟨_, rfl⟩
  obtain ⟨B, hB⟩ : ∃ A, XMath.sA (XN.mk c m f g) (XN.mk b n d e) = A := ⟨_, rfl⟩
  rw [hA, hB] at hr
  by_cases h4 : nl A ≤ 16384 ∧ nl B ≤ 16384
  · rw [if_pos h4] at hr
    cases hr
    obtain ⟨x, hxa⟩ : ∃ x, nbA A = x := ⟨_, rfl⟩
    obtain ⟨y, hyb⟩ : ∃ x, nbA B = x := ⟨_, rfl⟩
    have K1 := box (fun w => alikex b n d e s t c m f g p q x y 0 hs ht hp hq hx.1 hx.2.1 hy.1 hy.2.1 ha (by rw [hA, hB, if_pos h4, hxa, hyb]) w)
    obtain ⟨z, hz⟩ : ∃ z, cmpv A B = z := ⟨_, rfl⟩
    have zb := cmpv_bd A B
    rw [hz] at zb
    have K2 := box (fun w => pn_cmp_ok A B x y z hxa hyb h4.1 h4.2 hz w)
    have n1 : IntKind.i64.wrap (S * z) = S * z := wrap_i64_is _ (by rcases sb with h | h | h <;> rcases zb with k | k | k <;> rw [h, k] <;> decide) (by rcases sb with h | h | h <;> rcases zb with k | k | k <;> rw [h, k] <;> decide)
    rw [hz]
    clear hs ht hp hq hx hy hT hS hTt h1 h2 h3 sb ha hA hB h4 hxa hyb hz zb
    have Rx_0 : ((w.alloc (Obj.cells #[.bool b, .string s, .string t, .int .i64 e] 24)).alloc (Obj.cells #[.bool c, .string p, .string q, .int .i64 g] 24)).heap[w.heap.size]? = some (Obj.cells #[.bool b, .string s, .string t, .int .i64 e] 24) := by rw [heap_below _ _ _ (by simp only [size_al]; omega)]; have := heap_alloc_last w (Obj.cells #[.bool b, .string s, .string t, .int .i64 e] 24); simpa only [size_al] using this
    have Ry_0 : ((w.alloc (Obj.cells #[.bool b, .string s, .string t, .int .i64 e] 24)).alloc (Obj.cells #[.bool c, .string p, .string q, .int .i64 g] 24)).heap[w.heap.size + 1]? = some (Obj.cells #[.bool c, .string p, .string q, .int .i64 g] 24) := by have := heap_alloc_last (w.alloc (Obj.cells #[.bool b, .string s, .string t, .int .i64 e] 24)) (Obj.cells #[.bool c, .string p, .string q, .int .i64 g] 24); simpa only [size_al] using this
    have B0 : Below w.heap.size w ((w.alloc (Obj.cells #[.bool b, .string s, .string t, .int .i64 e] 24)).alloc (Obj.cells #[.bool c, .string p, .string q, .int .i64 g] 24)) := (((Below.refl _ _).alloc (by first | omega | (simp only [size_al]; omega)) _).alloc (by first | omega | (simp only [size_al]; omega)) _)
    go_enter Tryz.func9, Tryz.ntmps9
    go_wp2_with fail
    refine (xmay2 _ _ _ _ _ _ _ _ true true true M1.out M2.out rfl _ ((w.alloc (Obj.cells #[.bool b, .string s, .string t, .int .i64 e] 24)).alloc (Obj.cells #[.bool c, .string p, .string q, .int .i64 g] 24)) _ (by simp only [size_al]) (tabB TT.out B0)).mono ?_
    rintro r w1 ⟨rfl, b1⟩
    have B1 : Below w.heap.size w w1 := btr B0 b1
    have Rx_1 : w1.heap[w.heap.size]? = some (Obj.cells #[.bool b, .string s, .string t, .int .i64 e] 24) := heap_of b1 _ _ _ Rx_0
    have Ry_1 : w1.heap[w.heap.size + 1]? = some (Obj.cells #[.bool c, .string p, .string q, .int .i64 g] 24) := heap_of b1 _ _ _ Ry_0
    clear b1 B0 Rx_0 Ry_0
    have cx_1_0 := cells4 Rx_1 0 _ rfl
    have cx_1_1 := cells4 Rx_1 1 _ rfl
    have cx_1_2 := cells4 Rx_1 2 _ rfl
    have cx_1_3 := cells4 Rx_1 3 _ rfl
    have cy_1_0 := cells4 Ry_1 0 _ rfl
    have cy_1_1 := cells4 Ry_1 1 _ rfl
    have cy_1_2 := cells4 Ry_1 2 _ rfl
    have cy_1_3 := cells4 Ry_1 3 _ rfl
    go_wp2_with fail
    obtain ⟨F, hF1, hF2⟩ := below_fun w1
    have fx_0 := fun u => cells4 (heap_of (hF1 u) _ _ _ Rx_1) 0 _ rfl
    have fx_1 := fun u => cells4 (heap_of (hF1 u) _ _ _ Rx_1) 1 _ rfl
    have fx_2 := fun u => cells4 (heap_of (hF1 u) _ _ _ Rx_1) 2 _ rfl
    have fx_3 := fun u => cells4 (heap_of (hF1 u) _ _ _ Rx_1) 3 _ rfl
    have fy_0 := fun u => cells4 (heap_of (hF1 u) _ _ _ Ry_1) 0 _ rfl
    have fy_1 := fun u => cells4 (heap_of (hF1 u) _ _ _ Ry_1) 1 _ rfl
    have fy_2 := fun u => cells4 (heap_of (hF1 u) _ _ _ Ry_1) 2 _ rfl
    have fy_3 := fun u => cells4 (heap_of (hF1 u) _ _ _ Ry_1) 3 _ rfl
    refine wp_region_below F hF2 (by kernel_rfl) (by kernel_rfl) ?_
    repeat first | go_big_quiet_step (first | (go_at_call_of 22 (Value.agg #[.bool b, .string s, .string t, .int .i64 e]); exact quietF hF1 hF2 (HF.out _)) | (go_at_call_of 22 (Value.agg #[.bool c, .string p, .string q, .int .i64 g]); exact quietF hF1 hF2 (HG.out _)) | fail) | quiet_step (first | (go_at_call_of 22 (Value.agg #[.bool b, .string s, .string t, .int .i64 e]); exact quietF hF1 hF2 (HF.out _)) | (go_at_call_of 22 (Value.agg #[.bool c, .string p, .string q, .int .i64 g]); exact quietF hF1 hF2 (HG.out _)) | fail)
    refine wpQuiet_nil ?_
    rintro _ ⟨uW, rfl⟩
    have B2 := btr B1 (hF1 uW)
    have Rx_2 := heap_of (hF1 uW) _ _ _ Rx_1
    have Ry_2 := heap_of (hF1 uW) _ _ _ Ry_1
    obtain ⟨w2, hw⟩ : ∃ V, F uW = V := ⟨_, rfl⟩
    rw [hw] at B2 Rx_2 Ry_2
    try rw [hw]
    clear hw hF1 hF2 B1 fx_0 fx_1 fx_2 fx_3 fy_0 fy_1 fy_2 fy_3 Rx_1 cx_1_0 cx_1_1 cx_1_2 cx_1_3 Ry_1 cy_1_0 cy_1_1 cy_1_2 cy_1_3
    clear F
    have cx_2_0 := cells4 Rx_2 0 _ rfl
    have cx_2_1 := cells4 Rx_2 1 _ rfl
    have cx_2_2 := cells4 Rx_2 2 _ rfl
    have cx_2_3 := cells4 Rx_2 3 _ rfl
    have cy_2_0 := cells4 Ry_2 0 _ rfl
    have cy_2_1 := cells4 Ry_2 1 _ rfl
    have cy_2_2 := cells4 Ry_2 2 _ rfl
    have cy_2_3 := cells4 Ry_2 3 _ rfl
    go_wp2_with fail
    refine (K1.out _).mono ?_
    rintro r w3 ⟨rfl, b3⟩
    have B3 : Below w.heap.size w w3 := btr B2 b3
    have Rx_3 : w3.heap[w.heap.size]? = some (Obj.cells #[.bool b, .string s, .string t, .int .i64 e] 24) := heap_of b3 _ _ _ Rx_2
    have Ry_3 : w3.heap[w.heap.size + 1]? = some (Obj.cells #[.bool c, .string p, .string q, .int .i64 g] 24) := heap_of b3 _ _ _ Ry_2
    clear b3 B2 Rx_2 cx_2_0 cx_2_1 cx_2_2 cx_2_3 Ry_2 cy_2_0 cy_2_1 cy_2_2 cy_2_3
    have cx_3_0 := cells4 Rx_3 0 _ rfl
    have cx_3_1 := cells4 Rx_3 1 _ rfl
    have cx_3_2 := cells4 Rx_3 2 _ rfl
    have cx_3_3 := cells4 Rx_3 3 _ rfl
    have cy_3_0 := cells4 Ry_3 0 _ rfl
    have cy_3_1 := cells4 Ry_3 1 _ rfl
    have cy_3_2 := cells4 Ry_3 2 _ rfl
    have cy_3_3 := cells4 Ry_3 3 _ rfl
    go_wp2_with fail
    refine (K2.out _).mono ?_
    rintro r w4 ⟨rfl, b4⟩
    have B4 : Below w.heap.size w w4 := btr B3 b4
    have Rx_4 : w4.heap[w.heap.size]? = some (Obj.cells #[.bool b, .string s, .string t, .int .i64 e] 24) := heap_of b4 _ _ _ Rx_3
    have Ry_4 : w4.heap[w.heap.size + 1]? = some (Obj.cells #[.bool c, .string p, .string q, .int .i64 g] 24) := heap_of b4 _ _ _ Ry_3
    clear b4 B3 Rx_3 cx_3_0 cx_3_1 cx_3_2 cx_3_3 Ry_3 cy_3_0 cy_3_1 cy_3_2 cy_3_3
    have cx_4_0 := cells4 Rx_4 0 _ rfl
    have cx_4_1 := cells4 Rx_4 1 _ rfl
    have cx_4_2 := cells4 Rx_4 2 _ rfl
    have cx_4_3 := cells4 Rx_4 3 _ rfl
    have cy_4_0 := cells4 Ry_4 0 _ rfl
    have cy_4_1 := cells4 Ry_4 1 _ rfl
    have cy_4_2 := cells4 Ry_4 2 _ rfl
    have cy_4_3 := cells4 Ry_4 3 _ rfl
    go_wp2
    go_ret2
    exact ⟨rfl, B4⟩
  · rw [if_neg h4] at hr
    cases hr
    have K1 := box (fun w => alikex b n d e s t c m f g p q ⟨#[]⟩ ⟨#[]⟩ 4 hs ht hp hq hx.1 hx.2.1 hy.1 hy.2.1 ha (by rw [hA, hB, if_neg h4]) w)
    clear hs ht hp hq hx hy hT hS hTt h1 h2 h3 sb ha hA hB h4
    have Rx_0 : ((w.alloc (Obj.cells #[.bool b, .string s, .string t, .int .i64 e] 24)).alloc (Obj.cells #[.bool c, .string p, .string q, .int .i64 g] 24)).heap[w.heap.size]? = some (Obj.cells #[.bool b, .string s, .string t, .int .i64 e] 24) := by rw [heap_below _ _ _ (by simp only [size_al]; omega)]; have := heap_alloc_last w (Obj.cells #[.bool b, .string s, .string t, .int .i64 e] 24); simpa only [size_al] using this
    have Ry_0 : ((w.alloc (Obj.cells #[.bool b, .string s, .string t, .int .i64 e] 24)).alloc (Obj.cells #[.bool c, .string p, .string q, .int .i64 g] 24)).heap[w.heap.size + 1]? = some (Obj.cells #[.bool c, .string p, .string q, .int .i64 g] 24) := by have := heap_alloc_last (w.alloc (Obj.cells #[.bool b, .string s, .string t, .int .i64 e] 24)) (Obj.cells #[.bool c, .string p, .string q, .int .i64 g] 24); simpa only [size_al] using this
    have B0 : Below w.heap.size w ((w.alloc (Obj.cells #[.bool b, .string s, .string t, .int .i64 e] 24)).alloc (Obj.cells #[.bool c, .string p, .string q, .int .i64 g] 24)) := (((Below.refl _ _).alloc (by first | omega | (simp only [size_al]; omega)) _).alloc (by first | omega | (simp only [size_al]; omega)) _)
    go_enter Tryz.func9, Tryz.ntmps9
    go_wp2_with fail
    refine (xmay2 _ _ _ _ _ _ _ _ true true true M1.out M2.out rfl _ ((w.alloc (Obj.cells #[.bool b, .string s, .string t, .int .i64 e] 24)).alloc (Obj.cells #[.bool c, .string p, .string q, .int .i64 g] 24)) _ (by simp only [size_al]) (tabB TT.out B0)).mono ?_
    rintro r w1 ⟨rfl, b1⟩
    have B1 : Below w.heap.size w w1 := btr B0 b1
    have Rx_1 : w1.heap[w.heap.size]? = some (Obj.cells #[.bool b, .string s, .string t, .int .i64 e] 24) := heap_of b1 _ _ _ Rx_0
    have Ry_1 : w1.heap[w.heap.size + 1]? = some (Obj.cells #[.bool c, .string p, .string q, .int .i64 g] 24) := heap_of b1 _ _ _ Ry_0
    clear b1 B0 Rx_0 Ry_0
    have cx_1_0 := cells4 Rx_1 0 _ rfl
    have cx_1_1 := cells4 Rx_1 1 _ rfl
    have cx_1_2 := cells4 Rx_1 2 _ rfl
    have cx_1_3 := cells4 Rx_1 3 _ rfl
    have cy_1_0 := cells4 Ry_1 0 _ rfl
    have cy_1_1 := cells4 Ry_1 1 _ rfl
    have cy_1_2 := cells4 Ry_1 2 _ rfl
    have cy_1_3 := cells4 Ry_1 3 _ rfl
    go_wp2_with fail
    obtain ⟨F, hF1, hF2⟩ := below_fun w1
    have fx_0 := fun u => cells4 (heap_of (hF1 u) _ _ _ Rx_1) 0 _ rfl
    have fx_1 := fun u => cells4 (heap_of (hF1 u) _ _ _ Rx_1) 1 _ rfl
    have fx_2 := fun u => cells4 (heap_of (hF1 u) _ _ _ Rx_1) 2 _ rfl
    have fx_3 := fun u => cells4 (heap_of (hF1 u) _ _ _ Rx_1) 3 _ rfl
    have fy_0 := fun u => cells4 (heap_of (hF1 u) _ _ _ Ry_1) 0 _ rfl
    have fy_1 := fun u => cells4 (heap_of (hF1 u) _ _ _ Ry_1) 1 _ rfl
    have fy_2 := fun u => cells4 (heap_of (hF1 u) _ _ _ Ry_1) 2 _ rfl
    have fy_3 := fun u => cells4 (heap_of (hF1 u) _ _ _ Ry_1) 3 _ rfl
    refine wp_region_below F hF2 (by kernel_rfl) (by kernel_rfl) ?_
    repeat first | go_big_quiet_step (first | (go_at_call_of 22 (Value.agg #[.bool b, .string s, .string t, .int .i64 e]); exact quietF hF1 hF2 (HF.out _)) | (go_at_call_of 22 (Value.agg #[.bool c, .string p, .string q, .int .i64 g]); exact quietF hF1 hF2 (HG.out _)) | fail) | quiet_step (first | (go_at_call_of 22 (Value.agg #[.bool b, .string s, .string t, .int .i64 e]); exact quietF hF1 hF2 (HF.out _)) | (go_at_call_of 22 (Value.agg #[.bool c, .string p, .string q, .int .i64 g]); exact quietF hF1 hF2 (HG.out _)) | fail)
    refine wpQuiet_nil ?_
    rintro _ ⟨uW, rfl⟩
    have B2 := btr B1 (hF1 uW)
    have Rx_2 := heap_of (hF1 uW) _ _ _ Rx_1
    have Ry_2 := heap_of (hF1 uW) _ _ _ Ry_1
    obtain ⟨w2, hw⟩ : ∃ V, F uW = V := ⟨_, rfl⟩
    rw [hw] at B2 Rx_2 Ry_2
    try rw [hw]
    clear hw hF1 hF2 B1 fx_0 fx_1 fx_2 fx_3 fy_0 fy_1 fy_2 fy_3 Rx_1 cx_1_0 cx_1_1 cx_1_2 cx_1_3 Ry_1 cy_1_0 cy_1_1 cy_1_2 cy_1_3
    clear F
    have cx_2_0 := cells4 Rx_2 0 _ rfl
    have cx_2_1 := cells4 Rx_2 1 _ rfl
    have cx_2_2 := cells4 Rx_2 2 _ rfl
    have cx_2_3 := cells4 Rx_2 3 _ rfl
    have cy_2_0 := cells4 Ry_2 0 _ rfl
    have cy_2_1 := cells4 Ry_2 1 _ rfl
    have cy_2_2 := cells4 Ry_2 2 _ rfl
    have cy_2_3 := cells4 Ry_2 3 _ rfl
    go_wp2_with fail
    refine (K1.out _).mono ?_
    rintro r w3 ⟨rfl, b3⟩
    have B3 : Below w.heap.size w w3 := btr B2 b3
    have Rx_3 : w3.heap[w.heap.size]? = some (Obj.cells #[.bool b, .string s, .string t, .int .i64 e] 24) := heap_of b3 _ _ _ Rx_2
    have Ry_3 : w3.heap[w.heap.size + 1]? = some (Obj.cells #[.bool c, .string p, .string q, .int .i64 g] 24) := heap_of b3 _ _ _ Ry_2
    clear b3 B2 Rx_2 cx_2_0 cx_2_1 cx_2_2 cx_2_3 Ry_2 cy_2_0 cy_2_1 cy_2_2 cy_2_3
    have cx_3_0 := cells4 Rx_3 0 _ rfl
    have cx_3_1 := cells4 Rx_3 1 _ rfl
    have cx_3_2 := cells4 Rx_3 2 _ rfl
    have cx_3_3 := cells4 Rx_3 3 _ rfl
    have cy_3_0 := cells4 Ry_3 0 _ rfl
    have cy_3_1 := cells4 Ry_3 1 _ rfl
    have cy_3_2 := cells4 Ry_3 2 _ rfl
    have cy_3_3 := cells4 Ry_3 3 _ rfl
    go_wp2
    go_ret2
    exact ⟨rfl, B3⟩
set_option maxRecDepth 100000 in
theorem Cmpx_no (b : Bool) (e : Int) (s t : ByteArray) (c : Bool) (g : Int) (p q : ByteArray) (o1 o2 : Bool) (m1 : IsM o1 b s t e) (m2 : IsM o2 c p q g) (ho : (o1 && o2) = false) (w : World) (hT : TabAt w) :
    Calls Tryz.prog 9 #[.agg #[.bool b, .string s, .string t, .int .i64 e], .agg #[.bool c, .string p, .string q, .int .i64 g]] w fun r w' => r = .returned (.tuple #[.int .i64 0, .int .i64 2]) ∧ Below w.heap.size w w' := by
  have M1 := box m1
  have M2 := box m2
  have MO := box ho
  have TT := box hT
  clear m1 m2 ho hT
  have Rx_0 : ((w.alloc (Obj.cells #[.bool b, .string s, .string t, .int .i64 e] 24)).alloc (Obj.cells #[.bool c, .string p, .string q, .int .i64 g] 24)).heap[w.heap.size]? = some (Obj.cells #[.bool b, .string s, .string t, .int .i64 e] 24) := by rw [heap_below _ _ _ (by simp only [size_al]; omega)]; have := heap_alloc_last w (Obj.cells #[.bool b, .string s, .string t, .int .i64 e] 24); simpa only [size_al] using this
  have Ry_0 : ((w.alloc (Obj.cells #[.bool b, .string s, .string t, .int .i64 e] 24)).alloc (Obj.cells #[.bool c, .string p, .string q, .int .i64 g] 24)).heap[w.heap.size + 1]? = some (Obj.cells #[.bool c, .string p, .string q, .int .i64 g] 24) := by have := heap_alloc_last (w.alloc (Obj.cells #[.bool b, .string s, .string t, .int .i64 e] 24)) (Obj.cells #[.bool c, .string p, .string q, .int .i64 g] 24); simpa only [size_al] using this
  have B0 : Below w.heap.size w ((w.alloc (Obj.cells #[.bool b, .string s, .string t, .int .i64 e] 24)).alloc (Obj.cells #[.bool c, .string p, .string q, .int .i64 g] 24)) := (((Below.refl _ _).alloc (by first | omega | (simp only [size_al]; omega)) _).alloc (by first | omega | (simp only [size_al]; omega)) _)
  go_enter Tryz.func9, Tryz.ntmps9
  go_wp2_with fail
  refine (xmay2 _ _ _ _ _ _ _ _ o1 o2 false M1.out M2.out MO.out _ ((w.alloc (Obj.cells #[.bool b, .string s, .string t, .int .i64 e] 24)).alloc (Obj.cells #[.bool c, .string p, .string q, .int .i64 g] 24)) _ (by simp only [size_al]) (tabB TT.out B0)).mono ?_
  rintro r w1 ⟨rfl, b1⟩
  have B1 : Below w.heap.size w w1 := btr B0 b1
  have Rx_1 : w1.heap[w.heap.size]? = some (Obj.cells #[.bool b, .string s, .string t, .int .i64 e] 24) := heap_of b1 _ _ _ Rx_0
  have Ry_1 : w1.heap[w.heap.size + 1]? = some (Obj.cells #[.bool c, .string p, .string q, .int .i64 g] 24) := heap_of b1 _ _ _ Ry_0
  clear b1 B0 Rx_0 Ry_0
  have cx_1_0 := cells4 Rx_1 0 _ rfl
  have cx_1_1 := cells4 Rx_1 1 _ rfl
  have cx_1_2 := cells4 Rx_1 2 _ rfl
  have cx_1_3 := cells4 Rx_1 3 _ rfl
  have cy_1_0 := cells4 Ry_1 0 _ rfl
  have cy_1_1 := cells4 Ry_1 1 _ rfl
  have cy_1_2 := cells4 Ry_1 2 _ rfl
  have cy_1_3 := cells4 Ry_1 3 _ rfl
  go_wp2
  go_ret2
  exact ⟨rfl, B1⟩
end Go.Proofs.YtknkkagapcigfaaGreatDoor
