/-
  What the function Quo of package exact returns.
-/
import Derived.Test.YthiongcednmjiaaDoorX7
namespace Go.Proofs.YthiongcednmjiaaDoor
open Go.RowKit WMath XMath

set_option maxRecDepth 100000 in
set_option maxHeartbeats 4000000 in
theorem Quox_no (b : Bool) (e : Int) (s t : ByteArray) (c : Bool) (g : Int) (p q : ByteArray) (o1 o2 : Bool) (m1 : IsM o1 b s t e) (m2 : IsM o2 c p q g) (ho : (o1 && o2) = false) (w : World) (hT : TabAt w) :
    Calls Tryd.prog 25 #[.agg #[.bool b, .string s, .string t, .int .i64 e], .agg #[.bool c, .string p, .string q, .int .i64 g]] w fun r w' => r = .returned (.tuple #[.agg #[.bool false, .string ⟨#[]⟩, .string ⟨#[]⟩, .int .i64 0], .int .i64 2]) ∧ Below w.heap.size w w' := by
  have M1 := box m1
  have M2 := box m2
  have MO := box ho
  have TT := box hT
  clear m1 m2 ho hT
  have Rx_0 : (((w.alloc (Obj.cells #[.bool b, .string s, .string t, .int .i64 e] 24)).alloc (Obj.cells #[.bool c, .string p, .string q, .int .i64 g] 24)).alloc (Obj.cells #[.bool false, .string ⟨#[]⟩, .string ⟨#[]⟩, .int .i64 0] 24)).heap[w.heap.size]? = some (Obj.cells #[.bool b, .string s, .string t, .int .i64 e] 24) := by rw [heap_below _ _ _ (by simp only [size_al]; omega), heap_below _ _ _ (by simp only [size_al]; omega)]; have := heap_alloc_last w (Obj.cells #[.bool b, .string s, .string t, .int .i64 e] 24); simpa only [size_al] using this
  have Ry_0 : (((w.alloc (Obj.cells #[.bool b, .string s, .string t, .int .i64 e] 24)).alloc (Obj.cells #[.bool c, .string p, .string q, .int .i64 g] 24)).alloc (Obj.cells #[.bool false, .string ⟨#[]⟩, .string ⟨#[]⟩, .int .i64 0] 24)).heap[w.heap.size + 1]? = some (Obj.cells #[.bool c, .string p, .string q, .int .i64 g] 24) := by rw [heap_below _ _ _ (by simp only [size_al]; omega)]; have := heap_alloc_last (w.alloc (Obj.cells #[.bool b, .string s, .string t, .int .i64 e] 24)) (Obj.cells #[.bool c, .string p, .string q, .int .i64 g] 24); simpa only [size_al] using this
  have Rz_0 : (((w.alloc (Obj.cells #[.bool b, .string s, .string t, .int .i64 e] 24)).alloc (Obj.cells #[.bool c, .string p, .string q, .int .i64 g] 24)).alloc (Obj.cells #[.bool false, .string ⟨#[]⟩, .string ⟨#[]⟩, .int .i64 0] 24)).heap[w.heap.size + 1 + 1]? = some (Obj.cells #[.bool false, .string ⟨#[]⟩, .string ⟨#[]⟩, .int .i64 0] 24) := by have := heap_alloc_last ((w.alloc (Obj.cells #[.bool b, .string s, .string t, .int .i64 e] 24)).alloc (Obj.cells #[.bool c, .string p, .string q, .int .i64 g] 24)) (Obj.cells #[.bool false, .string ⟨#[]⟩, .string ⟨#[]⟩, .int .i64 0] 24); simpa only [size_al] using this
  have B0 : Below w.heap.size w (((w.alloc (Obj.cells #[.bool b, .string s, .string t, .int .i64 e] 24)).alloc (Obj.cells #[.bool c, .string p, .string q, .int .i64 g] 24)).alloc (Obj.cells #[.bool false, .string ⟨#[]⟩, .string ⟨#[]⟩, .int .i64 0] 24)) := ((((Below.refl _ _).alloc (by first | omega | (simp only [size_al]; omega)) _).alloc (by first | omega | (simp only [size_al]; omega)) _).alloc (by first | omega | (simp only [size_al]; omega)) _)
  go_enter Tryd.func25, Tryd.ntmps25
  go_wp2_with fail
  apply cut_same
  · intro key
    go_region_with (first | (go_at_call 51; refine (xmay2d _ _ _ _ _ _ _ _ o1 o2 false M1.out M2.out MO.out _ (((w.alloc (Obj.cells #[.bool b, .string s, .string t, .int .i64 e] 24)).alloc (Obj.cells #[.bool c, .string p, .string q, .int .i64 g] 24)).alloc (Obj.cells #[.bool false, .string ⟨#[]⟩, .string ⟨#[]⟩, .int .i64 0] 24)) _ (by simp only [size_al]) (tabB TT.out B0)).mono ?_; rintro r w1 ⟨rfl, b1⟩; have B1 : Below w.heap.size w w1 := btr B0 b1; have Rx_1 : w1.heap[w.heap.size]? = some (Obj.cells #[.bool b, .string s, .string t, .int .i64 e] 24) := heap_of b1 _ _ _ Rx_0; have cx_1_0 := cells4 Rx_1 0 _ rfl; have cx_1_1 := cells4 Rx_1 1 _ rfl; have cx_1_2 := cells4 Rx_1 2 _ rfl; have cx_1_3 := cells4 Rx_1 3 _ rfl; have Ry_1 : w1.heap[w.heap.size + 1]? = some (Obj.cells #[.bool c, .string p, .string q, .int .i64 g] 24) := heap_of b1 _ _ _ Ry_0; have cy_1_0 := cells4 Ry_1 0 _ rfl; have cy_1_1 := cells4 Ry_1 1 _ rfl; have cy_1_2 := cells4 Ry_1 2 _ rfl; have cy_1_3 := cells4 Ry_1 3 _ rfl; have Rz_1 : w1.heap[w.heap.size + 1 + 1]? = some (Obj.cells #[.bool false, .string ⟨#[]⟩, .string ⟨#[]⟩, .int .i64 0] 24) := heap_of b1 _ _ _ Rz_0; have cz_1_0 := cells4 Rz_1 0 _ rfl; have cz_1_1 := cells4 Rz_1 1 _ rfl; have cz_1_2 := cells4 Rz_1 2 _ rfl; have cz_1_3 := cells4 Rz_1 3 _ rfl))
    all_goals
      clear cx_1_0 cx_1_1 cx_1_2 cx_1_3 cy_1_0 cy_1_1 cy_1_2 cy_1_3 cz_1_0 cz_1_1 cz_1_2 cz_1_3 b1
      revert w1
      exact key
  intro w1 B1 Rx_1 Ry_1 Rz_1
  clear B0 Rx_0 Ry_0 Rz_0
  have cx_1_0 := cells4 Rx_1 0 _ rfl
  have cx_1_1 := cells4 Rx_1 1 _ rfl
  have cx_1_2 := cells4 Rx_1 2 _ rfl
  have cx_1_3 := cells4 Rx_1 3 _ rfl
  have cy_1_0 := cells4 Ry_1 0 _ rfl
  have cy_1_1 := cells4 Ry_1 1 _ rfl
  have cy_1_2 := cells4 Ry_1 2 _ rfl
  have cy_1_3 := cells4 Ry_1 3 _ rfl
  have cz_1_0 := cells4 Rz_1 0 _ rfl
  have cz_1_1 := cells4 Rz_1 1 _ rfl
  have cz_1_2 := cells4 Rz_1 2 _ rfl
  have cz_1_3 := cells4 Rz_1 3 _ rfl
  have q0 := fz (k := 0) Rz_1
  have q1 := fz (k := 1) Rz_1
  have q2 := fz (k := 2) Rz_1
  have q3 := fz (k := 3) Rz_1
  obtain ⟨E0, E1, E2, E3⟩ := set4_cells Rz_1 rfl (.bool false) (.string ⟨#[]⟩) (.string ⟨#[]⟩) (.int .i64 0)
  go_wp2
  exact bodyPost_ret (v := .tuple #[.agg #[.bool false, .string ⟨#[]⟩, .string ⟨#[]⟩, .int .i64 0], .int .i64 2]) (by simp [results, Tryd.results25, go_sem, E0, E1, E2, E3]) rfl ⟨rfl, set4_below B1 (by first | exact Nat.le_refl _ | omega) _ _ _ _⟩

set_option maxRecDepth 100000 in
set_option maxHeartbeats 4000000 in
theorem Quox_ok (b : Bool) (n d : Nat) (e : Int) (s t : ByteArray) (c : Bool) (m f : Nat) (g : Int) (p q : ByteArray) (rb : Bool) (rn rd : Nat) (re err : Int) (u v : ByteArray)
    (hs : nbA n = s) (ht : nbA d = t) (hp : nbA m = p) (hq : nbA f = q) (hx : (XN.mk b n d e).can) (hy : (XN.mk c m f g).can) (hr : quoX (XN.mk b n d e) (XN.mk c m f g) = (⟨rb, rn, rd, re⟩, err)) (hu : nbA rn = u) (hv : nbA rd = v) (w : World) (hT : TabAt w) :
    Calls Tryd.prog 25 #[.agg #[.bool b, .string s, .string t, .int .i64 e], .agg #[.bool c, .string p, .string q, .int .i64 g]] w fun r w' => r = .returned (.tuple #[.agg #[.bool rb, .string u, .string v, .int .i64 re], .int .i64 err]) ∧ Below w.heap.size w w' := by
  have M1 := box (may_yes hs ht hx)
  have M2 := box (may_yes hp hq hy)
  have TT := box hT
  rcases x_cases hp hq hy with ⟨m0, rfl, rfl, rfl, rfl, rfl⟩ | ⟨m0, e1⟩
  · have hz : ((XZ, 2) : XN × Int) = (⟨rb, rn, rd, re⟩, err) := by rw [← hr]; unfold quoX; rw [if_pos m0]
    injection hz with h1 h2
    unfold XZ at h1
    injection h1 with a1 a2 a3 a4
    subst a1 a2 a3 a4 h2
    rw [nbA_zero] at hu hv
    subst hu hv
    clear hs ht hp hq hx hy hr hT m0
    have Rx_0 : (((w.alloc (Obj.cells #[.bool b, .string s, .string t, .int .i64 e] 24)).alloc (Obj.cells #[.bool false, .string ⟨#[]⟩, .string ⟨#[1]⟩, .int .i64 0] 24)).alloc (Obj.cells #[.bool false, .string ⟨#[]⟩, .string ⟨#[]⟩, .int .i64 0] 24)).heap[w.heap.size]? = some (Obj.cells #[.bool b, .string s, .string t, .int .i64 e] 24) := by rw [heap_below _ _ _ (by simp only [size_al]; omega), heap_below _ _ _ (by simp only [size_al]; omega)]; have := heap_alloc_last w (Obj.cells #[.bool b, .string s, .string t, .int .i64 e] 24); simpa only [size_al] using this
    have Ry_0 : (((w.alloc (Obj.cells #[.bool b, .string s, .string t, .int .i64 e] 24)).alloc (Obj.cells #[.bool false, .string ⟨#[]⟩, .string ⟨#[1]⟩, .int .i64 0] 24)).alloc (Obj.cells #[.bool false, .string ⟨#[]⟩, .string ⟨#[]⟩, .int .i64 0] 24)).heap[w.heap.size + 1]? = some (Obj.cells #[.bool false, .string ⟨#[]⟩, .string ⟨#[1]⟩, .int .i64 0] 24) := by rw [heap_below _ _ _ (by simp only [size_al]; omega)]; have := heap_alloc_last (w.alloc (Obj.cells #[.bool b, .string s, .string t, .int .i64 e] 24)) (Obj.cells #[.bool false, .string ⟨#[]⟩, .string ⟨#[1]⟩, .int .i64 0] 24); simpa only [size_al] using this
    have Rz_0 : (((w.alloc (Obj.cells #[.bool b, .string s, .string t, .int .i64 e] 24)).alloc (Obj.cells #[.bool false, .string ⟨#[]⟩, .string ⟨#[1]⟩, .int .i64 0] 24)).alloc (Obj.cells #[.bool false, .string ⟨#[]⟩, .string ⟨#[]⟩, .int .i64 0] 24)).heap[w.heap.size + 1 + 1]? = some (Obj.cells #[.bool false, .string ⟨#[]⟩, .string ⟨#[]⟩, .int .i64 0] 24) := by have := heap_alloc_last ((w.alloc (Obj.cells #[.bool b, .string s, .string t, .int .i64 e] 24)).alloc (Obj.cells #[.bool false, .string ⟨#[]⟩, .string ⟨#[1]⟩, .int .i64 0] 24)) (Obj.cells #[.bool false, .string ⟨#[]⟩, .string ⟨#[]⟩, .int .i64 0] 24); simpa only [size_al] using this
    have B0 : Below w.heap.size w (((w.alloc (Obj.cells #[.bool b, .string s, .string t, .int .i64 e] 24)).alloc (Obj.cells #[.bool false, .string ⟨#[]⟩, .string ⟨#[1]⟩, .int .i64 0] 24)).alloc (Obj.cells #[.bool false, .string ⟨#[]⟩, .string ⟨#[]⟩, .int .i64 0] 24)) := ((((Below.refl _ _).alloc (by first | omega | (simp only [size_al]; omega)) _).alloc (by first | omega | (simp only [size_al]; omega)) _).alloc (by first | omega | (simp only [size_al]; omega)) _)
    go_enter Tryd.func25, Tryd.ntmps25
    go_wp2_with fail
    apply cut_same
    · intro key
      go_region_with (first | (go_at_call 51; refine (xmay2d _ _ _ _ _ _ _ _ true true true M1.out M2.out rfl _ (((w.alloc (Obj.cells #[.bool b, .string s, .string t, .int .i64 e] 24)).alloc (Obj.cells #[.bool false, .string ⟨#[]⟩, .string ⟨#[1]⟩, .int .i64 0] 24)).alloc (Obj.cells #[.bool false, .string ⟨#[]⟩, .string ⟨#[]⟩, .int .i64 0] 24)) _ (by simp only [size_al]) (tabB TT.out B0)).mono ?_; rintro r w1 ⟨rfl, b1⟩; have B1 : Below w.heap.size w w1 := btr B0 b1; have Rx_1 : w1.heap[w.heap.size]? = some (Obj.cells #[.bool b, .string s, .string t, .int .i64 e] 24) := heap_of b1 _ _ _ Rx_0; have cx_1_0 := cells4 Rx_1 0 _ rfl; have cx_1_1 := cells4 Rx_1 1 _ rfl; have cx_1_2 := cells4 Rx_1 2 _ rfl; have cx_1_3 := cells4 Rx_1 3 _ rfl; have Ry_1 : w1.heap[w.heap.size + 1]? = some (Obj.cells #[.bool false, .string ⟨#[]⟩, .string ⟨#[1]⟩, .int .i64 0] 24) := heap_of b1 _ _ _ Ry_0; have cy_1_0 := cells4 Ry_1 0 _ rfl; have cy_1_1 := cells4 Ry_1 1 _ rfl; have cy_1_2 := cells4 Ry_1 2 _ rfl; have cy_1_3 := cells4 Ry_1 3 _ rfl; have Rz_1 : w1.heap[w.heap.size + 1 + 1]? = some (Obj.cells #[.bool false, .string ⟨#[]⟩, .string ⟨#[]⟩, .int .i64 0] 24) := heap_of b1 _ _ _ Rz_0; have cz_1_0 := cells4 Rz_1 0 _ rfl; have cz_1_1 := cells4 Rz_1 1 _ rfl; have cz_1_2 := cells4 Rz_1 2 _ rfl; have cz_1_3 := cells4 Rz_1 3 _ rfl) | (go_at_call 38; refine (zerox _).mono ?_; rintro r w2 ⟨rfl, b2⟩; have B2 : Below w.heap.size w w2 := btr B1 b2; have Rx_2 : w2.heap[w.heap.size]? = some (Obj.cells #[.bool b, .string s, .string t, .int .i64 e] 24) := heap_of b2 _ _ _ Rx_1; have cx_2_0 := cells4 Rx_2 0 _ rfl; have cx_2_1 := cells4 Rx_2 1 _ rfl; have cx_2_2 := cells4 Rx_2 2 _ rfl; have cx_2_3 := cells4 Rx_2 3 _ rfl; have Ry_2 : w2.heap[w.heap.size + 1]? = some (Obj.cells #[.bool false, .string ⟨#[]⟩, .string ⟨#[1]⟩, .int .i64 0] 24) := heap_of b2 _ _ _ Ry_1; have cy_2_0 := cells4 Ry_2 0 _ rfl; have cy_2_1 := cells4 Ry_2 1 _ rfl; have cy_2_2 := cells4 Ry_2 2 _ rfl; have cy_2_3 := cells4 Ry_2 3 _ rfl; have Rz_2 : w2.heap[w.heap.size + 1 + 1]? = some (Obj.cells #[.bool false, .string ⟨#[]⟩, .string ⟨#[]⟩, .int .i64 0] 24) := heap_of b2 _ _ _ Rz_1; have cz_2_0 := cells4 Rz_2 0 _ rfl; have cz_2_1 := cells4 Rz_2 1 _ rfl; have cz_2_2 := cells4 Rz_2 2 _ rfl; have cz_2_3 := cells4 Rz_2 3 _ rfl))
      all_goals
        clear cx_2_0 cx_2_1 cx_2_2 cx_2_3 cy_2_0 cy_2_1 cy_2_2 cy_2_3 cz_2_0 cz_2_1 cz_2_2 cz_2_3 b2
        clear cx_1_0 cx_1_1 cx_1_2 cx_1_3 cy_1_0 cy_1_1 cy_1_2 cy_1_3 cz_1_0 cz_1_1 cz_1_2 cz_1_3 Rx_1 Ry_1 Rz_1 b1 B1
        clear w1
        revert w2
        exact key
    intro w2 B2 Rx_2 Ry_2 Rz_2
    clear B0 Rx_0 Ry_0 Rz_0
    have cx_2_0 := cells4 Rx_2 0 _ rfl
    have cx_2_1 := cells4 Rx_2 1 _ rfl
    have cx_2_2 := cells4 Rx_2 2 _ rfl
    have cx_2_3 := cells4 Rx_2 3 _ rfl
    have cy_2_0 := cells4 Ry_2 0 _ rfl
    have cy_2_1 := cells4 Ry_2 1 _ rfl
    have cy_2_2 := cells4 Ry_2 2 _ rfl
    have cy_2_3 := cells4 Ry_2 3 _ rfl
    have cz_2_0 := cells4 Rz_2 0 _ rfl
    have cz_2_1 := cells4 Rz_2 1 _ rfl
    have cz_2_2 := cells4 Rz_2 2 _ rfl
    have cz_2_3 := cells4 Rz_2 3 _ rfl
    have q0 := fz (k := 0) Rz_2
    have q1 := fz (k := 1) Rz_2
    have q2 := fz (k := 2) Rz_2
    have q3 := fz (k := 3) Rz_2
    obtain ⟨E0, E1, E2, E3⟩ := set4_cells Rz_2 rfl (.bool false) (.string ⟨#[]⟩) (.string ⟨#[]⟩) (.int .i64 0)
    go_wp2
    exact bodyPost_ret (v := .tuple #[.agg #[.bool false, .string ⟨#[]⟩, .string ⟨#[]⟩, .int .i64 0], .int .i64 2]) (by simp [results, Tryd.results25, go_sem, E0, E1, E2, E3]) rfl ⟨rfl, set4_below B2 (by first | exact Nat.le_refl _ | omega) _ _ _ _⟩
  · obtain ⟨z1, z2, z3, z4, z5⟩ := hy
    obtain ⟨a1, a2, a3, a4, a5⟩ := hx
    have g3 : -1048576 ≤ g := z3
    have g4 : g ≤ 1048576 := z4
    have h3 : -1048576 ≤ e := a3
    have h4 : e ≤ 1048576 := a4
    have n1 : IntKind.i64.wrap (-g) = -g := wrap_i64_is _ (by omega) (by omega)
    have d0 : d ≠ 0 := by
      have k1 := M1.out.1 rfl
      rw [mayX_iff b n d s t e hs ht] at k1
      exact k1.d0
    have HF : Box (n ≠ 0 → ∀ w, TabAt w → Calls Tryd.prog 54 #[.agg #[.bool b, .string s, .string t, .int .i64 e], .agg #[.bool c, .string q, .string p, .int .i64 (-g)]] w fun r w' => r = .returned (.tuple #[.agg #[.bool rb, .string u, .string v, .int .i64 re], .int .i64 err]) ∧ Below w.heap.size w w') := box (fun n0 w hT => by
      rw [prod_quo b n d e c m f g n0 m0] at hr
      exact productx b n d e s t c f m (-g) q p rb rn rd re err u v hs ht hq hp a1 a2 z2 z1 (mul_ne d0 m0) ⟨by omega, by omega, by omega, by omega⟩ hr hu hv w hT)
    have HS := box hs
    have HT := box ht
    have HR := box hr
    have HU := box hu
    have HV := box hv
    have M0 := box m0
    clear hs ht hp hq a1 a2 a3 a4 a5 z1 z2 z3 z4 z5 g3 g4 h3 h4 d0 hr hu hv hT m0
    cases c
    · have Rx_0 : (((w.alloc (Obj.cells #[.bool b, .string s, .string t, .int .i64 e] 24)).alloc (Obj.cells #[.bool false, .string p, .string q, .int .i64 g] 24)).alloc (Obj.cells #[.bool false, .string ⟨#[]⟩, .string ⟨#[]⟩, .int .i64 0] 24)).heap[w.heap.size]? = some (Obj.cells #[.bool b, .string s, .string t, .int .i64 e] 24) := by rw [heap_below _ _ _ (by simp only [size_al]; omega), heap_below _ _ _ (by simp only [size_al]; omega)]; have := heap_alloc_last w (Obj.cells #[.bool b, .string s, .string t, .int .i64 e] 24); simpa only [size_al] using this
      have Ry_0 : (((w.alloc (Obj.cells #[.bool b, .string s, .string t, .int .i64 e] 24)).alloc (Obj.cells #[.bool false, .string p, .string q, .int .i64 g] 24)).alloc (Obj.cells #[.bool false, .string ⟨#[]⟩, .string ⟨#[]⟩, .int .i64 0] 24)).heap[w.heap.size + 1]? = some (Obj.cells #[.bool false, .string p, .string q, .int .i64 g] 24) := by rw [heap_below _ _ _ (by simp only [size_al]; omega)]; have := heap_alloc_last (w.alloc (Obj.cells #[.bool b, .string s, .string t, .int .i64 e] 24)) (Obj.cells #[.bool false, .string p, .string q, .int .i64 g] 24); simpa only [size_al] using this
      have Rz_0 : (((w.alloc (Obj.cells #[.bool b, .string s, .string t, .int .i64 e] 24)).alloc (Obj.cells #[.bool false, .string p, .string q, .int .i64 g] 24)).alloc (Obj.cells #[.bool false, .string ⟨#[]⟩, .string ⟨#[]⟩, .int .i64 0] 24)).heap[w.heap.size + 1 + 1]? = some (Obj.cells #[.bool false, .string ⟨#[]⟩, .string ⟨#[]⟩, .int .i64 0] 24) := by have := heap_alloc_last ((w.alloc (Obj.cells #[.bool b, .string s, .string t, .int .i64 e] 24)).alloc (Obj.cells #[.bool false, .string p, .string q, .int .i64 g] 24)) (Obj.cells #[.bool false, .string ⟨#[]⟩, .string ⟨#[]⟩, .int .i64 0] 24); simpa only [size_al] using this
      have B0 : Below w.heap.size w (((w.alloc (Obj.cells #[.bool b, .string s, .string t, .int .i64 e] 24)).alloc (Obj.cells #[.bool false, .string p, .string q, .int .i64 g] 24)).alloc (Obj.cells #[.bool false, .string ⟨#[]⟩, .string ⟨#[]⟩, .int .i64 0] 24)) := ((((Below.refl _ _).alloc (by first | omega | (simp only [size_al]; omega)) _).alloc (by first | omega | (simp only [size_al]; omega)) _).alloc (by first | omega | (simp only [size_al]; omega)) _)
      go_enter Tryd.func25, Tryd.ntmps25
      go_wp2_with fail
      apply cut_same
      · intro key
        go_region_with (first | (go_at_call 51; refine (xmay2d _ _ _ _ _ _ _ _ true true true M1.out M2.out rfl _ (((w.alloc (Obj.cells #[.bool b, .string s, .string t, .int .i64 e] 24)).alloc (Obj.cells #[.bool false, .string p, .string q, .int .i64 g] 24)).alloc (Obj.cells #[.bool false, .string ⟨#[]⟩, .string ⟨#[]⟩, .int .i64 0] 24)) _ (by simp only [size_al]) (tabB TT.out B0)).mono ?_; rintro r w1 ⟨rfl, b1⟩; have B1 : Below w.heap.size w w1 := btr B0 b1; have Rx_1 : w1.heap[w.heap.size]? = some (Obj.cells #[.bool b, .string s, .string t, .int .i64 e] 24) := heap_of b1 _ _ _ Rx_0; have cx_1_0 := cells4 Rx_1 0 _ rfl; have cx_1_1 := cells4 Rx_1 1 _ rfl; have cx_1_2 := cells4 Rx_1 2 _ rfl; have cx_1_3 := cells4 Rx_1 3 _ rfl; have Ry_1 : w1.heap[w.heap.size + 1]? = some (Obj.cells #[.bool false, .string p, .string q, .int .i64 g] 24) := heap_of b1 _ _ _ Ry_0; have cy_1_0 := cells4 Ry_1 0 _ rfl; have cy_1_1 := cells4 Ry_1 1 _ rfl; have cy_1_2 := cells4 Ry_1 2 _ rfl; have cy_1_3 := cells4 Ry_1 3 _ rfl; have Rz_1 : w1.heap[w.heap.size + 1 + 1]? = some (Obj.cells #[.bool false, .string ⟨#[]⟩, .string ⟨#[]⟩, .int .i64 0] 24) := heap_of b1 _ _ _ Rz_0; have cz_1_0 := cells4 Rz_1 0 _ rfl; have cz_1_1 := cells4 Rz_1 1 _ rfl; have cz_1_2 := cells4 Rz_1 2 _ rfl; have cz_1_3 := cells4 Rz_1 3 _ rfl) | (go_at_call 38; refine (zerox _).mono ?_; rintro r w2 ⟨rfl, b2⟩; have B2 : Below w.heap.size w w2 := btr B1 b2; have Rx_2 : w2.heap[w.heap.size]? = some (Obj.cells #[.bool b, .string s, .string t, .int .i64 e] 24) := heap_of b2 _ _ _ Rx_1; have cx_2_0 := cells4 Rx_2 0 _ rfl; have cx_2_1 := cells4 Rx_2 1 _ rfl; have cx_2_2 := cells4 Rx_2 2 _ rfl; have cx_2_3 := cells4 Rx_2 3 _ rfl; have Ry_2 : w2.heap[w.heap.size + 1]? = some (Obj.cells #[.bool false, .string p, .string q, .int .i64 g] 24) := heap_of b2 _ _ _ Ry_1; have cy_2_0 := cells4 Ry_2 0 _ rfl; have cy_2_1 := cells4 Ry_2 1 _ rfl; have cy_2_2 := cells4 Ry_2 2 _ rfl; have cy_2_3 := cells4 Ry_2 3 _ rfl; have Rz_2 : w2.heap[w.heap.size + 1 + 1]? = some (Obj.cells #[.bool false, .string ⟨#[]⟩, .string ⟨#[]⟩, .int .i64 0] 24) := heap_of b2 _ _ _ Rz_1; have cz_2_0 := cells4 Rz_2 0 _ rfl; have cz_2_1 := cells4 Rz_2 1 _ rfl; have cz_2_2 := cells4 Rz_2 2 _ rfl; have cz_2_3 := cells4 Rz_2 3 _ rfl))
        all_goals
          clear cx_2_0 cx_2_1 cx_2_2 cx_2_3 cy_2_0 cy_2_1 cy_2_2 cy_2_3 cz_2_0 cz_2_1 cz_2_2 cz_2_3 b2
          clear cx_1_0 cx_1_1 cx_1_2 cx_1_3 cy_1_0 cy_1_1 cy_1_2 cy_1_3 cz_1_0 cz_1_1 cz_1_2 cz_1_3 Rx_1 Ry_1 Rz_1 b1 B1
          clear w1
          revert w2
          exact key
      intro w2 B2 Rx_2 Ry_2 Rz_2
      clear B0 Rx_0 Ry_0 Rz_0
      have cx_2_0 := cells4 Rx_2 0 _ rfl
      have cx_2_1 := cells4 Rx_2 1 _ rfl
      have cx_2_2 := cells4 Rx_2 2 _ rfl
      have cx_2_3 := cells4 Rx_2 3 _ rfl
      have cy_2_0 := cells4 Ry_2 0 _ rfl
      have cy_2_1 := cells4 Ry_2 1 _ rfl
      have cy_2_2 := cells4 Ry_2 2 _ rfl
      have cy_2_3 := cells4 Ry_2 3 _ rfl
      have cz_2_0 := cells4 Rz_2 0 _ rfl
      have cz_2_1 := cells4 Rz_2 1 _ rfl
      have cz_2_2 := cells4 Rz_2 2 _ rfl
      have cz_2_3 := cells4 Rz_2 3 _ rfl
      have k1 := M1.out.1 rfl
      rw [mayX_iff b n d s t e HS.out HT.out] at k1
      rcases x_cases HS.out HT.out k1 with ⟨n0, rfl, rfl, rfl, rfl, rfl⟩ | ⟨n0, e0⟩
      · skip
        obtain ⟨rfl, rfl, rfl, rfl, rfl⟩ := x0_is (by rw [← HR.out]; unfold quoX; rw [if_neg M0.out, if_pos n0])
        have hu := HU.out
        have hv := HV.out
        rw [nbA_zero] at hu
        rw [nb1] at hv
        subst hu hv
        clear k1 n0 HF
        go_wp2_with fail
        obtain ⟨F, hF1, hF2⟩ := below_fun w2
        have fx_0 := fun u => cells4 (heap_of (hF1 u) _ _ _ Rx_2) 0 _ rfl
        have fx_1 := fun u => cells4 (heap_of (hF1 u) _ _ _ Rx_2) 1 _ rfl
        have fx_2 := fun u => cells4 (heap_of (hF1 u) _ _ _ Rx_2) 2 _ rfl
        have fx_3 := fun u => cells4 (heap_of (hF1 u) _ _ _ Rx_2) 3 _ rfl
        have fy_0 := fun u => cells4 (heap_of (hF1 u) _ _ _ Ry_2) 0 _ rfl
        have fy_1 := fun u => cells4 (heap_of (hF1 u) _ _ _ Ry_2) 1 _ rfl
        have fy_2 := fun u => cells4 (heap_of (hF1 u) _ _ _ Ry_2) 2 _ rfl
        have fy_3 := fun u => cells4 (heap_of (hF1 u) _ _ _ Ry_2) 3 _ rfl
        have fz_0 := fun u => cells4 (heap_of (hF1 u) _ _ _ Rz_2) 0 _ rfl
        have fz_1 := fun u => cells4 (heap_of (hF1 u) _ _ _ Rz_2) 1 _ rfl
        have fz_2 := fun u => cells4 (heap_of (hF1 u) _ _ _ Rz_2) 2 _ rfl
        have fz_3 := fun u => cells4 (heap_of (hF1 u) _ _ _ Rz_2) 3 _ rfl
        refine wp_region_below F hF2 (by kernel_rfl) (by kernel_rfl) ?_
        repeat first | go_big_quiet_step (first | (go_at_call 38; exact quietF hF1 hF2 (zerox _)) | fail) | quiet_step (first | (go_at_call 38; exact quietF hF1 hF2 (zerox _)) | fail)
        refine wpQuiet_nil ?_
        rintro _ ⟨uW, rfl⟩
        have B3 := btr B2 (hF1 uW)
        have Rx_3 := heap_of (hF1 uW) _ _ _ Rx_2
        have Ry_3 := heap_of (hF1 uW) _ _ _ Ry_2
        have Rz_3 := heap_of (hF1 uW) _ _ _ Rz_2
        obtain ⟨w3, hw⟩ : ∃ V, F uW = V := ⟨_, rfl⟩
        rw [hw] at B3 Rx_3 Ry_3 Rz_3
        try rw [hw]
        clear hw hF1 hF2 B2 fx_0 fx_1 fx_2 fx_3 fy_0 fy_1 fy_2 fy_3 fz_0 fz_1 fz_2 fz_3 Rx_2 cx_2_0 cx_2_1 cx_2_2 cx_2_3 Ry_2 cy_2_0 cy_2_1 cy_2_2 cy_2_3 Rz_2 cz_2_0 cz_2_1 cz_2_2 cz_2_3
        clear F
        have cx_3_0 := cells4 Rx_3 0 _ rfl
        have cx_3_1 := cells4 Rx_3 1 _ rfl
        have cx_3_2 := cells4 Rx_3 2 _ rfl
        have cx_3_3 := cells4 Rx_3 3 _ rfl
        have cy_3_0 := cells4 Ry_3 0 _ rfl
        have cy_3_1 := cells4 Ry_3 1 _ rfl
        have cy_3_2 := cells4 Ry_3 2 _ rfl
        have cy_3_3 := cells4 Ry_3 3 _ rfl
        have cz_3_0 := cells4 Rz_3 0 _ rfl
        have cz_3_1 := cells4 Rz_3 1 _ rfl
        have cz_3_2 := cells4 Rz_3 2 _ rfl
        have cz_3_3 := cells4 Rz_3 3 _ rfl
        go_wp2_with fail
        refine (zerox _).mono ?_
        rintro r w4 ⟨rfl, b4⟩
        have B4 : Below w.heap.size w w4 := btr B3 b4
        have Rx_4 : w4.heap[w.heap.size]? = some (Obj.cells #[.bool false, .string ⟨#[]⟩, .string ⟨#[1]⟩, .int .i64 0] 24) := heap_of b4 _ _ _ Rx_3
        have Ry_4 : w4.heap[w.heap.size + 1]? = some (Obj.cells #[.bool false, .string p, .string q, .int .i64 g] 24) := heap_of b4 _ _ _ Ry_3
        have Rz_4 : w4.heap[w.heap.size + 1 + 1]? = some (Obj.cells #[.bool false, .string ⟨#[]⟩, .string ⟨#[]⟩, .int .i64 0] 24) := heap_of b4 _ _ _ Rz_3
        clear b4 B3 Rx_3 cx_3_0 cx_3_1 cx_3_2 cx_3_3 Ry_3 cy_3_0 cy_3_1 cy_3_2 cy_3_3 Rz_3 cz_3_0 cz_3_1 cz_3_2 cz_3_3
        have cx_4_0 := cells4 Rx_4 0 _ rfl
        have cx_4_1 := cells4 Rx_4 1 _ rfl
        have cx_4_2 := cells4 Rx_4 2 _ rfl
        have cx_4_3 := cells4 Rx_4 3 _ rfl
        have cy_4_0 := cells4 Ry_4 0 _ rfl
        have cy_4_1 := cells4 Ry_4 1 _ rfl
        have cy_4_2 := cells4 Ry_4 2 _ rfl
        have cy_4_3 := cells4 Ry_4 3 _ rfl
        have cz_4_0 := cells4 Rz_4 0 _ rfl
        have cz_4_1 := cells4 Rz_4 1 _ rfl
        have cz_4_2 := cells4 Rz_4 2 _ rfl
        have cz_4_3 := cells4 Rz_4 3 _ rfl
        have q0 := fz (k := 0) Rz_4
        have q1 := fz (k := 1) Rz_4
        have q2 := fz (k := 2) Rz_4
        have q3 := fz (k := 3) Rz_4
        obtain ⟨E0, E1, E2, E3⟩ := set4_cells Rz_4 rfl (.bool false) (.string ⟨#[]⟩) (.string ⟨#[1]⟩) (.int .i64 0)
        go_wp2
        exact bodyPost_ret (v := .tuple #[.agg #[.bool false, .string ⟨#[]⟩, .string ⟨#[1]⟩, .int .i64 0], .int .i64 0]) (by simp [results, Tryd.results25, go_sem, E0, E1, E2, E3]) rfl ⟨rfl, set4_below B4 (by first | exact Nat.le_refl _ | omega) _ _ _ _⟩
      · skip
        clear k1
        have HF2 := box (HF.out n0)
        clear HF n0
        cases b
        · skip
          go_wp2_with fail
          obtain ⟨F, hF1, hF2⟩ := below_fun w2
          have fx_0 := fun u => cells4 (heap_of (hF1 u) _ _ _ Rx_2) 0 _ rfl
          have fx_1 := fun u => cells4 (heap_of (hF1 u) _ _ _ Rx_2) 1 _ rfl
          have fx_2 := fun u => cells4 (heap_of (hF1 u) _ _ _ Rx_2) 2 _ rfl
          have fx_3 := fun u => cells4 (heap_of (hF1 u) _ _ _ Rx_2) 3 _ rfl
          have fy_0 := fun u => cells4 (heap_of (hF1 u) _ _ _ Ry_2) 0 _ rfl
          have fy_1 := fun u => cells4 (heap_of (hF1 u) _ _ _ Ry_2) 1 _ rfl
          have fy_2 := fun u => cells4 (heap_of (hF1 u) _ _ _ Ry_2) 2 _ rfl
          have fy_3 := fun u => cells4 (heap_of (hF1 u) _ _ _ Ry_2) 3 _ rfl
          have fz_0 := fun u => cells4 (heap_of (hF1 u) _ _ _ Rz_2) 0 _ rfl
          have fz_1 := fun u => cells4 (heap_of (hF1 u) _ _ _ Rz_2) 1 _ rfl
          have fz_2 := fun u => cells4 (heap_of (hF1 u) _ _ _ Rz_2) 2 _ rfl
          have fz_3 := fun u => cells4 (heap_of (hF1 u) _ _ _ Rz_2) 3 _ rfl
          refine wp_region_below F hF2 (by kernel_rfl) (by kernel_rfl) ?_
          repeat first | go_big_quiet_step (first | (go_at_call 38; exact quietF hF1 hF2 (zerox _)) | fail) | quiet_step (first | (go_at_call 38; exact quietF hF1 hF2 (zerox _)) | fail)
          refine wpQuiet_nil ?_
          rintro _ ⟨uW, rfl⟩
          have B3 := btr B2 (hF1 uW)
          have Rx_3 := heap_of (hF1 uW) _ _ _ Rx_2
          have Ry_3 := heap_of (hF1 uW) _ _ _ Ry_2
          have Rz_3 := heap_of (hF1 uW) _ _ _ Rz_2
          obtain ⟨w3, hw⟩ : ∃ V, F uW = V := ⟨_, rfl⟩
          rw [hw] at B3 Rx_3 Ry_3 Rz_3
          try rw [hw]
          clear hw hF1 hF2 B2 fx_0 fx_1 fx_2 fx_3 fy_0 fy_1 fy_2 fy_3 fz_0 fz_1 fz_2 fz_3 Rx_2 cx_2_0 cx_2_1 cx_2_2 cx_2_3 Ry_2 cy_2_0 cy_2_1 cy_2_2 cy_2_3 Rz_2 cz_2_0 cz_2_1 cz_2_2 cz_2_3
          clear F
          have cx_3_0 := cells4 Rx_3 0 _ rfl
          have cx_3_1 := cells4 Rx_3 1 _ rfl
          have cx_3_2 := cells4 Rx_3 2 _ rfl
          have cx_3_3 := cells4 Rx_3 3 _ rfl
          have cy_3_0 := cells4 Ry_3 0 _ rfl
          have cy_3_1 := cells4 Ry_3 1 _ rfl
          have cy_3_2 := cells4 Ry_3 2 _ rfl
          have cy_3_3 := cells4 Ry_3 3 _ rfl
          have cz_3_0 := cells4 Rz_3 0 _ rfl
          have cz_3_1 := cells4 Rz_3 1 _ rfl
          have cz_3_2 := cells4 Rz_3 2 _ rfl
          have cz_3_3 := cells4 Rz_3 3 _ rfl
          go_wp2_with fail
          refine (HF2.out _ (tabB TT.out B3)).mono ?_
          rintro r w4 ⟨rfl, b4⟩
          have B4 : Below w.heap.size w w4 := btr B3 b4
          have Rx_4 : w4.heap[w.heap.size]? = some (Obj.cells #[.bool false, .string s, .string t, .int .i64 e] 24) := heap_of b4 _ _ _ Rx_3
          have Ry_4 : w4.heap[w.heap.size + 1]? = some (Obj.cells #[.bool false, .string p, .string q, .int .i64 g] 24) := heap_of b4 _ _ _ Ry_3
          have Rz_4 : w4.heap[w.heap.size + 1 + 1]? = some (Obj.cells #[.bool false, .string ⟨#[]⟩, .string ⟨#[]⟩, .int .i64 0] 24) := heap_of b4 _ _ _ Rz_3
          clear b4 B3 Rx_3 cx_3_0 cx_3_1 cx_3_2 cx_3_3 Ry_3 cy_3_0 cy_3_1 cy_3_2 cy_3_3 Rz_3 cz_3_0 cz_3_1 cz_3_2 cz_3_3
          have cx_4_0 := cells4 Rx_4 0 _ rfl
          have cx_4_1 := cells4 Rx_4 1 _ rfl
          have cx_4_2 := cells4 Rx_4 2 _ rfl
          have cx_4_3 := cells4 Rx_4 3 _ rfl
          have cy_4_0 := cells4 Ry_4 0 _ rfl
          have cy_4_1 := cells4 Ry_4 1 _ rfl
          have cy_4_2 := cells4 Ry_4 2 _ rfl
          have cy_4_3 := cells4 Ry_4 3 _ rfl
          have cz_4_0 := cells4 Rz_4 0 _ rfl
          have cz_4_1 := cells4 Rz_4 1 _ rfl
          have cz_4_2 := cells4 Rz_4 2 _ rfl
          have cz_4_3 := cells4 Rz_4 3 _ rfl
          have q0 := fz (k := 0) Rz_4
          have q1 := fz (k := 1) Rz_4
          have q2 := fz (k := 2) Rz_4
          have q3 := fz (k := 3) Rz_4
          obtain ⟨E0, E1, E2, E3⟩ := set4_cells Rz_4 rfl (.bool rb) (.string u) (.string v) (.int .i64 re)
          go_wp2
          exact bodyPost_ret (v := .tuple #[.agg #[.bool rb, .string u, .string v, .int .i64 re], .int .i64 err]) (by simp [results, Tryd.results25, go_sem, E0, E1, E2, E3]) rfl ⟨rfl, set4_below B4 (by first | exact Nat.le_refl _ | omega) _ _ _ _⟩
        · skip
          go_wp2_with fail
          obtain ⟨F, hF1, hF2⟩ := below_fun w2
          have fx_0 := fun u => cells4 (heap_of (hF1 u) _ _ _ Rx_2) 0 _ rfl
          have fx_1 := fun u => cells4 (heap_of (hF1 u) _ _ _ Rx_2) 1 _ rfl
          have fx_2 := fun u => cells4 (heap_of (hF1 u) _ _ _ Rx_2) 2 _ rfl
          have fx_3 := fun u => cells4 (heap_of (hF1 u) _ _ _ Rx_2) 3 _ rfl
          have fy_0 := fun u => cells4 (heap_of (hF1 u) _ _ _ Ry_2) 0 _ rfl
          have fy_1 := fun u => cells4 (heap_of (hF1 u) _ _ _ Ry_2) 1 _ rfl
          have fy_2 := fun u => cells4 (heap_of (hF1 u) _ _ _ Ry_2) 2 _ rfl
          have fy_3 := fun u => cells4 (heap_of (hF1 u) _ _ _ Ry_2) 3 _ rfl
          have fz_0 := fun u => cells4 (heap_of (hF1 u) _ _ _ Rz_2) 0 _ rfl
          have fz_1 := fun u => cells4 (heap_of (hF1 u) _ _ _ Rz_2) 1 _ rfl
          have fz_2 := fun u => cells4 (heap_of (hF1 u) _ _ _ Rz_2) 2 _ rfl
          have fz_3 := fun u => cells4 (heap_of (hF1 u) _ _ _ Rz_2) 3 _ rfl
          refine wp_region_below F hF2 (by kernel_rfl) (by kernel_rfl) ?_
          repeat first | go_big_quiet_step (first | (go_at_call 38; exact quietF hF1 hF2 (zerox _)) | fail) | quiet_step (first | (go_at_call 38; exact quietF hF1 hF2 (zerox _)) | fail)
          refine wpQuiet_nil ?_
          rintro _ ⟨uW, rfl⟩
          have B3 := btr B2 (hF1 uW)
          have Rx_3 := heap_of (hF1 uW) _ _ _ Rx_2
          have Ry_3 := heap_of (hF1 uW) _ _ _ Ry_2
          have Rz_3 := heap_of (hF1 uW) _ _ _ Rz_2
          obtain ⟨w3, hw⟩ : ∃ V, F uW = V := ⟨_, rfl⟩
          rw [hw] at B3 Rx_3 Ry_3 Rz_3
          try rw [hw]
          clear hw hF1 hF2 B2 fx_0 fx_1 fx_2 fx_3 fy_0 fy_1 fy_2 fy_3 fz_0 fz_1 fz_2 fz_3 Rx_2 cx_2_0 cx_2_1 cx_2_2 cx_2_3 Ry_2 cy_2_0 cy_2_1 cy_2_2 cy_2_3 Rz_2 cz_2_0 cz_2_1 cz_2_2 cz_2_3
          clear F
          have cx_3_0 := cells4 Rx_3 0 _ rfl
          have cx_3_1 := cells4 Rx_3 1 _ rfl
          have cx_3_2 := cells4 Rx_3 2 _ rfl
          have cx_3_3 := cells4 Rx_3 3 _ rfl
          have cy_3_0 := cells4 Ry_3 0 _ rfl
          have cy_3_1 := cells4 Ry_3 1 _ rfl
          have cy_3_2 := cells4 Ry_3 2 _ rfl
          have cy_3_3 := cells4 Ry_3 3 _ rfl
          have cz_3_0 := cells4 Rz_3 0 _ rfl
          have cz_3_1 := cells4 Rz_3 1 _ rfl
          have cz_3_2 := cells4 Rz_3 2 _ rfl
          have cz_3_3 := cells4 Rz_3 3 _ rfl
          go_wp2_with fail
          refine (HF2.out _ (tabB TT.out B3)).mono ?_
          rintro r w4 ⟨rfl, b4⟩
          have B4 : Below w.heap.size w w4 := btr B3 b4
          have Rx_4 : w4.heap[w.heap.size]? = some (Obj.cells #[.bool true, .string s, .string t, .int .i64 e] 24) := heap_of b4 _ _ _ Rx_3
          have Ry_4 : w4.heap[w.heap.size + 1]? = some (Obj.cells #[.bool false, .string p, .string q, .int .i64 g] 24) := heap_of b4 _ _ _ Ry_3
          have Rz_4 : w4.heap[w.heap.size + 1 + 1]? = some (Obj.cells #[.bool false, .string ⟨#[]⟩, .string ⟨#[]⟩, .int .i64 0] 24) := heap_of b4 _ _ _ Rz_3
          clear b4 B3 Rx_3 cx_3_0 cx_3_1 cx_3_2 cx_3_3 Ry_3 cy_3_0 cy_3_1 cy_3_2 cy_3_3 Rz_3 cz_3_0 cz_3_1 cz_3_2 cz_3_3
          have cx_4_0 := cells4 Rx_4 0 _ rfl
          have cx_4_1 := cells4 Rx_4 1 _ rfl
          have cx_4_2 := cells4 Rx_4 2 _ rfl
          have cx_4_3 := cells4 Rx_4 3 _ rfl
          have cy_4_0 := cells4 Ry_4 0 _ rfl
          have cy_4_1 := cells4 Ry_4 1 _ rfl
          have cy_4_2 := cells4 Ry_4 2 _ rfl
          have cy_4_3 := cells4 Ry_4 3 _ rfl
          have cz_4_0 := cells4 Rz_4 0 _ rfl
          have cz_4_1 := cells4 Rz_4 1 _ rfl
          have cz_4_2 := cells4 Rz_4 2 _ rfl
          have cz_4_3 := cells4 Rz_4 3 _ rfl
          have q0 := fz (k := 0) Rz_4
          have q1 := fz (k := 1) Rz_4
          have q2 := fz (k := 2) Rz_4
          have q3 := fz (k := 3) Rz_4
          obtain ⟨E0, E1, E2, E3⟩ := set4_cells Rz_4 rfl (.bool rb) (.string u) (.string v) (.int .i64 re)
          go_wp2
          exact bodyPost_ret (v := .tuple #[.agg #[.bool rb, .string u, .string v, .int .i64 re], .int .i64 err]) (by simp [results, Tryd.results25, go_sem, E0, E1, E2, E3]) rfl ⟨rfl, set4_below B4 (by first | exact Nat.le_refl _ | omega) _ _ _ _⟩
    · have Rx_0 : (((w.alloc (Obj.cells #[.bool b, .string s, .string t, .int .i64 e] 24)).alloc (Obj.cells #[.bool true, .string p, .string q, .int .i64 g] 24)).alloc (Obj.cells #[.bool false, .string ⟨#[]⟩, .string ⟨#[]⟩, .int .i64 0] 24)).heap[w.heap.size]? = some (Obj.cells #[.bool b, .string s, .string t, .int .i64 e] 24) := by rw [heap_below _ _ _ (by simp only [size_al]; omega), heap_below _ _ _ (by simp only [size_al]; omega)]; have := heap_alloc_last w (Obj.cells #[.bool b, .string s, .string t, .int .i64 e] 24); simpa only [size_al] using this
      have Ry_0 : (((w.alloc (Obj.cells #[.bool b, .string s, .string t, .int .i64 e] 24)).alloc (Obj.cells #[.bool true, .string p, .string q, .int .i64 g] 24)).alloc (Obj.cells #[.bool false, .string ⟨#[]⟩, .string ⟨#[]⟩, .int .i64 0] 24)).heap[w.heap.size + 1]? = some (Obj.cells #[.bool true, .string p, .string q, .int .i64 g] 24) := by rw [heap_below _ _ _ (by simp only [size_al]; omega)]; have := heap_alloc_last (w.alloc (Obj.cells #[.bool b, .string s, .string t, .int .i64 e] 24)) (Obj.cells #[.bool true, .string p, .string q, .int .i64 g] 24); simpa only [size_al] using this
      have Rz_0 : (((w.alloc (Obj.cells #[.bool b, .string s, .string t, .int .i64 e] 24)).alloc (Obj.cells #[.bool true, .string p, .string q, .int .i64 g] 24)).alloc (Obj.cells #[.bool false, .string ⟨#[]⟩, .string ⟨#[]⟩, .int .i64 0] 24)).heap[w.heap.size + 1 + 1]? = some (Obj.cells #[.bool false, .string ⟨#[]⟩, .string ⟨#[]⟩, .int .i64 0] 24) := by have := heap_alloc_last ((w.alloc (Obj.cells #[.bool b, .string s, .string t, .int .i64 e] 24)).alloc (Obj.cells #[.bool true, .string p, .string q, .int .i64 g] 24)) (Obj.cells #[.bool false, .string ⟨#[]⟩, .string ⟨#[]⟩, .int .i64 0] 24); simpa only [size_al] using this
      have B0 : Below w.heap.size w (((w.alloc (Obj.cells #[.bool b, .string s, .string t, .int .i64 e] 24)).alloc (Obj.cells #[.bool true, .string p, .string q, .int .i64 g] 24)).alloc (Obj.cells #[.bool false, .string ⟨#[]⟩, .string ⟨#[]⟩, .int .i64 0] 24)) := ((((Below.refl _ _).alloc (by first | omega | (simp only [size_al]; omega)) _).alloc (by first | omega | (simp only [size_al]; omega)) _).alloc (by first | omega | (simp only [size_al]; omega)) _)
      go_enter Tryd.func25, Tryd.ntmps25
      go_wp2_with fail
      apply cut_same
      · intro key
        go_region_with (first | (go_at_call 51; refine (xmay2d _ _ _ _ _ _ _ _ true true true M1.out M2.out rfl _ (((w.alloc (Obj.cells #[.bool b, .string s, .string t, .int .i64 e] 24)).alloc (Obj.cells #[.bool true, .string p, .string q, .int .i64 g] 24)).alloc (Obj.cells #[.bool false, .string ⟨#[]⟩, .string ⟨#[]⟩, .int .i64 0] 24)) _ (by simp only [size_al]) (tabB TT.out B0)).mono ?_; rintro r w1 ⟨rfl, b1⟩; have B1 : Below w.heap.size w w1 := btr B0 b1; have Rx_1 : w1.heap[w.heap.size]? = some (Obj.cells #[.bool b, .string s, .string t, .int .i64 e] 24) := heap_of b1 _ _ _ Rx_0; have cx_1_0 := cells4 Rx_1 0 _ rfl; have cx_1_1 := cells4 Rx_1 1 _ rfl; have cx_1_2 := cells4 Rx_1 2 _ rfl; have cx_1_3 := cells4 Rx_1 3 _ rfl; have Ry_1 : w1.heap[w.heap.size + 1]? = some (Obj.cells #[.bool true, .string p, .string q, .int .i64 g] 24) := heap_of b1 _ _ _ Ry_0; have cy_1_0 := cells4 Ry_1 0 _ rfl; have cy_1_1 := cells4 Ry_1 1 _ rfl; have cy_1_2 := cells4 Ry_1 2 _ rfl; have cy_1_3 := cells4 Ry_1 3 _ rfl; have Rz_1 : w1.heap[w.heap.size + 1 + 1]? = some (Obj.cells #[.bool false, .string ⟨#[]⟩, .string ⟨#[]⟩, .int .i64 0] 24) := heap_of b1 _ _ _ Rz_0; have cz_1_0 := cells4 Rz_1 0 _ rfl; have cz_1_1 := cells4 Rz_1 1 _ rfl; have cz_1_2 := cells4 Rz_1 2 _ rfl; have cz_1_3 := cells4 Rz_1 3 _ rfl) | (go_at_call 38; refine (zerox _).mono ?_; rintro r w2 ⟨rfl, b2⟩; have B2 : Below w.heap.size w w2 := btr B1 b2; have Rx_2 : w2.heap[w.heap.size]? = some (Obj.cells #[.bool b, .string s, .string t, .int .i64 e] 24) := heap_of b2 _ _ _ Rx_1; have cx_2_0 := cells4 Rx_2 0 _ rfl; have cx_2_1 := cells4 Rx_2 1 _ rfl; have cx_2_2 := cells4 Rx_2 2 _ rfl; have cx_2_3 := cells4 Rx_2 3 _ rfl; have Ry_2 : w2.heap[w.heap.size + 1]? = some (Obj.cells #[.bool true, .string p, .string q, .int .i64 g] 24) := heap_of b2 _ _ _ Ry_1; have cy_2_0 := cells4 Ry_2 0 _ rfl; have cy_2_1 := cells4 Ry_2 1 _ rfl; have cy_2_2 := cells4 Ry_2 2 _ rfl; have cy_2_3 := cells4 Ry_2 3 _ rfl; have Rz_2 : w2.heap[w.heap.size + 1 + 1]? = some (Obj.cells #[.bool false, .string ⟨#[]⟩, .string ⟨#[]⟩, .int .i64 0] 24) := heap_of b2 _ _ _ Rz_1; have cz_2_0 := cells4 Rz_2 0 _ rfl; have cz_2_1 := cells4 Rz_2 1 _ rfl; have cz_2_2 := cells4 Rz_2 2 _ rfl; have cz_2_3 := cells4 Rz_2 3 _ rfl))
        all_goals
          clear cx_2_0 cx_2_1 cx_2_2 cx_2_3 cy_2_0 cy_2_1 cy_2_2 cy_2_3 cz_2_0 cz_2_1 cz_2_2 cz_2_3 b2
          clear cx_1_0 cx_1_1 cx_1_2 cx_1_3 cy_1_0 cy_1_1 cy_1_2 cy_1_3 cz_1_0 cz_1_1 cz_1_2 cz_1_3 Rx_1 Ry_1 Rz_1 b1 B1
          clear w1
          revert w2
          exact key
      intro w2 B2 Rx_2 Ry_2 Rz_2
      clear B0 Rx_0 Ry_0 Rz_0
      have cx_2_0 := cells4 Rx_2 0 _ rfl
      have cx_2_1 := cells4 Rx_2 1 _ rfl
      have cx_2_2 := cells4 Rx_2 2 _ rfl
      have cx_2_3 := cells4 Rx_2 3 _ rfl
      have cy_2_0 := cells4 Ry_2 0 _ rfl
      have cy_2_1 := cells4 Ry_2 1 _ rfl
      have cy_2_2 := cells4 Ry_2 2 _ rfl
      have cy_2_3 := cells4 Ry_2 3 _ rfl
      have cz_2_0 := cells4 Rz_2 0 _ rfl
      have cz_2_1 := cells4 Rz_2 1 _ rfl
      have cz_2_2 := cells4 Rz_2 2 _ rfl
      have cz_2_3 := cells4 Rz_2 3 _ rfl
      have k1 := M1.out.1 rfl
      rw [mayX_iff b n d s t e HS.out HT.out] at k1
      rcases x_cases HS.out HT.out k1 with ⟨n0, rfl, rfl, rfl, rfl, rfl⟩ | ⟨n0, e0⟩
      · skip
        obtain ⟨rfl, rfl, rfl, rfl, rfl⟩ := x0_is (by rw [← HR.out]; unfold quoX; rw [if_neg M0.out, if_pos n0])
        have hu := HU.out
        have hv := HV.out
        rw [nbA_zero] at hu
        rw [nb1] at hv
        subst hu hv
        clear k1 n0 HF
        go_wp2_with fail
        obtain ⟨F, hF1, hF2⟩ := below_fun w2
        have fx_0 := fun u => cells4 (heap_of (hF1 u) _ _ _ Rx_2) 0 _ rfl
        have fx_1 := fun u => cells4 (heap_of (hF1 u) _ _ _ Rx_2) 1 _ rfl
        have fx_2 := fun u => cells4 (heap_of (hF1 u) _ _ _ Rx_2) 2 _ rfl
        have fx_3 := fun u => cells4 (heap_of (hF1 u) _ _ _ Rx_2) 3 _ rfl
        have fy_0 := fun u => cells4 (heap_of (hF1 u) _ _ _ Ry_2) 0 _ rfl
        have fy_1 := fun u => cells4 (heap_of (hF1 u) _ _ _ Ry_2) 1 _ rfl
        have fy_2 := fun u => cells4 (heap_of (hF1 u) _ _ _ Ry_2) 2 _ rfl
        have fy_3 := fun u => cells4 (heap_of (hF1 u) _ _ _ Ry_2) 3 _ rfl
        have fz_0 := fun u => cells4 (heap_of (hF1 u) _ _ _ Rz_2) 0 _ rfl
        have fz_1 := fun u => cells4 (heap_of (hF1 u) _ _ _ Rz_2) 1 _ rfl
        have fz_2 := fun u => cells4 (heap_of (hF1 u) _ _ _ Rz_2) 2 _ rfl
        have fz_3 := fun u => cells4 (heap_of (hF1 u) _ _ _ Rz_2) 3 _ rfl
        refine wp_region_below F hF2 (by kernel_rfl) (by kernel_rfl) ?_
        repeat first | go_big_quiet_step (first | (go_at_call 38; exact quietF hF1 hF2 (zerox _)) | fail) | quiet_step (first | (go_at_call 38; exact quietF hF1 hF2 (zerox _)) | fail)
        refine wpQuiet_nil ?_
        rintro _ ⟨uW, rfl⟩
        have B3 := btr B2 (hF1 uW)
        have Rx_3 := heap_of (hF1 uW) _ _ _ Rx_2
        have Ry_3 := heap_of (hF1 uW) _ _ _ Ry_2
        have Rz_3 := heap_of (hF1 uW) _ _ _ Rz_2
        obtain ⟨w3, hw⟩ : ∃ V, F uW = V := ⟨_, rfl⟩
        rw [hw] at B3 Rx_3 Ry_3 Rz_3
        try rw [hw]
        clear hw hF1 hF2 B2 fx_0 fx_1 fx_2 fx_3 fy_0 fy_1 fy_2 fy_3 fz_0 fz_1 fz_2 fz_3 Rx_2 cx_2_0 cx_2_1 cx_2_2 cx_2_3 Ry_2 cy_2_0 cy_2_1 cy_2_2 cy_2_3 Rz_2 cz_2_0 cz_2_1 cz_2_2 cz_2_3
        clear F
        have cx_3_0 := cells4 Rx_3 0 _ rfl
        have cx_3_1 := cells4 Rx_3 1 _ rfl
        have cx_3_2 := cells4 Rx_3 2 _ rfl
        have cx_3_3 := cells4 Rx_3 3 _ rfl
        have cy_3_0 := cells4 Ry_3 0 _ rfl
        have cy_3_1 := cells4 Ry_3 1 _ rfl
        have cy_3_2 := cells4 Ry_3 2 _ rfl
        have cy_3_3 := cells4 Ry_3 3 _ rfl
        have cz_3_0 := cells4 Rz_3 0 _ rfl
        have cz_3_1 := cells4 Rz_3 1 _ rfl
        have cz_3_2 := cells4 Rz_3 2 _ rfl
        have cz_3_3 := cells4 Rz_3 3 _ rfl
        go_wp2_with fail
        refine (zerox _).mono ?_
        rintro r w4 ⟨rfl, b4⟩
        have B4 : Below w.heap.size w w4 := btr B3 b4
        have Rx_4 : w4.heap[w.heap.size]? = some (Obj.cells #[.bool false, .string ⟨#[]⟩, .string ⟨#[1]⟩, .int .i64 0] 24) := heap_of b4 _ _ _ Rx_3
        have Ry_4 : w4.heap[w.heap.size + 1]? = some (Obj.cells #[.bool true, .string p, .string q, .int .i64 g] 24) := heap_of b4 _ _ _ Ry_3
        have Rz_4 : w4.heap[w.heap.size + 1 + 1]? = some (Obj.cells #[.bool false, .string ⟨#[]⟩, .string ⟨#[]⟩, .int .i64 0] 24) := heap_of b4 _ _ _ Rz_3
        clear b4 B3 Rx_3 cx_3_0 cx_3_1 cx_3_2 cx_3_3 Ry_3 cy_3_0 cy_3_1 cy_3_2 cy_3_3 Rz_3 cz_3_0 cz_3_1 cz_3_2 cz_3_3
        have cx_4_0 := cells4 Rx_4 0 _ rfl
        have cx_4_1 := cells4 Rx_4 1 _ rfl
        have cx_4_2 := cells4 Rx_4 2 _ rfl
        have cx_4_3 := cells4 Rx_4 3 _ rfl
        have cy_4_0 := cells4 Ry_4 0 _ rfl
        have cy_4_1 := cells4 Ry_4 1 _ rfl
        have cy_4_2 := cells4 Ry_4 2 _ rfl
        have cy_4_3 := cells4 Ry_4 3 _ rfl
        have cz_4_0 := cells4 Rz_4 0 _ rfl
        have cz_4_1 := cells4 Rz_4 1 _ rfl
        have cz_4_2 := cells4 Rz_4 2 _ rfl
        have cz_4_3 := cells4 Rz_4 3 _ rfl
        have q0 := fz (k := 0) Rz_4
        have q1 := fz (k := 1) Rz_4
        have q2 := fz (k := 2) Rz_4
        have q3 := fz (k := 3) Rz_4
        obtain ⟨E0, E1, E2, E3⟩ := set4_cells Rz_4 rfl (.bool false) (.string ⟨#[]⟩) (.string ⟨#[1]⟩) (.int .i64 0)
        go_wp2
        exact bodyPost_ret (v := .tuple #[.agg #[.bool false, .string ⟨#[]⟩, .string ⟨#[1]⟩, .int .i64 0], .int .i64 0]) (by simp [results, Tryd.results25, go_sem, E0, E1, E2, E3]) rfl ⟨rfl, set4_below B4 (by first | exact Nat.le_refl _ | omega) _ _ _ _⟩
      · skip
        clear k1
        have HF2 := box (HF.out n0)
        clear HF n0
        cases b
        · skip
          go_wp2_with fail
          obtain ⟨F, hF1, hF2⟩ := below_fun w2
          have fx_0 := fun u => cells4 (heap_of (hF1 u) _ _ _ Rx_2) 0 _ rfl
          have fx_1 := fun u => cells4 (heap_of (hF1 u) _ _ _ Rx_2) 1 _ rfl
          have fx_2 := fun u => cells4 (heap_of (hF1 u) _ _ _ Rx_2) 2 _ rfl
          have fx_3 := fun u => cells4 (heap_of (hF1 u) _ _ _ Rx_2) 3 _ rfl
          have fy_0 := fun u => cells4 (heap_of (hF1 u) _ _ _ Ry_2) 0 _ rfl
          have fy_1 := fun u => cells4 (heap_of (hF1 u) _ _ _ Ry_2) 1 _ rfl
          have fy_2 := fun u => cells4 (heap_of (hF1 u) _ _ _ Ry_2) 2 _ rfl
          have fy_3 := fun u => cells4 (heap_of (hF1 u) _ _ _ Ry_2) 3 _ rfl
          have fz_0 := fun u => cells4 (heap_of (hF1 u) _ _ _ Rz_2) 0 _ rfl
          have fz_1 := fun u => cells4 (heap_of (hF1 u) _ _ _ Rz_2) 1 _ rfl
          have fz_2 := fun u => cells4 (heap_of (hF1 u) _ _ _ Rz_2) 2 _ rfl
          have fz_3 := fun u => cells4 (heap_of (hF1 u) _ _ _ Rz_2) 3 _ rfl
          refine wp_region_below F hF2 (by kernel_rfl) (by kernel_rfl) ?_
          repeat first | go_big_quiet_step (first | (go_at_call 38; exact quietF hF1 hF2 (zerox _)) | fail) | quiet_step (first | (go_at_call 38; exact quietF hF1 hF2 (zerox _)) | fail)
          refine wpQuiet_nil ?_
          rintro _ ⟨uW, rfl⟩
          have B3 := btr B2 (hF1 uW)
          have Rx_3 := heap_of (hF1 uW) _ _ _ Rx_2
          have Ry_3 := heap_of (hF1 uW) _ _ _ Ry_2
          have Rz_3 := heap_of (hF1 uW) _ _ _ Rz_2
          obtain ⟨w3, hw⟩ : ∃ V, F uW = V := ⟨_, rfl⟩
          rw [hw] at B3 Rx_3 Ry_3 Rz_3
          try rw [hw]
          clear hw hF1 hF2 B2 fx_0 fx_1 fx_2 fx_3 fy_0 fy_1 fy_2 fy_3 fz_0 fz_1 fz_2 fz_3 Rx_2 cx_2_0 cx_2_1 cx_2_2 cx_2_3 Ry_2 cy_2_0 cy_2_1 cy_2_2 cy_2_3 Rz_2 cz_2_0 cz_2_1 cz_2_2 cz_2_3
          clear F
          have cx_3_0 := cells4 Rx_3 0 _ rfl
          have cx_3_1 := cells4 Rx_3 1 _ rfl
          have cx_3_2 := cells4 Rx_3 2 _ rfl
          have cx_3_3 := cells4 Rx_3 3 _ rfl
          have cy_3_0 := cells4 Ry_3 0 _ rfl
          have cy_3_1 := cells4 Ry_3 1 _ rfl
          have cy_3_2 := cells4 Ry_3 2 _ rfl
          have cy_3_3 := cells4 Ry_3 3 _ rfl
          have cz_3_0 := cells4 Rz_3 0 _ rfl
          have cz_3_1 := cells4 Rz_3 1 _ rfl
          have cz_3_2 := cells4 Rz_3 2 _ rfl
          have cz_3_3 := cells4 Rz_3 3 _ rfl
          go_wp2_with fail
          refine (HF2.out _ (tabB TT.out B3)).mono ?_
          rintro r w4 ⟨rfl, b4⟩
          have B4 : Below w.heap.size w w4 := btr B3 b4
          have Rx_4 : w4.heap[w.heap.size]? = some (Obj.cells #[.bool false, .string s, .string t, .int .i64 e] 24) := heap_of b4 _ _ _ Rx_3
          have Ry_4 : w4.heap[w.heap.size + 1]? = some (Obj.cells #[.bool true, .string p, .string q, .int .i64 g] 24) := heap_of b4 _ _ _ Ry_3
          have Rz_4 : w4.heap[w.heap.size + 1 + 1]? = some (Obj.cells #[.bool false, .string ⟨#[]⟩, .string ⟨#[]⟩, .int .i64 0] 24) := heap_of b4 _ _ _ Rz_3
          clear b4 B3 Rx_3 cx_3_0 cx_3_1 cx_3_2 cx_3_3 Ry_3 cy_3_0 cy_3_1 cy_3_2 cy_3_3 Rz_3 cz_3_0 cz_3_1 cz_3_2 cz_3_3
          have cx_4_0 := cells4 Rx_4 0 _ rfl
          have cx_4_1 := cells4 Rx_4 1 _ rfl
          have cx_4_2 := cells4 Rx_4 2 _ rfl
          have cx_4_3 := cells4 Rx_4 3 _ rfl
          have cy_4_0 := cells4 Ry_4 0 _ rfl
          have cy_4_1 := cells4 Ry_4 1 _ rfl
          have cy_4_2 := cells4 Ry_4 2 _ rfl
          have cy_4_3 := cells4 Ry_4 3 _ rfl
          have cz_4_0 := cells4 Rz_4 0 _ rfl
          have cz_4_1 := cells4 Rz_4 1 _ rfl
          have cz_4_2 := cells4 Rz_4 2 _ rfl
          have cz_4_3 := cells4 Rz_4 3 _ rfl
          have q0 := fz (k := 0) Rz_4
          have q1 := fz (k := 1) Rz_4
          have q2 := fz (k := 2) Rz_4
          have q3 := fz (k := 3) Rz_4
          obtain ⟨E0, E1, E2, E3⟩ := set4_cells Rz_4 rfl (.bool rb) (.string u) (.string v) (.int .i64 re)
          go_wp2
          exact bodyPost_ret (v := .tuple #[.agg #[.bool rb, .string u, .string v, .int .i64 re], .int .i64 err]) (by simp [results, Tryd.results25, go_sem, E0, E1, E2, E3]) rfl ⟨rfl, set4_below B4 (by first | exact Nat.le_refl _ | omega) _ _ _ _⟩
        · skip
          go_wp2_with fail
          obtain ⟨F, hF1, hF2⟩ := below_fun w2
          have fx_0 := fun u => cells4 (heap_of (hF1 u) _ _ _ Rx_2) 0 _ rfl
          have fx_1 := fun u => cells4 (heap_of (hF1 u) _ _ _ Rx_2) 1 _ rfl
          have fx_2 := fun u => cells4 (heap_of (hF1 u) _ _ _ Rx_2) 2 _ rfl
          have fx_3 := fun u => cells4 (heap_of (hF1 u) _ _ _ Rx_2) 3 _ rfl
          have fy_0 := fun u => cells4 (heap_of (hF1 u) _ _ _ Ry_2) 0 _ rfl
          have fy_1 := fun u => cells4 (heap_of (hF1 u) _ _ _ Ry_2) 1 _ rfl
          have fy_2 := fun u => cells4 (heap_of (hF1 u) _ _ _ Ry_2) 2 _ rfl
          have fy_3 := fun u => cells4 (heap_of (hF1 u) _ _ _ Ry_2) 3 _ rfl
          have fz_0 := fun u => cells4 (heap_of (hF1 u) _ _ _ Rz_2) 0 _ rfl
          have fz_1 := fun u => cells4 (heap_of (hF1 u) _ _ _ Rz_2) 1 _ rfl
          have fz_2 := fun u => cells4 (heap_of (hF1 u) _ _ _ Rz_2) 2 _ rfl
          have fz_3 := fun u => cells4 (heap_of (hF1 u) _ _ _ Rz_2) 3 _ rfl
          refine wp_region_below F hF2 (by kernel_rfl) (by kernel_rfl) ?_
          repeat first | go_big_quiet_step (first | (go_at_call 38; exact quietF hF1 hF2 (zerox _)) | fail) | quiet_step (first | (go_at_call 38; exact quietF hF1 hF2 (zerox _)) | fail)
          refine wpQuiet_nil ?_
          rintro _ ⟨uW, rfl⟩
          have B3 := btr B2 (hF1 uW)
          have Rx_3 := heap_of (hF1 uW) _ _ _ Rx_2
          have Ry_3 := heap_of (hF1 uW) _ _ _ Ry_2
          have Rz_3 := heap_of (hF1 uW) _ _ _ Rz_2
          obtain ⟨w3, hw⟩ : ∃ V, F uW = V := ⟨_, rfl⟩
          rw [hw] at B3 Rx_3 Ry_3 Rz_3
          try rw [hw]
          clear hw hF1 hF2 B2 fx_0 fx_1 fx_2 fx_3 fy_0 fy_1 fy_2 fy_3 fz_0 fz_1 fz_2 fz_3 Rx_2 cx_2_0 cx_2_1 cx_2_2 cx_2_3 Ry_2 cy_2_0 cy_2_1 cy_2_2 cy_2_3 Rz_2 cz_2_0 cz_2_1 cz_2_2 cz_2_3
          clear F
          have cx_3_0 := cells4 Rx_3 0 _ rfl
          have cx_3_1 := cells4 Rx_3 1 _ rfl
          have cx_3_2 := cells4 Rx_3 2 _ rfl
          have cx_3_3 := cells4 Rx_3 3 _ rfl
          have cy_3_0 := cells4 Ry_3 0 _ rfl
          have cy_3_1 := cells4 Ry_3 1 _ rfl
          have cy_3_2 := cells4 Ry_3 2 _ rfl
          have cy_3_3 := cells4 Ry_3 3 _ rfl
          have cz_3_0 := cells4 Rz_3 0 _ rfl
          have cz_3_1 := cells4 Rz_3 1 _ rfl
          have cz_3_2 := cells4 Rz_3 2 _ rfl
          have cz_3_3 := cells4 Rz_3 3 _ rfl
          go_wp2_with fail
          refine (HF2.out _ (tabB TT.out B3)).mono ?_
          rintro r w4 ⟨rfl, b4⟩
          have B4 : Below w.heap.size w w4 := btr B3 b4
          have Rx_4 : w4.heap[w.heap.size]? = some (Obj.cells #[.bool true, .string s, .string t, .int .i64 e] 24) := heap_of b4 _ _ _ Rx_3
          have Ry_4 : w4.heap[w.heap.size + 1]? = some (Obj.cells #[.bool true, .string p, .string q, .int .i64 g] 24) := heap_of b4 _ _ _ Ry_3
          have Rz_4 : w4.heap[w.heap.size + 1 + 1]? = some (Obj.cells #[.bool false, .string ⟨#[]⟩, .string ⟨#[]⟩, .int .i64 0] 24) := heap_of b4 _ _ _ Rz_3
          clear b4 B3 Rx_3 cx_3_0 cx_3_1 cx_3_2 cx_3_3 Ry_3 cy_3_0 cy_3_1 cy_3_2 cy_3_3 Rz_3 cz_3_0 cz_3_1 cz_3_2 cz_3_3
          have cx_4_0 := cells4 Rx_4 0 _ rfl
          have cx_4_1 := cells4 Rx_4 1 _ rfl
          have cx_4_2 := cells4 Rx_4 2 _ rfl
          have cx_4_3 := cells4 Rx_4 3 _ rfl
          have cy_4_0 := cells4 Ry_4 0 _ rfl
          have cy_4_1 := cells4 Ry_4 1 _ rfl
          have cy_4_2 := cells4 Ry_4 2 _ rfl
          have cy_4_3 := cells4 Ry_4 3 _ rfl
          have cz_4_0 := cells4 Rz_4 0 _ rfl
          have cz_4_1 := cells4 Rz_4 1 _ rfl
          have cz_4_2 := cells4 Rz_4 2 _ rfl
          have cz_4_3 := cells4 Rz_4 3 _ rfl
          have q0 := fz (k := 0) Rz_4
          have q1 := fz (k := 1) Rz_4
          have q2 := fz (k := 2) Rz_4
          have q3 := fz (k := 3) Rz_4
          obtain ⟨E0, E1, E2, E3⟩ := set4_cells Rz_4 rfl (.bool rb) (.string u) (.string v) (.int .i64 re)
          go_wp2
          exact bodyPost_ret (v := .tuple #[.agg #[.bool rb, .string u, .string v, .int .i64 re], .int .i64 err]) (by simp [results, Tryd.results25, go_sem, E0, E1, E2, E3]) rfl ⟨rfl, set4_below B4 (by first | exact Nat.le_refl _ | omega) _ _ _ _⟩
end Go.Proofs.YthiongcednmjiaaDoor
