/-
  What the functions Word, Whole, Sign, Neg and Abs of the document's answer for layer 6 return.
-/
import Derived.Test.YthiongcednmjiaaDoorY1
namespace Go.Proofs.YthiongcednmjiaaDoor
open Go.RowKit WMath XMath

set_option maxRecDepth 100000 in
set_option maxHeartbeats 1000000 in
theorem rword (x : Nat) (rb : Bool) (rn rd : Nat) (re : Int) (u v : ByteArray) (hx : x < 18446744073709551616) (hr : XMath.mk false x 1 0 = (⟨rb, rn, rd, re⟩, 0)) (hu : nbA rn = u) (hv : nbA rd = v) (w : World) :
    Calls Tryd.prog 17 #[.int .u64 (x : Nat)] w fun r w' => r = .returned (.agg #[.bool rb, .string u, .string v, .int .i64 re]) ∧ Below w.heap.size w w' := by
  obtain ⟨s, hs⟩ : ∃ s, nbA x = s := ⟨_, rfl⟩
  have lx : nl x ≤ 16384 := Nat.le_trans (nl_le_of x 8 (by omega)) (by decide)
  have HF := box (fun w => rmake_ok false x 1 0 s ⟨#[1]⟩ rb rn rd re 0 u v hs nb1 lx nl1 (by decide) (by decide) (by decide) hr hu hv w)
  have HS := box hs
  clear hs hr hu hv lx
  have Rz_0 : (w.alloc (Obj.cells #[.bool false, .string ⟨#[]⟩, .string ⟨#[]⟩, .int .i64 0] 24)).heap[w.heap.size]? = some (Obj.cells #[.bool false, .string ⟨#[]⟩, .string ⟨#[]⟩, .int .i64 0] 24) := by have := heap_alloc_last w (Obj.cells #[.bool false, .string ⟨#[]⟩, .string ⟨#[]⟩, .int .i64 0] 24); simpa only [size_al] using this
  have B0 : Below w.heap.size w (w.alloc (Obj.cells #[.bool false, .string ⟨#[]⟩, .string ⟨#[]⟩, .int .i64 0] 24)) := ((Below.refl _ _).alloc (by first | omega | (simp only [size_al]; omega)) _)
  go_enter Tryd.func17, Tryd.ntmps17
  go_wp2_with fail
  refine (nat_Of x s hx HS.out _).mono ?_
  rintro r w1 ⟨rfl, b1⟩
  have B1 : Below w.heap.size w w1 := btr B0 b1
  have Rz_1 : w1.heap[w.heap.size]? = some (Obj.cells #[.bool false, .string ⟨#[]⟩, .string ⟨#[]⟩, .int .i64 0] 24) := heap_of b1 _ _ _ Rz_0
  clear b1 B0 Rz_0
  have cz_1_0 := cells4 Rz_1 0 _ rfl
  have cz_1_1 := cells4 Rz_1 1 _ rfl
  have cz_1_2 := cells4 Rz_1 2 _ rfl
  have cz_1_3 := cells4 Rz_1 3 _ rfl
  go_wp2_with fail
  refine (HF.out _).mono ?_
  rintro r w2 ⟨rfl, b2⟩
  have B2 : Below w.heap.size w w2 := btr B1 b2
  have Rz_2 : w2.heap[w.heap.size]? = some (Obj.cells #[.bool false, .string ⟨#[]⟩, .string ⟨#[]⟩, .int .i64 0] 24) := heap_of b2 _ _ _ Rz_1
  clear b2 B1 Rz_1 cz_1_0 cz_1_1 cz_1_2 cz_1_3
  have cz_2_0 := cells4 Rz_2 0 _ rfl
  have cz_2_1 := cells4 Rz_2 1 _ rfl
  have cz_2_2 := cells4 Rz_2 2 _ rfl
  have cz_2_3 := cells4 Rz_2 3 _ rfl
  have S3 := box B2.size
  have Lz_3 : Box (w.heap.size < w2.heap.size) := box (Array.getElem?_eq_some_iff.1 Rz_2).1
  have B3 : Below w.heap.size w (w2.alloc (Obj.cells #[.bool rb, .string u, .string v, .int .i64 re] 24)) := btr B2 (bal _ _)
  have Rz_3 : (w2.alloc (Obj.cells #[.bool rb, .string u, .string v, .int .i64 re] 24)).heap[w.heap.size]? = some (Obj.cells #[.bool false, .string ⟨#[]⟩, .string ⟨#[]⟩, .int .i64 0] 24) := heap_of (bal _ _) _ _ _ Rz_2
  have Ry_3 : (w2.alloc (Obj.cells #[.bool rb, .string u, .string v, .int .i64 re] 24)).heap[w2.heap.size]? = some (Obj.cells #[.bool rb, .string u, .string v, .int .i64 re] 24) := heap_alloc_last _ _
  clear B2 Rz_2 cz_2_0 cz_2_1 cz_2_2 cz_2_3
  have cz_3_0 := cells4 Rz_3 0 _ rfl
  have cz_3_1 := cells4 Rz_3 1 _ rfl
  have cz_3_2 := cells4 Rz_3 2 _ rfl
  have cz_3_3 := cells4 Rz_3 3 _ rfl
  have cy_3_0 := cells4 Ry_3 0 _ rfl
  have cy_3_1 := cells4 Ry_3 1 _ rfl
  have cy_3_2 := cells4 Ry_3 2 _ rfl
  have cy_3_3 := cells4 Ry_3 3 _ rfl
  have q0 := fz (k := 0) Rz_3
  have q1 := fz (k := 1) Rz_3
  have q2 := fz (k := 2) Rz_3
  have q3 := fz (k := 3) Rz_3
  obtain ⟨E0, E1, E2, E3⟩ := set4_cells Rz_3 rfl (.bool rb) (.string u) (.string v) (.int .i64 re)
  go_wp2
  exact bodyPost_ret (v := .agg #[.bool rb, .string u, .string v, .int .i64 re]) (by simp [results, Tryd.results17, go_sem, E0, E1, E2, E3]) rfl ⟨rfl, set4_below B3 (by first | exact Nat.le_refl _ | omega) _ _ _ _⟩
theorem mk_sign (k : Nat) (rb : Bool) (rn rd : Nat) (re : Int) (k0 : k ≠ 0) (hr : XMath.mk true k 1 0 = (⟨rb, rn, rd, re⟩, 0)) : rb = true ∧ XMath.mk false k 1 0 = (⟨false, rn, rd, re⟩, 0) := by
  unfold XMath.mk at hr ⊢
  rw [if_neg k0] at hr ⊢
  split at hr
  · rename_i h
    rw [if_pos h]
    injection hr with h1 h2
    injection h1 with a b c d
    subst a b c d
    exact ⟨rfl, rfl⟩
  · injection hr with h1 h2
    exact absurd h2 (by decide)
set_option maxHeartbeats 1000000 in
theorem rwhole (x : Int) (rb : Bool) (rn rd : Nat) (re : Int) (u v : ByteArray) (h1 : -9223372036854775808 ≤ x) (h2 : x ≤ 9223372036854775807) (hr : XMath.mk (decide (x < 0)) x.natAbs 1 0 = (⟨rb, rn, rd, re⟩, 0)) (hu : nbA rn = u) (hv : nbA rd = v) (w : World) :
    Calls Tryd.prog 15 #[.int .i64 x] w fun r w' => r = .returned (.agg #[.bool rb, .string u, .string v, .int .i64 re]) ∧ Below w.heap.size w w' := by
  obtain ⟨k, hk⟩ : ∃ k, x.natAbs = k := ⟨_, rfl⟩
  have k64 : k < 18446744073709551616 := by omega
  rw [hk] at hr
  by_cases h : x < 0
  · have d0 : decide (x < 0) = true := decide_eq_true h
    rw [d0] at hr
    obtain ⟨rfl, hr2⟩ := mk_sign k rb rn rd re (by omega) hr
    have HF := box (fun w => rword k false rn rd re u v k64 hr2 hu hv w)
    have n0 : IntKind.i64.wrap (x + 1) = x + 1 := wrap_i64_is _ (by omega) (by omega)
    have n1 : IntKind.i64.wrap (-(x + 1)) = -(x + 1) := wrap_i64_is _ (by omega) (by omega)
    have n2 : IntKind.u64.wrap (-(x + 1)) = -(x + 1) := by rw [IntKind.wrap_u64]; omega
    have n3 : IntKind.u64.wrap (-(x + 1) + 1) = (k : Int) := by rw [IntKind.wrap_u64]; omega
    clear hr hr2 hu hv h1 h2 k64
    have Rz_0 : (w.alloc (Obj.cells #[.bool false, .string ⟨#[]⟩, .string ⟨#[]⟩, .int .i64 0] 24)).heap[w.heap.size]? = some (Obj.cells #[.bool false, .string ⟨#[]⟩, .string ⟨#[]⟩, .int .i64 0] 24) := by have := heap_alloc_last w (Obj.cells #[.bool false, .string ⟨#[]⟩, .string ⟨#[]⟩, .int .i64 0] 24); simpa only [size_al] using this
    have B0 : Below w.heap.size w (w.alloc (Obj.cells #[.bool false, .string ⟨#[]⟩, .string ⟨#[]⟩, .int .i64 0] 24)) := ((Below.refl _ _).alloc (by first | omega | (simp only [size_al]; omega)) _)
    go_enter Tryd.func15, Tryd.ntmps15
    go_wp2_with fail
    refine (HF.out _).mono ?_
    rintro r w1 ⟨rfl, b1⟩
    have B1 : Below w.heap.size w w1 := btr B0 b1
    have Rz_1 : w1.heap[w.heap.size]? = some (Obj.cells #[.bool false, .string ⟨#[]⟩, .string ⟨#[]⟩, .int .i64 0] 24) := heap_of b1 _ _ _ Rz_0
    clear b1 B0 Rz_0
    have cz_1_0 := cells4 Rz_1 0 _ rfl
    have cz_1_1 := cells4 Rz_1 1 _ rfl
    have cz_1_2 := cells4 Rz_1 2 _ rfl
    have cz_1_3 := cells4 Rz_1 3 _ rfl
    have S2 := box B1.size
    have Lz_2 : Box (w.heap.size < w1.heap.size) := box (Array.getElem?_eq_some_iff.1 Rz_1).1
    have B2 : Below w.heap.size w (w1.alloc (Obj.cells #[.bool true, .string u, .string v, .int .i64 re] 24)) := btr B1 (bal _ _)
    have Rz_2 : (w1.alloc (Obj.cells #[.bool true, .string u, .string v, .int .i64 re] 24)).heap[w.heap.size]? = some (Obj.cells #[.bool false, .string ⟨#[]⟩, .string ⟨#[]⟩, .int .i64 0] 24) := heap_of (bal _ _) _ _ _ Rz_1
    have Ry_2 : (w1.alloc (Obj.cells #[.bool true, .string u, .string v, .int .i64 re] 24)).heap[w1.heap.size]? = some (Obj.cells #[.bool true, .string u, .string v, .int .i64 re] 24) := heap_alloc_last _ _
    clear B1 Rz_1 cz_1_0 cz_1_1 cz_1_2 cz_1_3
    have cz_2_0 := cells4 Rz_2 0 _ rfl
    have cz_2_1 := cells4 Rz_2 1 _ rfl
    have cz_2_2 := cells4 Rz_2 2 _ rfl
    have cz_2_3 := cells4 Rz_2 3 _ rfl
    have cy_2_0 := cells4 Ry_2 0 _ rfl
    have cy_2_1 := cells4 Ry_2 1 _ rfl
    have cy_2_2 := cells4 Ry_2 2 _ rfl
    have cy_2_3 := cells4 Ry_2 3 _ rfl
    have q0 := fz (k := 0) Rz_2
    have q1 := fz (k := 1) Rz_2
    have q2 := fz (k := 2) Rz_2
    have q3 := fz (k := 3) Rz_2
    obtain ⟨E0, E1, E2, E3⟩ := set4_cells Rz_2 rfl (.bool true) (.string u) (.string v) (.int .i64 re)
    go_wp2
    exact bodyPost_ret (v := .agg #[.bool true, .string u, .string v, .int .i64 re]) (by simp [results, Tryd.results15, go_sem, E0, E1, E2, E3]) rfl ⟨rfl, set4_below B2 (by first | exact Nat.le_refl _ | omega) _ _ _ _⟩
  · have d0 : decide (x < 0) = false := decide_eq_false h
    rw [d0] at hr
    obtain rfl : x = (k : Int) := by omega
    have HF := box (fun w => rword k rb rn rd re u v k64 hr hu hv w)
    have n1 : IntKind.u64.wrap (k : Int) = (k : Int) := by rw [IntKind.wrap_u64]; omega
    clear hr hu hv hk h1 h2 k64
    have Rz_0 : (w.alloc (Obj.cells #[.bool false, .string ⟨#[]⟩, .string ⟨#[]⟩, .int .i64 0] 24)).heap[w.heap.size]? = some (Obj.cells #[.bool false, .string ⟨#[]⟩, .string ⟨#[]⟩, .int .i64 0] 24) := by have := heap_alloc_last w (Obj.cells #[.bool false, .string ⟨#[]⟩, .string ⟨#[]⟩, .int .i64 0] 24); simpa only [size_al] using this
    have B0 : Below w.heap.size w (w.alloc (Obj.cells #[.bool false, .string ⟨#[]⟩, .string ⟨#[]⟩, .int .i64 0] 24)) := ((Below.refl _ _).alloc (by first | omega | (simp only [size_al]; omega)) _)
    go_enter Tryd.func15, Tryd.ntmps15
    go_wp2_with fail
    refine (HF.out _).mono ?_
    rintro r w1 ⟨rfl, b1⟩
    have B1 : Below w.heap.size w w1 := btr B0 b1
    have Rz_1 : w1.heap[w.heap.size]? = some (Obj.cells #[.bool false, .string ⟨#[]⟩, .string ⟨#[]⟩, .int .i64 0] 24) := heap_of b1 _ _ _ Rz_0
    clear b1 B0 Rz_0
    have cz_1_0 := cells4 Rz_1 0 _ rfl
    have cz_1_1 := cells4 Rz_1 1 _ rfl
    have cz_1_2 := cells4 Rz_1 2 _ rfl
    have cz_1_3 := cells4 Rz_1 3 _ rfl
    have q0 := fz (k := 0) Rz_1
    have q1 := fz (k := 1) Rz_1
    have q2 := fz (k := 2) Rz_1
    have q3 := fz (k := 3) Rz_1
    obtain ⟨E0, E1, E2, E3⟩ := set4_cells Rz_1 rfl (.bool rb) (.string u) (.string v) (.int .i64 re)
    go_wp2
    exact bodyPost_ret (v := .agg #[.bool rb, .string u, .string v, .int .i64 re]) (by simp [results, Tryd.results15, go_sem, E0, E1, E2, E3]) rfl ⟨rfl, set4_below B1 (by first | exact Nat.le_refl _ | omega) _ _ _ _⟩

theorem rSign_ok (b : Bool) (n d : Nat) (e : Int) (s t : ByteArray) (c : Int) (hs : nbA n = s) (ht : nbA d = t) (hc : (XN.mk b n d e).can) (hr : sg (XN.mk b n d e) = c) (w : World) : Calls Tryd.prog 19 #[.agg #[.bool b, .string s, .string t, .int .i64 e]] w fun r w' => r = .returned (.int .i64 c) ∧ Below w.heap.size w w' := by
  have M1 := box (may_yes hs ht hc)
  rcases x_cases hs ht hc with ⟨n0, rfl, rfl, rfl, rfl, rfl⟩ | ⟨n0, e0⟩
  · have ec : c = 0 := by rw [← hr]; unfold sg; rw [if_pos n0]
    subst ec
    clear hs ht hc hr n0
    have Rx_0 : (w.alloc (Obj.cells #[.bool false, .string ⟨#[]⟩, .string ⟨#[1]⟩, .int .i64 0] 24)).heap[w.heap.size]? = some (Obj.cells #[.bool false, .string ⟨#[]⟩, .string ⟨#[1]⟩, .int .i64 0] 24) := by have := heap_alloc_last w (Obj.cells #[.bool false, .string ⟨#[]⟩, .string ⟨#[1]⟩, .int .i64 0] 24); simpa only [size_al] using this
    have B0 : Below w.heap.size w (w.alloc (Obj.cells #[.bool false, .string ⟨#[]⟩, .string ⟨#[1]⟩, .int .i64 0] 24)) := ((Below.refl _ _).alloc (by first | omega | (simp only [size_al]; omega)) _)
    go_enter Tryd.func19, Tryd.ntmps19
    go_wp2_with fail
    refine (xmayM _ _ _ _ true M1.out _).mono ?_
    rintro r w1 ⟨rfl, b1⟩
    have B1 : Below w.heap.size w w1 := btr B0 b1
    have Rx_1 : w1.heap[w.heap.size]? = some (Obj.cells #[.bool false, .string ⟨#[]⟩, .string ⟨#[1]⟩, .int .i64 0] 24) := heap_of b1 _ _ _ Rx_0
    clear b1 B0 Rx_0
    have cx_1_0 := cells4 Rx_1 0 _ rfl
    have cx_1_1 := cells4 Rx_1 1 _ rfl
    have cx_1_2 := cells4 Rx_1 2 _ rfl
    have cx_1_3 := cells4 Rx_1 3 _ rfl
    go_wp2
    go_ret
    exact ⟨rfl, B1⟩
  · cases b
    · have ec : c = 1 := by rw [← hr]; unfold sg; rw [if_neg n0]; rfl
      subst ec
      clear hs ht hc hr n0
      have Rx_0 : (w.alloc (Obj.cells #[.bool false, .string s, .string t, .int .i64 e] 24)).heap[w.heap.size]? = some (Obj.cells #[.bool false, .string s, .string t, .int .i64 e] 24) := by have := heap_alloc_last w (Obj.cells #[.bool false, .string s, .string t, .int .i64 e] 24); simpa only [size_al] using this
      have B0 : Below w.heap.size w (w.alloc (Obj.cells #[.bool false, .string s, .string t, .int .i64 e] 24)) := ((Below.refl _ _).alloc (by first | omega | (simp only [size_al]; omega)) _)
      go_enter Tryd.func19, Tryd.ntmps19
      go_wp2_with fail
      refine (xmayM _ _ _ _ true M1.out _).mono ?_
      rintro r w1 ⟨rfl, b1⟩
      have B1 : Below w.heap.size w w1 := btr B0 b1
      have Rx_1 : w1.heap[w.heap.size]? = some (Obj.cells #[.bool false, .string s, .string t, .int .i64 e] 24) := heap_of b1 _ _ _ Rx_0
      clear b1 B0 Rx_0
      have cx_1_0 := cells4 Rx_1 0 _ rfl
      have cx_1_1 := cells4 Rx_1 1 _ rfl
      have cx_1_2 := cells4 Rx_1 2 _ rfl
      have cx_1_3 := cells4 Rx_1 3 _ rfl
      go_wp2
      go_ret
      exact ⟨rfl, B1⟩
    · have ec : c = -1 := by rw [← hr]; unfold sg; rw [if_neg n0]; rfl
      subst ec
      clear hs ht hc hr n0
      have Rx_0 : (w.alloc (Obj.cells #[.bool true, .string s, .string t, .int .i64 e] 24)).heap[w.heap.size]? = some (Obj.cells #[.bool true, .string s, .string t, .int .i64 e] 24) := by have := heap_alloc_last w (Obj.cells #[.bool true, .string s, .string t, .int .i64 e] 24); simpa only [size_al] using this
      have B0 : Below w.heap.size w (w.alloc (Obj.cells #[.bool true, .string s, .string t, .int .i64 e] 24)) := ((Below.refl _ _).alloc (by first | omega | (simp only [size_al]; omega)) _)
      go_enter Tryd.func19, Tryd.ntmps19
      go_wp2_with fail
      refine (xmayM _ _ _ _ true M1.out _).mono ?_
      rintro r w1 ⟨rfl, b1⟩
      have B1 : Below w.heap.size w w1 := btr B0 b1
      have Rx_1 : w1.heap[w.heap.size]? = some (Obj.cells #[.bool true, .string s, .string t, .int .i64 e] 24) := heap_of b1 _ _ _ Rx_0
      clear b1 B0 Rx_0
      have cx_1_0 := cells4 Rx_1 0 _ rfl
      have cx_1_1 := cells4 Rx_1 1 _ rfl
      have cx_1_2 := cells4 Rx_1 2 _ rfl
      have cx_1_3 := cells4 Rx_1 3 _ rfl
      go_wp2
      go_ret
      exact ⟨rfl, B1⟩
theorem rSign_no (b : Bool) (e : Int) (s t : ByteArray) (h : ¬ MayX b s t e) (w : World) : Calls Tryd.prog 19 #[.agg #[.bool b, .string s, .string t, .int .i64 e]] w fun r w' => r = .returned (.int .i64 0) ∧ Below w.heap.size w w' := by
  have M1 := box (may_no h)
  clear h
  have Rx_0 : (w.alloc (Obj.cells #[.bool b, .string s, .string t, .int .i64 e] 24)).heap[w.heap.size]? = some (Obj.cells #[.bool b, .string s, .string t, .int .i64 e] 24) := by have := heap_alloc_last w (Obj.cells #[.bool b, .string s, .string t, .int .i64 e] 24); simpa only [size_al] using this
  have B0 : Below w.heap.size w (w.alloc (Obj.cells #[.bool b, .string s, .string t, .int .i64 e] 24)) := ((Below.refl _ _).alloc (by first | omega | (simp only [size_al]; omega)) _)
  go_enter Tryd.func19, Tryd.ntmps19
  go_wp2_with fail
  refine (xmayM _ _ _ _ false M1.out _).mono ?_
  rintro r w1 ⟨rfl, b1⟩
  have B1 : Below w.heap.size w w1 := btr B0 b1
  have Rx_1 : w1.heap[w.heap.size]? = some (Obj.cells #[.bool b, .string s, .string t, .int .i64 e] 24) := heap_of b1 _ _ _ Rx_0
  clear b1 B0 Rx_0
  have cx_1_0 := cells4 Rx_1 0 _ rfl
  have cx_1_1 := cells4 Rx_1 1 _ rfl
  have cx_1_2 := cells4 Rx_1 2 _ rfl
  have cx_1_3 := cells4 Rx_1 3 _ rfl
  go_wp2
  go_ret
  exact ⟨rfl, B1⟩
theorem rNeg_ok (b : Bool) (n d : Nat) (e : Int) (s t : ByteArray) (c : Bool) (hs : nbA n = s) (ht : nbA d = t) (hc : (XN.mk b n d e).can) (hr : (negX (XN.mk b n d e)).b = c) (w : World) : Calls Tryd.prog 21 #[.agg #[.bool b, .string s, .string t, .int .i64 e]] w fun r w' => r = .returned (.agg #[.bool c, .string s, .string t, .int .i64 e]) ∧ Below w.heap.size w w' := by
  have M1 := box (may_yes hs ht hc)
  rcases x_cases hs ht hc with ⟨n0, rfl, rfl, rfl, rfl, rfl⟩ | ⟨n0, e0⟩
  · have ec : c = false := by rw [← hr]; unfold negX; rw [if_pos n0]
    subst ec
    clear hs ht hc hr n0
    have Rx_0 : ((w.alloc (Obj.cells #[.bool false, .string ⟨#[]⟩, .string ⟨#[1]⟩, .int .i64 0] 24)).alloc (Obj.cells #[.bool false, .string ⟨#[]⟩, .string ⟨#[]⟩, .int .i64 0] 24)).heap[w.heap.size]? = some (Obj.cells #[.bool false, .string ⟨#[]⟩, .string ⟨#[1]⟩, .int .i64 0] 24) := by rw [heap_below _ _ _ (by simp only [size_al]; omega)]; have := heap_alloc_last w (Obj.cells #[.bool false, .string ⟨#[]⟩, .string ⟨#[1]⟩, .int .i64 0] 24); simpa only [size_al] using this
    have Rz_0 : ((w.alloc (Obj.cells #[.bool false, .string ⟨#[]⟩, .string ⟨#[1]⟩, .int .i64 0] 24)).alloc (Obj.cells #[.bool false, .string ⟨#[]⟩, .string ⟨#[]⟩, .int .i64 0] 24)).heap[w.heap.size + 1]? = some (Obj.cells #[.bool false, .string ⟨#[]⟩, .string ⟨#[]⟩, .int .i64 0] 24) := by have := heap_alloc_last (w.alloc (Obj.cells #[.bool false, .string ⟨#[]⟩, .string ⟨#[1]⟩, .int .i64 0] 24)) (Obj.cells #[.bool false, .string ⟨#[]⟩, .string ⟨#[]⟩, .int .i64 0] 24); simpa only [size_al] using this
    have B0 : Below w.heap.size w ((w.alloc (Obj.cells #[.bool false, .string ⟨#[]⟩, .string ⟨#[1]⟩, .int .i64 0] 24)).alloc (Obj.cells #[.bool false, .string ⟨#[]⟩, .string ⟨#[]⟩, .int .i64 0] 24)) := (((Below.refl _ _).alloc (by first | omega | (simp only [size_al]; omega)) _).alloc (by first | omega | (simp only [size_al]; omega)) _)
    go_enter Tryd.func21, Tryd.ntmps21
    go_wp2_with fail
    refine (xmayM _ _ _ _ true M1.out _).mono ?_
    rintro r w1 ⟨rfl, b1⟩
    have B1 : Below w.heap.size w w1 := btr B0 b1
    have Rx_1 : w1.heap[w.heap.size]? = some (Obj.cells #[.bool false, .string ⟨#[]⟩, .string ⟨#[1]⟩, .int .i64 0] 24) := heap_of b1 _ _ _ Rx_0
    have Rz_1 : w1.heap[w.heap.size + 1]? = some (Obj.cells #[.bool false, .string ⟨#[]⟩, .string ⟨#[]⟩, .int .i64 0] 24) := heap_of b1 _ _ _ Rz_0
    clear b1 B0 Rx_0 Rz_0
    have cx_1_0 := cells4 Rx_1 0 _ rfl
    have cx_1_1 := cells4 Rx_1 1 _ rfl
    have cx_1_2 := cells4 Rx_1 2 _ rfl
    have cx_1_3 := cells4 Rx_1 3 _ rfl
    have cz_1_0 := cells4 Rz_1 0 _ rfl
    have cz_1_1 := cells4 Rz_1 1 _ rfl
    have cz_1_2 := cells4 Rz_1 2 _ rfl
    have cz_1_3 := cells4 Rz_1 3 _ rfl
    have q0 := fz (k := 0) Rz_1
    have q1 := fz (k := 1) Rz_1
    have q2 := fz (k := 2) Rz_1
    have q3 := fz (k := 3) Rz_1
    obtain ⟨E0, E1, E2, E3⟩ := set4_cells Rz_1 rfl (.bool false) (.string ⟨#[]⟩) (.string ⟨#[1]⟩) (.int .i64 0)
    go_wp2
    exact bodyPost_ret (v := .agg #[.bool false, .string ⟨#[]⟩, .string ⟨#[1]⟩, .int .i64 0]) (by simp [results, Tryd.results21, go_sem, E0, E1, E2, E3]) rfl ⟨rfl, set4_below B1 (by first | exact Nat.le_refl _ | omega) _ _ _ _⟩
  · have ec : c = !b := by rw [← hr]; unfold negX; rw [if_neg n0]
    clear hs ht hc hr n0
    cases b
    · subst ec
      have Rx_0 : ((w.alloc (Obj.cells #[.bool false, .string s, .string t, .int .i64 e] 24)).alloc (Obj.cells #[.bool false, .string ⟨#[]⟩, .string ⟨#[]⟩, .int .i64 0] 24)).heap[w.heap.size]? = some (Obj.cells #[.bool false, .string s, .string t, .int .i64 e] 24) := by rw [heap_below _ _ _ (by simp only [size_al]; omega)]; have := heap_alloc_last w (Obj.cells #[.bool false, .string s, .string t, .int .i64 e] 24); simpa only [size_al] using this
      have Rz_0 : ((w.alloc (Obj.cells #[.bool false, .string s, .string t, .int .i64 e] 24)).alloc (Obj.cells #[.bool false, .string ⟨#[]⟩, .string ⟨#[]⟩, .int .i64 0] 24)).heap[w.heap.size + 1]? = some (Obj.cells #[.bool false, .string ⟨#[]⟩, .string ⟨#[]⟩, .int .i64 0] 24) := by have := heap_alloc_last (w.alloc (Obj.cells #[.bool false, .string s, .string t, .int .i64 e] 24)) (Obj.cells #[.bool false, .string ⟨#[]⟩, .string ⟨#[]⟩, .int .i64 0] 24); simpa only [size_al] using this
      have B0 : Below w.heap.size w ((w.alloc (Obj.cells #[.bool false, .string s, .string t, .int .i64 e] 24)).alloc (Obj.cells #[.bool false, .string ⟨#[]⟩, .string ⟨#[]⟩, .int .i64 0] 24)) := (((Below.refl _ _).alloc (by first | omega | (simp only [size_al]; omega)) _).alloc (by first | omega | (simp only [size_al]; omega)) _)
      go_enter Tryd.func21, Tryd.ntmps21
      go_wp2_with fail
      refine (xmayM _ _ _ _ true M1.out _).mono ?_
      rintro r w1 ⟨rfl, b1⟩
      have B1 : Below w.heap.size w w1 := btr B0 b1
      have Rx_1 : w1.heap[w.heap.size]? = some (Obj.cells #[.bool false, .string s, .string t, .int .i64 e] 24) := heap_of b1 _ _ _ Rx_0
      have Rz_1 : w1.heap[w.heap.size + 1]? = some (Obj.cells #[.bool false, .string ⟨#[]⟩, .string ⟨#[]⟩, .int .i64 0] 24) := heap_of b1 _ _ _ Rz_0
      clear b1 B0 Rx_0 Rz_0
      have cx_1_0 := cells4 Rx_1 0 _ rfl
      have cx_1_1 := cells4 Rx_1 1 _ rfl
      have cx_1_2 := cells4 Rx_1 2 _ rfl
      have cx_1_3 := cells4 Rx_1 3 _ rfl
      have cz_1_0 := cells4 Rz_1 0 _ rfl
      have cz_1_1 := cells4 Rz_1 1 _ rfl
      have cz_1_2 := cells4 Rz_1 2 _ rfl
      have cz_1_3 := cells4 Rz_1 3 _ rfl
      have qx_1 := fz (k := 0) Rx_1
      have B2 : Below w.heap.size w (w1.setCell ⟨w.heap.size, 0, none⟩ (.bool true)) := B1.setCell (by first | exact Nat.le_refl _ | (skip; show w.heap.size ≤ w.heap.size; omega)) _
      have Rx_2 : (w1.setCell ⟨w.heap.size, 0, none⟩ (.bool true)).heap[w.heap.size]? = some (Obj.cells #[.bool true, .string s, .string t, .int .i64 e] 24) := by rw [setCell_row Rx_1]; rfl
      have Rz_2 : (w1.setCell ⟨w.heap.size, 0, none⟩ (.bool true)).heap[w.heap.size + 1]? = some (Obj.cells #[.bool false, .string ⟨#[]⟩, .string ⟨#[]⟩, .int .i64 0] 24) := by rw [setCell_other (by first | omega | (skip; omega))]; exact Rz_1
      have cx_2_0 := cells4 Rx_2 0 _ rfl
      have cx_2_1 := cells4 Rx_2 1 _ rfl
      have cx_2_2 := cells4 Rx_2 2 _ rfl
      have cx_2_3 := cells4 Rx_2 3 _ rfl
      have cz_2_0 := cells4 Rz_2 0 _ rfl
      have cz_2_1 := cells4 Rz_2 1 _ rfl
      have cz_2_2 := cells4 Rz_2 2 _ rfl
      have cz_2_3 := cells4 Rz_2 3 _ rfl
      have q0 := fz (k := 0) Rz_2
      have q1 := fz (k := 1) Rz_2
      have q2 := fz (k := 2) Rz_2
      have q3 := fz (k := 3) Rz_2
      obtain ⟨E0, E1, E2, E3⟩ := set4_cells Rz_2 rfl (.bool true) (.string s) (.string t) (.int .i64 e)
      go_wp2
      exact bodyPost_ret (v := .agg #[.bool true, .string s, .string t, .int .i64 e]) (by simp [results, Tryd.results21, go_sem, E0, E1, E2, E3]) rfl ⟨rfl, set4_below B2 (by first | exact Nat.le_refl _ | omega) _ _ _ _⟩
    · subst ec
      have Rx_0 : ((w.alloc (Obj.cells #[.bool true, .string s, .string t, .int .i64 e] 24)).alloc (Obj.cells #[.bool false, .string ⟨#[]⟩, .string ⟨#[]⟩, .int .i64 0] 24)).heap[w.heap.size]? = some (Obj.cells #[.bool true, .string s, .string t, .int .i64 e] 24) := by rw [heap_below _ _ _ (by simp only [size_al]; omega)]; have := heap_alloc_last w (Obj.cells #[.bool true, .string s, .string t, .int .i64 e] 24); simpa only [size_al] using this
      have Rz_0 : ((w.alloc (Obj.cells #[.bool true, .string s, .string t, .int .i64 e] 24)).alloc (Obj.cells #[.bool false, .string ⟨#[]⟩, .string ⟨#[]⟩, .int .i64 0] 24)).heap[w.heap.size + 1]? = some (Obj.cells #[.bool false, .string ⟨#[]⟩, .string ⟨#[]⟩, .int .i64 0] 24) := by have := heap_alloc_last (w.alloc (Obj.cells #[.bool true, .string s, .string t, .int .i64 e] 24)) (Obj.cells #[.bool false, .string ⟨#[]⟩, .string ⟨#[]⟩, .int .i64 0] 24); simpa only [size_al] using this
      have B0 : Below w.heap.size w ((w.alloc (Obj.cells #[.bool true, .string s, .string t, .int .i64 e] 24)).alloc (Obj.cells #[.bool false, .string ⟨#[]⟩, .string ⟨#[]⟩, .int .i64 0] 24)) := (((Below.refl _ _).alloc (by first | omega | (simp only [size_al]; omega)) _).alloc (by first | omega | (simp only [size_al]; omega)) _)
      go_enter Tryd.func21, Tryd.ntmps21
      go_wp2_with fail
      refine (xmayM _ _ _ _ true M1.out _).mono ?_
      rintro r w1 ⟨rfl, b1⟩
      have B1 : Below w.heap.size w w1 := btr B0 b1
      have Rx_1 : w1.heap[w.heap.size]? = some (Obj.cells #[.bool true, .string s, .string t, .int .i64 e] 24) := heap_of b1 _ _ _ Rx_0
      have Rz_1 : w1.heap[w.heap.size + 1]? = some (Obj.cells #[.bool false, .string ⟨#[]⟩, .string ⟨#[]⟩, .int .i64 0] 24) := heap_of b1 _ _ _ Rz_0
      clear b1 B0 Rx_0 Rz_0
      have cx_1_0 := cells4 Rx_1 0 _ rfl
      have cx_1_1 := cells4 Rx_1 1 _ rfl
      have cx_1_2 := cells4 Rx_1 2 _ rfl
      have cx_1_3 := cells4 Rx_1 3 _ rfl
      have cz_1_0 := cells4 Rz_1 0 _ rfl
      have cz_1_1 := cells4 Rz_1 1 _ rfl
      have cz_1_2 := cells4 Rz_1 2 _ rfl
      have cz_1_3 := cells4 Rz_1 3 _ rfl
      have qx_1 := fz (k := 0) Rx_1
      have B2 : Below w.heap.size w (w1.setCell ⟨w.heap.size, 0, none⟩ (.bool false)) := B1.setCell (by first | exact Nat.le_refl _ | (skip; show w.heap.size ≤ w.heap.size; omega)) _
      have Rx_2 : (w1.setCell ⟨w.heap.size, 0, none⟩ (.bool false)).heap[w.heap.size]? = some (Obj.cells #[.bool false, .string s, .string t, .int .i64 e] 24) := by rw [setCell_row Rx_1]; rfl
      have Rz_2 : (w1.setCell ⟨w.heap.size, 0, none⟩ (.bool false)).heap[w.heap.size + 1]? = some (Obj.cells #[.bool false, .string ⟨#[]⟩, .string ⟨#[]⟩, .int .i64 0] 24) := by rw [setCell_other (by first | omega | (skip; omega))]; exact Rz_1
      have cx_2_0 := cells4 Rx_2 0 _ rfl
      have cx_2_1 := cells4 Rx_2 1 _ rfl
      have cx_2_2 := cells4 Rx_2 2 _ rfl
      have cx_2_3 := cells4 Rx_2 3 _ rfl
      have cz_2_0 := cells4 Rz_2 0 _ rfl
      have cz_2_1 := cells4 Rz_2 1 _ rfl
      have cz_2_2 := cells4 Rz_2 2 _ rfl
      have cz_2_3 := cells4 Rz_2 3 _ rfl
      have q0 := fz (k := 0) Rz_2
      have q1 := fz (k := 1) Rz_2
      have q2 := fz (k := 2) Rz_2
      have q3 := fz (k := 3) Rz_2
      obtain ⟨E0, E1, E2, E3⟩ := set4_cells Rz_2 rfl (.bool false) (.string s) (.string t) (.int .i64 e)
      go_wp2
      exact bodyPost_ret (v := .agg #[.bool false, .string s, .string t, .int .i64 e]) (by simp [results, Tryd.results21, go_sem, E0, E1, E2, E3]) rfl ⟨rfl, set4_below B2 (by first | exact Nat.le_refl _ | omega) _ _ _ _⟩
theorem rNeg_no (b : Bool) (e : Int) (s t : ByteArray) (h : ¬ MayX b s t e) (w : World) : Calls Tryd.prog 21 #[.agg #[.bool b, .string s, .string t, .int .i64 e]] w fun r w' => r = .returned (.agg #[.bool false, .string ⟨#[]⟩, .string ⟨#[]⟩, .int .i64 0]) ∧ Below w.heap.size w w' := by
  have M1 := box (may_no h)
  clear h
  have Rx_0 : ((w.alloc (Obj.cells #[.bool b, .string s, .string t, .int .i64 e] 24)).alloc (Obj.cells #[.bool false, .string ⟨#[]⟩, .string ⟨#[]⟩, .int .i64 0] 24)).heap[w.heap.size]? = some (Obj.cells #[.bool b, .string s, .string t, .int .i64 e] 24) := by rw [heap_below _ _ _ (by simp only [size_al]; omega)]; have := heap_alloc_last w (Obj.cells #[.bool b, .string s, .string t, .int .i64 e] 24); simpa only [size_al] using this
  have Rz_0 : ((w.alloc (Obj.cells #[.bool b, .string s, .string t, .int .i64 e] 24)).alloc (Obj.cells #[.bool false, .string ⟨#[]⟩, .string ⟨#[]⟩, .int .i64 0] 24)).heap[w.heap.size + 1]? = some (Obj.cells #[.bool false, .string ⟨#[]⟩, .string ⟨#[]⟩, .int .i64 0] 24) := by have := heap_alloc_last (w.alloc (Obj.cells #[.bool b, .string s, .string t, .int .i64 e] 24)) (Obj.cells #[.bool false, .string ⟨#[]⟩, .string ⟨#[]⟩, .int .i64 0] 24); simpa only [size_al] using this
  have B0 : Below w.heap.size w ((w.alloc (Obj.cells #[.bool b, .string s, .string t, .int .i64 e] 24)).alloc (Obj.cells #[.bool false, .string ⟨#[]⟩, .string ⟨#[]⟩, .int .i64 0] 24)) := (((Below.refl _ _).alloc (by first | omega | (simp only [size_al]; omega)) _).alloc (by first | omega | (simp only [size_al]; omega)) _)
  go_enter Tryd.func21, Tryd.ntmps21
  go_wp2_with fail
  refine (xmayM _ _ _ _ false M1.out _).mono ?_
  rintro r w1 ⟨rfl, b1⟩
  have B1 : Below w.heap.size w w1 := btr B0 b1
  have Rx_1 : w1.heap[w.heap.size]? = some (Obj.cells #[.bool b, .string s, .string t, .int .i64 e] 24) := heap_of b1 _ _ _ Rx_0
  have Rz_1 : w1.heap[w.heap.size + 1]? = some (Obj.cells #[.bool false, .string ⟨#[]⟩, .string ⟨#[]⟩, .int .i64 0] 24) := heap_of b1 _ _ _ Rz_0
  clear b1 B0 Rx_0 Rz_0
  have cx_1_0 := cells4 Rx_1 0 _ rfl
  have cx_1_1 := cells4 Rx_1 1 _ rfl
  have cx_1_2 := cells4 Rx_1 2 _ rfl
  have cx_1_3 := cells4 Rx_1 3 _ rfl
  have cz_1_0 := cells4 Rz_1 0 _ rfl
  have cz_1_1 := cells4 Rz_1 1 _ rfl
  have cz_1_2 := cells4 Rz_1 2 _ rfl
  have cz_1_3 := cells4 Rz_1 3 _ rfl
  have q0 := fz (k := 0) Rz_1
  have q1 := fz (k := 1) Rz_1
  have q2 := fz (k := 2) Rz_1
  have q3 := fz (k := 3) Rz_1
  obtain ⟨E0, E1, E2, E3⟩ := set4_cells Rz_1 rfl (.bool false) (.string ⟨#[]⟩) (.string ⟨#[]⟩) (.int .i64 0)
  go_wp2
  exact bodyPost_ret (v := .agg #[.bool false, .string ⟨#[]⟩, .string ⟨#[]⟩, .int .i64 0]) (by simp [results, Tryd.results21, go_sem, E0, E1, E2, E3]) rfl ⟨rfl, set4_below B1 (by first | exact Nat.le_refl _ | omega) _ _ _ _⟩
theorem rAbs_ok (b : Bool) (n d : Nat) (e : Int) (s t : ByteArray) (hs : nbA n = s) (ht : nbA d = t) (hc : (XN.mk b n d e).can) (w : World) : Calls Tryd.prog 23 #[.agg #[.bool b, .string s, .string t, .int .i64 e]] w fun r w' => r = .returned (.agg #[.bool false, .string s, .string t, .int .i64 e]) ∧ Below w.heap.size w w' := by
  have M1 := box (may_yes hs ht hc)
  clear hs ht hc
  have Rx_0 : ((w.alloc (Obj.cells #[.bool b, .string s, .string t, .int .i64 e] 24)).alloc (Obj.cells #[.bool false, .string ⟨#[]⟩, .string ⟨#[]⟩, .int .i64 0] 24)).heap[w.heap.size]? = some (Obj.cells #[.bool b, .string s, .string t, .int .i64 e] 24) := by rw [heap_below _ _ _ (by simp only [size_al]; omega)]; have := heap_alloc_last w (Obj.cells #[.bool b, .string s, .string t, .int .i64 e] 24); simpa only [size_al] using this
  have Rz_0 : ((w.alloc (Obj.cells #[.bool b, .string s, .string t, .int .i64 e] 24)).alloc (Obj.cells #[.bool false, .string ⟨#[]⟩, .string ⟨#[]⟩, .int .i64 0] 24)).heap[w.heap.size + 1]? = some (Obj.cells #[.bool false, .string ⟨#[]⟩, .string ⟨#[]⟩, .int .i64 0] 24) := by have := heap_alloc_last (w.alloc (Obj.cells #[.bool b, .string s, .string t, .int .i64 e] 24)) (Obj.cells #[.bool false, .string ⟨#[]⟩, .string ⟨#[]⟩, .int .i64 0] 24); simpa only [size_al] using this
  have B0 : Below w.heap.size w ((w.alloc (Obj.cells #[.bool b, .string s, .string t, .int .i64 e] 24)).alloc (Obj.cells #[.bool false, .string ⟨#[]⟩, .string ⟨#[]⟩, .int .i64 0] 24)) := (((Below.refl _ _).alloc (by first | omega | (simp only [size_al]; omega)) _).alloc (by first | omega | (simp only [size_al]; omega)) _)
  go_enter Tryd.func23, Tryd.ntmps23
  go_wp2_with fail
  refine (xmayM _ _ _ _ true M1.out _).mono ?_
  rintro r w1 ⟨rfl, b1⟩
  have B1 : Below w.heap.size w w1 := btr B0 b1
  have Rx_1 : w1.heap[w.heap.size]? = some (Obj.cells #[.bool b, .string s, .string t, .int .i64 e] 24) := heap_of b1 _ _ _ Rx_0
  have Rz_1 : w1.heap[w.heap.size + 1]? = some (Obj.cells #[.bool false, .string ⟨#[]⟩, .string ⟨#[]⟩, .int .i64 0] 24) := heap_of b1 _ _ _ Rz_0
  clear b1 B0 Rx_0 Rz_0
  have cx_1_0 := cells4 Rx_1 0 _ rfl
  have cx_1_1 := cells4 Rx_1 1 _ rfl
  have cx_1_2 := cells4 Rx_1 2 _ rfl
  have cx_1_3 := cells4 Rx_1 3 _ rfl
  have cz_1_0 := cells4 Rz_1 0 _ rfl
  have cz_1_1 := cells4 Rz_1 1 _ rfl
  have cz_1_2 := cells4 Rz_1 2 _ rfl
  have cz_1_3 := cells4 Rz_1 3 _ rfl
  have qx_1 := fz (k := 0) Rx_1
  have B2 : Below w.heap.size w (w1.setCell ⟨w.heap.size, 0, none⟩ (.bool false)) := B1.setCell (by first | exact Nat.le_refl _ | (skip; show w.heap.size ≤ w.heap.size; omega)) _
  have Rx_2 : (w1.setCell ⟨w.heap.size, 0, none⟩ (.bool false)).heap[w.heap.size]? = some (Obj.cells #[.bool false, .string s, .string t, .int .i64 e] 24) := by rw [setCell_row Rx_1]; rfl
  have Rz_2 : (w1.setCell ⟨w.heap.size, 0, none⟩ (.bool false)).heap[w.heap.size + 1]? = some (Obj.cells #[.bool false, .string ⟨#[]⟩, .string ⟨#[]⟩, .int .i64 0] 24) := by rw [setCell_other (by first | omega | (skip; omega))]; exact Rz_1
  have cx_2_0 := cells4 Rx_2 0 _ rfl
  have cx_2_1 := cells4 Rx_2 1 _ rfl
  have cx_2_2 := cells4 Rx_2 2 _ rfl
  have cx_2_3 := cells4 Rx_2 3 _ rfl
  have cz_2_0 := cells4 Rz_2 0 _ rfl
  have cz_2_1 := cells4 Rz_2 1 _ rfl
  have cz_2_2 := cells4 Rz_2 2 _ rfl
  have cz_2_3 := cells4 Rz_2 3 _ rfl
  have q0 := fz (k := 0) Rz_2
  have q1 := fz (k := 1) Rz_2
  have q2 := fz (k := 2) Rz_2
  have q3 := fz (k := 3) Rz_2
  obtain ⟨E0, E1, E2, E3⟩ := set4_cells Rz_2 rfl (.bool false) (.string s) (.string t) (.int .i64 e)
  go_wp2
  exact bodyPost_ret (v := .agg #[.bool false, .string s, .string t, .int .i64 e]) (by simp [results, Tryd.results23, go_sem, E0, E1, E2, E3]) rfl ⟨rfl, set4_below B2 (by first | exact Nat.le_refl _ | omega) _ _ _ _⟩
theorem rAbs_no (b : Bool) (e : Int) (s t : ByteArray) (h : ¬ MayX b s t e) (w : World) : Calls Tryd.prog 23 #[.agg #[.bool b, .string s, .string t, .int .i64 e]] w fun r w' => r = .returned (.agg #[.bool false, .string ⟨#[]⟩, .string ⟨#[]⟩, .int .i64 0]) ∧ Below w.heap.size w w' := by
  have M1 := box (may_no h)
  clear h
  have Rx_0 : ((w.alloc (Obj.cells #[.bool b, .string s, .string t, .int .i64 e] 24)).alloc (Obj.cells #[.bool false, .string ⟨#[]⟩, .string ⟨#[]⟩, .int .i64 0] 24)).heap[w.heap.size]? = some (Obj.cells #[.bool b, .string s, .string t, .int .i64 e] 24) := by rw [heap_below _ _ _ (by simp only [size_al]; omega)]; have := heap_alloc_last w (Obj.cells #[.bool b, .string s, .string t, .int .i64 e] 24); simpa only [size_al] using this
  have Rz_0 : ((w.alloc (Obj.cells #[.bool b, .string s, .string t, .int .i64 e] 24)).alloc (Obj.cells #[.bool false, .string ⟨#[]⟩, .string ⟨#[]⟩, .int .i64 0] 24)).heap[w.heap.size + 1]? = some (Obj.cells #[.bool false, .string ⟨#[]⟩, .string ⟨#[]⟩, .int .i64 0] 24) := by have := heap_alloc_last (w.alloc (Obj.cells #[.bool b, .string s, .string t, .int .i64 e] 24)) (Obj.cells #[.bool false, .string ⟨#[]⟩, .string ⟨#[]⟩, .int .i64 0] 24); simpa only [size_al] using this
  have B0 : Below w.heap.size w ((w.alloc (Obj.cells #[.bool b, .string s, .string t, .int .i64 e] 24)).alloc (Obj.cells #[.bool false, .string ⟨#[]⟩, .string ⟨#[]⟩, .int .i64 0] 24)) := (((Below.refl _ _).alloc (by first | omega | (simp only [size_al]; omega)) _).alloc (by first | omega | (simp only [size_al]; omega)) _)
  go_enter Tryd.func23, Tryd.ntmps23
  go_wp2_with fail
  refine (xmayM _ _ _ _ false M1.out _).mono ?_
  rintro r w1 ⟨rfl, b1⟩
  have B1 : Below w.heap.size w w1 := btr B0 b1
  have Rx_1 : w1.heap[w.heap.size]? = some (Obj.cells #[.bool b, .string s, .string t, .int .i64 e] 24) := heap_of b1 _ _ _ Rx_0
  have Rz_1 : w1.heap[w.heap.size + 1]? = some (Obj.cells #[.bool false, .string ⟨#[]⟩, .string ⟨#[]⟩, .int .i64 0] 24) := heap_of b1 _ _ _ Rz_0
  clear b1 B0 Rx_0 Rz_0
  have cx_1_0 := cells4 Rx_1 0 _ rfl
  have cx_1_1 := cells4 Rx_1 1 _ rfl
  have cx_1_2 := cells4 Rx_1 2 _ rfl
  have cx_1_3 := cells4 Rx_1 3 _ rfl
  have cz_1_0 := cells4 Rz_1 0 _ rfl
  have cz_1_1 := cells4 Rz_1 1 _ rfl
  have cz_1_2 := cells4 Rz_1 2 _ rfl
  have cz_1_3 := cells4 Rz_1 3 _ rfl
  have q0 := fz (k := 0) Rz_1
  have q1 := fz (k := 1) Rz_1
  have q2 := fz (k := 2) Rz_1
  have q3 := fz (k := 3) Rz_1
  obtain ⟨E0, E1, E2, E3⟩ := set4_cells Rz_1 rfl (.bool false) (.string ⟨#[]⟩) (.string ⟨#[]⟩) (.int .i64 0)
  go_wp2
  exact bodyPost_ret (v := .agg #[.bool false, .string ⟨#[]⟩, .string ⟨#[]⟩, .int .i64 0]) (by simp [results, Tryd.results23, go_sem, E0, E1, E2, E3]) rfl ⟨rfl, set4_below B1 (by first | exact Nat.le_refl _ | omega) _ _ _ _⟩
end Go.Proofs.YthiongcednmjiaaDoor
