/-
  What the functions short, alive and far of the statements of layer 6 return.
-/
import Derived.Test.YtknkkagapcigfaaDoorX5
namespace Go.Proofs.YtknkkagapcigfaaDoor
open Go.RowKit WMath XMath

theorem nb6 : nbA 6 = ⟨#[6]⟩ := by decide +kernel
theorem nb4 : nbA 4 = ⟨#[4]⟩ := by decide +kernel
theorem nb3 : nbA 3 = ⟨#[3]⟩ := by decide +kernel
theorem nl6 : nl 6 ≤ 16384 := by decide +kernel
theorem nl4 : nl 4 ≤ 16384 := by decide +kernel
theorem mk64 : XMath.mk false 6 4 0 = (⟨false, 3, 1, -1⟩, 0) := by
  have t6 : tz 6 = 1 := by rw [tz_even 6 (by decide) (by decide), tz_odd _ (by decide)]
  have t4 : tz 4 = 2 := by rw [tz_even 4 (by decide) (by decide), tz_even _ (by decide) (by decide), tz_odd _ (by decide)]
  have o6 : od 6 = 3 := by unfold od; rw [t6]
  have o4 : od 4 = 1 := by unfold od; rw [t4]
  unfold XMath.mk
  rw [if_neg (by decide), o6, o4, t6, t4]
  rfl
set_option maxRecDepth 100000 in
set_option maxHeartbeats 1000000 in
theorem xalive (w : World) (hT : TabAt w) : Calls Tryd.prog 5 #[] w fun r w' => r = .returned (.bool true) ∧ Below w.heap.size w w' := by
  have M1 := box (fun w hT => makex_ok false 6 4 0 ⟨#[6]⟩ ⟨#[4]⟩ false 3 1 (-1) 0 ⟨#[3]⟩ ⟨#[1]⟩ nb6 nb4 nl6 nl4 (by decide) (by decide) (by decide) mk64 nb3 nb1 w hT)
  have M2 := box (fun w => makex_no false ⟨#[1]⟩ ⟨#[]⟩ 0 (Or.inr (Or.inr (Or.inl rfl))) w)
  have TT := box hT
  clear hT
  have B0 : Below w.heap.size w w := (Below.refl _ _)
  go_enter Tryd.func5, Tryd.ntmps5
  go_wp2_with fail
  refine (M1.out _ (tabB TT.out B0)).mono ?_
  rintro r w1 ⟨rfl, b1⟩
  have B1 : Below w.heap.size w w1 := btr B0 b1
  clear b1 B0 
  have S2 := box B1.size
  have B2 : Below w.heap.size w (w1.alloc (Obj.cells #[.bool false, .string ⟨#[3]⟩, .string ⟨#[1]⟩, .int .i64 (-1)] 24)) := btr B1 (bal _ _)
  have Rx_2 : (w1.alloc (Obj.cells #[.bool false, .string ⟨#[3]⟩, .string ⟨#[1]⟩, .int .i64 (-1)] 24)).heap[w1.heap.size]? = some (Obj.cells #[.bool false, .string ⟨#[3]⟩, .string ⟨#[1]⟩, .int .i64 (-1)] 24) := heap_alloc_last _ _
  clear B1 
  have cx_2_0 := cells4 Rx_2 0 _ rfl
  have cx_2_1 := cells4 Rx_2 1 _ rfl
  have cx_2_2 := cells4 Rx_2 2 _ rfl
  have cx_2_3 := cells4 Rx_2 3 _ rfl
  go_wp2_with fail
  refine (M2.out _).mono ?_
  rintro r w3 ⟨rfl, b3⟩
  have B3 : Below w.heap.size w w3 := btr B2 b3
  have Rx_3 : w3.heap[w1.heap.size]? = some (Obj.cells #[.bool false, .string ⟨#[3]⟩, .string ⟨#[1]⟩, .int .i64 (-1)] 24) := heap_of b3 _ _ _ Rx_2
  clear b3 B2 Rx_2 cx_2_0 cx_2_1 cx_2_2 cx_2_3
  have cx_3_0 := cells4 Rx_3 0 _ rfl
  have cx_3_1 := cells4 Rx_3 1 _ rfl
  have cx_3_2 := cells4 Rx_3 2 _ rfl
  have cx_3_3 := cells4 Rx_3 3 _ rfl
  have S4 := box B3.size
  have Lx_4 : Box (w1.heap.size < w3.heap.size) := box (Array.getElem?_eq_some_iff.1 Rx_3).1
  have B4 : Below w.heap.size w (w3.alloc (Obj.cells #[.bool false, .string ⟨#[]⟩, .string ⟨#[]⟩, .int .i64 0] 24)) := btr B3 (bal _ _)
  have Rx_4 : (w3.alloc (Obj.cells #[.bool false, .string ⟨#[]⟩, .string ⟨#[]⟩, .int .i64 0] 24)).heap[w1.heap.size]? = some (Obj.cells #[.bool false, .string ⟨#[3]⟩, .string ⟨#[1]⟩, .int .i64 (-1)] 24) := heap_of (bal _ _) _ _ _ Rx_3
  have Ry_4 : (w3.alloc (Obj.cells #[.bool false, .string ⟨#[]⟩, .string ⟨#[]⟩, .int .i64 0] 24)).heap[w3.heap.size]? = some (Obj.cells #[.bool false, .string ⟨#[]⟩, .string ⟨#[]⟩, .int .i64 0] 24) := heap_alloc_last _ _
  clear B3 Rx_3 cx_3_0 cx_3_1 cx_3_2 cx_3_3
  have cx_4_0 := cells4 Rx_4 0 _ rfl
  have cx_4_1 := cells4 Rx_4 1 _ rfl
  have cx_4_2 := cells4 Rx_4 2 _ rfl
  have cx_4_3 := cells4 Rx_4 3 _ rfl
  have cy_4_0 := cells4 Ry_4 0 _ rfl
  have cy_4_1 := cells4 Ry_4 1 _ rfl
  have cy_4_2 := cells4 Ry_4 2 _ rfl
  have cy_4_3 := cells4 Ry_4 3 _ rfl
  go_wp2
  go_ret
  exact ⟨rfl, B4⟩
theorem xshort (b : Bool) (s t : ByteArray) (e : Int) (m : Nat) (M : Int) (o : Bool) (hM : M = (m : Int)) (ho : (decide (s.size ≤ m) && decide (t.size ≤ m)) = o) (w : World) : Calls Tryd.prog 4 #[.agg #[.bool b, .string s, .string t, .int .i64 e], .int .i64 M] w fun r w' => r = .returned (.bool o) ∧ Below w.heap.size w w' := by
  subst hM
  obtain ⟨x, hx⟩ : ∃ x, decide (s.size ≤ m) = x := ⟨_, rfl⟩
  obtain ⟨y, hy⟩ : ∃ y, decide (t.size ≤ m) = y := ⟨_, rfl⟩
  rw [hx, hy] at ho
  cases x
  · have e : o = false := by rw [← ho]; rfl
    subst e
    clear ho hy
    have Rx_0 : (w.alloc (Obj.cells #[.bool b, .string s, .string t, .int .i64 e] 24)).heap[w.heap.size]? = some (Obj.cells #[.bool b, .string s, .string t, .int .i64 e] 24) := by have := heap_alloc_last w (Obj.cells #[.bool b, .string s, .string t, .int .i64 e] 24); simpa only [size_al] using this
    have B0 : Below w.heap.size w (w.alloc (Obj.cells #[.bool b, .string s, .string t, .int .i64 e] 24)) := ((Below.refl _ _).alloc (by first | omega | (simp only [size_al]; omega)) _)
    go_enter Tryd.func4, Tryd.ntmps4
    go_wp2
    go_ret
    exact ⟨rfl, B0⟩
  · have e : y = o := by rw [← ho]; rfl
    subst e
    clear ho
    have Rx_0 : (w.alloc (Obj.cells #[.bool b, .string s, .string t, .int .i64 e] 24)).heap[w.heap.size]? = some (Obj.cells #[.bool b, .string s, .string t, .int .i64 e] 24) := by have := heap_alloc_last w (Obj.cells #[.bool b, .string s, .string t, .int .i64 e] 24); simpa only [size_al] using this
    have B0 : Below w.heap.size w (w.alloc (Obj.cells #[.bool b, .string s, .string t, .int .i64 e] 24)) := ((Below.refl _ _).alloc (by first | omega | (simp only [size_al]; omega)) _)
    go_enter Tryd.func4, Tryd.ntmps4
    go_wp2
    go_ret
    exact ⟨rfl, B0⟩
end Go.Proofs.YtknkkagapcigfaaDoor
