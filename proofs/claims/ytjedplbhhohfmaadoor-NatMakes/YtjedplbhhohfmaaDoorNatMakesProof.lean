/-
  NatMakes returns true for every word, number of 384 bits and string: made, told and measured as the document says.
-/
import Derived.Test.YtjedplbhhohfmaaDoorRows
import Derived.Test.YtjedplbhhohfmaaDoorTie
import Derived.Test.YtjedplbhhohfmaaDoorCards
import Derived.WalkKit
import Derived.ProofKit
import Derived.OpenShut
import Derived.LaidMore
import Derived.Stop.Joined
import Derived.Lib.LaidTab
import Derived.SevenTiedAt
import Derived.Test.YtjedplbhhohfmaaDoorFrame6
import Derived.Test.YtjedplbhhohfmaaDoorNalive
import Derived.Test.YtjedplbhhohfmaaDoorDoor2
import Derived.ChangeMaps5
namespace Go.Proofs.YtjedplbhhohfmaaDoor.natMakes
open WMath
open Go.ChangeShapes Go.WideShapes Go.ChangeAt Go.RowKit
open Go.ChangeMaps (open_string shut_string)
set_option linter.unusedVariables false

theorem own : ownKnob Tryd.prog.godebug = none := by kernel_rfl

set_option maxRecDepth 100000 in
set_option maxHeartbeats 4000000 in
theorem walk (a0 : Int) (a1 : Nat) (a2 : ByteArray) (h0 : (Lit.int .u64 a0).wf = true) (h1 : a1 < Q) (h2 : a2.size ≤ maxLen) (w : World) (hT : TabAt w) :
    Calls Tryd.prog 3 #[.int .u64 a0, .agg (cw 6 a1), .string a2] w fun e w' => e = .returned (.bool true) ∧ Below w.heap.size w w' := by
  have TT := box hT
  clear hT
  obtain ⟨k, hk, rfl⟩ := nat_u64 h0
  obtain ⟨v, o, vQ, T1, T2⟩ : ∃ (v : Nat) (o : Bool), v < Q ∧ (∀ w : World, Calls Tryd.prog 5 #[.string a2] w fun r w' => r = .returned (.tuple #[.agg (cw 6 v), .bool o]) ∧ Below w.heap.size w w') ∧ (∀ w : World, Calls Tryd.prog 6 #[.string a2] w fun r w' => r = .returned (.tuple #[.agg (cw 6 v), .bool o]) ∧ Below w.heap.size w w') := by
    by_cases hb : mayB a2 = false ∨ 48 < a2.size
    · exact ⟨0, false, Q_pos, fun w => pn_towide_no a2 hb w, fun w => nat_ToWide_no a2 hb w⟩
    · have hm : mayB a2 = true := by cases e : mayB a2 with
        | false => exact absurd (Or.inl e) hb
        | true => rfl
      obtain ⟨n, hn, ln⟩ := mayB_is a2 hm
      have hs : a2.size = nl n := by rw [← hn, nbA_size]
      have h48 : nl n ≤ 48 := by omega
      have nQ : n < Q := by
        obtain ⟨K, hK, hQ⟩ := Q48
        rw [hQ]
        exact Nat.lt_of_lt_of_le (nl_lt n) (pow8_le _ _ (by omega))
      exact ⟨n, true, nQ, fun w => pn_towide_ok n a2 hn h48 w, fun w => nat_ToWide n a2 hn h48 w⟩
  obtain ⟨l, T3, T4⟩ : ∃ l : Int, (∀ w : World, Calls Tryd.prog 13 #[.string a2] w fun r w' => r = .returned (.int .i64 l) ∧ Below w.heap.size w w') ∧ (∀ w : World, Calls Tryd.prog 14 #[.string a2] w fun r w' => r = .returned (.int .i64 l) ∧ Below w.heap.size w w') := by
    cases hm : mayB a2
    · exact ⟨0, fun w => pn_len_no a2 hm w, fun w => bel (nat_Len_no a2 hm w)⟩
    · obtain ⟨n, hn, ln⟩ := mayB_is a2 hm
      exact ⟨(blen n : Nat), fun w => pn_len_ok n _ a2 hn ln rfl w, fun w => bel (nat_Len n _ a2 hn ln rfl w)⟩
  obtain ⟨t, T5, T6⟩ : ∃ t : Int, (∀ w : World, TabAt w → Calls Tryd.prog 15 #[.string a2] w fun r w' => r = .returned (.int .i64 t) ∧ Below w.heap.size w w') ∧ (∀ w : World, Calls Tryd.prog 16 #[.string a2] w fun r w' => r = .returned (.int .i64 t) ∧ Below w.heap.size w w') := by
    cases hm : mayB a2
    · exact ⟨0, fun w _ => pn_low_no a2 hm w, fun w => bel (nat_Low_no a2 hm w)⟩
    · obtain ⟨n, hn, ln⟩ := mayB_is a2 hm
      obtain ⟨t, ht⟩ := lowN_any n
      exact ⟨(t : Nat), fun w hT => pn_low_ok n t a2 hn ln ht w hT, fun w => bel (nat_Low n t a2 hn ln ht w)⟩
  obtain ⟨s, hs⟩ : ∃ s, nbA k = s := ⟨_, rfl⟩
  obtain ⟨u, hu⟩ : ∃ u, nbA a1 = u := ⟨_, rfl⟩
  have U1 := box T1
  have U2 := box T2
  have U3 := box T3
  have U4 := box T4
  have U5 := box T5
  have U6 := box T6
  have HS := box hs
  have HU := box hu
  clear T1 T2 T3 T4 T5 T6 hs hu
  have hat := cw_at 6
  have hz := cw6z
  have hf := cw6f
  have hs0 := st0
  have hs1 := st1
  have hcs : ∀ x, ((cw 6 x).size = 6) = True := fun x => eq_true (cw_size 6 x)
  have heq := eq6
  have hg := eqg6
  cases hm : mayB a2
  · have HM := box hm
    have HE : Box ((if mayB a2 then (0 : Int) else 2) = 2) := box (by rw [hm]; rfl)
    clear hm
    go_enter Tryd.func3, Tryd.ntmps3
    have R0_0 : (w.alloc (Obj.cells (cw 6 a1) 24)).heap[w.heap.size]? = some (Obj.cells (cw 6 a1) 24) := by have := heap_alloc_last w (Obj.cells (cw 6 a1) 24); simpa only [size_al] using this
    have B0 : Below w.heap.size w (w.alloc (Obj.cells (cw 6 a1) 24)) := ((Below.refl _ _).alloc (by first | omega | (simp only [size_al]; omega)) _)
    have c0_0 := row_cell R0_0
    go_wp2_with fail
    refine (U1.out _).mono ?_
    rintro e w1 ⟨rfl, hb1⟩
    have P1_0 : w1.heap[w.heap.size]? = some (Obj.cells (cw 6 a1) 24) := heap_of hb1 _ _ _ R0_0
    have z1_0 : w.heap.size < w1.heap.size := (Array.getElem?_eq_some_iff.1 P1_0).1
    have C1 : Below w.heap.size w w1 := B0.trans (hb1.mono B0.size)
    have y1 := C1.size
    clear hb1 B0 R0_0 c0_0
    have R1_0 : (w1.alloc (Obj.cells (cw 6 v) 24)).heap[w.heap.size]? = some (Obj.cells (cw 6 a1) 24) := by rw [heap_below _ _ _ (by omega)]; exact P1_0
    have R1_1 : (w1.alloc (Obj.cells (cw 6 v) 24)).heap[w1.heap.size]? = some (Obj.cells (cw 6 v) 24) := by have := heap_alloc_last w1 (Obj.cells (cw 6 v) 24); simpa only [size_al] using this
    have B1 : Below w.heap.size w (w1.alloc (Obj.cells (cw 6 v) 24)) := (C1.alloc (by first | omega | (simp only [size_al]; omega)) _)
    clear C1 P1_0 z1_0
    clear y1
    have c1_0 := row_cell R1_0
    have c1_1 := row_cell R1_1
    go_wp2_with fail
    refine (U2.out _).mono ?_
    rintro e w2 ⟨rfl, hb2⟩
    have P2_0 : w2.heap[w.heap.size]? = some (Obj.cells (cw 6 a1) 24) := heap_of hb2 _ _ _ R1_0
    have z2_0 : w.heap.size < w2.heap.size := (Array.getElem?_eq_some_iff.1 P2_0).1
    have P2_1 : w2.heap[w1.heap.size]? = some (Obj.cells (cw 6 v) 24) := heap_of hb2 _ _ _ R1_1
    have z2_1 : w1.heap.size < w2.heap.size := (Array.getElem?_eq_some_iff.1 P2_1).1
    have C2 : Below w.heap.size w w2 := B1.trans (hb2.mono B1.size)
    have y2 := C2.size
    clear hb2 B1 R1_0 c1_0 R1_1 c1_1
    have R2_0 : (w2.alloc (Obj.cells (cw 6 v) 24)).heap[w.heap.size]? = some (Obj.cells (cw 6 a1) 24) := by rw [heap_below _ _ _ (by omega)]; exact P2_0
    have R2_1 : (w2.alloc (Obj.cells (cw 6 v) 24)).heap[w1.heap.size]? = some (Obj.cells (cw 6 v) 24) := by rw [heap_below _ _ _ (by omega)]; exact P2_1
    have R2_2 : (w2.alloc (Obj.cells (cw 6 v) 24)).heap[w2.heap.size]? = some (Obj.cells (cw 6 v) 24) := by have := heap_alloc_last w2 (Obj.cells (cw 6 v) 24); simpa only [size_al] using this
    have B2 : Below w.heap.size w (w2.alloc (Obj.cells (cw 6 v) 24)) := (C2.alloc (by first | omega | (simp only [size_al]; omega)) _)
    clear C2 P2_0 z2_0 P2_1 z2_1
    clear y2
    have c2_0 := row_cell R2_0
    have c2_1 := row_cell R2_1
    have c2_2 := row_cell R2_2
    go_wp2_with fail
    refine (pn_check a2 2 HE.out _).mono ?_
    rintro e w3 ⟨rfl, hb3⟩
    have P3_0 : w3.heap[w.heap.size]? = some (Obj.cells (cw 6 a1) 24) := heap_of hb3 _ _ _ R2_0
    have z3_0 : w.heap.size < w3.heap.size := (Array.getElem?_eq_some_iff.1 P3_0).1
    have P3_1 : w3.heap[w1.heap.size]? = some (Obj.cells (cw 6 v) 24) := heap_of hb3 _ _ _ R2_1
    have z3_1 : w1.heap.size < w3.heap.size := (Array.getElem?_eq_some_iff.1 P3_1).1
    have P3_2 : w3.heap[w2.heap.size]? = some (Obj.cells (cw 6 v) 24) := heap_of hb3 _ _ _ R2_2
    have z3_2 : w2.heap.size < w3.heap.size := (Array.getElem?_eq_some_iff.1 P3_2).1
    have C3 : Below w.heap.size w w3 := B2.trans (hb3.mono B2.size)
    have y3 := C3.size
    clear hb3 B2 R2_0 c2_0 R2_1 c2_1 R2_2 c2_2
    have R3_0 : w3.heap[w.heap.size]? = some (Obj.cells (cw 6 a1) 24) := P3_0
    have R3_1 : w3.heap[w1.heap.size]? = some (Obj.cells (cw 6 v) 24) := P3_1
    have R3_2 : w3.heap[w2.heap.size]? = some (Obj.cells (cw 6 v) 24) := P3_2
    have B3 : Below w.heap.size w w3 := C3
    clear C3 P3_0 z3_0 P3_1 z3_1 P3_2 z3_2
    clear y3
    have c3_0 := row_cell R3_0
    have c3_1 := row_cell R3_1
    have c3_2 := row_cell R3_2
    go_wp2_with fail
    refine (bel (nat_may a2 false HM.out _)).mono ?_
    rintro e w4 ⟨rfl, hb4⟩
    have P4_0 : w4.heap[w.heap.size]? = some (Obj.cells (cw 6 a1) 24) := heap_of hb4 _ _ _ R3_0
    have z4_0 : w.heap.size < w4.heap.size := (Array.getElem?_eq_some_iff.1 P4_0).1
    have P4_1 : w4.heap[w1.heap.size]? = some (Obj.cells (cw 6 v) 24) := heap_of hb4 _ _ _ R3_1
    have z4_1 : w1.heap.size < w4.heap.size := (Array.getElem?_eq_some_iff.1 P4_1).1
    have P4_2 : w4.heap[w2.heap.size]? = some (Obj.cells (cw 6 v) 24) := heap_of hb4 _ _ _ R3_2
    have z4_2 : w2.heap.size < w4.heap.size := (Array.getElem?_eq_some_iff.1 P4_2).1
    have C4 : Below w.heap.size w w4 := B3.trans (hb4.mono B3.size)
    have y4 := C4.size
    clear hb4 B3 R3_0 c3_0 R3_1 c3_1 R3_2 c3_2
    have R4_0 : w4.heap[w.heap.size]? = some (Obj.cells (cw 6 a1) 24) := P4_0
    have R4_1 : w4.heap[w1.heap.size]? = some (Obj.cells (cw 6 v) 24) := P4_1
    have R4_2 : w4.heap[w2.heap.size]? = some (Obj.cells (cw 6 v) 24) := P4_2
    have B4 : Below w.heap.size w w4 := C4
    clear C4 P4_0 z4_0 P4_1 z4_1 P4_2 z4_2
    clear y4
    have c4_0 := row_cell R4_0
    have c4_1 := row_cell R4_1
    have c4_2 := row_cell R4_2
    go_wp2_with fail
    refine (pn_check a2 2 HE.out _).mono ?_
    rintro e w5 ⟨rfl, hb5⟩
    have P5_0 : w5.heap[w.heap.size]? = some (Obj.cells (cw 6 a1) 24) := heap_of hb5 _ _ _ R4_0
    have z5_0 : w.heap.size < w5.heap.size := (Array.getElem?_eq_some_iff.1 P5_0).1
    have P5_1 : w5.heap[w1.heap.size]? = some (Obj.cells (cw 6 v) 24) := heap_of hb5 _ _ _ R4_1
    have z5_1 : w1.heap.size < w5.heap.size := (Array.getElem?_eq_some_iff.1 P5_1).1
    have P5_2 : w5.heap[w2.heap.size]? = some (Obj.cells (cw 6 v) 24) := heap_of hb5 _ _ _ R4_2
    have z5_2 : w2.heap.size < w5.heap.size := (Array.getElem?_eq_some_iff.1 P5_2).1
    have C5 : Below w.heap.size w w5 := B4.trans (hb5.mono B4.size)
    have y5 := C5.size
    clear hb5 B4 R4_0 c4_0 R4_1 c4_1 R4_2 c4_2
    have R5_0 : w5.heap[w.heap.size]? = some (Obj.cells (cw 6 a1) 24) := P5_0
    have R5_1 : w5.heap[w1.heap.size]? = some (Obj.cells (cw 6 v) 24) := P5_1
    have R5_2 : w5.heap[w2.heap.size]? = some (Obj.cells (cw 6 v) 24) := P5_2
    have B5 : Below w.heap.size w w5 := C5
    clear C5 P5_0 z5_0 P5_1 z5_1 P5_2 z5_2
    clear y5
    have c5_0 := row_cell R5_0
    have c5_1 := row_cell R5_1
    have c5_2 := row_cell R5_2
    go_wp2_with fail
    refine (pn_check a2 2 HE.out _).mono ?_
    rintro e w6 ⟨rfl, hb6⟩
    have P6_0 : w6.heap[w.heap.size]? = some (Obj.cells (cw 6 a1) 24) := heap_of hb6 _ _ _ R5_0
    have z6_0 : w.heap.size < w6.heap.size := (Array.getElem?_eq_some_iff.1 P6_0).1
    have P6_1 : w6.heap[w1.heap.size]? = some (Obj.cells (cw 6 v) 24) := heap_of hb6 _ _ _ R5_1
    have z6_1 : w1.heap.size < w6.heap.size := (Array.getElem?_eq_some_iff.1 P6_1).1
    have P6_2 : w6.heap[w2.heap.size]? = some (Obj.cells (cw 6 v) 24) := heap_of hb6 _ _ _ R5_2
    have z6_2 : w2.heap.size < w6.heap.size := (Array.getElem?_eq_some_iff.1 P6_2).1
    have C6 : Below w.heap.size w w6 := B5.trans (hb6.mono B5.size)
    have y6 := C6.size
    clear hb6 B5 R5_0 c5_0 R5_1 c5_1 R5_2 c5_2
    have R6_0 : w6.heap[w.heap.size]? = some (Obj.cells (cw 6 a1) 24) := P6_0
    have R6_1 : w6.heap[w1.heap.size]? = some (Obj.cells (cw 6 v) 24) := P6_1
    have R6_2 : w6.heap[w2.heap.size]? = some (Obj.cells (cw 6 v) 24) := P6_2
    have B6 : Below w.heap.size w w6 := C6
    clear C6 P6_0 z6_0 P6_1 z6_1 P6_2 z6_2
    clear y6
    have c6_0 := row_cell R6_0
    have c6_1 := row_cell R6_1
    have c6_2 := row_cell R6_2
    obtain ⟨V, hV⟩ : ∃ V, w6 = V := ⟨_, rfl⟩
    rw [hV] at B6 R6_0 R6_1 R6_2
    go_wp2
    try rw [hV]
    clear hV
    obtain ⟨F, hF1, hF2⟩ := below_fun V
    have f0 : ∀ u o, o < 6 → (F u).cell? ⟨w.heap.size, o, none⟩ = some (.int .u64 (wd a1 o : Nat)) := fun u => row_cell (heap_of (hF1 u) _ _ _ R6_0)
    have f1 : ∀ u o, o < 6 → (F u).cell? ⟨w1.heap.size, o, none⟩ = some (.int .u64 (wd v o : Nat)) := fun u => row_cell (heap_of (hF1 u) _ _ _ R6_1)
    have f2 : ∀ u o, o < 6 → (F u).cell? ⟨w2.heap.size, o, none⟩ = some (.int .u64 (wd v o : Nat)) := fun u => row_cell (heap_of (hF1 u) _ _ _ R6_2)
    have TF : Box (∀ u, TabAt (F u)) := box (fun u => tabB TT.out (B6.trans ((hF1 u).mono B6.size)))
    refine wp_region_below F hF2 (by kernel_rfl) (by kernel_rfl) ?_
    repeat quiet_step (first | (go_at_call 9; exact quietF hF1 hF2 (pn_of k s hk HS.out _)) | (go_at_call 10; exact quietF hF1 hF2 (nat_Of k s hk HS.out _)) | (go_at_call 11; exact quietF hF1 hF2 (pn_ofwide a1 u h1 HU.out _)) | (go_at_call 12; exact quietF hF1 hF2 (nat_OfWide a1 u h1 HU.out _)) | (go_at_call 13; exact quietF hF1 hF2 (U3.out _)) | (go_at_call 14; exact quietF hF1 hF2 (U4.out _)) | (go_at_call 15; exact quietF hF1 hF2 (U5.out _ (TF.out _))) | (go_at_call 16; exact quietF hF1 hF2 (U6.out _)) | (go_at_call 17; exact quietF hF1 hF2 (nalive _)))
    refine wpQuiet_nil ?_
    rintro _ ⟨u, rfl⟩
    go_wp2
    go_ret
    exact ⟨rfl, B6.trans ((hF1 u).mono B6.size)⟩
  · have HM := box hm
    have HE : Box ((if mayB a2 then (0 : Int) else 2) = 0) := box (by rw [hm]; rfl)
    clear hm
    go_enter Tryd.func3, Tryd.ntmps3
    have R0_0 : (w.alloc (Obj.cells (cw 6 a1) 24)).heap[w.heap.size]? = some (Obj.cells (cw 6 a1) 24) := by have := heap_alloc_last w (Obj.cells (cw 6 a1) 24); simpa only [size_al] using this
    have B0 : Below w.heap.size w (w.alloc (Obj.cells (cw 6 a1) 24)) := ((Below.refl _ _).alloc (by first | omega | (simp only [size_al]; omega)) _)
    have c0_0 := row_cell R0_0
    go_wp2_with fail
    refine (U1.out _).mono ?_
    rintro e w1 ⟨rfl, hb1⟩
    have P1_0 : w1.heap[w.heap.size]? = some (Obj.cells (cw 6 a1) 24) := heap_of hb1 _ _ _ R0_0
    have z1_0 : w.heap.size < w1.heap.size := (Array.getElem?_eq_some_iff.1 P1_0).1
    have C1 : Below w.heap.size w w1 := B0.trans (hb1.mono B0.size)
    have y1 := C1.size
    clear hb1 B0 R0_0 c0_0
    have R1_0 : (w1.alloc (Obj.cells (cw 6 v) 24)).heap[w.heap.size]? = some (Obj.cells (cw 6 a1) 24) := by rw [heap_below _ _ _ (by omega)]; exact P1_0
    have R1_1 : (w1.alloc (Obj.cells (cw 6 v) 24)).heap[w1.heap.size]? = some (Obj.cells (cw 6 v) 24) := by have := heap_alloc_last w1 (Obj.cells (cw 6 v) 24); simpa only [size_al] using this
    have B1 : Below w.heap.size w (w1.alloc (Obj.cells (cw 6 v) 24)) := (C1.alloc (by first | omega | (simp only [size_al]; omega)) _)
    clear C1 P1_0 z1_0
    clear y1
    have c1_0 := row_cell R1_0
    have c1_1 := row_cell R1_1
    go_wp2_with fail
    refine (U2.out _).mono ?_
    rintro e w2 ⟨rfl, hb2⟩
    have P2_0 : w2.heap[w.heap.size]? = some (Obj.cells (cw 6 a1) 24) := heap_of hb2 _ _ _ R1_0
    have z2_0 : w.heap.size < w2.heap.size := (Array.getElem?_eq_some_iff.1 P2_0).1
    have P2_1 : w2.heap[w1.heap.size]? = some (Obj.cells (cw 6 v) 24) := heap_of hb2 _ _ _ R1_1
    have z2_1 : w1.heap.size < w2.heap.size := (Array.getElem?_eq_some_iff.1 P2_1).1
    have C2 : Below w.heap.size w w2 := B1.trans (hb2.mono B1.size)
    have y2 := C2.size
    clear hb2 B1 R1_0 c1_0 R1_1 c1_1
    have R2_0 : (w2.alloc (Obj.cells (cw 6 v) 24)).heap[w.heap.size]? = some (Obj.cells (cw 6 a1) 24) := by rw [heap_below _ _ _ (by omega)]; exact P2_0
    have R2_1 : (w2.alloc (Obj.cells (cw 6 v) 24)).heap[w1.heap.size]? = some (Obj.cells (cw 6 v) 24) := by rw [heap_below _ _ _ (by omega)]; exact P2_1
    have R2_2 : (w2.alloc (Obj.cells (cw 6 v) 24)).heap[w2.heap.size]? = some (Obj.cells (cw 6 v) 24) := by have := heap_alloc_last w2 (Obj.cells (cw 6 v) 24); simpa only [size_al] using this
    have B2 : Below w.heap.size w (w2.alloc (Obj.cells (cw 6 v) 24)) := (C2.alloc (by first | omega | (simp only [size_al]; omega)) _)
    clear C2 P2_0 z2_0 P2_1 z2_1
    clear y2
    have c2_0 := row_cell R2_0
    have c2_1 := row_cell R2_1
    have c2_2 := row_cell R2_2
    go_wp2_with fail
    refine (pn_check a2 0 HE.out _).mono ?_
    rintro e w3 ⟨rfl, hb3⟩
    have P3_0 : w3.heap[w.heap.size]? = some (Obj.cells (cw 6 a1) 24) := heap_of hb3 _ _ _ R2_0
    have z3_0 : w.heap.size < w3.heap.size := (Array.getElem?_eq_some_iff.1 P3_0).1
    have P3_1 : w3.heap[w1.heap.size]? = some (Obj.cells (cw 6 v) 24) := heap_of hb3 _ _ _ R2_1
    have z3_1 : w1.heap.size < w3.heap.size := (Array.getElem?_eq_some_iff.1 P3_1).1
    have P3_2 : w3.heap[w2.heap.size]? = some (Obj.cells (cw 6 v) 24) := heap_of hb3 _ _ _ R2_2
    have z3_2 : w2.heap.size < w3.heap.size := (Array.getElem?_eq_some_iff.1 P3_2).1
    have C3 : Below w.heap.size w w3 := B2.trans (hb3.mono B2.size)
    have y3 := C3.size
    clear hb3 B2 R2_0 c2_0 R2_1 c2_1 R2_2 c2_2
    have R3_0 : w3.heap[w.heap.size]? = some (Obj.cells (cw 6 a1) 24) := P3_0
    have R3_1 : w3.heap[w1.heap.size]? = some (Obj.cells (cw 6 v) 24) := P3_1
    have R3_2 : w3.heap[w2.heap.size]? = some (Obj.cells (cw 6 v) 24) := P3_2
    have B3 : Below w.heap.size w w3 := C3
    clear C3 P3_0 z3_0 P3_1 z3_1 P3_2 z3_2
    clear y3
    have c3_0 := row_cell R3_0
    have c3_1 := row_cell R3_1
    have c3_2 := row_cell R3_2
    go_wp2_with fail
    refine (bel (nat_may a2 true HM.out _)).mono ?_
    rintro e w4 ⟨rfl, hb4⟩
    have P4_0 : w4.heap[w.heap.size]? = some (Obj.cells (cw 6 a1) 24) := heap_of hb4 _ _ _ R3_0
    have z4_0 : w.heap.size < w4.heap.size := (Array.getElem?_eq_some_iff.1 P4_0).1
    have P4_1 : w4.heap[w1.heap.size]? = some (Obj.cells (cw 6 v) 24) := heap_of hb4 _ _ _ R3_1
    have z4_1 : w1.heap.size < w4.heap.size := (Array.getElem?_eq_some_iff.1 P4_1).1
    have P4_2 : w4.heap[w2.heap.size]? = some (Obj.cells (cw 6 v) 24) := heap_of hb4 _ _ _ R3_2
    have z4_2 : w2.heap.size < w4.heap.size := (Array.getElem?_eq_some_iff.1 P4_2).1
    have C4 : Below w.heap.size w w4 := B3.trans (hb4.mono B3.size)
    have y4 := C4.size
    clear hb4 B3 R3_0 c3_0 R3_1 c3_1 R3_2 c3_2
    have R4_0 : w4.heap[w.heap.size]? = some (Obj.cells (cw 6 a1) 24) := P4_0
    have R4_1 : w4.heap[w1.heap.size]? = some (Obj.cells (cw 6 v) 24) := P4_1
    have R4_2 : w4.heap[w2.heap.size]? = some (Obj.cells (cw 6 v) 24) := P4_2
    have B4 : Below w.heap.size w w4 := C4
    clear C4 P4_0 z4_0 P4_1 z4_1 P4_2 z4_2
    clear y4
    have c4_0 := row_cell R4_0
    have c4_1 := row_cell R4_1
    have c4_2 := row_cell R4_2
    go_wp2_with fail
    refine (pn_check a2 0 HE.out _).mono ?_
    rintro e w5 ⟨rfl, hb5⟩
    have P5_0 : w5.heap[w.heap.size]? = some (Obj.cells (cw 6 a1) 24) := heap_of hb5 _ _ _ R4_0
    have z5_0 : w.heap.size < w5.heap.size := (Array.getElem?_eq_some_iff.1 P5_0).1
    have P5_1 : w5.heap[w1.heap.size]? = some (Obj.cells (cw 6 v) 24) := heap_of hb5 _ _ _ R4_1
    have z5_1 : w1.heap.size < w5.heap.size := (Array.getElem?_eq_some_iff.1 P5_1).1
    have P5_2 : w5.heap[w2.heap.size]? = some (Obj.cells (cw 6 v) 24) := heap_of hb5 _ _ _ R4_2
    have z5_2 : w2.heap.size < w5.heap.size := (Array.getElem?_eq_some_iff.1 P5_2).1
    have C5 : Below w.heap.size w w5 := B4.trans (hb5.mono B4.size)
    have y5 := C5.size
    clear hb5 B4 R4_0 c4_0 R4_1 c4_1 R4_2 c4_2
    have R5_0 : w5.heap[w.heap.size]? = some (Obj.cells (cw 6 a1) 24) := P5_0
    have R5_1 : w5.heap[w1.heap.size]? = some (Obj.cells (cw 6 v) 24) := P5_1
    have R5_2 : w5.heap[w2.heap.size]? = some (Obj.cells (cw 6 v) 24) := P5_2
    have B5 : Below w.heap.size w w5 := C5
    clear C5 P5_0 z5_0 P5_1 z5_1 P5_2 z5_2
    clear y5
    have c5_0 := row_cell R5_0
    have c5_1 := row_cell R5_1
    have c5_2 := row_cell R5_2
    obtain ⟨V, hV⟩ : ∃ V, w5 = V := ⟨_, rfl⟩
    rw [hV] at B5 R5_0 R5_1 R5_2
    go_wp2
    try rw [hV]
    clear hV
    obtain ⟨F, hF1, hF2⟩ := below_fun V
    have f0 : ∀ u o, o < 6 → (F u).cell? ⟨w.heap.size, o, none⟩ = some (.int .u64 (wd a1 o : Nat)) := fun u => row_cell (heap_of (hF1 u) _ _ _ R5_0)
    have f1 : ∀ u o, o < 6 → (F u).cell? ⟨w1.heap.size, o, none⟩ = some (.int .u64 (wd v o : Nat)) := fun u => row_cell (heap_of (hF1 u) _ _ _ R5_1)
    have f2 : ∀ u o, o < 6 → (F u).cell? ⟨w2.heap.size, o, none⟩ = some (.int .u64 (wd v o : Nat)) := fun u => row_cell (heap_of (hF1 u) _ _ _ R5_2)
    have TF : Box (∀ u, TabAt (F u)) := box (fun u => tabB TT.out (B5.trans ((hF1 u).mono B5.size)))
    refine wp_region_below F hF2 (by kernel_rfl) (by kernel_rfl) ?_
    repeat quiet_step (first | (go_at_call 9; exact quietF hF1 hF2 (pn_of k s hk HS.out _)) | (go_at_call 10; exact quietF hF1 hF2 (nat_Of k s hk HS.out _)) | (go_at_call 11; exact quietF hF1 hF2 (pn_ofwide a1 u h1 HU.out _)) | (go_at_call 12; exact quietF hF1 hF2 (nat_OfWide a1 u h1 HU.out _)) | (go_at_call 13; exact quietF hF1 hF2 (U3.out _)) | (go_at_call 14; exact quietF hF1 hF2 (U4.out _)) | (go_at_call 15; exact quietF hF1 hF2 (U5.out _ (TF.out _))) | (go_at_call 16; exact quietF hF1 hF2 (U6.out _)) | (go_at_call 17; exact quietF hF1 hF2 (nalive _)))
    refine wpQuiet_nil ?_
    rintro _ ⟨u, rfl⟩
    go_wp2
    go_ret
    exact ⟨rfl, B5.trans ((hF1 u).mono B5.size)⟩

def tabZ : List Int := [0, 1, 56, 2, 57, 49, 28, 3, 61, 58, 42, 50, 38, 29, 17, 4, 62, 47, 59, 36, 45, 43, 51, 22, 53, 39, 33, 30, 24, 18, 12, 5, 63, 55, 48, 27, 60, 41, 37, 16, 46, 35, 44, 21, 52, 32, 23, 11, 54, 26, 40, 15, 34, 20, 31, 10, 25, 14, 19, 9, 13, 8, 7, 6]
def laid1 : List (String × DataW Unit) := [("math/bits.deBruijn64tab", Rows.laid_math_bits_deBruijn64tab)]
theorem gTab : Tryd.prog.globalNamed "math/bits.deBruijn64tab" = some 0 := by kernel_rfl
theorem gType : (Tryd.prog.globals[0]?).map (·.type) = some 75 := by kernel_rfl
theorem cells5 : Tryd.prog.cellsOf 5 = 1 := by kernel_rfl
theorem cellsT : Tryd.prog.cellsOf 75 = 64 := by kernel_rfl
theorem tab_at : ∀ i : Fin 64, tabZ.getD i.val 0 = ((Lib.deBruijn64tab.getD i.val 0 : Nat) : Int) := by decide +kernel

theorem of_laid {W : World} (h : laidMetH Tryd.prog laid1 W) : TabAt W := by
  rw [MakeChecks.laidMetH_plain _ _ _ (by kernel_rfl)] at h
  have h' : laidMet Tryd.prog (("math/bits.deBruijn64tab", Lib.tabData .u8 tabZ) :: []) W := h
  have hT := Lib.tabIs_of_head gTab gType Tryd.underlying75 Tryd.underlying5 cells5 cellsT h'
  intro i hi
  have hc := hT.cell gTab i (show i < tabZ.length from hi)
  rw [tab_at ⟨i, hi⟩] at hc
  exact hc

theorem door_met (os : Os) (args : Array Value) : laidMetH Tryd.prog laid1 ((World.doorLaid Tryd.prog 400 os).forCall (fun _ _ => 0) ⟨#[], args, []⟩).memory :=
  laidMetH_of_parts3 (fuel := 8) (laidMet_of_run' 8 (by kernel_rfl) (by kernel_rfl)) (by kernel_rfl) (by kernel_rfl)

set_option maxRecDepth 100000 in
theorem lifted (os : Os) (started : os.Started) (H : Type) (enc : TypeId × Value → H) :
    ReturnsInHanded {} Tryd.checked os 3 .any (fun w args => (Rows.natMakesSpec.pre enc Tryd.prog Tryd.f3 [] false w args ∧ laidMetH Tryd.prog laid1 w) ∧ sizedMet enc Tryd.prog Tryd.f3 (OpenSpec.ofChange Rows.natMakesSpec) false w args)
      (Rows.natMakesSpec.post enc Tryd.prog Tryd.f3 false true false false) := by
  refine returnsInHanded_of_change_and (C := Tryd.checked) (X := fun w _ => laidMetH Tryd.prog laid1 w) (fun _ _ _ hh h => h.of_heap hh) own started (by kernel_rfl) Tryd.func3
    (ChangeSpec.witness_shaped (enc := enc) (C := Tryd.checked) (os := os) (X := fun w _ => laidMetH Tryd.prog laid1 w) false (World.doorLaid Tryd.prog 400 os) #[.int .u64 0, .agg #[.int .u64 0, .int .u64 0, .int .u64 0, .int .u64 0, .int .u64 0, .int .u64 0], .string ⟨#[]⟩] 8 rfl (World.shaped_of_RefB (by kernel_rfl) (by kernel_rfl)) (by kernel_rfl) (by kernel_rfl) (by kernel_rfl) (door_met os _)) ?_
  intro W base args ds gs before hval0 hW _ _ hL _
  have hval : ∀ (j : Nat) t v, Tryd.f3.params[j]? = some t → args[j]? = some v → Value.okWide Tryd.prog W .any base t v := hval0
  have hW' := hW
  obtain ⟨p, q, hA0, hV, rfl, hfz, hnd⟩ := hW
  have hA : DataW.TrodAll enc Tryd.prog W 0 (fun _ => true) true Tryd.f3.params.toList args.toList ds p := hA0
  rw [Tryd.params3] at hA hval
  obtain ⟨v0, vs0, d0, ds0, p0, q0, hargs, rfl, rfl, k0, r0⟩ := trodAll_cons hA
  obtain ⟨v1, vs1, d1, ds1, p1, q1, rfl, rfl, rfl, k1, r1⟩ := trodAll_cons r0
  obtain ⟨v2, vs2, d2, ds2, p2, q2, rfl, rfl, rfl, k2, r2⟩ := trodAll_cons r1
  obtain ⟨rfl, rfl, rfl⟩ := trodAll_nil r2
  obtain rfl : args = #[v0, v1, v2] := by cases args; simp_all
  obtain ⟨rfl, rfl⟩ := trodVars_none hV
  obtain ⟨a0, rfl, rfl, rfl, h0⟩ := open_int Tryd.underlying22 (hval 0 22 v0 rfl rfl) k0
  obtain ⟨a1, h1, rfl, rfl, rfl⟩ := open_w6 (hval 1 24 v1 rfl rfl) k1
  obtain ⟨a2, rfl, rfl, rfl, h2⟩ := open_string Tryd.underlying25 (hval 2 25 v2 rfl rfl) k2
  clear hA0 hval0
  simp only [List.append_nil] at hW'
  refine (walk a0 a1 a2 h0 h1 h2 W (of_laid hL)).mono fun e W' ⟨he, hg⟩ => ?_
  subst he
  exact ⟨_, rfl, post_plain hW' (fun _ _ _ => trodAll_mk1 (shut_bool Tryd.underlying4 _)) (fun sp => (trodAll_cons_mk (shut_int Tryd.underlying22 h0) (trodAll_cons_mk (shut_w6 a1) (trodAll_cons_mk (shut_string Tryd.underlying25 h2) trodAll_mk0)))) (fun _ => rfl) hg (ok_one (by kernel_rfl) rfl (okWide_bool_mk Tryd.underlying4 _))⟩

theorem over : Rows.NatMakesSaid :=
  OpenClaim.holds_of_wide 3 Tryd.f3 rfl rfl rfl rfl rfl rfl rfl ⟨rfl, rfl, rfl, rfl, rfl⟩ rfl rfl rfl rfl rfl (by kernel_rfl) Tryd.func3 (by kernel_rfl)
    (of_decide_eq_true (by kernel_rfl)) (by unfold Func.isWrapper; first | (rw [if_pos (by decide +kernel)]; kernel_rfl) | (rw [if_neg (by decide +kernel)]; exact ⟨rfl, rfl⟩))
    (fun os started H enc _ => lifted os started H enc)

theorem proved : Rows.NatMakesCardSaid :=
  Claim7.holds_tied_plain_at .later [] [.data] true (true, "1c40fc8a40beec006741a384c406dfd0696f97ebb4397ce5d67425d787dc191f") false
    over (fun _ h => by cases h) (by kernel_rfl) (fun _ h => by cases h) natMakes_row_tie rfl ⟨rfl, rfl⟩ (by kernel_rfl) rfl
    (fun f fn hf hfn => by
      obtain rfl : f = 3 := Option.some.inj ((show Tryd.prog.funcNamed "abacus/abacuslaw05.NatMakes" = some 3 by kernel_rfl).symm.trans hf) |>.symm
      obtain rfl : fn = Tryd.f3 := (Option.some.inj (Tryd.func3.symm.trans hfn)).symm
      exact ⟨by kernel_rfl, fun j t ht => by
        rw [Tryd.params3] at ht
        have h3 : t = 22 ∨ t = 24 ∨ t = 25 := by
          rcases j with _ | _ | _ | j
          · exact (Or.inl (by simpa using ht.symm))
          · exact (Or.inr (Or.inl (by simpa using ht.symm)))
          · exact (Or.inr (Or.inr (by simpa using ht.symm)))
          · simp at ht
        rcases h3 with rfl | rfl | rfl
        · exact (show Tryd.prog.wantsStandIn 22 = false by kernel_rfl)
        · exact (show Tryd.prog.wantsStandIn 24 = false by kernel_rfl)
        · exact (show Tryd.prog.wantsStandIn 25 = false by kernel_rfl)⟩)
    (by kernel_rfl)
#print axioms proved
end Go.Proofs.YtjedplbhhohfmaaDoor.natMakes
