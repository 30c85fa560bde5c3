/-
  What the functions that the statement reaches return: part 17 (R6).
-/
import Derived.Test.YtbmhfcppaajgbaaGreatDoorRf16
namespace Go.Proofs.YtbmhfcppaajgbaaGreatDoor
set_option maxRecDepth 100000
open Go.RowKit WMath
set_option linter.unusedSimpArgs false
set_option linter.unusedVariables false

set_option maxRecDepth 100000 in
set_option maxHeartbeats 4000000 in
theorem ru_round (m st : Int) (neg : Bool) (T La : Int) (ws : ByteArray) (more : Bool) (A1 K e1 e2 e3 e4 : Int) (hs ss us ss' rs : ByteArray) (lost half odd o mo : Bool) (w : World)
    (K1 : Box (∀ w, TabAt w → Calls Tryz.prog 222 #[.string ws, .int .i64 K] w fun r w' => r = .returned (.tuple #[.string hs, .bool lost, .int .i64 e1]) ∧ Below w.heap.size w w'))
    (K2 : Box (∀ w, TabAt w → Calls Tryz.prog 222 #[.string hs, .int .i64 1] w fun r w' => r = .returned (.tuple #[.string ss, .bool half, .int .i64 e2]) ∧ Below w.heap.size w w'))
    (K3 : Box (∀ w, TabAt w → Calls Tryz.prog 222 #[.string ss, .int .i64 1] w fun r w' => r = .returned (.tuple #[.string us, .bool odd, .int .i64 e3]) ∧ Below w.heap.size w w'))
    (KG : Box (∀ w, Calls Tryz.prog 223 #[.int .u8 m, .bool neg, .bool odd, .agg #[.bool half, .bool mo]] w fun r w' => r = .returned (.bool o) ∧ Below w.heap.size w w'))
    (KA : Box (o = true → ∀ w, Calls Tryz.prog 224 #[.string ss, .string ⟨#[1]⟩] w fun r w' => r = .returned (.tuple #[.string ss', .int .i64 e4]) ∧ Below w.heap.size w w'))
    (h1 : IntKind.i64.wrap (st - 1) = A1) (h2 : IntKind.i64.wrap (A1 - La) = K) (hmo : (lost || more) = mo) (hrs : (if o = true then ss' else ss) = rs)
    (hT2 : TabAt w) : Calls Tryz.prog 147 #[.int .u8 m, .agg #[.bool neg, .int .i64 T, .int .i64 La, .string ws, .bool more], .int .i64 st] w fun r w' => r = .returned (.agg #[.string rs, .int .i64 st, .bool half, .bool mo]) ∧ Below w.heap.size w w' := by
  have TT := box hT2
  clear hT2
  cases o
  · rw [if_neg (by decide)] at hrs
    subst hrs
    clear KA
    cases lost
    · obtain rfl : more = mo := hmo
      obtain ⟨Rn_0, Rz_0, B0⟩ := opn2 w (Obj.cells #[.bool neg, .int .i64 T, .int .i64 La, .string ws, .bool more] 106) (Obj.cells #[.string ⟨#[]⟩, .int .i64 0, .bool false, .bool false] 174)
      go_enter Tryz.func147, Tryz.ntmps147
      go_wp2_with fail
      refine (K1.out _ (tabB TT.out B0)).mono ?_
      rintro r w1 ⟨rfl, b1⟩
      have B1 : Below w.heap.size w w1 := btr B0 b1
      have Rn_1 := heap_of b1 _ _ _ Rn_0
      have Rz_1 := heap_of b1 _ _ _ Rz_0
      clear b1 B0 Rn_0 Rz_0
      have cn_1_0 := cells4 Rn_1 0 _ rfl
      have cn_1_1 := cells4 Rn_1 1 _ rfl
      have cn_1_2 := cells4 Rn_1 2 _ rfl
      have cn_1_3 := cells4 Rn_1 3 _ rfl
      have cn_1_4 := cells4 Rn_1 4 _ rfl
      obtain ⟨cz_1_0, cz_1_1, cz_1_2, cz_1_3⟩ := cells4s Rz_1
      go_wp2_with fail
      refine (K2.out _ (tabB TT.out B1)).mono ?_
      rintro r w2 ⟨rfl, b2⟩
      have B2 : Below w.heap.size w w2 := btr B1 b2
      have Rn_2 := heap_of b2 _ _ _ Rn_1
      have Rz_2 := heap_of b2 _ _ _ Rz_1
      clear b2 B1 Rn_1 cn_1_0 cn_1_1 cn_1_2 cn_1_3 cn_1_4 Rz_1 cz_1_0 cz_1_1 cz_1_2 cz_1_3
      have cn_2_0 := cells4 Rn_2 0 _ rfl
      have cn_2_1 := cells4 Rn_2 1 _ rfl
      have cn_2_2 := cells4 Rn_2 2 _ rfl
      have cn_2_3 := cells4 Rn_2 3 _ rfl
      have cn_2_4 := cells4 Rn_2 4 _ rfl
      obtain ⟨cz_2_0, cz_2_1, cz_2_2, cz_2_3⟩ := cells4s Rz_2
      go_wp2_with fail
      have S3 := box B2.size
      have Ln_3 : Box (w.heap.size < w2.heap.size) := box (Array.getElem?_eq_some_iff.1 Rn_2).1
      have Lz_3 : Box (w.heap.size + 1 < w2.heap.size) := box (Array.getElem?_eq_some_iff.1 Rz_2).1
      have Rr_3 := heap_alloc_last w2 (Obj.cells #[.string ss, .int .i64 st, .bool half, .bool more] 174)
      have B3 := btr B2 (bal w2 (Obj.cells #[.string ss, .int .i64 st, .bool half, .bool more] 174))
      have Rn_3 := heap_of (bal w2 (Obj.cells #[.string ss, .int .i64 st, .bool half, .bool more] 174)) _ _ _ Rn_2
      have Rz_3 := heap_of (bal w2 (Obj.cells #[.string ss, .int .i64 st, .bool half, .bool more] 174)) _ _ _ Rz_2
      clear B2 Rn_2 cn_2_0 cn_2_1 cn_2_2 cn_2_3 cn_2_4 Rz_2 cz_2_0 cz_2_1 cz_2_2 cz_2_3
      have cn_3_0 := cells4 Rn_3 0 _ rfl
      have cn_3_1 := cells4 Rn_3 1 _ rfl
      have cn_3_2 := cells4 Rn_3 2 _ rfl
      have cn_3_3 := cells4 Rn_3 3 _ rfl
      have cn_3_4 := cells4 Rn_3 4 _ rfl
      obtain ⟨cz_3_0, cz_3_1, cz_3_2, cz_3_3⟩ := cells4s Rz_3
      obtain ⟨cr_3_0, cr_3_1, cr_3_2, cr_3_3⟩ := cells4s Rr_3
      go_wp2_with fail
      refine (K3.out _ (tabB TT.out B3)).mono ?_
      rintro r w4 ⟨rfl, b4⟩
      have B4 : Below w.heap.size w w4 := btr B3 b4
      have Rn_4 := heap_of b4 _ _ _ Rn_3
      have Rz_4 := heap_of b4 _ _ _ Rz_3
      have Rr_4 := heap_of b4 _ _ _ Rr_3
      clear b4 B3 Rn_3 cn_3_0 cn_3_1 cn_3_2 cn_3_3 cn_3_4 Rz_3 cz_3_0 cz_3_1 cz_3_2 cz_3_3 Rr_3 cr_3_0 cr_3_1 cr_3_2 cr_3_3
      have cn_4_0 := cells4 Rn_4 0 _ rfl
      have cn_4_1 := cells4 Rn_4 1 _ rfl
      have cn_4_2 := cells4 Rn_4 2 _ rfl
      have cn_4_3 := cells4 Rn_4 3 _ rfl
      have cn_4_4 := cells4 Rn_4 4 _ rfl
      obtain ⟨cz_4_0, cz_4_1, cz_4_2, cz_4_3⟩ := cells4s Rz_4
      obtain ⟨cr_4_0, cr_4_1, cr_4_2, cr_4_3⟩ := cells4s Rr_4
      go_wp2_with fail
      refine (KG.out _).mono ?_
      rintro r w5 ⟨rfl, b5⟩
      have B5 : Below w.heap.size w w5 := btr B4 b5
      have Rn_5 := heap_of b5 _ _ _ Rn_4
      have Rz_5 := heap_of b5 _ _ _ Rz_4
      have Rr_5 := heap_of b5 _ _ _ Rr_4
      clear b5 B4 Rn_4 cn_4_0 cn_4_1 cn_4_2 cn_4_3 cn_4_4 Rz_4 cz_4_0 cz_4_1 cz_4_2 cz_4_3 Rr_4 cr_4_0 cr_4_1 cr_4_2 cr_4_3
      have cn_5_0 := cells4 Rn_5 0 _ rfl
      have cn_5_1 := cells4 Rn_5 1 _ rfl
      have cn_5_2 := cells4 Rn_5 2 _ rfl
      have cn_5_3 := cells4 Rn_5 3 _ rfl
      have cn_5_4 := cells4 Rn_5 4 _ rfl
      obtain ⟨cz_5_0, cz_5_1, cz_5_2, cz_5_3⟩ := cells4s Rz_5
      obtain ⟨cr_5_0, cr_5_1, cr_5_2, cr_5_3⟩ := cells4s Rr_5
      have q0 := fz (k := 0) Rz_5
      have q1 := fz (k := 1) Rz_5
      have q2 := fz (k := 2) Rz_5
      have q3 := fz (k := 3) Rz_5
      obtain ⟨E0, E1, E2, E3⟩ := set4_cells Rz_5 rfl (.string ss) (.int .i64 st) (.bool half) (.bool more)
      go_wp2
      exact bodyPost_ret (v := .agg #[.string ss, .int .i64 st, .bool half, .bool more]) (by simp [results, Tryz.results147, go_sem, E0, E1, E2, E3]) rfl ⟨rfl, set4_below B5 (by first | exact Nat.le_refl _ | omega | (have := S3.out; have := Ln_3.out; have := Lz_3.out; omega)) _ _ _ _⟩
    · obtain rfl : true = mo := hmo
      obtain ⟨Rn_0, Rz_0, B0⟩ := opn2 w (Obj.cells #[.bool neg, .int .i64 T, .int .i64 La, .string ws, .bool more] 106) (Obj.cells #[.string ⟨#[]⟩, .int .i64 0, .bool false, .bool false] 174)
      go_enter Tryz.func147, Tryz.ntmps147
      go_wp2_with fail
      refine (K1.out _ (tabB TT.out B0)).mono ?_
      rintro r w1 ⟨rfl, b1⟩
      have B1 : Below w.heap.size w w1 := btr B0 b1
      have Rn_1 := heap_of b1 _ _ _ Rn_0
      have Rz_1 := heap_of b1 _ _ _ Rz_0
      clear b1 B0 Rn_0 Rz_0
      have cn_1_0 := cells4 Rn_1 0 _ rfl
      have cn_1_1 := cells4 Rn_1 1 _ rfl
      have cn_1_2 := cells4 Rn_1 2 _ rfl
      have cn_1_3 := cells4 Rn_1 3 _ rfl
      have cn_1_4 := cells4 Rn_1 4 _ rfl
      obtain ⟨cz_1_0, cz_1_1, cz_1_2, cz_1_3⟩ := cells4s Rz_1
      go_wp2_with fail
      refine (K2.out _ (tabB TT.out B1)).mono ?_
      rintro r w2 ⟨rfl, b2⟩
      have B2 : Below w.heap.size w w2 := btr B1 b2
      have Rn_2 := heap_of b2 _ _ _ Rn_1
      have Rz_2 := heap_of b2 _ _ _ Rz_1
      clear b2 B1 Rn_1 cn_1_0 cn_1_1 cn_1_2 cn_1_3 cn_1_4 Rz_1 cz_1_0 cz_1_1 cz_1_2 cz_1_3
      have cn_2_0 := cells4 Rn_2 0 _ rfl
      have cn_2_1 := cells4 Rn_2 1 _ rfl
      have cn_2_2 := cells4 Rn_2 2 _ rfl
      have cn_2_3 := cells4 Rn_2 3 _ rfl
      have cn_2_4 := cells4 Rn_2 4 _ rfl
      obtain ⟨cz_2_0, cz_2_1, cz_2_2, cz_2_3⟩ := cells4s Rz_2
      have S3 := box B2.size
      have Ln_3 : Box (w.heap.size < w2.heap.size) := box (Array.getElem?_eq_some_iff.1 Rn_2).1
      have Lz_3 : Box (w.heap.size + 1 < w2.heap.size) := box (Array.getElem?_eq_some_iff.1 Rz_2).1
      have Rr_3 := heap_alloc_last w2 (Obj.cells #[.string ss, .int .i64 st, .bool half, .bool true] 174)
      have B3 := btr B2 (bal w2 (Obj.cells #[.string ss, .int .i64 st, .bool half, .bool true] 174))
      have Rn_3 := heap_of (bal w2 (Obj.cells #[.string ss, .int .i64 st, .bool half, .bool true] 174)) _ _ _ Rn_2
      have Rz_3 := heap_of (bal w2 (Obj.cells #[.string ss, .int .i64 st, .bool half, .bool true] 174)) _ _ _ Rz_2
      clear B2 Rn_2 cn_2_0 cn_2_1 cn_2_2 cn_2_3 cn_2_4 Rz_2 cz_2_0 cz_2_1 cz_2_2 cz_2_3
      have cn_3_0 := cells4 Rn_3 0 _ rfl
      have cn_3_1 := cells4 Rn_3 1 _ rfl
      have cn_3_2 := cells4 Rn_3 2 _ rfl
      have cn_3_3 := cells4 Rn_3 3 _ rfl
      have cn_3_4 := cells4 Rn_3 4 _ rfl
      obtain ⟨cz_3_0, cz_3_1, cz_3_2, cz_3_3⟩ := cells4s Rz_3
      obtain ⟨cr_3_0, cr_3_1, cr_3_2, cr_3_3⟩ := cells4s Rr_3
      go_wp2_with fail
      refine (K3.out _ (tabB TT.out B3)).mono ?_
      rintro r w4 ⟨rfl, b4⟩
      have B4 : Below w.heap.size w w4 := btr B3 b4
      have Rn_4 := heap_of b4 _ _ _ Rn_3
      have Rz_4 := heap_of b4 _ _ _ Rz_3
      have Rr_4 := heap_of b4 _ _ _ Rr_3
      clear b4 B3 Rn_3 cn_3_0 cn_3_1 cn_3_2 cn_3_3 cn_3_4 Rz_3 cz_3_0 cz_3_1 cz_3_2 cz_3_3 Rr_3 cr_3_0 cr_3_1 cr_3_2 cr_3_3
      have cn_4_0 := cells4 Rn_4 0 _ rfl
      have cn_4_1 := cells4 Rn_4 1 _ rfl
      have cn_4_2 := cells4 Rn_4 2 _ rfl
      have cn_4_3 := cells4 Rn_4 3 _ rfl
      have cn_4_4 := cells4 Rn_4 4 _ rfl
      obtain ⟨cz_4_0, cz_4_1, cz_4_2, cz_4_3⟩ := cells4s Rz_4
      obtain ⟨cr_4_0, cr_4_1, cr_4_2, cr_4_3⟩ := cells4s Rr_4
      go_wp2_with fail
      refine (KG.out _).mono ?_
      rintro r w5 ⟨rfl, b5⟩
      have B5 : Below w.heap.size w w5 := btr B4 b5
      have Rn_5 := heap_of b5 _ _ _ Rn_4
      have Rz_5 := heap_of b5 _ _ _ Rz_4
      have Rr_5 := heap_of b5 _ _ _ Rr_4
      clear b5 B4 Rn_4 cn_4_0 cn_4_1 cn_4_2 cn_4_3 cn_4_4 Rz_4 cz_4_0 cz_4_1 cz_4_2 cz_4_3 Rr_4 cr_4_0 cr_4_1 cr_4_2 cr_4_3
      have cn_5_0 := cells4 Rn_5 0 _ rfl
      have cn_5_1 := cells4 Rn_5 1 _ rfl
      have cn_5_2 := cells4 Rn_5 2 _ rfl
      have cn_5_3 := cells4 Rn_5 3 _ rfl
      have cn_5_4 := cells4 Rn_5 4 _ rfl
      obtain ⟨cz_5_0, cz_5_1, cz_5_2, cz_5_3⟩ := cells4s Rz_5
      obtain ⟨cr_5_0, cr_5_1, cr_5_2, cr_5_3⟩ := cells4s Rr_5
      have q0 := fz (k := 0) Rz_5
      have q1 := fz (k := 1) Rz_5
      have q2 := fz (k := 2) Rz_5
      have q3 := fz (k := 3) Rz_5
      obtain ⟨E0, E1, E2, E3⟩ := set4_cells Rz_5 rfl (.string ss) (.int .i64 st) (.bool half) (.bool true)
      go_wp2
      exact bodyPost_ret (v := .agg #[.string ss, .int .i64 st, .bool half, .bool true]) (by simp [results, Tryz.results147, go_sem, E0, E1, E2, E3]) rfl ⟨rfl, set4_below B5 (by first | exact Nat.le_refl _ | omega | (have := S3.out; have := Ln_3.out; have := Lz_3.out; omega)) _ _ _ _⟩
  · rw [if_pos rfl] at hrs
    subst hrs
    have K5 := box (KA.out rfl)
    clear KA
    cases lost
    · obtain rfl : more = mo := hmo
      obtain ⟨Rn_0, Rz_0, B0⟩ := opn2 w (Obj.cells #[.bool neg, .int .i64 T, .int .i64 La, .string ws, .bool more] 106) (Obj.cells #[.string ⟨#[]⟩, .int .i64 0, .bool false, .bool false] 174)
      go_enter Tryz.func147, Tryz.ntmps147
      go_wp2_with fail
      refine (K1.out _ (tabB TT.out B0)).mono ?_
      rintro r w1 ⟨rfl, b1⟩
      have B1 : Below w.heap.size w w1 := btr B0 b1
      have Rn_1 := heap_of b1 _ _ _ Rn_0
      have Rz_1 := heap_of b1 _ _ _ Rz_0
      clear b1 B0 Rn_0 Rz_0
      have cn_1_0 := cells4 Rn_1 0 _ rfl
      have cn_1_1 := cells4 Rn_1 1 _ rfl
      have cn_1_2 := cells4 Rn_1 2 _ rfl
      have cn_1_3 := cells4 Rn_1 3 _ rfl
      have cn_1_4 := cells4 Rn_1 4 _ rfl
      obtain ⟨cz_1_0, cz_1_1, cz_1_2, cz_1_3⟩ := cells4s Rz_1
      go_wp2_with fail
      refine (K2.out _ (tabB TT.out B1)).mono ?_
      rintro r w2 ⟨rfl, b2⟩
      have B2 : Below w.heap.size w w2 := btr B1 b2
      have Rn_2 := heap_of b2 _ _ _ Rn_1
      have Rz_2 := heap_of b2 _ _ _ Rz_1
      clear b2 B1 Rn_1 cn_1_0 cn_1_1 cn_1_2 cn_1_3 cn_1_4 Rz_1 cz_1_0 cz_1_1 cz_1_2 cz_1_3
      have cn_2_0 := cells4 Rn_2 0 _ rfl
      have cn_2_1 := cells4 Rn_2 1 _ rfl
      have cn_2_2 := cells4 Rn_2 2 _ rfl
      have cn_2_3 := cells4 Rn_2 3 _ rfl
      have cn_2_4 := cells4 Rn_2 4 _ rfl
      obtain ⟨cz_2_0, cz_2_1, cz_2_2, cz_2_3⟩ := cells4s Rz_2
      go_wp2_with fail
      have S3 := box B2.size
      have Ln_3 : Box (w.heap.size < w2.heap.size) := box (Array.getElem?_eq_some_iff.1 Rn_2).1
      have Lz_3 : Box (w.heap.size + 1 < w2.heap.size) := box (Array.getElem?_eq_some_iff.1 Rz_2).1
      have Rr_3 := heap_alloc_last w2 (Obj.cells #[.string ss, .int .i64 st, .bool half, .bool more] 174)
      have B3 := btr B2 (bal w2 (Obj.cells #[.string ss, .int .i64 st, .bool half, .bool more] 174))
      have Rn_3 := heap_of (bal w2 (Obj.cells #[.string ss, .int .i64 st, .bool half, .bool more] 174)) _ _ _ Rn_2
      have Rz_3 := heap_of (bal w2 (Obj.cells #[.string ss, .int .i64 st, .bool half, .bool more] 174)) _ _ _ Rz_2
      clear B2 Rn_2 cn_2_0 cn_2_1 cn_2_2 cn_2_3 cn_2_4 Rz_2 cz_2_0 cz_2_1 cz_2_2 cz_2_3
      have cn_3_0 := cells4 Rn_3 0 _ rfl
      have cn_3_1 := cells4 Rn_3 1 _ rfl
      have cn_3_2 := cells4 Rn_3 2 _ rfl
      have cn_3_3 := cells4 Rn_3 3 _ rfl
      have cn_3_4 := cells4 Rn_3 4 _ rfl
      obtain ⟨cz_3_0, cz_3_1, cz_3_2, cz_3_3⟩ := cells4s Rz_3
      obtain ⟨cr_3_0, cr_3_1, cr_3_2, cr_3_3⟩ := cells4s Rr_3
      go_wp2_with fail
      refine (K3.out _ (tabB TT.out B3)).mono ?_
      rintro r w4 ⟨rfl, b4⟩
      have B4 : Below w.heap.size w w4 := btr B3 b4
      have Rn_4 := heap_of b4 _ _ _ Rn_3
      have Rz_4 := heap_of b4 _ _ _ Rz_3
      have Rr_4 := heap_of b4 _ _ _ Rr_3
      clear b4 B3 Rn_3 cn_3_0 cn_3_1 cn_3_2 cn_3_3 cn_3_4 Rz_3 cz_3_0 cz_3_1 cz_3_2 cz_3_3 Rr_3 cr_3_0 cr_3_1 cr_3_2 cr_3_3
      have cn_4_0 := cells4 Rn_4 0 _ rfl
      have cn_4_1 := cells4 Rn_4 1 _ rfl
      have cn_4_2 := cells4 Rn_4 2 _ rfl
      have cn_4_3 := cells4 Rn_4 3 _ rfl
      have cn_4_4 := cells4 Rn_4 4 _ rfl
      obtain ⟨cz_4_0, cz_4_1, cz_4_2, cz_4_3⟩ := cells4s Rz_4
      obtain ⟨cr_4_0, cr_4_1, cr_4_2, cr_4_3⟩ := cells4s Rr_4
      go_wp2_with fail
      refine (KG.out _).mono ?_
      rintro r w5 ⟨rfl, b5⟩
      have B5 : Below w.heap.size w w5 := btr B4 b5
      have Rn_5 := heap_of b5 _ _ _ Rn_4
      have Rz_5 := heap_of b5 _ _ _ Rz_4
      have Rr_5 := heap_of b5 _ _ _ Rr_4
      clear b5 B4 Rn_4 cn_4_0 cn_4_1 cn_4_2 cn_4_3 cn_4_4 Rz_4 cz_4_0 cz_4_1 cz_4_2 cz_4_3 Rr_4 cr_4_0 cr_4_1 cr_4_2 cr_4_3
      have cn_5_0 := cells4 Rn_5 0 _ rfl
      have cn_5_1 := cells4 Rn_5 1 _ rfl
      have cn_5_2 := cells4 Rn_5 2 _ rfl
      have cn_5_3 := cells4 Rn_5 3 _ rfl
      have cn_5_4 := cells4 Rn_5 4 _ rfl
      obtain ⟨cz_5_0, cz_5_1, cz_5_2, cz_5_3⟩ := cells4s Rz_5
      obtain ⟨cr_5_0, cr_5_1, cr_5_2, cr_5_3⟩ := cells4s Rr_5
      go_wp2_with fail
      refine (K5.out _).mono ?_
      rintro r w6 ⟨rfl, b6⟩
      have B6 : Below w.heap.size w w6 := btr B5 b6
      have Rn_6 := heap_of b6 _ _ _ Rn_5
      have Rz_6 := heap_of b6 _ _ _ Rz_5
      have Rr_6 := heap_of b6 _ _ _ Rr_5
      clear b6 B5 Rn_5 cn_5_0 cn_5_1 cn_5_2 cn_5_3 cn_5_4 Rz_5 cz_5_0 cz_5_1 cz_5_2 cz_5_3 Rr_5 cr_5_0 cr_5_1 cr_5_2 cr_5_3
      have cn_6_0 := cells4 Rn_6 0 _ rfl
      have cn_6_1 := cells4 Rn_6 1 _ rfl
      have cn_6_2 := cells4 Rn_6 2 _ rfl
      have cn_6_3 := cells4 Rn_6 3 _ rfl
      have cn_6_4 := cells4 Rn_6 4 _ rfl
      obtain ⟨cz_6_0, cz_6_1, cz_6_2, cz_6_3⟩ := cells4s Rz_6
      obtain ⟨cr_6_0, cr_6_1, cr_6_2, cr_6_3⟩ := cells4s Rr_6
      have qr_6 := fz (k := 0) Rr_6
      have B7 : Below w.heap.size w (w6.setCell ⟨w2.heap.size, 0, none⟩ (.string ss')) := B6.setCell (by first | exact Nat.le_refl _ | (have := S3.out; have := Ln_3.out; have := Lz_3.out; show w.heap.size ≤ w2.heap.size; omega)) _
      have Rr_7 : (w6.setCell ⟨w2.heap.size, 0, none⟩ (.string ss')).heap[w2.heap.size]? = some (Obj.cells #[.string ss', .int .i64 st, .bool half, .bool more] 174) := by rw [setCell_row Rr_6]; rfl
      have Rn_7 : (w6.setCell ⟨w2.heap.size, 0, none⟩ (.string ss')).heap[w.heap.size]? = some (Obj.cells #[.bool neg, .int .i64 T, .int .i64 La, .string ws, .bool more] 106) := by rw [setCell_other (by first | omega | (have := S3.out; have := Ln_3.out; have := Lz_3.out; omega))]; exact Rn_6
      have Rz_7 : (w6.setCell ⟨w2.heap.size, 0, none⟩ (.string ss')).heap[w.heap.size + 1]? = some (Obj.cells #[.string ⟨#[]⟩, .int .i64 0, .bool false, .bool false] 174) := by rw [setCell_other (by first | omega | (have := S3.out; have := Ln_3.out; have := Lz_3.out; omega))]; exact Rz_6
      have cn_7_0 := cells4 Rn_7 0 _ rfl
      have cn_7_1 := cells4 Rn_7 1 _ rfl
      have cn_7_2 := cells4 Rn_7 2 _ rfl
      have cn_7_3 := cells4 Rn_7 3 _ rfl
      have cn_7_4 := cells4 Rn_7 4 _ rfl
      obtain ⟨cz_7_0, cz_7_1, cz_7_2, cz_7_3⟩ := cells4s Rz_7
      obtain ⟨cr_7_0, cr_7_1, cr_7_2, cr_7_3⟩ := cells4s Rr_7
      have q0 := fz (k := 0) Rz_7
      have q1 := fz (k := 1) Rz_7
      have q2 := fz (k := 2) Rz_7
      have q3 := fz (k := 3) Rz_7
      obtain ⟨E0, E1, E2, E3⟩ := set4_cells Rz_7 rfl (.string ss') (.int .i64 st) (.bool half) (.bool more)
      go_wp2
      exact bodyPost_ret (v := .agg #[.string ss', .int .i64 st, .bool half, .bool more]) (by simp [results, Tryz.results147, go_sem, E0, E1, E2, E3]) rfl ⟨rfl, set4_below B7 (by first | exact Nat.le_refl _ | omega | (have := S3.out; have := Ln_3.out; have := Lz_3.out; omega)) _ _ _ _⟩
    · obtain rfl : true = mo := hmo
      obtain ⟨Rn_0, Rz_0, B0⟩ := opn2 w (Obj.cells #[.bool neg, .int .i64 T, .int .i64 La, .string ws, .bool more] 106) (Obj.cells #[.string ⟨#[]⟩, .int .i64 0, .bool false, .bool false] 174)
      go_enter Tryz.func147, Tryz.ntmps147
      go_wp2_with fail
      refine (K1.out _ (tabB TT.out B0)).mono ?_
      rintro r w1 ⟨rfl, b1⟩
      have B1 : Below w.heap.size w w1 := btr B0 b1
      have Rn_1 := heap_of b1 _ _ _ Rn_0
      have Rz_1 := heap_of b1 _ _ _ Rz_0
      clear b1 B0 Rn_0 Rz_0
      have cn_1_0 := cells4 Rn_1 0 _ rfl
      have cn_1_1 := cells4 Rn_1 1 _ rfl
      have cn_1_2 := cells4 Rn_1 2 _ rfl
      have cn_1_3 := cells4 Rn_1 3 _ rfl
      have cn_1_4 := cells4 Rn_1 4 _ rfl
      obtain ⟨cz_1_0, cz_1_1, cz_1_2, cz_1_3⟩ := cells4s Rz_1
      go_wp2_with fail
      refine (K2.out _ (tabB TT.out B1)).mono ?_
      rintro r w2 ⟨rfl, b2⟩
      have B2 : Below w.heap.size w w2 := btr B1 b2
      have Rn_2 := heap_of b2 _ _ _ Rn_1
      have Rz_2 := heap_of b2 _ _ _ Rz_1
      clear b2 B1 Rn_1 cn_1_0 cn_1_1 cn_1_2 cn_1_3 cn_1_4 Rz_1 cz_1_0 cz_1_1 cz_1_2 cz_1_3
      have cn_2_0 := cells4 Rn_2 0 _ rfl
      have cn_2_1 := cells4 Rn_2 1 _ rfl
      have cn_2_2 := cells4 Rn_2 2 _ rfl
      have cn_2_3 := cells4 Rn_2 3 _ rfl
      have cn_2_4 := cells4 Rn_2 4 _ rfl
      obtain ⟨cz_2_0, cz_2_1, cz_2_2, cz_2_3⟩ := cells4s Rz_2
      have S3 := box B2.size
      have Ln_3 : Box (w.heap.size < w2.heap.size) := box (Array.getElem?_eq_some_iff.1 Rn_2).1
      have Lz_3 : Box (w.heap.size + 1 < w2.heap.size) := box (Array.getElem?_eq_some_iff.1 Rz_2).1
      have Rr_3 := heap_alloc_last w2 (Obj.cells #[.string ss, .int .i64 st, .bool half, .bool true] 174)
      have B3 := btr B2 (bal w2 (Obj.cells #[.string ss, .int .i64 st, .bool half, .bool true] 174))
      have Rn_3 := heap_of (bal w2 (Obj.cells #[.string ss, .int .i64 st, .bool half, .bool true] 174)) _ _ _ Rn_2
      have Rz_3 := heap_of (bal w2 (Obj.cells #[.string ss, .int .i64 st, .bool half, .bool true] 174)) _ _ _ Rz_2
      clear B2 Rn_2 cn_2_0 cn_2_1 cn_2_2 cn_2_3 cn_2_4 Rz_2 cz_2_0 cz_2_1 cz_2_2 cz_2_3
      have cn_3_0 := cells4 Rn_3 0 _ rfl
      have cn_3_1 := cells4 Rn_3 1 _ rfl
      have cn_3_2 := cells4 Rn_3 2 _ rfl
      have cn_3_3 := cells4 Rn_3 3 _ rfl
      have cn_3_4 := cells4 Rn_3 4 _ rfl
      obtain ⟨cz_3_0, cz_3_1, cz_3_2, cz_3_3⟩ := cells4s Rz_3
      obtain ⟨cr_3_0, cr_3_1, cr_3_2, cr_3_3⟩ := cells4s Rr_3
      go_wp2_with fail
      refine (K3.out _ (tabB TT.out B3)).mono ?_
      rintro r w4 ⟨rfl, b4⟩
      have B4 : Below w.heap.size w w4 := btr B3 b4
      have Rn_4 := heap_of b4 _ _ _ Rn_3
      have Rz_4 := heap_of b4 _ _ _ Rz_3
      have Rr_4 := heap_of b4 _ _ _ Rr_3
      clear b4 B3 Rn_3 cn_3_0 cn_3_1 cn_3_2 cn_3_3 cn_3_4 Rz_3 cz_3_0 cz_3_1 cz_3_2 cz_3_3 Rr_3 cr_3_0 cr_3_1 cr_3_2 cr_3_3
      have cn_4_0 := cells4 Rn_4 0 _ rfl
      have cn_4_1 := cells4 Rn_4 1 _ rfl
      have cn_4_2 := cells4 Rn_4 2 _ rfl
      have cn_4_3 := cells4 Rn_4 3 _ rfl
      have cn_4_4 := cells4 Rn_4 4 _ rfl
      obtain ⟨cz_4_0, cz_4_1, cz_4_2, cz_4_3⟩ := cells4s Rz_4
      obtain ⟨cr_4_0, cr_4_1, cr_4_2, cr_4_3⟩ := cells4s Rr_4
      go_wp2_with fail
      refine (KG.out _).mono ?_
      rintro r w5 ⟨rfl, b5⟩
      have B5 : Below w.heap.size w w5 := btr B4 b5
      have Rn_5 := heap_of b5 _ _ _ Rn_4
      have Rz_5 := heap_of b5 _ _ _ Rz_4
      have Rr_5 := heap_of b5 _ _ _ Rr_4
      clear b5 B4 Rn_4 cn_4_0 cn_4_1 cn_4_2 cn_4_3 cn_4_4 Rz_4 cz_4_0 cz_4_1 cz_4_2 cz_4_3 Rr_4 cr_4_0 cr_4_1 cr_4_2 cr_4_3
      have cn_5_0 := cells4 Rn_5 0 _ rfl
      have cn_5_1 := cells4 Rn_5 1 _ rfl
      have cn_5_2 := cells4 Rn_5 2 _ rfl
      have cn_5_3 := cells4 Rn_5 3 _ rfl
      have cn_5_4 := cells4 Rn_5 4 _ rfl
      obtain ⟨cz_5_0, cz_5_1, cz_5_2, cz_5_3⟩ := cells4s Rz_5
      obtain ⟨cr_5_0, cr_5_1, cr_5_2, cr_5_3⟩ := cells4s Rr_5
      go_wp2_with fail
      refine (K5.out _).mono ?_
      rintro r w6 ⟨rfl, b6⟩
      have B6 : Below w.heap.size w w6 := btr B5 b6
      have Rn_6 := heap_of b6 _ _ _ Rn_5
      have Rz_6 := heap_of b6 _ _ _ Rz_5
      have Rr_6 := heap_of b6 _ _ _ Rr_5
      clear b6 B5 Rn_5 cn_5_0 cn_5_1 cn_5_2 cn_5_3 cn_5_4 Rz_5 cz_5_0 cz_5_1 cz_5_2 cz_5_3 Rr_5 cr_5_0 cr_5_1 cr_5_2 cr_5_3
      have cn_6_0 := cells4 Rn_6 0 _ rfl
      have cn_6_1 := cells4 Rn_6 1 _ rfl
      have cn_6_2 := cells4 Rn_6 2 _ rfl
      have cn_6_3 := cells4 Rn_6 3 _ rfl
      have cn_6_4 := cells4 Rn_6 4 _ rfl
      obtain ⟨cz_6_0, cz_6_1, cz_6_2, cz_6_3⟩ := cells4s Rz_6
      obtain ⟨cr_6_0, cr_6_1, cr_6_2, cr_6_3⟩ := cells4s Rr_6
      have qr_6 := fz (k := 0) Rr_6
      have B7 : Below w.heap.size w (w6.setCell ⟨w2.heap.size, 0, none⟩ (.string ss')) := B6.setCell (by first | exact Nat.le_refl _ | (have := S3.out; have := Ln_3.out; have := Lz_3.out; show w.heap.size ≤ w2.heap.size; omega)) _
      have Rr_7 : (w6.setCell ⟨w2.heap.size, 0, none⟩ (.string ss')).heap[w2.heap.size]? = some (Obj.cells #[.string ss', .int .i64 st, .bool half, .bool true] 174) := by rw [setCell_row Rr_6]; rfl
      have Rn_7 : (w6.setCell ⟨w2.heap.size, 0, none⟩ (.string ss')).heap[w.heap.size]? = some (Obj.cells #[.bool neg, .int .i64 T, .int .i64 La, .string ws, .bool more] 106) := by rw [setCell_other (by first | omega | (have := S3.out; have := Ln_3.out; have := Lz_3.out; omega))]; exact Rn_6
      have Rz_7 : (w6.setCell ⟨w2.heap.size, 0, none⟩ (.string ss')).heap[w.heap.size + 1]? = some (Obj.cells #[.string ⟨#[]⟩, .int .i64 0, .bool false, .bool false] 174) := by rw [setCell_other (by first | omega | (have := S3.out; have := Ln_3.out; have := Lz_3.out; omega))]; exact Rz_6
      have cn_7_0 := cells4 Rn_7 0 _ rfl
      have cn_7_1 := cells4 Rn_7 1 _ rfl
      have cn_7_2 := cells4 Rn_7 2 _ rfl
      have cn_7_3 := cells4 Rn_7 3 _ rfl
      have cn_7_4 := cells4 Rn_7 4 _ rfl
      obtain ⟨cz_7_0, cz_7_1, cz_7_2, cz_7_3⟩ := cells4s Rz_7
      obtain ⟨cr_7_0, cr_7_1, cr_7_2, cr_7_3⟩ := cells4s Rr_7
      have q0 := fz (k := 0) Rz_7
      have q1 := fz (k := 1) Rz_7
      have q2 := fz (k := 2) Rz_7
      have q3 := fz (k := 3) Rz_7
      obtain ⟨E0, E1, E2, E3⟩ := set4_cells Rz_7 rfl (.string ss') (.int .i64 st) (.bool half) (.bool true)
      go_wp2
      exact bodyPost_ret (v := .agg #[.string ss', .int .i64 st, .bool half, .bool true]) (by simp [results, Tryz.results147, go_sem, E0, E1, E2, E3]) rfl ⟨rfl, set4_below B7 (by first | exact Nat.le_refl _ | omega | (have := S3.out; have := Ln_3.out; have := Lz_3.out; omega)) _ _ _ _⟩
end Go.Proofs.YtbmhfcppaajgbaaGreatDoor
