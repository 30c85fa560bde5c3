/-
  What the functions that the statement reaches return: part 18 (R7).
-/
import Derived.Test.YtbmhfcppaajgbaaGreatDoorRf17
namespace Go.Proofs.YtbmhfcppaajgbaaGreatDoor
set_option maxRecDepth 100000
open Go.RowKit WMath
set_option linter.unusedSimpArgs false
set_option linter.unusedVariables false
theorem gen_rule_delivered_8 {X : Act → World → Prop} {R : World → Nat → Prop} {t0 t1 t2 t3 t4 t5 t6 t7 t9 t10 t11 t12 t13 t14 t15 t16 t17 t18 t19 t20 t21 t22 t23 t24 t25 t26 t27 t28 t29 t30 t31 t32 t33 t34 t35 t36 t37 t38 t39 t40 t41 t42 t43 t44 t45 t46 t47 t48 t49 t50 t51 t52 t53 t54 : Value} {d : List Deferred} {W : World} {G : Nat}
    (key : ∀ w5 g, R w5 g → X ⟨#[t0, t1, t2, t3, t4, t5, t6, t7, .pointer (some ⟨g, 0, none⟩), t9, t10, t11, t12, t13, t14, t15, t16, t17, t18, t19, t20, t21, t22, t23, t24, t25, t26, t27, t28, t29, t30, t31, t32, t33, t34, t35, t36, t37, t38, t39, t40, t41, t42, t43, t44, t45, t46, t47, t48, t49, t50, t51, t52, t53, t54], d⟩ w5) (r : R W G) : X ⟨#[t0, t1, t2, t3, t4, t5, t6, t7, .pointer (some ⟨G, 0, none⟩), t9, t10, t11, t12, t13, t14, t15, t16, t17, t18, t19, t20, t21, t22, t23, t24, t25, t26, t27, t28, t29, t30, t31, t32, t33, t34, t35, t36, t37, t38, t39, t40, t41, t42, t43, t44, t45, t46, t47, t48, t49, t50, t51, t52, t53, t54], d⟩ W := key W G r

set_option maxRecDepth 100000 in
set_option maxHeartbeats 16000000 in
theorem ru_delivered (f m : Int) (neg : Bool) (T La : Int) (ws : ByteArray) (more : Bool) (I st rt E fl : Int) (rs : ByteArray) (half mo ov o : Bool) (u v : Nat) (w : World)
    (KI : Box (∀ w, FAt w → Calls Tryz.prog 98 #[.int .u8 f] w fun r w' => r = .returned (.int .i64 I) ∧ Below w.heap.size w w'))
    (KS : Box (∀ w, FAt w → Calls Tryz.prog 148 #[.int .u8 f, .int .i64 (max T I)] w fun r w' => r = .returned (.int .i64 st) ∧ Below w.heap.size w w'))
    (KR : Box (∀ w, TabAt w → Calls Tryz.prog 147 #[.int .u8 m, .agg #[.bool neg, .int .i64 T, .int .i64 La, .string ws, .bool more], .int .i64 st] w fun r w' => r = .returned (.agg #[.string rs, .int .i64 st, .bool half, .bool mo]) ∧ Below w.heap.size w w'))
    (KT : Box (∀ w, Calls Tryz.prog 149 #[.agg #[.string rs, .int .i64 st, .bool half, .bool mo]] w fun r w' => r = .returned (.int .i64 rt) ∧ Below w.heap.size w w'))
    (KE : Box (∀ w, FAt w → Calls Tryz.prog 99 #[.int .u8 f] w fun r w' => r = .returned (.int .i64 E) ∧ Below w.heap.size w w'))
    (KB : Box (ov = true → ∀ w, FAt w → Calls Tryz.prog 150 #[.int .u8 f, .int .u8 m, .bool neg] w fun r w' => r = .returned (.agg #[.int .u64 (u : Nat), .int .u64 (v : Nat)]) ∧ Below w.heap.size w w'))
    (KD : Box (ov = false → ∀ w, FAt w → TabAt w → Calls Tryz.prog 151 #[.int .u8 f, .bool neg, .agg #[.string rs, .int .i64 st, .bool half, .bool mo]] w fun r w' => r = .returned (.agg #[.int .u64 (u : Nat), .int .u64 (v : Nat)]) ∧ Below w.heap.size w w'))
    (KN : Box (∀ w, FAt w → TabAt w → Calls Tryz.prog 72 #[.int .u8 f, .int .u8 m, .agg #[.bool neg, .int .i64 T, .int .i64 La, .string ws, .bool more]] w fun r w' => r = .returned (.bool o) ∧ Below w.heap.size w w'))
    (ho : decide (E < rt) = ov) (hfl : (if ov = true then (5 : Int) else if (half || mo) = true then (if o = true then 3 else 1) else 0) = fl)
    (hT : FAt w) (hT2 : TabAt w) : Calls Tryz.prog 66 #[.int .u8 f, .int .u8 m, .agg #[.bool neg, .int .i64 T, .int .i64 La, .string ws, .bool more]] w fun r w' => r = .returned (.tuple #[.agg #[.int .u64 (u : Nat), .int .u64 (v : Nat)], .int .u8 fl]) ∧ Below w.heap.size w w' := by
  have FF := box hT
  have TT := box hT2
  have HFL := box hfl
  clear hT hT2 hfl
  obtain ⟨Rn_0, Rz_0, B0⟩ := opn2 w (Obj.cells #[.bool neg, .int .i64 T, .int .i64 La, .string ws, .bool more] 106) (Obj.cells #[.int .u64 0, .int .u64 0] 25)
  go_enter Tryz.func66, Tryz.ntmps66
  have sS : Box (∀ W W1 : World, (Below w.heap.size w W ∧ W.heap[w.heap.size]? = some (Obj.cells #[.bool neg, .int .i64 T, .int .i64 La, .string ws, .bool more] 106) ∧ W.heap[w.heap.size + 1]? = some (Obj.cells #[.int .u64 0, .int .u64 0] 25) ∧ W.cell? ⟨w.heap.size, 0, none⟩ = some (.bool neg) ∧ W.cell? ⟨w.heap.size, 1, none⟩ = some (.int .i64 T) ∧ W.cell? ⟨w.heap.size, 2, none⟩ = some (.int .i64 La) ∧ W.cell? ⟨w.heap.size, 3, none⟩ = some (.string ws) ∧ W.cell? ⟨w.heap.size, 4, none⟩ = some (.bool more) ∧ W.cell? ⟨w.heap.size + 1, 0, none⟩ = some (.int .u64 0) ∧ W.cell? ⟨w.heap.size + 1, 1, none⟩ = some (.int .u64 0)) → Below W.heap.size W W1 → (Below w.heap.size w W1 ∧ W1.heap[w.heap.size]? = some (Obj.cells #[.bool neg, .int .i64 T, .int .i64 La, .string ws, .bool more] 106) ∧ W1.heap[w.heap.size + 1]? = some (Obj.cells #[.int .u64 0, .int .u64 0] 25) ∧ W1.cell? ⟨w.heap.size, 0, none⟩ = some (.bool neg) ∧ W1.cell? ⟨w.heap.size, 1, none⟩ = some (.int .i64 T) ∧ W1.cell? ⟨w.heap.size, 2, none⟩ = some (.int .i64 La) ∧ W1.cell? ⟨w.heap.size, 3, none⟩ = some (.string ws) ∧ W1.cell? ⟨w.heap.size, 4, none⟩ = some (.bool more) ∧ W1.cell? ⟨w.heap.size + 1, 0, none⟩ = some (.int .u64 0) ∧ W1.cell? ⟨w.heap.size + 1, 1, none⟩ = some (.int .u64 0))) := box (fun W W1 h b => ⟨btr h.1 b, heap_of b _ _ _ h.2.1, heap_of b _ _ _ h.2.2.1, cell7 (heap_of b _ _ _ h.2.1) 0 _ rfl, cell7 (heap_of b _ _ _ h.2.1) 1 _ rfl, cell7 (heap_of b _ _ _ h.2.1) 2 _ rfl, cell7 (heap_of b _ _ _ h.2.1) 3 _ rfl, cell7 (heap_of b _ _ _ h.2.1) 4 _ rfl, cell7 (heap_of b _ _ _ h.2.2.1) 0 _ rfl, cell7 (heap_of b _ _ _ h.2.2.1) 1 _ rfl⟩)
  have sL : Box (∀ W : World, (Below w.heap.size w W ∧ W.heap[w.heap.size]? = some (Obj.cells #[.bool neg, .int .i64 T, .int .i64 La, .string ws, .bool more] 106) ∧ W.heap[w.heap.size + 1]? = some (Obj.cells #[.int .u64 0, .int .u64 0] 25) ∧ W.cell? ⟨w.heap.size, 0, none⟩ = some (.bool neg) ∧ W.cell? ⟨w.heap.size, 1, none⟩ = some (.int .i64 T) ∧ W.cell? ⟨w.heap.size, 2, none⟩ = some (.int .i64 La) ∧ W.cell? ⟨w.heap.size, 3, none⟩ = some (.string ws) ∧ W.cell? ⟨w.heap.size, 4, none⟩ = some (.bool more) ∧ W.cell? ⟨w.heap.size + 1, 0, none⟩ = some (.int .u64 0) ∧ W.cell? ⟨w.heap.size + 1, 1, none⟩ = some (.int .u64 0)) → (w.heap.size < W.heap.size ∧ w.heap.size + 1 < W.heap.size)) := box (fun W h => ⟨(Array.getElem?_eq_some_iff.1 h.2.1).1, (Array.getElem?_eq_some_iff.1 h.2.2.1).1⟩)
  have sT : Box (∀ (W : World) (gN : Nat) (xA xB xC xD : Value), (Below w.heap.size w W ∧ W.heap[w.heap.size]? = some (Obj.cells #[.bool neg, .int .i64 T, .int .i64 La, .string ws, .bool more] 106) ∧ W.heap[w.heap.size + 1]? = some (Obj.cells #[.int .u64 0, .int .u64 0] 25) ∧ W.cell? ⟨w.heap.size, 0, none⟩ = some (.bool neg) ∧ W.cell? ⟨w.heap.size, 1, none⟩ = some (.int .i64 T) ∧ W.cell? ⟨w.heap.size, 2, none⟩ = some (.int .i64 La) ∧ W.cell? ⟨w.heap.size, 3, none⟩ = some (.string ws) ∧ W.cell? ⟨w.heap.size, 4, none⟩ = some (.bool more) ∧ W.cell? ⟨w.heap.size + 1, 0, none⟩ = some (.int .u64 0) ∧ W.cell? ⟨w.heap.size + 1, 1, none⟩ = some (.int .u64 0)) → (w.heap.size < gN ∧ w.heap.size + 1 < gN) → (Below w.heap.size w ((((W.setCell ⟨gN, 0, none⟩ xA).setCell ⟨gN, 1, none⟩ xB).setCell ⟨gN, 2, none⟩ xC).setCell ⟨gN, 3, none⟩ xD) ∧ ((((W.setCell ⟨gN, 0, none⟩ xA).setCell ⟨gN, 1, none⟩ xB).setCell ⟨gN, 2, none⟩ xC).setCell ⟨gN, 3, none⟩ xD).heap[w.heap.size]? = some (Obj.cells #[.bool neg, .int .i64 T, .int .i64 La, .string ws, .bool more] 106) ∧ ((((W.setCell ⟨gN, 0, none⟩ xA).setCell ⟨gN, 1, none⟩ xB).setCell ⟨gN, 2, none⟩ xC).setCell ⟨gN, 3, none⟩ xD).heap[w.heap.size + 1]? = some (Obj.cells #[.int .u64 0, .int .u64 0] 25) ∧ ((((W.setCell ⟨gN, 0, none⟩ xA).setCell ⟨gN, 1, none⟩ xB).setCell ⟨gN, 2, none⟩ xC).setCell ⟨gN, 3, none⟩ xD).cell? ⟨w.heap.size, 0, none⟩ = some (.bool neg) ∧ ((((W.setCell ⟨gN, 0, none⟩ xA).setCell ⟨gN, 1, none⟩ xB).setCell ⟨gN, 2, none⟩ xC).setCell ⟨gN, 3, none⟩ xD).cell? ⟨w.heap.size, 1, none⟩ = some (.int .i64 T) ∧ ((((W.setCell ⟨gN, 0, none⟩ xA).setCell ⟨gN, 1, none⟩ xB).setCell ⟨gN, 2, none⟩ xC).setCell ⟨gN, 3, none⟩ xD).cell? ⟨w.heap.size, 2, none⟩ = some (.int .i64 La) ∧ ((((W.setCell ⟨gN, 0, none⟩ xA).setCell ⟨gN, 1, none⟩ xB).setCell ⟨gN, 2, none⟩ xC).setCell ⟨gN, 3, none⟩ xD).cell? ⟨w.heap.size, 3, none⟩ = some (.string ws) ∧ ((((W.setCell ⟨gN, 0, none⟩ xA).setCell ⟨gN, 1, none⟩ xB).setCell ⟨gN, 2, none⟩ xC).setCell ⟨gN, 3, none⟩ xD).cell? ⟨w.heap.size, 4, none⟩ = some (.bool more) ∧ ((((W.setCell ⟨gN, 0, none⟩ xA).setCell ⟨gN, 1, none⟩ xB).setCell ⟨gN, 2, none⟩ xC).setCell ⟨gN, 3, none⟩ xD).cell? ⟨w.heap.size + 1, 0, none⟩ = some (.int .u64 0) ∧ ((((W.setCell ⟨gN, 0, none⟩ xA).setCell ⟨gN, 1, none⟩ xB).setCell ⟨gN, 2, none⟩ xC).setCell ⟨gN, 3, none⟩ xD).cell? ⟨w.heap.size + 1, 1, none⟩ = some (.int .u64 0))) := box (fun W gN xA xB xC xD h l => ⟨set4_below h.1 (show w.heap.size ≤ gN by have := l.1; omega) _ _ _ _, (setCell_other (by have := l.1; omega)).trans ((setCell_other (by have := l.1; omega)).trans ((setCell_other (by have := l.1; omega)).trans ((setCell_other (by have := l.1; omega)).trans h.2.1))), (setCell_other (by have := l.2; omega)).trans ((setCell_other (by have := l.2; omega)).trans ((setCell_other (by have := l.2; omega)).trans ((setCell_other (by have := l.2; omega)).trans h.2.2.1))), cell7 ((setCell_other (by have := l.1; omega)).trans ((setCell_other (by have := l.1; omega)).trans ((setCell_other (by have := l.1; omega)).trans ((setCell_other (by have := l.1; omega)).trans h.2.1)))) 0 _ rfl, cell7 ((setCell_other (by have := l.1; omega)).trans ((setCell_other (by have := l.1; omega)).trans ((setCell_other (by have := l.1; omega)).trans ((setCell_other (by have := l.1; omega)).trans h.2.1)))) 1 _ rfl, cell7 ((setCell_other (by have := l.1; omega)).trans ((setCell_other (by have := l.1; omega)).trans ((setCell_other (by have := l.1; omega)).trans ((setCell_other (by have := l.1; omega)).trans h.2.1)))) 2 _ rfl, cell7 ((setCell_other (by have := l.1; omega)).trans ((setCell_other (by have := l.1; omega)).trans ((setCell_other (by have := l.1; omega)).trans ((setCell_other (by have := l.1; omega)).trans h.2.1)))) 3 _ rfl, cell7 ((setCell_other (by have := l.1; omega)).trans ((setCell_other (by have := l.1; omega)).trans ((setCell_other (by have := l.1; omega)).trans ((setCell_other (by have := l.1; omega)).trans h.2.1)))) 4 _ rfl, cell7 ((setCell_other (by have := l.2; omega)).trans ((setCell_other (by have := l.2; omega)).trans ((setCell_other (by have := l.2; omega)).trans ((setCell_other (by have := l.2; omega)).trans h.2.2.1)))) 0 _ rfl, cell7 ((setCell_other (by have := l.2; omega)).trans ((setCell_other (by have := l.2; omega)).trans ((setCell_other (by have := l.2; omega)).trans ((setCell_other (by have := l.2; omega)).trans h.2.2.1)))) 1 _ rfl⟩)
  have s0 : Below w.heap.size w (((w.alloc (Obj.cells #[.bool neg, .int .i64 T, .int .i64 La, .string ws, .bool more] 106)).alloc (Obj.cells #[.int .u64 0, .int .u64 0] 25))).drew ∧ (((w.alloc (Obj.cells #[.bool neg, .int .i64 T, .int .i64 La, .string ws, .bool more] 106)).alloc (Obj.cells #[.int .u64 0, .int .u64 0] 25))).drew.heap[w.heap.size]? = some (Obj.cells #[.bool neg, .int .i64 T, .int .i64 La, .string ws, .bool more] 106) ∧ (((w.alloc (Obj.cells #[.bool neg, .int .i64 T, .int .i64 La, .string ws, .bool more] 106)).alloc (Obj.cells #[.int .u64 0, .int .u64 0] 25))).drew.heap[w.heap.size + 1]? = some (Obj.cells #[.int .u64 0, .int .u64 0] 25) ∧ (((w.alloc (Obj.cells #[.bool neg, .int .i64 T, .int .i64 La, .string ws, .bool more] 106)).alloc (Obj.cells #[.int .u64 0, .int .u64 0] 25))).drew.cell? ⟨w.heap.size, 0, none⟩ = some (.bool neg) ∧ (((w.alloc (Obj.cells #[.bool neg, .int .i64 T, .int .i64 La, .string ws, .bool more] 106)).alloc (Obj.cells #[.int .u64 0, .int .u64 0] 25))).drew.cell? ⟨w.heap.size, 1, none⟩ = some (.int .i64 T) ∧ (((w.alloc (Obj.cells #[.bool neg, .int .i64 T, .int .i64 La, .string ws, .bool more] 106)).alloc (Obj.cells #[.int .u64 0, .int .u64 0] 25))).drew.cell? ⟨w.heap.size, 2, none⟩ = some (.int .i64 La) ∧ (((w.alloc (Obj.cells #[.bool neg, .int .i64 T, .int .i64 La, .string ws, .bool more] 106)).alloc (Obj.cells #[.int .u64 0, .int .u64 0] 25))).drew.cell? ⟨w.heap.size, 3, none⟩ = some (.string ws) ∧ (((w.alloc (Obj.cells #[.bool neg, .int .i64 T, .int .i64 La, .string ws, .bool more] 106)).alloc (Obj.cells #[.int .u64 0, .int .u64 0] 25))).drew.cell? ⟨w.heap.size, 4, none⟩ = some (.bool more) ∧ (((w.alloc (Obj.cells #[.bool neg, .int .i64 T, .int .i64 La, .string ws, .bool more] 106)).alloc (Obj.cells #[.int .u64 0, .int .u64 0] 25))).drew.cell? ⟨w.heap.size + 1, 0, none⟩ = some (.int .u64 0) ∧ (((w.alloc (Obj.cells #[.bool neg, .int .i64 T, .int .i64 La, .string ws, .bool more] 106)).alloc (Obj.cells #[.int .u64 0, .int .u64 0] 25))).drew.cell? ⟨w.heap.size + 1, 1, none⟩ = some (.int .u64 0) := ⟨B0.drew, Rn_0, Rz_0, cell7 (Rn_0) 0 _ rfl, cell7 (Rn_0) 1 _ rfl, cell7 (Rn_0) 2 _ rfl, cell7 (Rn_0) 3 _ rfl, cell7 (Rn_0) 4 _ rfl, cell7 (Rz_0) 0 _ rfl, cell7 (Rz_0) 1 _ rfl⟩
  clear B0 Rn_0 Rz_0
  go_wp2_with fail
  apply cut7
  · intro key0
    have key := box key0
    clear key0
    go_region_held3 (fun W => Below w.heap.size w W ∧ W.heap[w.heap.size]? = some (Obj.cells #[.bool neg, .int .i64 T, .int .i64 La, .string ws, .bool more] 106) ∧ W.heap[w.heap.size + 1]? = some (Obj.cells #[.int .u64 0, .int .u64 0] 25) ∧ W.cell? ⟨w.heap.size, 0, none⟩ = some (.bool neg) ∧ W.cell? ⟨w.heap.size, 1, none⟩ = some (.int .i64 T) ∧ W.cell? ⟨w.heap.size, 2, none⟩ = some (.int .i64 La) ∧ W.cell? ⟨w.heap.size, 3, none⟩ = some (.string ws) ∧ W.cell? ⟨w.heap.size, 4, none⟩ = some (.bool more) ∧ W.cell? ⟨w.heap.size + 1, 0, none⟩ = some (.int .u64 0) ∧ W.cell? ⟨w.heap.size + 1, 1, none⟩ = some (.int .u64 0)) (first | exact s1 | exact s0 | exact sS.out _ _ s1 (bal _ _) | exact sS.out _ _ s0 (bal _ _) | exact sT.out _ _ _ _ _ _ s1 hl)
      (first | (go_at_call 98; (first | refine (KI.out _ (by first | exact fatB FF.out (And.left s1) | exact fat_al (fatB FF.out (And.left s1)) _)).mono ?_ | refine (KI.out _ (by first | exact fatB FF.out (And.left s0) | exact fat_al (fatB FF.out (And.left s0)) _)).mono ?_); rintro r wq ⟨rfl, bq⟩; (first | (have hg := heap_of bq _ _ _ (heap_alloc_last _ _); have hl := (by first | exact sL.out _ s1 | exact sL.out _ s0)) | have hg := heap_of bq _ _ _ hg | skip); (try simp only [size_dr, size_al] at hg hl); (first | (have hq0 := fz (k := 0) hg; have hq1 := fz (k := 1) hg; have hq2 := fz (k := 2) hg; have hq3 := fz (k := 3) hg; have hc0 := cell7 hg 0 _ rfl; have hc1 := cell7 hg 1 _ rfl; have hc2 := cell7 hg 2 _ rfl; have hc3 := cell7 hg 3 _ rfl) | skip); have s2 := (by first | exact sS.out _ _ s1 bq | exact sS.out _ _ s0 bq | exact sS.out _ _ (sS.out _ _ s1 (bal _ _)) bq | exact sS.out _ _ (sS.out _ _ s0 (bal _ _)) bq); (try clear s1); have s1 := s2; clear s2 bq) | (go_at_call 148; (first | refine (KS.out _ (by first | exact fatB FF.out (And.left s1) | exact fat_al (fatB FF.out (And.left s1)) _)).mono ?_ | refine (KS.out _ (by first | exact fatB FF.out (And.left s0) | exact fat_al (fatB FF.out (And.left s0)) _)).mono ?_); rintro r wq ⟨rfl, bq⟩; (first | (have hg := heap_of bq _ _ _ (heap_alloc_last _ _); have hl := (by first | exact sL.out _ s1 | exact sL.out _ s0)) | have hg := heap_of bq _ _ _ hg | skip); (try simp only [size_dr, size_al] at hg hl); (first | (have hq0 := fz (k := 0) hg; have hq1 := fz (k := 1) hg; have hq2 := fz (k := 2) hg; have hq3 := fz (k := 3) hg; have hc0 := cell7 hg 0 _ rfl; have hc1 := cell7 hg 1 _ rfl; have hc2 := cell7 hg 2 _ rfl; have hc3 := cell7 hg 3 _ rfl) | skip); have s2 := (by first | exact sS.out _ _ s1 bq | exact sS.out _ _ s0 bq | exact sS.out _ _ (sS.out _ _ s1 (bal _ _)) bq | exact sS.out _ _ (sS.out _ _ s0 (bal _ _)) bq); (try clear s1); have s1 := s2; clear s2 bq) | (go_at_call 147; (first | refine (KR.out _ (by first | exact tabB TT.out (And.left s1) | exact tabA (tabB TT.out (And.left s1)) _)).mono ?_ | refine (KR.out _ (by first | exact tabB TT.out (And.left s0) | exact tabA (tabB TT.out (And.left s0)) _)).mono ?_); rintro r wq ⟨rfl, bq⟩; (first | (have hg := heap_of bq _ _ _ (heap_alloc_last _ _); have hl := (by first | exact sL.out _ s1 | exact sL.out _ s0)) | have hg := heap_of bq _ _ _ hg | skip); (try simp only [size_dr, size_al] at hg hl); (first | (have hq0 := fz (k := 0) hg; have hq1 := fz (k := 1) hg; have hq2 := fz (k := 2) hg; have hq3 := fz (k := 3) hg; have hc0 := cell7 hg 0 _ rfl; have hc1 := cell7 hg 1 _ rfl; have hc2 := cell7 hg 2 _ rfl; have hc3 := cell7 hg 3 _ rfl) | skip); have s2 := (by first | exact sS.out _ _ s1 bq | exact sS.out _ _ s0 bq | exact sS.out _ _ (sS.out _ _ s1 (bal _ _)) bq | exact sS.out _ _ (sS.out _ _ s0 (bal _ _)) bq); (try clear s1); have s1 := s2; clear s2 bq) | fail)
    all_goals
      refine gen_rule_delivered_8 (R := fun W gN => (Below w.heap.size w W ∧ W.heap[w.heap.size]? = some (Obj.cells #[.bool neg, .int .i64 T, .int .i64 La, .string ws, .bool more] 106) ∧ W.heap[w.heap.size + 1]? = some (Obj.cells #[.int .u64 0, .int .u64 0] 25) ∧ W.cell? ⟨w.heap.size, 0, none⟩ = some (.bool neg) ∧ W.cell? ⟨w.heap.size, 1, none⟩ = some (.int .i64 T) ∧ W.cell? ⟨w.heap.size, 2, none⟩ = some (.int .i64 La) ∧ W.cell? ⟨w.heap.size, 3, none⟩ = some (.string ws) ∧ W.cell? ⟨w.heap.size, 4, none⟩ = some (.bool more) ∧ W.cell? ⟨w.heap.size + 1, 0, none⟩ = some (.int .u64 0) ∧ W.cell? ⟨w.heap.size + 1, 1, none⟩ = some (.int .u64 0)) ∧ W.heap[gN]? = some (Obj.cells #[.string rs, .int .i64 st, .bool half, .bool mo] 174) ∧ (w.heap.size < gN ∧ w.heap.size + 1 < gN)) key.out ?_
      first
        | exact ⟨(sT.out _ _ _ _ _ _ s1 hl), set4_row hg rfl _ _ _ _, hl⟩
        | exact ⟨sS.out _ _ s1 (bal _ _), heap_alloc_last _ _, sL.out _ s1⟩
        | exact ⟨sS.out _ _ s0 (bal _ _), heap_alloc_last _ _, sL.out _ s0⟩
  rintro w1 g1 ⟨s1, Rr_1, l1⟩
  have B1 := And.left s1
  have Rn_1 := s1.2.1
  have Rz_1 := s1.2.2.1
  have H1 := box l1
  clear s0 s1 sS sL sT l1
  have cn_1_0 := cells4 Rn_1 0 _ rfl
  have cn_1_1 := cells4 Rn_1 1 _ rfl
  have cn_1_2 := cells4 Rn_1 2 _ rfl
  have cn_1_3 := cells4 Rn_1 3 _ rfl
  have cn_1_4 := cells4 Rn_1 4 _ rfl
  obtain ⟨cz_1_0, cz_1_1⟩ := cells2s Rz_1
  obtain ⟨cr_1_0, cr_1_1, cr_1_2, cr_1_3⟩ := cells4s Rr_1
  go_wp2_with fail
  refine (KT.out _).mono ?_
  rintro r w2 ⟨rfl, b2⟩
  have B2 : Below w.heap.size w w2 := btr B1 b2
  have Rn_2 := heap_of b2 _ _ _ Rn_1
  have Rz_2 := heap_of b2 _ _ _ Rz_1
  have Rr_2 := heap_of b2 _ _ _ Rr_1
  clear b2 B1 Rn_1 cn_1_0 cn_1_1 cn_1_2 cn_1_3 cn_1_4 Rz_1 cz_1_0 cz_1_1 Rr_1 cr_1_0 cr_1_1 cr_1_2 cr_1_3
  have cn_2_0 := cells4 Rn_2 0 _ rfl
  have cn_2_1 := cells4 Rn_2 1 _ rfl
  have cn_2_2 := cells4 Rn_2 2 _ rfl
  have cn_2_3 := cells4 Rn_2 3 _ rfl
  have cn_2_4 := cells4 Rn_2 4 _ rfl
  obtain ⟨cz_2_0, cz_2_1⟩ := cells2s Rz_2
  obtain ⟨cr_2_0, cr_2_1, cr_2_2, cr_2_3⟩ := cells4s Rr_2
  go_wp2_with fail
  refine (KE.out _ (fatB FF.out B2)).mono ?_
  rintro r w3 ⟨rfl, b3⟩
  have B3 : Below w.heap.size w w3 := btr B2 b3
  have Rn_3 := heap_of b3 _ _ _ Rn_2
  have Rz_3 := heap_of b3 _ _ _ Rz_2
  have Rr_3 := heap_of b3 _ _ _ Rr_2
  clear b3 B2 Rn_2 cn_2_0 cn_2_1 cn_2_2 cn_2_3 cn_2_4 Rz_2 cz_2_0 cz_2_1 Rr_2 cr_2_0 cr_2_1 cr_2_2 cr_2_3
  have cn_3_0 := cells4 Rn_3 0 _ rfl
  have cn_3_1 := cells4 Rn_3 1 _ rfl
  have cn_3_2 := cells4 Rn_3 2 _ rfl
  have cn_3_3 := cells4 Rn_3 3 _ rfl
  have cn_3_4 := cells4 Rn_3 4 _ rfl
  obtain ⟨cz_3_0, cz_3_1⟩ := cells2s Rz_3
  obtain ⟨cr_3_0, cr_3_1, cr_3_2, cr_3_3⟩ := cells4s Rr_3
  cases ov
  · have K5 := box (KD.out rfl)
    clear KB KD
    cases half
    · cases mo
      · obtain rfl : (0 : Int) = fl := HFL.out
        go_wp2_with fail
        refine (K5.out _ (fatB FF.out B3) (tabB TT.out B3)).mono ?_
        rintro r w4 ⟨rfl, b4⟩
        have B4 : Below w.heap.size w w4 := btr B3 b4
        have Rn_4 := heap_of b4 _ _ _ Rn_3
        have Rz_4 := heap_of b4 _ _ _ Rz_3
        have Rr_4 := heap_of b4 _ _ _ Rr_3
        clear b4 B3 Rn_3 cn_3_0 cn_3_1 cn_3_2 cn_3_3 cn_3_4 Rz_3 cz_3_0 cz_3_1 Rr_3 cr_3_0 cr_3_1 cr_3_2 cr_3_3
        have cn_4_0 := cells4 Rn_4 0 _ rfl
        have cn_4_1 := cells4 Rn_4 1 _ rfl
        have cn_4_2 := cells4 Rn_4 2 _ rfl
        have cn_4_3 := cells4 Rn_4 3 _ rfl
        have cn_4_4 := cells4 Rn_4 4 _ rfl
        obtain ⟨cz_4_0, cz_4_1⟩ := cells2s Rz_4
        obtain ⟨cr_4_0, cr_4_1, cr_4_2, cr_4_3⟩ := cells4s Rr_4
        have q0 := fz (k := 0) Rz_4
        have q1 := fz (k := 1) Rz_4
        obtain ⟨E0, E1⟩ := set2_cells Rz_4 (.int .u64 (u : Nat)) (.int .u64 (v : Nat))
        go_wp2
        exact bodyPost_ret (v := .tuple #[.agg #[.int .u64 (u : Nat), .int .u64 (v : Nat)], .int .u8 0]) (by simp [results, Tryz.results66, go_sem, E0, E1]) rfl ⟨rfl, set2_below B4 (by first | exact Nat.le_refl _ | omega | (have := H1.out; omega)) _ _⟩
      · cases o
        · obtain rfl : (1 : Int) = fl := HFL.out
          go_wp2_with fail
          refine (KN.out _ (fatB FF.out B3) (tabB TT.out B3)).mono ?_
          rintro r w4 ⟨rfl, b4⟩
          have B4 : Below w.heap.size w w4 := btr B3 b4
          have Rn_4 := heap_of b4 _ _ _ Rn_3
          have Rz_4 := heap_of b4 _ _ _ Rz_3
          have Rr_4 := heap_of b4 _ _ _ Rr_3
          clear b4 B3 Rn_3 cn_3_0 cn_3_1 cn_3_2 cn_3_3 cn_3_4 Rz_3 cz_3_0 cz_3_1 Rr_3 cr_3_0 cr_3_1 cr_3_2 cr_3_3
          have cn_4_0 := cells4 Rn_4 0 _ rfl
          have cn_4_1 := cells4 Rn_4 1 _ rfl
          have cn_4_2 := cells4 Rn_4 2 _ rfl
          have cn_4_3 := cells4 Rn_4 3 _ rfl
          have cn_4_4 := cells4 Rn_4 4 _ rfl
          obtain ⟨cz_4_0, cz_4_1⟩ := cells2s Rz_4
          obtain ⟨cr_4_0, cr_4_1, cr_4_2, cr_4_3⟩ := cells4s Rr_4
          go_wp2_with fail
          refine (K5.out _ (fatB FF.out B4) (tabB TT.out B4)).mono ?_
          rintro r w5 ⟨rfl, b5⟩
          have B5 : Below w.heap.size w w5 := btr B4 b5
          have Rn_5 := heap_of b5 _ _ _ Rn_4
          have Rz_5 := heap_of b5 _ _ _ Rz_4
          have Rr_5 := heap_of b5 _ _ _ Rr_4
          clear b5 B4 Rn_4 cn_4_0 cn_4_1 cn_4_2 cn_4_3 cn_4_4 Rz_4 cz_4_0 cz_4_1 Rr_4 cr_4_0 cr_4_1 cr_4_2 cr_4_3
          have cn_5_0 := cells4 Rn_5 0 _ rfl
          have cn_5_1 := cells4 Rn_5 1 _ rfl
          have cn_5_2 := cells4 Rn_5 2 _ rfl
          have cn_5_3 := cells4 Rn_5 3 _ rfl
          have cn_5_4 := cells4 Rn_5 4 _ rfl
          obtain ⟨cz_5_0, cz_5_1⟩ := cells2s Rz_5
          obtain ⟨cr_5_0, cr_5_1, cr_5_2, cr_5_3⟩ := cells4s Rr_5
          have q0 := fz (k := 0) Rz_5
          have q1 := fz (k := 1) Rz_5
          obtain ⟨E0, E1⟩ := set2_cells Rz_5 (.int .u64 (u : Nat)) (.int .u64 (v : Nat))
          go_wp2
          exact bodyPost_ret (v := .tuple #[.agg #[.int .u64 (u : Nat), .int .u64 (v : Nat)], .int .u8 1]) (by simp [results, Tryz.results66, go_sem, E0, E1]) rfl ⟨rfl, set2_below B5 (by first | exact Nat.le_refl _ | omega | (have := H1.out; omega)) _ _⟩
        · obtain rfl : (3 : Int) = fl := HFL.out
          go_wp2_with fail
          refine (KN.out _ (fatB FF.out B3) (tabB TT.out B3)).mono ?_
          rintro r w4 ⟨rfl, b4⟩
          have B4 : Below w.heap.size w w4 := btr B3 b4
          have Rn_4 := heap_of b4 _ _ _ Rn_3
          have Rz_4 := heap_of b4 _ _ _ Rz_3
          have Rr_4 := heap_of b4 _ _ _ Rr_3
          clear b4 B3 Rn_3 cn_3_0 cn_3_1 cn_3_2 cn_3_3 cn_3_4 Rz_3 cz_3_0 cz_3_1 Rr_3 cr_3_0 cr_3_1 cr_3_2 cr_3_3
          have cn_4_0 := cells4 Rn_4 0 _ rfl
          have cn_4_1 := cells4 Rn_4 1 _ rfl
          have cn_4_2 := cells4 Rn_4 2 _ rfl
          have cn_4_3 := cells4 Rn_4 3 _ rfl
          have cn_4_4 := cells4 Rn_4 4 _ rfl
          obtain ⟨cz_4_0, cz_4_1⟩ := cells2s Rz_4
          obtain ⟨cr_4_0, cr_4_1, cr_4_2, cr_4_3⟩ := cells4s Rr_4
          go_wp2_with fail
          refine (K5.out _ (fatB FF.out B4) (tabB TT.out B4)).mono ?_
          rintro r w5 ⟨rfl, b5⟩
          have B5 : Below w.heap.size w w5 := btr B4 b5
          have Rn_5 := heap_of b5 _ _ _ Rn_4
          have Rz_5 := heap_of b5 _ _ _ Rz_4
          have Rr_5 := heap_of b5 _ _ _ Rr_4
          clear b5 B4 Rn_4 cn_4_0 cn_4_1 cn_4_2 cn_4_3 cn_4_4 Rz_4 cz_4_0 cz_4_1 Rr_4 cr_4_0 cr_4_1 cr_4_2 cr_4_3
          have cn_5_0 := cells4 Rn_5 0 _ rfl
          have cn_5_1 := cells4 Rn_5 1 _ rfl
          have cn_5_2 := cells4 Rn_5 2 _ rfl
          have cn_5_3 := cells4 Rn_5 3 _ rfl
          have cn_5_4 := cells4 Rn_5 4 _ rfl
          obtain ⟨cz_5_0, cz_5_1⟩ := cells2s Rz_5
          obtain ⟨cr_5_0, cr_5_1, cr_5_2, cr_5_3⟩ := cells4s Rr_5
          have q0 := fz (k := 0) Rz_5
          have q1 := fz (k := 1) Rz_5
          obtain ⟨E0, E1⟩ := set2_cells Rz_5 (.int .u64 (u : Nat)) (.int .u64 (v : Nat))
          go_wp2
          exact bodyPost_ret (v := .tuple #[.agg #[.int .u64 (u : Nat), .int .u64 (v : Nat)], .int .u8 3]) (by simp [results, Tryz.results66, go_sem, E0, E1]) rfl ⟨rfl, set2_below B5 (by first | exact Nat.le_refl _ | omega | (have := H1.out; omega)) _ _⟩
    · cases mo
      · cases o
        · obtain rfl : (1 : Int) = fl := HFL.out
          go_wp2_with fail
          refine (KN.out _ (fatB FF.out B3) (tabB TT.out B3)).mono ?_
          rintro r w4 ⟨rfl, b4⟩
          have B4 : Below w.heap.size w w4 := btr B3 b4
          have Rn_4 := heap_of b4 _ _ _ Rn_3
          have Rz_4 := heap_of b4 _ _ _ Rz_3
          have Rr_4 := heap_of b4 _ _ _ Rr_3
          clear b4 B3 Rn_3 cn_3_0 cn_3_1 cn_3_2 cn_3_3 cn_3_4 Rz_3 cz_3_0 cz_3_1 Rr_3 cr_3_0 cr_3_1 cr_3_2 cr_3_3
          have cn_4_0 := cells4 Rn_4 0 _ rfl
          have cn_4_1 := cells4 Rn_4 1 _ rfl
          have cn_4_2 := cells4 Rn_4 2 _ rfl
          have cn_4_3 := cells4 Rn_4 3 _ rfl
          have cn_4_4 := cells4 Rn_4 4 _ rfl
          obtain ⟨cz_4_0, cz_4_1⟩ := cells2s Rz_4
          obtain ⟨cr_4_0, cr_4_1, cr_4_2, cr_4_3⟩ := cells4s Rr_4
          go_wp2_with fail
          refine (K5.out _ (fatB FF.out B4) (tabB TT.out B4)).mono ?_
          rintro r w5 ⟨rfl, b5⟩
          have B5 : Below w.heap.size w w5 := btr B4 b5
          have Rn_5 := heap_of b5 _ _ _ Rn_4
          have Rz_5 := heap_of b5 _ _ _ Rz_4
          have Rr_5 := heap_of b5 _ _ _ Rr_4
          clear b5 B4 Rn_4 cn_4_0 cn_4_1 cn_4_2 cn_4_3 cn_4_4 Rz_4 cz_4_0 cz_4_1 Rr_4 cr_4_0 cr_4_1 cr_4_2 cr_4_3
          have cn_5_0 := cells4 Rn_5 0 _ rfl
          have cn_5_1 := cells4 Rn_5 1 _ rfl
          have cn_5_2 := cells4 Rn_5 2 _ rfl
          have cn_5_3 := cells4 Rn_5 3 _ rfl
          have cn_5_4 := cells4 Rn_5 4 _ rfl
          obtain ⟨cz_5_0, cz_5_1⟩ := cells2s Rz_5
          obtain ⟨cr_5_0, cr_5_1, cr_5_2, cr_5_3⟩ := cells4s Rr_5
          have q0 := fz (k := 0) Rz_5
          have q1 := fz (k := 1) Rz_5
          obtain ⟨E0, E1⟩ := set2_cells Rz_5 (.int .u64 (u : Nat)) (.int .u64 (v : Nat))
          go_wp2
          exact bodyPost_ret (v := .tuple #[.agg #[.int .u64 (u : Nat), .int .u64 (v : Nat)], .int .u8 1]) (by simp [results, Tryz.results66, go_sem, E0, E1]) rfl ⟨rfl, set2_below B5 (by first | exact Nat.le_refl _ | omega | (have := H1.out; omega)) _ _⟩
        · obtain rfl : (3 : Int) = fl := HFL.out
          go_wp2_with fail
          refine (KN.out _ (fatB FF.out B3) (tabB TT.out B3)).mono ?_
          rintro r w4 ⟨rfl, b4⟩
          have B4 : Below w.heap.size w w4 := btr B3 b4
          have Rn_4 := heap_of b4 _ _ _ Rn_3
          have Rz_4 := heap_of b4 _ _ _ Rz_3
          have Rr_4 := heap_of b4 _ _ _ Rr_3
          clear b4 B3 Rn_3 cn_3_0 cn_3_1 cn_3_2 cn_3_3 cn_3_4 Rz_3 cz_3_0 cz_3_1 Rr_3 cr_3_0 cr_3_1 cr_3_2 cr_3_3
          have cn_4_0 := cells4 Rn_4 0 _ rfl
          have cn_4_1 := cells4 Rn_4 1 _ rfl
          have cn_4_2 := cells4 Rn_4 2 _ rfl
          have cn_4_3 := cells4 Rn_4 3 _ rfl
          have cn_4_4 := cells4 Rn_4 4 _ rfl
          obtain ⟨cz_4_0, cz_4_1⟩ := cells2s Rz_4
          obtain ⟨cr_4_0, cr_4_1, cr_4_2, cr_4_3⟩ := cells4s Rr_4
          go_wp2_with fail
          refine (K5.out _ (fatB FF.out B4) (tabB TT.out B4)).mono ?_
          rintro r w5 ⟨rfl, b5⟩
          have B5 : Below w.heap.size w w5 := btr B4 b5
          have Rn_5 := heap_of b5 _ _ _ Rn_4
          have Rz_5 := heap_of b5 _ _ _ Rz_4
          have Rr_5 := heap_of b5 _ _ _ Rr_4
          clear b5 B4 Rn_4 cn_4_0 cn_4_1 cn_4_2 cn_4_3 cn_4_4 Rz_4 cz_4_0 cz_4_1 Rr_4 cr_4_0 cr_4_1 cr_4_2 cr_4_3
          have cn_5_0 := cells4 Rn_5 0 _ rfl
          have cn_5_1 := cells4 Rn_5 1 _ rfl
          have cn_5_2 := cells4 Rn_5 2 _ rfl
          have cn_5_3 := cells4 Rn_5 3 _ rfl
          have cn_5_4 := cells4 Rn_5 4 _ rfl
          obtain ⟨cz_5_0, cz_5_1⟩ := cells2s Rz_5
          obtain ⟨cr_5_0, cr_5_1, cr_5_2, cr_5_3⟩ := cells4s Rr_5
          have q0 := fz (k := 0) Rz_5
          have q1 := fz (k := 1) Rz_5
          obtain ⟨E0, E1⟩ := set2_cells Rz_5 (.int .u64 (u : Nat)) (.int .u64 (v : Nat))
          go_wp2
          exact bodyPost_ret (v := .tuple #[.agg #[.int .u64 (u : Nat), .int .u64 (v : Nat)], .int .u8 3]) (by simp [results, Tryz.results66, go_sem, E0, E1]) rfl ⟨rfl, set2_below B5 (by first | exact Nat.le_refl _ | omega | (have := H1.out; omega)) _ _⟩
      · cases o
        · obtain rfl : (1 : Int) = fl := HFL.out
          go_wp2_with fail
          refine (KN.out _ (fatB FF.out B3) (tabB TT.out B3)).mono ?_
          rintro r w4 ⟨rfl, b4⟩
          have B4 : Below w.heap.size w w4 := btr B3 b4
          have Rn_4 := heap_of b4 _ _ _ Rn_3
          have Rz_4 := heap_of b4 _ _ _ Rz_3
          have Rr_4 := heap_of b4 _ _ _ Rr_3
          clear b4 B3 Rn_3 cn_3_0 cn_3_1 cn_3_2 cn_3_3 cn_3_4 Rz_3 cz_3_0 cz_3_1 Rr_3 cr_3_0 cr_3_1 cr_3_2 cr_3_3
          have cn_4_0 := cells4 Rn_4 0 _ rfl
          have cn_4_1 := cells4 Rn_4 1 _ rfl
          have cn_4_2 := cells4 Rn_4 2 _ rfl
          have cn_4_3 := cells4 Rn_4 3 _ rfl
          have cn_4_4 := cells4 Rn_4 4 _ rfl
          obtain ⟨cz_4_0, cz_4_1⟩ := cells2s Rz_4
          obtain ⟨cr_4_0, cr_4_1, cr_4_2, cr_4_3⟩ := cells4s Rr_4
          go_wp2_with fail
          refine (K5.out _ (fatB FF.out B4) (tabB TT.out B4)).mono ?_
          rintro r w5 ⟨rfl, b5⟩
          have B5 : Below w.heap.size w w5 := btr B4 b5
          have Rn_5 := heap_of b5 _ _ _ Rn_4
          have Rz_5 := heap_of b5 _ _ _ Rz_4
          have Rr_5 := heap_of b5 _ _ _ Rr_4
          clear b5 B4 Rn_4 cn_4_0 cn_4_1 cn_4_2 cn_4_3 cn_4_4 Rz_4 cz_4_0 cz_4_1 Rr_4 cr_4_0 cr_4_1 cr_4_2 cr_4_3
          have cn_5_0 := cells4 Rn_5 0 _ rfl
          have cn_5_1 := cells4 Rn_5 1 _ rfl
          have cn_5_2 := cells4 Rn_5 2 _ rfl
          have cn_5_3 := cells4 Rn_5 3 _ rfl
          have cn_5_4 := cells4 Rn_5 4 _ rfl
          obtain ⟨cz_5_0, cz_5_1⟩ := cells2s Rz_5
          obtain ⟨cr_5_0, cr_5_1, cr_5_2, cr_5_3⟩ := cells4s Rr_5
          have q0 := fz (k := 0) Rz_5
          have q1 := fz (k := 1) Rz_5
          obtain ⟨E0, E1⟩ := set2_cells Rz_5 (.int .u64 (u : Nat)) (.int .u64 (v : Nat))
          go_wp2
          exact bodyPost_ret (v := .tuple #[.agg #[.int .u64 (u : Nat), .int .u64 (v : Nat)], .int .u8 1]) (by simp [results, Tryz.results66, go_sem, E0, E1]) rfl ⟨rfl, set2_below B5 (by first | exact Nat.le_refl _ | omega | (have := H1.out; omega)) _ _⟩
        · obtain rfl : (3 : Int) = fl := HFL.out
          go_wp2_with fail
          refine (KN.out _ (fatB FF.out B3) (tabB TT.out B3)).mono ?_
          rintro r w4 ⟨rfl, b4⟩
          have B4 : Below w.heap.size w w4 := btr B3 b4
          have Rn_4 := heap_of b4 _ _ _ Rn_3
          have Rz_4 := heap_of b4 _ _ _ Rz_3
          have Rr_4 := heap_of b4 _ _ _ Rr_3
          clear b4 B3 Rn_3 cn_3_0 cn_3_1 cn_3_2 cn_3_3 cn_3_4 Rz_3 cz_3_0 cz_3_1 Rr_3 cr_3_0 cr_3_1 cr_3_2 cr_3_3
          have cn_4_0 := cells4 Rn_4 0 _ rfl
          have cn_4_1 := cells4 Rn_4 1 _ rfl
          have cn_4_2 := cells4 Rn_4 2 _ rfl
          have cn_4_3 := cells4 Rn_4 3 _ rfl
          have cn_4_4 := cells4 Rn_4 4 _ rfl
          obtain ⟨cz_4_0, cz_4_1⟩ := cells2s Rz_4
          obtain ⟨cr_4_0, cr_4_1, cr_4_2, cr_4_3⟩ := cells4s Rr_4
          go_wp2_with fail
          refine (K5.out _ (fatB FF.out B4) (tabB TT.out B4)).mono ?_
          rintro r w5 ⟨rfl, b5⟩
          have B5 : Below w.heap.size w w5 := btr B4 b5
          have Rn_5 := heap_of b5 _ _ _ Rn_4
          have Rz_5 := heap_of b5 _ _ _ Rz_4
          have Rr_5 := heap_of b5 _ _ _ Rr_4
          clear b5 B4 Rn_4 cn_4_0 cn_4_1 cn_4_2 cn_4_3 cn_4_4 Rz_4 cz_4_0 cz_4_1 Rr_4 cr_4_0 cr_4_1 cr_4_2 cr_4_3
          have cn_5_0 := cells4 Rn_5 0 _ rfl
          have cn_5_1 := cells4 Rn_5 1 _ rfl
          have cn_5_2 := cells4 Rn_5 2 _ rfl
          have cn_5_3 := cells4 Rn_5 3 _ rfl
          have cn_5_4 := cells4 Rn_5 4 _ rfl
          obtain ⟨cz_5_0, cz_5_1⟩ := cells2s Rz_5
          obtain ⟨cr_5_0, cr_5_1, cr_5_2, cr_5_3⟩ := cells4s Rr_5
          have q0 := fz (k := 0) Rz_5
          have q1 := fz (k := 1) Rz_5
          obtain ⟨E0, E1⟩ := set2_cells Rz_5 (.int .u64 (u : Nat)) (.int .u64 (v : Nat))
          go_wp2
          exact bodyPost_ret (v := .tuple #[.agg #[.int .u64 (u : Nat), .int .u64 (v : Nat)], .int .u8 3]) (by simp [results, Tryz.results66, go_sem, E0, E1]) rfl ⟨rfl, set2_below B5 (by first | exact Nat.le_refl _ | omega | (have := H1.out; omega)) _ _⟩
  · have K5 := box (KB.out rfl)
    clear KB KD
    obtain rfl : (5 : Int) = fl := HFL.out
    go_wp2_with fail
    refine (K5.out _ (fatB FF.out B3)).mono ?_
    rintro r w4 ⟨rfl, b4⟩
    have B4 : Below w.heap.size w w4 := btr B3 b4
    have Rn_4 := heap_of b4 _ _ _ Rn_3
    have Rz_4 := heap_of b4 _ _ _ Rz_3
    have Rr_4 := heap_of b4 _ _ _ Rr_3
    clear b4 B3 Rn_3 cn_3_0 cn_3_1 cn_3_2 cn_3_3 cn_3_4 Rz_3 cz_3_0 cz_3_1 Rr_3 cr_3_0 cr_3_1 cr_3_2 cr_3_3
    have cn_4_0 := cells4 Rn_4 0 _ rfl
    have cn_4_1 := cells4 Rn_4 1 _ rfl
    have cn_4_2 := cells4 Rn_4 2 _ rfl
    have cn_4_3 := cells4 Rn_4 3 _ rfl
    have cn_4_4 := cells4 Rn_4 4 _ rfl
    obtain ⟨cz_4_0, cz_4_1⟩ := cells2s Rz_4
    obtain ⟨cr_4_0, cr_4_1, cr_4_2, cr_4_3⟩ := cells4s Rr_4
    have q0 := fz (k := 0) Rz_4
    have q1 := fz (k := 1) Rz_4
    obtain ⟨E0, E1⟩ := set2_cells Rz_4 (.int .u64 (u : Nat)) (.int .u64 (v : Nat))
    go_wp2
    exact bodyPost_ret (v := .tuple #[.agg #[.int .u64 (u : Nat), .int .u64 (v : Nat)], .int .u8 5]) (by simp [results, Tryz.results66, go_sem, E0, E1]) rfl ⟨rfl, set2_below B4 (by first | exact Nat.le_refl _ | omega | (have := H1.out; omega)) _ _⟩
set_option maxRecDepth 100000 in
set_option maxHeartbeats 4000000 in
theorem ru_tiny (f m : Int) (neg : Bool) (T La : Int) (ws : ByteArray) (more : Bool) (I st rt : Int) (rs : ByteArray) (half mo o : Bool) (w : World)
    (KI : Box (∀ w, FAt w → Calls Tryz.prog 98 #[.int .u8 f] w fun r w' => r = .returned (.int .i64 I) ∧ Below w.heap.size w w'))
    (KS : Box (∀ w, FAt w → Calls Tryz.prog 148 #[.int .u8 f, .int .i64 T] w fun r w' => r = .returned (.int .i64 st) ∧ Below w.heap.size w w'))
    (KR : Box (∀ w, TabAt w → Calls Tryz.prog 147 #[.int .u8 m, .agg #[.bool neg, .int .i64 T, .int .i64 La, .string ws, .bool more], .int .i64 st] w fun r w' => r = .returned (.agg #[.string rs, .int .i64 st, .bool half, .bool mo]) ∧ Below w.heap.size w w'))
    (KT : Box (∀ w, Calls Tryz.prog 149 #[.agg #[.string rs, .int .i64 st, .bool half, .bool mo]] w fun r w' => r = .returned (.int .i64 rt) ∧ Below w.heap.size w w'))
    (ho : decide (rt < I) = o)
    (hT : FAt w) (hT2 : TabAt w) : Calls Tryz.prog 72 #[.int .u8 f, .int .u8 m, .agg #[.bool neg, .int .i64 T, .int .i64 La, .string ws, .bool more]] w fun r w' => r = .returned (.bool o) ∧ Below w.heap.size w w' := by
  have FF := box hT
  have TT := box hT2
  clear hT hT2
  obtain ⟨Rn_0, B0⟩ := opn1 w (Obj.cells #[.bool neg, .int .i64 T, .int .i64 La, .string ws, .bool more] 106)
  go_enter Tryz.func72, Tryz.ntmps72
  have sS : Box (∀ W W1 : World, (Below w.heap.size w W ∧ W.heap[w.heap.size]? = some (Obj.cells #[.bool neg, .int .i64 T, .int .i64 La, .string ws, .bool more] 106) ∧ W.cell? ⟨w.heap.size, 0, none⟩ = some (.bool neg) ∧ W.cell? ⟨w.heap.size, 1, none⟩ = some (.int .i64 T) ∧ W.cell? ⟨w.heap.size, 2, none⟩ = some (.int .i64 La) ∧ W.cell? ⟨w.heap.size, 3, none⟩ = some (.string ws) ∧ W.cell? ⟨w.heap.size, 4, none⟩ = some (.bool more)) → Below W.heap.size W W1 → (Below w.heap.size w W1 ∧ W1.heap[w.heap.size]? = some (Obj.cells #[.bool neg, .int .i64 T, .int .i64 La, .string ws, .bool more] 106) ∧ W1.cell? ⟨w.heap.size, 0, none⟩ = some (.bool neg) ∧ W1.cell? ⟨w.heap.size, 1, none⟩ = some (.int .i64 T) ∧ W1.cell? ⟨w.heap.size, 2, none⟩ = some (.int .i64 La) ∧ W1.cell? ⟨w.heap.size, 3, none⟩ = some (.string ws) ∧ W1.cell? ⟨w.heap.size, 4, none⟩ = some (.bool more))) := box (fun W W1 h b => ⟨btr h.1 b, heap_of b _ _ _ h.2.1, cell7 (heap_of b _ _ _ h.2.1) 0 _ rfl, cell7 (heap_of b _ _ _ h.2.1) 1 _ rfl, cell7 (heap_of b _ _ _ h.2.1) 2 _ rfl, cell7 (heap_of b _ _ _ h.2.1) 3 _ rfl, cell7 (heap_of b _ _ _ h.2.1) 4 _ rfl⟩)
  have s0 : Below w.heap.size w ((w.alloc (Obj.cells #[.bool neg, .int .i64 T, .int .i64 La, .string ws, .bool more] 106))).drew ∧ ((w.alloc (Obj.cells #[.bool neg, .int .i64 T, .int .i64 La, .string ws, .bool more] 106))).drew.heap[w.heap.size]? = some (Obj.cells #[.bool neg, .int .i64 T, .int .i64 La, .string ws, .bool more] 106) ∧ ((w.alloc (Obj.cells #[.bool neg, .int .i64 T, .int .i64 La, .string ws, .bool more] 106))).drew.cell? ⟨w.heap.size, 0, none⟩ = some (.bool neg) ∧ ((w.alloc (Obj.cells #[.bool neg, .int .i64 T, .int .i64 La, .string ws, .bool more] 106))).drew.cell? ⟨w.heap.size, 1, none⟩ = some (.int .i64 T) ∧ ((w.alloc (Obj.cells #[.bool neg, .int .i64 T, .int .i64 La, .string ws, .bool more] 106))).drew.cell? ⟨w.heap.size, 2, none⟩ = some (.int .i64 La) ∧ ((w.alloc (Obj.cells #[.bool neg, .int .i64 T, .int .i64 La, .string ws, .bool more] 106))).drew.cell? ⟨w.heap.size, 3, none⟩ = some (.string ws) ∧ ((w.alloc (Obj.cells #[.bool neg, .int .i64 T, .int .i64 La, .string ws, .bool more] 106))).drew.cell? ⟨w.heap.size, 4, none⟩ = some (.bool more) := ⟨B0.drew, Rn_0, cell7 (Rn_0) 0 _ rfl, cell7 (Rn_0) 1 _ rfl, cell7 (Rn_0) 2 _ rfl, cell7 (Rn_0) 3 _ rfl, cell7 (Rn_0) 4 _ rfl⟩
  go_wp2_with fail
  go_region_held3 (fun W => Below w.heap.size w W ∧ W.heap[w.heap.size]? = some (Obj.cells #[.bool neg, .int .i64 T, .int .i64 La, .string ws, .bool more] 106) ∧ W.cell? ⟨w.heap.size, 0, none⟩ = some (.bool neg) ∧ W.cell? ⟨w.heap.size, 1, none⟩ = some (.int .i64 T) ∧ W.cell? ⟨w.heap.size, 2, none⟩ = some (.int .i64 La) ∧ W.cell? ⟨w.heap.size, 3, none⟩ = some (.string ws) ∧ W.cell? ⟨w.heap.size, 4, none⟩ = some (.bool more)) (first | exact s1 | exact s0)
    (first | (go_at_call 148; (first | refine (KS.out _ (fatB FF.out (And.left s1))).mono ?_ | refine (KS.out _ (fatB FF.out (And.left s0))).mono ?_); rintro r wq ⟨rfl, bq⟩; have s1 := (by first | exact sS.out _ _ s1 bq | exact sS.out _ _ s0 bq); clear bq) | (go_at_call 147; (first | refine (KR.out _ (tabB TT.out (And.left s1))).mono ?_ | refine (KR.out _ (tabB TT.out (And.left s0))).mono ?_); rintro r wq ⟨rfl, bq⟩; have s1 := (by first | exact sS.out _ _ s1 bq | exact sS.out _ _ s0 bq); clear bq) | (go_at_call 149; (first | refine (KT.out _).mono ?_ | refine (KT.out _).mono ?_); rintro r wq ⟨rfl, bq⟩; have s1 := (by first | exact sS.out _ _ s1 bq | exact sS.out _ _ s0 bq); clear bq) | (go_at_call 98; (first | refine (KI.out _ (fatB FF.out (And.left s1))).mono ?_ | refine (KI.out _ (fatB FF.out (And.left s0))).mono ?_); rintro r wq ⟨rfl, bq⟩; have s1 := (by first | exact sS.out _ _ s1 bq | exact sS.out _ _ s0 bq); clear bq) | fail)
  have B1 := (And.left s1)
  have Rn_1 := s1.2.1
  clear s0 s1 sS B0 Rn_0
  have cn_1_0 := cells4 Rn_1 0 _ rfl
  have cn_1_1 := cells4 Rn_1 1 _ rfl
  have cn_1_2 := cells4 Rn_1 2 _ rfl
  have cn_1_3 := cells4 Rn_1 3 _ rfl
  have cn_1_4 := cells4 Rn_1 4 _ rfl
  go_wp2
  go_ret
  exact ⟨rfl, B1⟩
set_option maxRecDepth 100000 in
set_option maxHeartbeats 4000000 in
theorem ru_check_a (f m : Int) (b : Bool) (s t : ByteArray) (e : Int) (c1 c2 c3 : Int) (w : World)
    (K1 : Box (∀ w, Calls Tryz.prog 60 #[.int .u8 f] w fun r w' => r = .returned (.int .i64 c1) ∧ Below w.heap.size w w'))
    (K2 : Box (∀ w, Calls Tryz.prog 145 #[.int .u8 m] w fun r w' => r = .returned (.int .i64 c2) ∧ Below w.heap.size w w'))
    (K3 : Box (∀ w, TabAt w → Calls Tryz.prog 146 #[.agg #[.bool b, .string s, .string t, .int .i64 e]] w fun r w' => r = .returned (.int .i64 c3) ∧ Below w.heap.size w w'))
    (h1 : (c1 != 0) = true)
    (hT2 : TabAt w) : Calls Tryz.prog 65 #[.int .u8 f, .int .u8 m, .agg #[.bool b, .string s, .string t, .int .i64 e]] w fun r w' => r = .returned (.int .i64 2) ∧ Below w.heap.size w w' := by
  have TT := box hT2
  clear hT2
  obtain ⟨Rx_0, B0⟩ := opn1 w (Obj.cells #[.bool b, .string s, .string t, .int .i64 e] 41)
  go_enter Tryz.func65, Tryz.ntmps65
  go_wp2_with fail
  refine (K1.out _).mono ?_
  rintro r w1 ⟨rfl, b1⟩
  have B1 : Below w.heap.size w w1 := btr B0 b1
  have Rx_1 := heap_of b1 _ _ _ Rx_0
  clear b1 B0 Rx_0
  obtain ⟨cx_1_0, cx_1_1, cx_1_2, cx_1_3⟩ := cells4s Rx_1
  go_wp2
  go_ret
  exact ⟨rfl, B1⟩
set_option maxRecDepth 100000 in
set_option maxHeartbeats 4000000 in
theorem ru_check_b (f m : Int) (b : Bool) (s t : ByteArray) (e : Int) (c1 c2 c3 : Int) (w : World)
    (K1 : Box (∀ w, Calls Tryz.prog 60 #[.int .u8 f] w fun r w' => r = .returned (.int .i64 c1) ∧ Below w.heap.size w w'))
    (K2 : Box (∀ w, Calls Tryz.prog 145 #[.int .u8 m] w fun r w' => r = .returned (.int .i64 c2) ∧ Below w.heap.size w w'))
    (K3 : Box (∀ w, TabAt w → Calls Tryz.prog 146 #[.agg #[.bool b, .string s, .string t, .int .i64 e]] w fun r w' => r = .returned (.int .i64 c3) ∧ Below w.heap.size w w'))
    (h1 : (c1 != 0) = false) (h2 : (c2 != 0) = true)
    (hT2 : TabAt w) : Calls Tryz.prog 65 #[.int .u8 f, .int .u8 m, .agg #[.bool b, .string s, .string t, .int .i64 e]] w fun r w' => r = .returned (.int .i64 2) ∧ Below w.heap.size w w' := by
  have TT := box hT2
  clear hT2
  obtain ⟨Rx_0, B0⟩ := opn1 w (Obj.cells #[.bool b, .string s, .string t, .int .i64 e] 41)
  go_enter Tryz.func65, Tryz.ntmps65
  go_wp2_with fail
  refine (K1.out _).mono ?_
  rintro r w1 ⟨rfl, b1⟩
  have B1 : Below w.heap.size w w1 := btr B0 b1
  have Rx_1 := heap_of b1 _ _ _ Rx_0
  clear b1 B0 Rx_0
  obtain ⟨cx_1_0, cx_1_1, cx_1_2, cx_1_3⟩ := cells4s Rx_1
  go_wp2_with fail
  refine (K2.out _).mono ?_
  rintro r w2 ⟨rfl, b2⟩
  have B2 : Below w.heap.size w w2 := btr B1 b2
  have Rx_2 := heap_of b2 _ _ _ Rx_1
  clear b2 B1 Rx_1 cx_1_0 cx_1_1 cx_1_2 cx_1_3
  obtain ⟨cx_2_0, cx_2_1, cx_2_2, cx_2_3⟩ := cells4s Rx_2
  go_wp2
  go_ret
  exact ⟨rfl, B2⟩
set_option maxRecDepth 100000 in
set_option maxHeartbeats 4000000 in
theorem ru_check_c (f m : Int) (b : Bool) (s t : ByteArray) (e : Int) (c1 c2 c3 : Int) (w : World)
    (K1 : Box (∀ w, Calls Tryz.prog 60 #[.int .u8 f] w fun r w' => r = .returned (.int .i64 c1) ∧ Below w.heap.size w w'))
    (K2 : Box (∀ w, Calls Tryz.prog 145 #[.int .u8 m] w fun r w' => r = .returned (.int .i64 c2) ∧ Below w.heap.size w w'))
    (K3 : Box (∀ w, TabAt w → Calls Tryz.prog 146 #[.agg #[.bool b, .string s, .string t, .int .i64 e]] w fun r w' => r = .returned (.int .i64 c3) ∧ Below w.heap.size w w'))
    (h1 : (c1 != 0) = false) (h2 : (c2 != 0) = false) (h3 : (c3 != 0) = true)
    (hT2 : TabAt w) : Calls Tryz.prog 65 #[.int .u8 f, .int .u8 m, .agg #[.bool b, .string s, .string t, .int .i64 e]] w fun r w' => r = .returned (.int .i64 2) ∧ Below w.heap.size w w' := by
  have TT := box hT2
  clear hT2
  obtain ⟨Rx_0, B0⟩ := opn1 w (Obj.cells #[.bool b, .string s, .string t, .int .i64 e] 41)
  go_enter Tryz.func65, Tryz.ntmps65
  go_wp2_with fail
  refine (K1.out _).mono ?_
  rintro r w1 ⟨rfl, b1⟩
  have B1 : Below w.heap.size w w1 := btr B0 b1
  have Rx_1 := heap_of b1 _ _ _ Rx_0
  clear b1 B0 Rx_0
  obtain ⟨cx_1_0, cx_1_1, cx_1_2, cx_1_3⟩ := cells4s Rx_1
  go_wp2_with fail
  refine (K2.out _).mono ?_
  rintro r w2 ⟨rfl, b2⟩
  have B2 : Below w.heap.size w w2 := btr B1 b2
  have Rx_2 := heap_of b2 _ _ _ Rx_1
  clear b2 B1 Rx_1 cx_1_0 cx_1_1 cx_1_2 cx_1_3
  obtain ⟨cx_2_0, cx_2_1, cx_2_2, cx_2_3⟩ := cells4s Rx_2
  go_wp2_with fail
  refine (K3.out _ (tabB TT.out B2)).mono ?_
  rintro r w3 ⟨rfl, b3⟩
  have B3 : Below w.heap.size w w3 := btr B2 b3
  have Rx_3 := heap_of b3 _ _ _ Rx_2
  clear b3 B2 Rx_2 cx_2_0 cx_2_1 cx_2_2 cx_2_3
  obtain ⟨cx_3_0, cx_3_1, cx_3_2, cx_3_3⟩ := cells4s Rx_3
  go_wp2
  go_ret
  exact ⟨rfl, B3⟩
set_option maxRecDepth 100000 in
set_option maxHeartbeats 4000000 in
theorem ru_check_d (f m : Int) (b : Bool) (s t : ByteArray) (e : Int) (c1 c2 c3 : Int) (w : World)
    (K1 : Box (∀ w, Calls Tryz.prog 60 #[.int .u8 f] w fun r w' => r = .returned (.int .i64 c1) ∧ Below w.heap.size w w'))
    (K2 : Box (∀ w, Calls Tryz.prog 145 #[.int .u8 m] w fun r w' => r = .returned (.int .i64 c2) ∧ Below w.heap.size w w'))
    (K3 : Box (∀ w, TabAt w → Calls Tryz.prog 146 #[.agg #[.bool b, .string s, .string t, .int .i64 e]] w fun r w' => r = .returned (.int .i64 c3) ∧ Below w.heap.size w w'))
    (h1 : (c1 != 0) = false) (h2 : (c2 != 0) = false) (h3 : (c3 != 0) = false) (h4 : decide ((8192 : Int) < (s.size : Int)) = true)
    (hT2 : TabAt w) : Calls Tryz.prog 65 #[.int .u8 f, .int .u8 m, .agg #[.bool b, .string s, .string t, .int .i64 e]] w fun r w' => r = .returned (.int .i64 4) ∧ Below w.heap.size w w' := by
  have TT := box hT2
  clear hT2
  obtain ⟨Rx_0, B0⟩ := opn1 w (Obj.cells #[.bool b, .string s, .string t, .int .i64 e] 41)
  go_enter Tryz.func65, Tryz.ntmps65
  go_wp2_with fail
  refine (K1.out _).mono ?_
  rintro r w1 ⟨rfl, b1⟩
  have B1 : Below w.heap.size w w1 := btr B0 b1
  have Rx_1 := heap_of b1 _ _ _ Rx_0
  clear b1 B0 Rx_0
  obtain ⟨cx_1_0, cx_1_1, cx_1_2, cx_1_3⟩ := cells4s Rx_1
  go_wp2_with fail
  refine (K2.out _).mono ?_
  rintro r w2 ⟨rfl, b2⟩
  have B2 : Below w.heap.size w w2 := btr B1 b2
  have Rx_2 := heap_of b2 _ _ _ Rx_1
  clear b2 B1 Rx_1 cx_1_0 cx_1_1 cx_1_2 cx_1_3
  obtain ⟨cx_2_0, cx_2_1, cx_2_2, cx_2_3⟩ := cells4s Rx_2
  go_wp2_with fail
  refine (K3.out _ (tabB TT.out B2)).mono ?_
  rintro r w3 ⟨rfl, b3⟩
  have B3 : Below w.heap.size w w3 := btr B2 b3
  have Rx_3 := heap_of b3 _ _ _ Rx_2
  clear b3 B2 Rx_2 cx_2_0 cx_2_1 cx_2_2 cx_2_3
  obtain ⟨cx_3_0, cx_3_1, cx_3_2, cx_3_3⟩ := cells4s Rx_3
  go_wp2
  go_ret
  exact ⟨rfl, B3⟩
set_option maxRecDepth 100000 in
set_option maxHeartbeats 4000000 in
theorem ru_check_e (f m : Int) (b : Bool) (s t : ByteArray) (e : Int) (c1 c2 c3 : Int) (w : World)
    (K1 : Box (∀ w, Calls Tryz.prog 60 #[.int .u8 f] w fun r w' => r = .returned (.int .i64 c1) ∧ Below w.heap.size w w'))
    (K2 : Box (∀ w, Calls Tryz.prog 145 #[.int .u8 m] w fun r w' => r = .returned (.int .i64 c2) ∧ Below w.heap.size w w'))
    (K3 : Box (∀ w, TabAt w → Calls Tryz.prog 146 #[.agg #[.bool b, .string s, .string t, .int .i64 e]] w fun r w' => r = .returned (.int .i64 c3) ∧ Below w.heap.size w w'))
    (h1 : (c1 != 0) = false) (h2 : (c2 != 0) = false) (h3 : (c3 != 0) = false) (h4 : decide ((8192 : Int) < (s.size : Int)) = false) (h5 : decide ((8192 : Int) < (t.size : Int)) = true)
    (hT2 : TabAt w) : Calls Tryz.prog 65 #[.int .u8 f, .int .u8 m, .agg #[.bool b, .string s, .string t, .int .i64 e]] w fun r w' => r = .returned (.int .i64 4) ∧ Below w.heap.size w w' := by
  have TT := box hT2
  clear hT2
  obtain ⟨Rx_0, B0⟩ := opn1 w (Obj.cells #[.bool b, .string s, .string t, .int .i64 e] 41)
  go_enter Tryz.func65, Tryz.ntmps65
  go_wp2_with fail
  refine (K1.out _).mono ?_
  rintro r w1 ⟨rfl, b1⟩
  have B1 : Below w.heap.size w w1 := btr B0 b1
  have Rx_1 := heap_of b1 _ _ _ Rx_0
  clear b1 B0 Rx_0
  obtain ⟨cx_1_0, cx_1_1, cx_1_2, cx_1_3⟩ := cells4s Rx_1
  go_wp2_with fail
  refine (K2.out _).mono ?_
  rintro r w2 ⟨rfl, b2⟩
  have B2 : Below w.heap.size w w2 := btr B1 b2
  have Rx_2 := heap_of b2 _ _ _ Rx_1
  clear b2 B1 Rx_1 cx_1_0 cx_1_1 cx_1_2 cx_1_3
  obtain ⟨cx_2_0, cx_2_1, cx_2_2, cx_2_3⟩ := cells4s Rx_2
  go_wp2_with fail
  refine (K3.out _ (tabB TT.out B2)).mono ?_
  rintro r w3 ⟨rfl, b3⟩
  have B3 : Below w.heap.size w w3 := btr B2 b3
  have Rx_3 := heap_of b3 _ _ _ Rx_2
  clear b3 B2 Rx_2 cx_2_0 cx_2_1 cx_2_2 cx_2_3
  obtain ⟨cx_3_0, cx_3_1, cx_3_2, cx_3_3⟩ := cells4s Rx_3
  go_wp2
  go_ret
  exact ⟨rfl, B3⟩
set_option maxRecDepth 100000 in
set_option maxHeartbeats 4000000 in
theorem ru_check_f (f m : Int) (b : Bool) (s t : ByteArray) (e : Int) (c1 c2 c3 : Int) (w : World)
    (K1 : Box (∀ w, Calls Tryz.prog 60 #[.int .u8 f] w fun r w' => r = .returned (.int .i64 c1) ∧ Below w.heap.size w w'))
    (K2 : Box (∀ w, Calls Tryz.prog 145 #[.int .u8 m] w fun r w' => r = .returned (.int .i64 c2) ∧ Below w.heap.size w w'))
    (K3 : Box (∀ w, TabAt w → Calls Tryz.prog 146 #[.agg #[.bool b, .string s, .string t, .int .i64 e]] w fun r w' => r = .returned (.int .i64 c3) ∧ Below w.heap.size w w'))
    (h1 : (c1 != 0) = false) (h2 : (c2 != 0) = false) (h3 : (c3 != 0) = false) (h4 : decide ((8192 : Int) < (s.size : Int)) = false) (h5 : decide ((8192 : Int) < (t.size : Int)) = false)
    (hT2 : TabAt w) : Calls Tryz.prog 65 #[.int .u8 f, .int .u8 m, .agg #[.bool b, .string s, .string t, .int .i64 e]] w fun r w' => r = .returned (.int .i64 0) ∧ Below w.heap.size w w' := by
  have TT := box hT2
  clear hT2
  obtain ⟨Rx_0, B0⟩ := opn1 w (Obj.cells #[.bool b, .string s, .string t, .int .i64 e] 41)
  go_enter Tryz.func65, Tryz.ntmps65
  go_wp2_with fail
  refine (K1.out _).mono ?_
  rintro r w1 ⟨rfl, b1⟩
  have B1 : Below w.heap.size w w1 := btr B0 b1
  have Rx_1 := heap_of b1 _ _ _ Rx_0
  clear b1 B0 Rx_0
  obtain ⟨cx_1_0, cx_1_1, cx_1_2, cx_1_3⟩ := cells4s Rx_1
  go_wp2_with fail
  refine (K2.out _).mono ?_
  rintro r w2 ⟨rfl, b2⟩
  have B2 : Below w.heap.size w w2 := btr B1 b2
  have Rx_2 := heap_of b2 _ _ _ Rx_1
  clear b2 B1 Rx_1 cx_1_0 cx_1_1 cx_1_2 cx_1_3
  obtain ⟨cx_2_0, cx_2_1, cx_2_2, cx_2_3⟩ := cells4s Rx_2
  go_wp2_with fail
  refine (K3.out _ (tabB TT.out B2)).mono ?_
  rintro r w3 ⟨rfl, b3⟩
  have B3 : Below w.heap.size w w3 := btr B2 b3
  have Rx_3 := heap_of b3 _ _ _ Rx_2
  clear b3 B2 Rx_2 cx_2_0 cx_2_1 cx_2_2 cx_2_3
  obtain ⟨cx_3_0, cx_3_1, cx_3_2, cx_3_3⟩ := cells4s Rx_3
  go_wp2
  go_ret
  exact ⟨rfl, B3⟩
end Go.Proofs.YtbmhfcppaajgbaaGreatDoor
