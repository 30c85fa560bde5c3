/-
  What the functions that the statement reaches return: part 14 (R7, RA).
-/
import Derived.Deep.RegionHeld3
import Derived.Test.YtfmmeifipbpbmaaGreatDoorOb13
namespace Go.Proofs.YtfmmeifipbpbmaaGreatDoor
set_option maxRecDepth 100000
open Go.RowKit WMath
set_option linter.unusedSimpArgs false
set_option linter.unusedVariables false
theorem gen_rule_delivered_8 {X : Act → World → Prop} {R : World → Nat → Prop} {t0 t1 t2 t3 t4 t5 t6 t7 t9 t10 t11 t12 t13 t14 t15 t16 t17 t18 t19 t20 t21 t22 t23 t24 t25 t26 t27 t28 t29 t30 t31 t32 t33 t34 t35 t36 t37 t38 t39 t40 t41 t42 t43 t44 t45 t46 t47 t48 t49 t50 t51 t52 t53 t54 : Value} {d : List Deferred} {W : World} {G : Nat}
    (key : ∀ w5 g, R w5 g → X ⟨#[t0, t1, t2, t3, t4, t5, t6, t7, .pointer (some ⟨g, 0, none⟩), t9, t10, t11, t12, t13, t14, t15, t16, t17, t18, t19, t20, t21, t22, t23, t24, t25, t26, t27, t28, t29, t30, t31, t32, t33, t34, t35, t36, t37, t38, t39, t40, t41, t42, t43, t44, t45, t46, t47, t48, t49, t50, t51, t52, t53, t54], d⟩ w5) (r : R W G) : X ⟨#[t0, t1, t2, t3, t4, t5, t6, t7, .pointer (some ⟨G, 0, none⟩), t9, t10, t11, t12, t13, t14, t15, t16, t17, t18, t19, t20, t21, t22, t23, t24, t25, t26, t27, t28, t29, t30, t31, t32, t33, t34, t35, t36, t37, t38, t39, t40, t41, t42, t43, t44, t45, t46, t47, t48, t49, t50, t51, t52, t53, t54], d⟩ W := key W G r

set_option maxRecDepth 100000 in
set_option maxHeartbeats 16000000 in
theorem ru_delivered (f m : Int) (neg : Bool) (T La : Int) (ws : ByteArray) (more : Bool) (I st rt E fl : Int) (rs : ByteArray) (half mo ov o : Bool) (u v : Nat) (w : World)
    (KI : Box (∀ w, FAt w → Calls Tryz.prog 85 #[.int .u8 f] w fun r w' => r = .returned (.int .i64 I) ∧ Below w.heap.size w w'))
    (KS : Box (∀ w, FAt w → Calls Tryz.prog 148 #[.int .u8 f, .int .i64 (max T I)] w fun r w' => r = .returned (.int .i64 st) ∧ Below w.heap.size w w'))
    (KR : Box (∀ w, TabAt w → Calls Tryz.prog 147 #[.int .u8 m, .agg #[.bool neg, .int .i64 T, .int .i64 La, .string ws, .bool more], .int .i64 st] w fun r w' => r = .returned (.agg #[.string rs, .int .i64 st, .bool half, .bool mo]) ∧ Below w.heap.size w w'))
    (KT : Box (∀ w, Calls Tryz.prog 149 #[.agg #[.string rs, .int .i64 st, .bool half, .bool mo]] w fun r w' => r = .returned (.int .i64 rt) ∧ Below w.heap.size w w'))
    (KE : Box (∀ w, FAt w → Calls Tryz.prog 86 #[.int .u8 f] w fun r w' => r = .returned (.int .i64 E) ∧ Below w.heap.size w w'))
    (KB : Box (ov = true → ∀ w, FAt w → Calls Tryz.prog 150 #[.int .u8 f, .int .u8 m, .bool neg] w fun r w' => r = .returned (.agg #[.int .u64 (u : Nat), .int .u64 (v : Nat)]) ∧ Below w.heap.size w w'))
    (KD : Box (ov = false → ∀ w, FAt w → TabAt w → Calls Tryz.prog 151 #[.int .u8 f, .bool neg, .agg #[.string rs, .int .i64 st, .bool half, .bool mo]] w fun r w' => r = .returned (.agg #[.int .u64 (u : Nat), .int .u64 (v : Nat)]) ∧ Below w.heap.size w w'))
    (KN : Box (∀ w, FAt w → TabAt w → Calls Tryz.prog 152 #[.int .u8 f, .int .u8 m, .agg #[.bool neg, .int .i64 T, .int .i64 La, .string ws, .bool more]] w fun r w' => r = .returned (.bool o) ∧ Below w.heap.size w w'))
    (ho : decide (E < rt) = ov) (hfl : (if ov = true then (5 : Int) else if (half || mo) = true then (if o = true then 3 else 1) else 0) = fl)
    (hT : FAt w) (hT2 : TabAt w) : Calls Tryz.prog 69 #[.int .u8 f, .int .u8 m, .agg #[.bool neg, .int .i64 T, .int .i64 La, .string ws, .bool more]] w fun r w' => r = .returned (.tuple #[.agg #[.int .u64 (u : Nat), .int .u64 (v : Nat)], .int .u8 fl]) ∧ Below w.heap.size w w' := by
  have FF := box hT
  have TT := box hT2
  have HFL := box hfl
  clear hT hT2 hfl
  obtain ⟨Rn_0, Rz_0, B0⟩ := opn2 w (Obj.cells #[.bool neg, .int .i64 T, .int .i64 La, .string ws, .bool more] 107) (Obj.cells #[.int .u64 0, .int .u64 0] 25)
  go_enter Tryz.func69, Tryz.ntmps69
  have sS : Box (∀ W W1 : World, (Below w.heap.size w W ∧ W.heap[w.heap.size]? = some (Obj.cells #[.bool neg, .int .i64 T, .int .i64 La, .string ws, .bool more] 107) ∧ W.heap[w.heap.size + 1]? = some (Obj.cells #[.int .u64 0, .int .u64 0] 25) ∧ W.cell? ⟨w.heap.size, 0, none⟩ = some (.bool neg) ∧ W.cell? ⟨w.heap.size, 1, none⟩ = some (.int .i64 T) ∧ W.cell? ⟨w.heap.size, 2, none⟩ = some (.int .i64 La) ∧ W.cell? ⟨w.heap.size, 3, none⟩ = some (.string ws) ∧ W.cell? ⟨w.heap.size, 4, none⟩ = some (.bool more) ∧ W.cell? ⟨w.heap.size + 1, 0, none⟩ = some (.int .u64 0) ∧ W.cell? ⟨w.heap.size + 1, 1, none⟩ = some (.int .u64 0)) → Below W.heap.size W W1 → (Below w.heap.size w W1 ∧ W1.heap[w.heap.size]? = some (Obj.cells #[.bool neg, .int .i64 T, .int .i64 La, .string ws, .bool more] 107) ∧ W1.heap[w.heap.size + 1]? = some (Obj.cells #[.int .u64 0, .int .u64 0] 25) ∧ W1.cell? ⟨w.heap.size, 0, none⟩ = some (.bool neg) ∧ W1.cell? ⟨w.heap.size, 1, none⟩ = some (.int .i64 T) ∧ W1.cell? ⟨w.heap.size, 2, none⟩ = some (.int .i64 La) ∧ W1.cell? ⟨w.heap.size, 3, none⟩ = some (.string ws) ∧ W1.cell? ⟨w.heap.size, 4, none⟩ = some (.bool more) ∧ W1.cell? ⟨w.heap.size + 1, 0, none⟩ = some (.int .u64 0) ∧ W1.cell? ⟨w.heap.size + 1, 1, none⟩ = some (.int .u64 0))) := box (fun W W1 h b => ⟨btr h.1 b, heap_of b _ _ _ h.2.1, heap_of b _ _ _ h.2.2.1, cell7 (heap_of b _ _ _ h.2.1) 0 _ rfl, cell7 (heap_of b _ _ _ h.2.1) 1 _ rfl, cell7 (heap_of b _ _ _ h.2.1) 2 _ rfl, cell7 (heap_of b _ _ _ h.2.1) 3 _ rfl, cell7 (heap_of b _ _ _ h.2.1) 4 _ rfl, cell7 (heap_of b _ _ _ h.2.2.1) 0 _ rfl, cell7 (heap_of b _ _ _ h.2.2.1) 1 _ rfl⟩)
  have sL : Box (∀ W : World, (Below w.heap.size w W ∧ W.heap[w.heap.size]? = some (Obj.cells #[.bool neg, .int .i64 T, .int .i64 La, .string ws, .bool more] 107) ∧ W.heap[w.heap.size + 1]? = some (Obj.cells #[.int .u64 0, .int .u64 0] 25) ∧ W.cell? ⟨w.heap.size, 0, none⟩ = some (.bool neg) ∧ W.cell? ⟨w.heap.size, 1, none⟩ = some (.int .i64 T) ∧ W.cell? ⟨w.heap.size, 2, none⟩ = some (.int .i64 La) ∧ W.cell? ⟨w.heap.size, 3, none⟩ = some (.string ws) ∧ W.cell? ⟨w.heap.size, 4, none⟩ = some (.bool more) ∧ W.cell? ⟨w.heap.size + 1, 0, none⟩ = some (.int .u64 0) ∧ W.cell? ⟨w.heap.size + 1, 1, none⟩ = some (.int .u64 0)) → (w.heap.size < W.heap.size ∧ w.heap.size + 1 < W.heap.size)) := box (fun W h => ⟨(Array.getElem?_eq_some_iff.1 h.2.1).1, (Array.getElem?_eq_some_iff.1 h.2.2.1).1⟩)
  have sT : Box (∀ (W : World) (gN : Nat) (xA xB xC xD : Value), (Below w.heap.size w W ∧ W.heap[w.heap.size]? = some (Obj.cells #[.bool neg, .int .i64 T, .int .i64 La, .string ws, .bool more] 107) ∧ W.heap[w.heap.size + 1]? = some (Obj.cells #[.int .u64 0, .int .u64 0] 25) ∧ W.cell? ⟨w.heap.size, 0, none⟩ = some (.bool neg) ∧ W.cell? ⟨w.heap.size, 1, none⟩ = some (.int .i64 T) ∧ W.cell? ⟨w.heap.size, 2, none⟩ = some (.int .i64 La) ∧ W.cell? ⟨w.heap.size, 3, none⟩ = some (.string ws) ∧ W.cell? ⟨w.heap.size, 4, none⟩ = some (.bool more) ∧ W.cell? ⟨w.heap.size + 1, 0, none⟩ = some (.int .u64 0) ∧ W.cell? ⟨w.heap.size + 1, 1, none⟩ = some (.int .u64 0)) → (w.heap.size < gN ∧ w.heap.size + 1 < gN) → (Below w.heap.size w ((((W.setCell ⟨gN, 0, none⟩ xA).setCell ⟨gN, 1, none⟩ xB).setCell ⟨gN, 2, none⟩ xC).setCell ⟨gN, 3, none⟩ xD) ∧ ((((W.setCell ⟨gN, 0, none⟩ xA).setCell ⟨gN, 1, none⟩ xB).setCell ⟨gN, 2, none⟩ xC).setCell ⟨gN, 3, none⟩ xD).heap[w.heap.size]? = some (Obj.cells #[.bool neg, .int .i64 T, .int .i64 La, .string ws, .bool more] 107) ∧ ((((W.setCell ⟨gN, 0, none⟩ xA).setCell ⟨gN, 1, none⟩ xB).setCell ⟨gN, 2, none⟩ xC).setCell ⟨gN, 3, none⟩ xD).heap[w.heap.size + 1]? = some (Obj.cells #[.int .u64 0, .int .u64 0] 25) ∧ ((((W.setCell ⟨gN, 0, none⟩ xA).setCell ⟨gN, 1, none⟩ xB).setCell ⟨gN, 2, none⟩ xC).setCell ⟨gN, 3, none⟩ xD).cell? ⟨w.heap.size, 0, none⟩ = some (.bool neg) ∧ ((((W.setCell ⟨gN, 0, none⟩ xA).setCell ⟨gN, 1, none⟩ xB).setCell ⟨gN, 2, none⟩ xC).setCell ⟨gN, 3, none⟩ xD).cell? ⟨w.heap.size, 1, none⟩ = some (.int .i64 T) ∧ ((((W.setCell ⟨gN, 0, none⟩ xA).setCell ⟨gN, 1, none⟩ xB).setCell ⟨gN, 2, none⟩ xC).setCell ⟨gN, 3, none⟩ xD).cell? ⟨w.heap.size, 2, none⟩ = some (.int .i64 La) ∧ ((((W.setCell ⟨gN, 0, none⟩ xA).setCell ⟨gN, 1, none⟩ xB).setCell ⟨gN, 2, none⟩ xC).setCell ⟨gN, 3, none⟩ xD).cell? ⟨w.heap.size, 3, none⟩ = some (.string ws) ∧ ((((W.setCell ⟨gN, 0, none⟩ xA).setCell ⟨gN, 1, none⟩ xB).setCell ⟨gN, 2, none⟩ xC).setCell ⟨gN, 3, none⟩ xD).cell? ⟨w.heap.size, 4, none⟩ = some (.bool more) ∧ ((((W.setCell ⟨gN, 0, none⟩ xA).setCell ⟨gN, 1, none⟩ xB).setCell ⟨gN, 2, none⟩ xC).setCell ⟨gN, 3, none⟩ xD).cell? ⟨w.heap.size + 1, 0, none⟩ = some (.int .u64 0) ∧ ((((W.setCell ⟨gN, 0, none⟩ xA).setCell ⟨gN, 1, none⟩ xB).setCell ⟨gN, 2, none⟩ xC).setCell ⟨gN, 3, none⟩ xD).cell? ⟨w.heap.size + 1, 1, none⟩ = some (.int .u64 0))) := box (fun W gN xA xB xC xD h l => ⟨set4_below h.1 (show w.heap.size ≤ gN by have := l.1; omega) _ _ _ _, (setCell_other (by have := l.1; omega)).trans ((setCell_other (by have := l.1; omega)).trans ((setCell_other (by have := l.1; omega)).trans ((setCell_other (by have := l.1; omega)).trans h.2.1))), (setCell_other (by have := l.2; omega)).trans ((setCell_other (by have := l.2; omega)).trans ((setCell_other (by have := l.2; omega)).trans ((setCell_other (by have := l.2; omega)).trans h.2.2.1))), cell7 ((setCell_other (by have := l.1; omega)).trans ((setCell_other (by have := l.1; omega)).trans ((setCell_other (by have := l.1; omega)).trans ((setCell_other (by have := l.1; omega)).trans h.2.1)))) 0 _ rfl, cell7 ((setCell_other (by have := l.1; omega)).trans ((setCell_other (by have := l.1; omega)).trans ((setCell_other (by have := l.1; omega)).trans ((setCell_other (by have := l.1; omega)).trans h.2.1)))) 1 _ rfl, cell7 ((setCell_other (by have := l.1; omega)).trans ((setCell_other (by have := l.1; omega)).trans ((setCell_other (by have := l.1; omega)).trans ((setCell_other (by have := l.1; omega)).trans h.2.1)))) 2 _ rfl, cell7 ((setCell_other (by have := l.1; omega)).trans ((setCell_other (by have := l.1; omega)).trans ((setCell_other (by have := l.1; omega)).trans ((setCell_other (by have := l.1; omega)).trans h.2.1)))) 3 _ rfl, cell7 ((setCell_other (by have := l.1; omega)).trans ((setCell_other (by have := l.1; omega)).trans ((setCell_other (by have := l.1; omega)).trans ((setCell_other (by have := l.1; omega)).trans h.2.1)))) 4 _ rfl, cell7 ((setCell_other (by have := l.2; omega)).trans ((setCell_other (by have := l.2; omega)).trans ((setCell_other (by have := l.2; omega)).trans ((setCell_other (by have := l.2; omega)).trans h.2.2.1)))) 0 _ rfl, cell7 ((setCell_other (by have := l.2; omega)).trans ((setCell_other (by have := l.2; omega)).trans ((setCell_other (by have := l.2; omega)).trans ((setCell_other (by have := l.2; omega)).trans h.2.2.1)))) 1 _ rfl⟩)
  have s0 : Below w.heap.size w (((w.alloc (Obj.cells #[.bool neg, .int .i64 T, .int .i64 La, .string ws, .bool more] 107)).alloc (Obj.cells #[.int .u64 0, .int .u64 0] 25))).drew ∧ (((w.alloc (Obj.cells #[.bool neg, .int .i64 T, .int .i64 La, .string ws, .bool more] 107)).alloc (Obj.cells #[.int .u64 0, .int .u64 0] 25))).drew.heap[w.heap.size]? = some (Obj.cells #[.bool neg, .int .i64 T, .int .i64 La, .string ws, .bool more] 107) ∧ (((w.alloc (Obj.cells #[.bool neg, .int .i64 T, .int .i64 La, .string ws, .bool more] 107)).alloc (Obj.cells #[.int .u64 0, .int .u64 0] 25))).drew.heap[w.heap.size + 1]? = some (Obj.cells #[.int .u64 0, .int .u64 0] 25) ∧ (((w.alloc (Obj.cells #[.bool neg, .int .i64 T, .int .i64 La, .string ws, .bool more] 107)).alloc (Obj.cells #[.int .u64 0, .int .u64 0] 25))).drew.cell? ⟨w.heap.size, 0, none⟩ = some (.bool neg) ∧ (((w.alloc (Obj.cells #[.bool neg, .int .i64 T, .int .i64 La, .string ws, .bool more] 107)).alloc (Obj.cells #[.int .u64 0, .int .u64 0] 25))).drew.cell? ⟨w.heap.size, 1, none⟩ = some (.int .i64 T) ∧ (((w.alloc (Obj.cells #[.bool neg, .int .i64 T, .int .i64 La, .string ws, .bool more] 107)).alloc (Obj.cells #[.int .u64 0, .int .u64 0] 25))).drew.cell? ⟨w.heap.size, 2, none⟩ = some (.int .i64 La) ∧ (((w.alloc (Obj.cells #[.bool neg, .int .i64 T, .int .i64 La, .string ws, .bool more] 107)).alloc (Obj.cells #[.int .u64 0, .int .u64 0] 25))).drew.cell? ⟨w.heap.size, 3, none⟩ = some (.string ws) ∧ (((w.alloc (Obj.cells #[.bool neg, .int .i64 T, .int .i64 La, .string ws, .bool more] 107)).alloc (Obj.cells #[.int .u64 0, .int .u64 0] 25))).drew.cell? ⟨w.heap.size, 4, none⟩ = some (.bool more) ∧ (((w.alloc (Obj.cells #[.bool neg, .int .i64 T, .int .i64 La, .string ws, .bool more] 107)).alloc (Obj.cells #[.int .u64 0, .int .u64 0] 25))).drew.cell? ⟨w.heap.size + 1, 0, none⟩ = some (.int .u64 0) ∧ (((w.alloc (Obj.cells #[.bool neg, .int .i64 T, .int .i64 La, .string ws, .bool more] 107)).alloc (Obj.cells #[.int .u64 0, .int .u64 0] 25))).drew.cell? ⟨w.heap.size + 1, 1, none⟩ = some (.int .u64 0) := ⟨B0.drew, Rn_0, Rz_0, cell7 (Rn_0) 0 _ rfl, cell7 (Rn_0) 1 _ rfl, cell7 (Rn_0) 2 _ rfl, cell7 (Rn_0) 3 _ rfl, cell7 (Rn_0) 4 _ rfl, cell7 (Rz_0) 0 _ rfl, cell7 (Rz_0) 1 _ rfl⟩
  clear B0 Rn_0 Rz_0
  go_wp2_with fail
  apply cut7
  · intro key0
    have key := box key0
    clear key0
    go_region_held3 (fun W => Below w.heap.size w W ∧ W.heap[w.heap.size]? = some (Obj.cells #[.bool neg, .int .i64 T, .int .i64 La, .string ws, .bool more] 107) ∧ W.heap[w.heap.size + 1]? = some (Obj.cells #[.int .u64 0, .int .u64 0] 25) ∧ W.cell? ⟨w.heap.size, 0, none⟩ = some (.bool neg) ∧ W.cell? ⟨w.heap.size, 1, none⟩ = some (.int .i64 T) ∧ W.cell? ⟨w.heap.size, 2, none⟩ = some (.int .i64 La) ∧ W.cell? ⟨w.heap.size, 3, none⟩ = some (.string ws) ∧ W.cell? ⟨w.heap.size, 4, none⟩ = some (.bool more) ∧ W.cell? ⟨w.heap.size + 1, 0, none⟩ = some (.int .u64 0) ∧ W.cell? ⟨w.heap.size + 1, 1, none⟩ = some (.int .u64 0)) (first | exact s1 | exact s0 | exact sS.out _ _ s1 (bal _ _) | exact sS.out _ _ s0 (bal _ _) | exact sT.out _ _ _ _ _ _ s1 hl)
      (first | (go_at_call 85; (first | refine (KI.out _ (by first | exact fatB FF.out (And.left s1) | exact fat_al (fatB FF.out (And.left s1)) _)).mono ?_ | refine (KI.out _ (by first | exact fatB FF.out (And.left s0) | exact fat_al (fatB FF.out (And.left s0)) _)).mono ?_); rintro r wq ⟨rfl, bq⟩; (first | (have hg := heap_of bq _ _ _ (heap_alloc_last _ _); have hl := (by first | exact sL.out _ s1 | exact sL.out _ s0)) | have hg := heap_of bq _ _ _ hg | skip); (try simp only [size_dr, size_al] at hg hl); (first | (have hq0 := fz (k := 0) hg; have hq1 := fz (k := 1) hg; have hq2 := fz (k := 2) hg; have hq3 := fz (k := 3) hg; have hc0 := cell7 hg 0 _ rfl; have hc1 := cell7 hg 1 _ rfl; have hc2 := cell7 hg 2 _ rfl; have hc3 := cell7 hg 3 _ rfl) | skip); have s2 := (by first | exact sS.out _ _ s1 bq | exact sS.out _ _ s0 bq | exact sS.out _ _ (sS.out _ _ s1 (bal _ _)) bq | exact sS.out _ _ (sS.out _ _ s0 (bal _ _)) bq); (try clear s1); have s1 := s2; clear s2 bq) | (go_at_call 148; (first | refine (KS.out _ (by first | exact fatB FF.out (And.left s1) | exact fat_al (fatB FF.out (And.left s1)) _)).mono ?_ | refine (KS.out _ (by first | exact fatB FF.out (And.left s0) | exact fat_al (fatB FF.out (And.left s0)) _)).mono ?_); rintro r wq ⟨rfl, bq⟩; (first | (have hg := heap_of bq _ _ _ (heap_alloc_last _ _); have hl := (by first | exact sL.out _ s1 | exact sL.out _ s0)) | have hg := heap_of bq _ _ _ hg | skip); (try simp only [size_dr, size_al] at hg hl); (first | (have hq0 := fz (k := 0) hg; have hq1 := fz (k := 1) hg; have hq2 := fz (k := 2) hg; have hq3 := fz (k := 3) hg; have hc0 := cell7 hg 0 _ rfl; have hc1 := cell7 hg 1 _ rfl; have hc2 := cell7 hg 2 _ rfl; have hc3 := cell7 hg 3 _ rfl) | skip); have s2 := (by first | exact sS.out _ _ s1 bq | exact sS.out _ _ s0 bq | exact sS.out _ _ (sS.out _ _ s1 (bal _ _)) bq | exact sS.out _ _ (sS.out _ _ s0 (bal _ _)) bq); (try clear s1); have s1 := s2; clear s2 bq) | (go_at_call 147; (first | refine (KR.out _ (by first | exact tabB TT.out (And.left s1) | exact tabA (tabB TT.out (And.left s1)) _)).mono ?_ | refine (KR.out _ (by first | exact tabB TT.out (And.left s0) | exact tabA (tabB TT.out (And.left s0)) _)).mono ?_); rintro r wq ⟨rfl, bq⟩; (first | (have hg := heap_of bq _ _ _ (heap_alloc_last _ _); have hl := (by first | exact sL.out _ s1 | exact sL.out _ s0)) | have hg := heap_of bq _ _ _ hg | skip); (try simp only [size_dr, size_al] at hg hl); (first | (have hq0 := fz (k := 0) hg; have hq1 := fz (k := 1) hg; have hq2 := fz (k := 2) hg; have hq3 := fz (k := 3) hg; have hc0 := cell7 hg 0 _ rfl; have hc1 := cell7 hg 1 _ rfl; have hc2 := cell7 hg 2 _ rfl; have hc3 := cell7 hg 3 _ rfl) | skip); have s2 := (by first | exact sS.out _ _ s1 bq | exact sS.out _ _ s0 bq | exact sS.out _ _ (sS.out _ _ s1 (bal _ _)) bq | exact sS.out _ _ (sS.out _ _ s0 (bal _ _)) bq); (try clear s1); have s1 := s2; clear s2 bq) | fail)
    all_goals
      refine gen_rule_delivered_8 (R := fun W gN => (Below w.heap.size w W ∧ W.heap[w.heap.size]? = some (Obj.cells #[.bool neg, .int .i64 T, .int .i64 La, .string ws, .bool more] 107) ∧ W.heap[w.heap.size + 1]? = some (Obj.cells #[.int .u64 0, .int .u64 0] 25) ∧ W.cell? ⟨w.heap.size, 0, none⟩ = some (.bool neg) ∧ W.cell? ⟨w.heap.size, 1, none⟩ = some (.int .i64 T) ∧ W.cell? ⟨w.heap.size, 2, none⟩ = some (.int .i64 La) ∧ W.cell? ⟨w.heap.size, 3, none⟩ = some (.string ws) ∧ W.cell? ⟨w.heap.size, 4, none⟩ = some (.bool more) ∧ W.cell? ⟨w.heap.size + 1, 0, none⟩ = some (.int .u64 0) ∧ W.cell? ⟨w.heap.size + 1, 1, none⟩ = some (.int .u64 0)) ∧ W.heap[gN]? = some (Obj.cells #[.string rs, .int .i64 st, .bool half, .bool mo] 174) ∧ (w.heap.size < gN ∧ w.heap.size + 1 < gN)) key.out ?_
      first
        | exact ⟨(sT.out _ _ _ _ _ _ s1 hl), set4_row hg rfl _ _ _ _, hl⟩
        | exact ⟨sS.out _ _ s1 (bal _ _), heap_alloc_last _ _, sL.out _ s1⟩
        | exact ⟨sS.out _ _ s0 (bal _ _), heap_alloc_last _ _, sL.out _ s0⟩
  rintro w1 g1 ⟨s1, Rr_1, l1⟩
  have B1 := And.left s1
  have Rn_1 := s1.2.1
  have Rz_1 := s1.2.2.1
  have H1 := box l1
  clear s0 s1 sS sL sT l1
  have cn_1_0 := cells4 Rn_1 0 _ rfl
  have cn_1_1 := cells4 Rn_1 1 _ rfl
  have cn_1_2 := cells4 Rn_1 2 _ rfl
  have cn_1_3 := cells4 Rn_1 3 _ rfl
  have cn_1_4 := cells4 Rn_1 4 _ rfl
  obtain ⟨cz_1_0, cz_1_1⟩ := cells2s Rz_1
  obtain ⟨cr_1_0, cr_1_1, cr_1_2, cr_1_3⟩ := cells4s Rr_1
  go_wp2_with fail
  refine (KT.out _).mono ?_
  rintro r w2 ⟨rfl, b2⟩
  have B2 : Below w.heap.size w w2 := btr B1 b2
  have Rn_2 := heap_of b2 _ _ _ Rn_1
  have Rz_2 := heap_of b2 _ _ _ Rz_1
  have Rr_2 := heap_of b2 _ _ _ Rr_1
  clear b2 B1 Rn_1 cn_1_0 cn_1_1 cn_1_2 cn_1_3 cn_1_4 Rz_1 cz_1_0 cz_1_1 Rr_1 cr_1_0 cr_1_1 cr_1_2 cr_1_3
  have cn_2_0 := cells4 Rn_2 0 _ rfl
  have cn_2_1 := cells4 Rn_2 1 _ rfl
  have cn_2_2 := cells4 Rn_2 2 _ rfl
  have cn_2_3 := cells4 Rn_2 3 _ rfl
  have cn_2_4 := cells4 Rn_2 4 _ rfl
  obtain ⟨cz_2_0, cz_2_1⟩ := cells2s Rz_2
  obtain ⟨cr_2_0, cr_2_1, cr_2_2, cr_2_3⟩ := cells4s Rr_2
  go_wp2_with fail
  refine (KE.out _ (fatB FF.out B2)).mono ?_
  rintro r w3 ⟨rfl, b3⟩
  have B3 : Below w.heap.size w w3 := btr B2 b3
  have Rn_3 := heap_of b3 _ _ _ Rn_2
  have Rz_3 := heap_of b3 _ _ _ Rz_2
  have Rr_3 := heap_of b3 _ _ _ Rr_2
  clear b3 B2 Rn_2 cn_2_0 cn_2_1 cn_2_2 cn_2_3 cn_2_4 Rz_2 cz_2_0 cz_2_1 Rr_2 cr_2_0 cr_2_1 cr_2_2 cr_2_3
  have cn_3_0 := cells4 Rn_3 0 _ rfl
  have cn_3_1 := cells4 Rn_3 1 _ rfl
  have cn_3_2 := cells4 Rn_3 2 _ rfl
  have cn_3_3 := cells4 Rn_3 3 _ rfl
  have cn_3_4 := cells4 Rn_3 4 _ rfl
  obtain ⟨cz_3_0, cz_3_1⟩ := cells2s Rz_3
  obtain ⟨cr_3_0, cr_3_1, cr_3_2, cr_3_3⟩ := cells4s Rr_3
  cases ov
  · have K5 := box (KD.out rfl)
    clear KB KD
    cases half
    · cases mo
      · obtain rfl : (0 : Int) = fl := HFL.out
        go_wp2_with fail
        refine (K5.out _ (fatB FF.out B3) (tabB TT.out B3)).mono ?_
        rintro r w4 ⟨rfl, b4⟩
        have B4 : Below w.heap.size w w4 := btr B3 b4
        have Rn_4 := heap_of b4 _ _ _ Rn_3
        have Rz_4 := heap_of b4 _ _ _ Rz_3
        have Rr_4 := heap_of b4 _ _ _ Rr_3
        clear b4 B3 Rn_3 cn_3_0 cn_3_1 cn_3_2 cn_3_3 cn_3_4 Rz_3 cz_3_0 cz_3_1 Rr_3 cr_3_0 cr_3_1 cr_3_2 cr_3_3
        have cn_4_0 := cells4 Rn_4 0 _ rfl
        have cn_4_1 := cells4 Rn_4 1 _ rfl
        have cn_4_2 := cells4 Rn_4 2 _ rfl
        have cn_4_3 := cells4 Rn_4 3 _ rfl
        have cn_4_4 := cells4 Rn_4 4 _ rfl
        obtain ⟨cz_4_0, cz_4_1⟩ := cells2s Rz_4
        obtain ⟨cr_4_0, cr_4_1, cr_4_2, cr_4_3⟩ := cells4s Rr_4
        have q0 := fz (k := 0) Rz_4
        have q1 := fz (k := 1) Rz_4
        obtain ⟨E0, E1⟩ := set2_cells Rz_4 (.int .u64 (u : Nat)) (.int .u64 (v : Nat))
        go_wp2
        exact bodyPost_ret (v := .tuple #[.agg #[.int .u64 (u : Nat), .int .u64 (v : Nat)], .int .u8 0]) (by simp [results, Tryz.results69, go_sem, E0, E1]) rfl ⟨rfl, set2_below B4 (by first | exact Nat.le_refl _ | omega | (have := H1.out; omega)) _ _⟩
      · cases o
        · obtain rfl : (1 : Int) = fl := HFL.out
          go_wp2_with fail
          refine (KN.out _ (fatB FF.out B3) (tabB TT.out B3)).mono ?_
          rintro r w4 ⟨rfl, b4⟩
          have B4 : Below w.heap.size w w4 := btr B3 b4
          have Rn_4 := heap_of b4 _ _ _ Rn_3
          have Rz_4 := heap_of b4 _ _ _ Rz_3
          have Rr_4 := heap_of b4 _ _ _ Rr_3
          clear b4 B3 Rn_3 cn_3_0 cn_3_1 cn_3_2 cn_3_3 cn_3_4 Rz_3 cz_3_0 cz_3_1 Rr_3 cr_3_0 cr_3_1 cr_3_2 cr_3_3
          have cn_4_0 := cells4 Rn_4 0 _ rfl
          have cn_4_1 := cells4 Rn_4 1 _ rfl
          have cn_4_2 := cells4 Rn_4 2 _ rfl
          have cn_4_3 := cells4 Rn_4 3 _ rfl
          have cn_4_4 := cells4 Rn_4 4 _ rfl
          obtain ⟨cz_4_0, cz_4_1⟩ := cells2s Rz_4
          obtain ⟨cr_4_0, cr_4_1, cr_4_2, cr_4_3⟩ := cells4s Rr_4
          go_wp2_with fail
          refine (K5.out _ (fatB FF.out B4) (tabB TT.out B4)).mono ?_
          rintro r w5 ⟨rfl, b5⟩
          have B5 : Below w.heap.size w w5 := btr B4 b5
          have Rn_5 := heap_of b5 _ _ _ Rn_4
          have Rz_5 := heap_of b5 _ _ _ Rz_4
          have Rr_5 := heap_of b5 _ _ _ Rr_4
          clear b5 B4 Rn_4 cn_4_0 cn_4_1 cn_4_2 cn_4_3 cn_4_4 Rz_4 cz_4_0 cz_4_1 Rr_4 cr_4_0 cr_4_1 cr_4_2 cr_4_3
          have cn_5_0 := cells4 Rn_5 0 _ rfl
          have cn_5_1 := cells4 Rn_5 1 _ rfl
          have cn_5_2 := cells4 Rn_5 2 _ rfl
          have cn_5_3 := cells4 Rn_5 3 _ rfl
          have cn_5_4 := cells4 Rn_5 4 _ rfl
          obtain ⟨cz_5_0, cz_5_1⟩ := cells2s Rz_5
          obtain ⟨cr_5_0, cr_5_1, cr_5_2, cr_5_3⟩ := cells4s Rr_5
          have q0 := fz (k := 0) Rz_5
          have q1 := fz (k := 1) Rz_5
          obtain ⟨E0, E1⟩ := set2_cells Rz_5 (.int .u64 (u : Nat)) (.int .u64 (v : Nat))
          go_wp2
          exact bodyPost_ret (v := .tuple #[.agg #[.int .u64 (u : Nat), .int .u64 (v : Nat)], .int .u8 1]) (by simp [results, Tryz.results69, go_sem, E0, E1]) rfl ⟨rfl, set2_below B5 (by first | exact Nat.le_refl _ | omega | (have := H1.out; omega)) _ _⟩
        · obtain rfl : (3 : Int) = fl := HFL.out
          go_wp2_with fail
          refine (KN.out _ (fatB FF.out B3) (tabB TT.out B3)).mono ?_
          rintro r w4 ⟨rfl, b4⟩
          have B4 : Below w.heap.size w w4 := btr B3 b4
          have Rn_4 := heap_of b4 _ _ _ Rn_3
          have Rz_4 := heap_of b4 _ _ _ Rz_3
          have Rr_4 := heap_of b4 _ _ _ Rr_3
          clear b4 B3 Rn_3 cn_3_0 cn_3_1 cn_3_2 cn_3_3 cn_3_4 Rz_3 cz_3_0 cz_3_1 Rr_3 cr_3_0 cr_3_1 cr_3_2 cr_3_3
          have cn_4_0 := cells4 Rn_4 0 _ rfl
          have cn_4_1 := cells4 Rn_4 1 _ rfl
          have cn_4_2 := cells4 Rn_4 2 _ rfl
          have cn_4_3 := cells4 Rn_4 3 _ rfl
          have cn_4_4 := cells4 Rn_4 4 _ rfl
          obtain ⟨cz_4_0, cz_4_1⟩ := cells2s Rz_4
          obtain ⟨cr_4_0, cr_4_1, cr_4_2, cr_4_3⟩ := cells4s Rr_4
          go_wp2_with fail
          refine (K5.out _ (fatB FF.out B4) (tabB TT.out B4)).mono ?_
          rintro r w5 ⟨rfl, b5⟩
          have B5 : Below w.heap.size w w5 := btr B4 b5
          have Rn_5 := heap_of b5 _ _ _ Rn_4
          have Rz_5 := heap_of b5 _ _ _ Rz_4
          have Rr_5 := heap_of b5 _ _ _ Rr_4
          clear b5 B4 Rn_4 cn_4_0 cn_4_1 cn_4_2 cn_4_3 cn_4_4 Rz_4 cz_4_0 cz_4_1 Rr_4 cr_4_0 cr_4_1 cr_4_2 cr_4_3
          have cn_5_0 := cells4 Rn_5 0 _ rfl
          have cn_5_1 := cells4 Rn_5 1 _ rfl
          have cn_5_2 := cells4 Rn_5 2 _ rfl
          have cn_5_3 := cells4 Rn_5 3 _ rfl
          have cn_5_4 := cells4 Rn_5 4 _ rfl
          obtain ⟨cz_5_0, cz_5_1⟩ := cells2s Rz_5
          obtain ⟨cr_5_0, cr_5_1, cr_5_2, cr_5_3⟩ := cells4s Rr_5
          have q0 := fz (k := 0) Rz_5
          have q1 := fz (k := 1) Rz_5
          obtain ⟨E0, E1⟩ := set2_cells Rz_5 (.int .u64 (u : Nat)) (.int .u64 (v : Nat))
          go_wp2
          exact bodyPost_ret (v := .tuple #[.agg #[.int .u64 (u : Nat), .int .u64 (v : Nat)], .int .u8 3]) (by simp [results, Tryz.results69, go_sem, E0, E1]) rfl ⟨rfl, set2_below B5 (by first | exact Nat.le_refl _ | omega | (have := H1.out; omega)) _ _⟩
    · cases mo
      · cases o
        · obtain rfl : (1 : Int) = fl := HFL.out
          go_wp2_with fail
          refine (KN.out _ (fatB FF.out B3) (tabB TT.out B3)).mono ?_
          rintro r w4 ⟨rfl, b4⟩
          have B4 : Below w.heap.size w w4 := btr B3 b4
          have Rn_4 := heap_of b4 _ _ _ Rn_3
          have Rz_4 := heap_of b4 _ _ _ Rz_3
          have Rr_4 := heap_of b4 _ _ _ Rr_3
          clear b4 B3 Rn_3 cn_3_0 cn_3_1 cn_3_2 cn_3_3 cn_3_4 Rz_3 cz_3_0 cz_3_1 Rr_3 cr_3_0 cr_3_1 cr_3_2 cr_3_3
          have cn_4_0 := cells4 Rn_4 0 _ rfl
          have cn_4_1 := cells4 Rn_4 1 _ rfl
          have cn_4_2 := cells4 Rn_4 2 _ rfl
          have cn_4_3 := cells4 Rn_4 3 _ rfl
          have cn_4_4 := cells4 Rn_4 4 _ rfl
          obtain ⟨cz_4_0, cz_4_1⟩ := cells2s Rz_4
          obtain ⟨cr_4_0, cr_4_1, cr_4_2, cr_4_3⟩ := cells4s Rr_4
          go_wp2_with fail
          refine (K5.out _ (fatB FF.out B4) (tabB TT.out B4)).mono ?_
          rintro r w5 ⟨rfl, b5⟩
          have B5 : Below w.heap.size w w5 := btr B4 b5
          have Rn_5 := heap_of b5 _ _ _ Rn_4
          have Rz_5 := heap_of b5 _ _ _ Rz_4
          have Rr_5 := heap_of b5 _ _ _ Rr_4
          clear b5 B4 Rn_4 cn_4_0 cn_4_1 cn_4_2 cn_4_3 cn_4_4 Rz_4 cz_4_0 cz_4_1 Rr_4 cr_4_0 cr_4_1 cr_4_2 cr_4_3
          have cn_5_0 := cells4 Rn_5 0 _ rfl
          have cn_5_1 := cells4 Rn_5 1 _ rfl
          have cn_5_2 := cells4 Rn_5 2 _ rfl
          have cn_5_3 := cells4 Rn_5 3 _ rfl
          have cn_5_4 := cells4 Rn_5 4 _ rfl
          obtain ⟨cz_5_0, cz_5_1⟩ := cells2s Rz_5
          obtain ⟨cr_5_0, cr_5_1, cr_5_2, cr_5_3⟩ := cells4s Rr_5
          have q0 := fz (k := 0) Rz_5
          have q1 := fz (k := 1) Rz_5
          obtain ⟨E0, E1⟩ := set2_cells Rz_5 (.int .u64 (u : Nat)) (.int .u64 (v : Nat))
          go_wp2
          exact bodyPost_ret (v := .tuple #[.agg #[.int .u64 (u : Nat), .int .u64 (v : Nat)], .int .u8 1]) (by simp [results, Tryz.results69, go_sem, E0, E1]) rfl ⟨rfl, set2_below B5 (by first | exact Nat.le_refl _ | omega | (have := H1.out; omega)) _ _⟩
        · obtain rfl : (3 : Int) = fl := HFL.out
          go_wp2_with fail
          refine (KN.out _ (fatB FF.out B3) (tabB TT.out B3)).mono ?_
          rintro r w4 ⟨rfl, b4⟩
          have B4 : Below w.heap.size w w4 := btr B3 b4
          have Rn_4 := heap_of b4 _ _ _ Rn_3
          have Rz_4 := heap_of b4 _ _ _ Rz_3
          have Rr_4 := heap_of b4 _ _ _ Rr_3
          clear b4 B3 Rn_3 cn_3_0 cn_3_1 cn_3_2 cn_3_3 cn_3_4 Rz_3 cz_3_0 cz_3_1 Rr_3 cr_3_0 cr_3_1 cr_3_2 cr_3_3
          have cn_4_0 := cells4 Rn_4 0 _ rfl
          have cn_4_1 := cells4 Rn_4 1 _ rfl
          have cn_4_2 := cells4 Rn_4 2 _ rfl
          have cn_4_3 := cells4 Rn_4 3 _ rfl
          have cn_4_4 := cells4 Rn_4 4 _ rfl
          obtain ⟨cz_4_0, cz_4_1⟩ := cells2s Rz_4
          obtain ⟨cr_4_0, cr_4_1, cr_4_2, cr_4_3⟩ := cells4s Rr_4
          go_wp2_with fail
          refine (K5.out _ (fatB FF.out B4) (tabB TT.out B4)).mono ?_
          rintro r w5 ⟨rfl, b5⟩
          have B5 : Below w.heap.size w w5 := btr B4 b5
          have Rn_5 := heap_of b5 _ _ _ Rn_4
          have Rz_5 := heap_of b5 _ _ _ Rz_4
          have Rr_5 := heap_of b5 _ _ _ Rr_4
          clear b5 B4 Rn_4 cn_4_0 cn_4_1 cn_4_2 cn_4_3 cn_4_4 Rz_4 cz_4_0 cz_4_1 Rr_4 cr_4_0 cr_4_1 cr_4_2 cr_4_3
          have cn_5_0 := cells4 Rn_5 0 _ rfl
          have cn_5_1 := cells4 Rn_5 1 _ rfl
          have cn_5_2 := cells4 Rn_5 2 _ rfl
          have cn_5_3 := cells4 Rn_5 3 _ rfl
          have cn_5_4 := cells4 Rn_5 4 _ rfl
          obtain ⟨cz_5_0, cz_5_1⟩ := cells2s Rz_5
          obtain ⟨cr_5_0, cr_5_1, cr_5_2, cr_5_3⟩ := cells4s Rr_5
          have q0 := fz (k := 0) Rz_5
          have q1 := fz (k := 1) Rz_5
          obtain ⟨E0, E1⟩ := set2_cells Rz_5 (.int .u64 (u : Nat)) (.int .u64 (v : Nat))
          go_wp2
          exact bodyPost_ret (v := .tuple #[.agg #[.int .u64 (u : Nat), .int .u64 (v : Nat)], .int .u8 3]) (by simp [results, Tryz.results69, go_sem, E0, E1]) rfl ⟨rfl, set2_below B5 (by first | exact Nat.le_refl _ | omega | (have := H1.out; omega)) _ _⟩
      · cases o
        · obtain rfl : (1 : Int) = fl := HFL.out
          go_wp2_with fail
          refine (KN.out _ (fatB FF.out B3) (tabB TT.out B3)).mono ?_
          rintro r w4 ⟨rfl, b4⟩
          have B4 : Below w.heap.size w w4 := btr B3 b4
          have Rn_4 := heap_of b4 _ _ _ Rn_3
          have Rz_4 := heap_of b4 _ _ _ Rz_3
          have Rr_4 := heap_of b4 _ _ _ Rr_3
          clear b4 B3 Rn_3 cn_3_0 cn_3_1 cn_3_2 cn_3_3 cn_3_4 Rz_3 cz_3_0 cz_3_1 Rr_3 cr_3_0 cr_3_1 cr_3_2 cr_3_3
          have cn_4_0 := cells4 Rn_4 0 _ rfl
          have cn_4_1 := cells4 Rn_4 1 _ rfl
          have cn_4_2 := cells4 Rn_4 2 _ rfl
          have cn_4_3 := cells4 Rn_4 3 _ rfl
          have cn_4_4 := cells4 Rn_4 4 _ rfl
          obtain ⟨cz_4_0, cz_4_1⟩ := cells2s Rz_4
          obtain ⟨cr_4_0, cr_4_1, cr_4_2, cr_4_3⟩ := cells4s Rr_4
          go_wp2_with fail
          refine (K5.out _ (fatB FF.out B4) (tabB TT.out B4)).mono ?_
          rintro r w5 ⟨rfl, b5⟩
          have B5 : Below w.heap.size w w5 := btr B4 b5
          have Rn_5 := heap_of b5 _ _ _ Rn_4
          have Rz_5 := heap_of b5 _ _ _ Rz_4
          have Rr_5 := heap_of b5 _ _ _ Rr_4
          clear b5 B4 Rn_4 cn_4_0 cn_4_1 cn_4_2 cn_4_3 cn_4_4 Rz_4 cz_4_0 cz_4_1 Rr_4 cr_4_0 cr_4_1 cr_4_2 cr_4_3
          have cn_5_0 := cells4 Rn_5 0 _ rfl
          have cn_5_1 := cells4 Rn_5 1 _ rfl
          have cn_5_2 := cells4 Rn_5 2 _ rfl
          have cn_5_3 := cells4 Rn_5 3 _ rfl
          have cn_5_4 := cells4 Rn_5 4 _ rfl
          obtain ⟨cz_5_0, cz_5_1⟩ := cells2s Rz_5
          obtain ⟨cr_5_0, cr_5_1, cr_5_2, cr_5_3⟩ := cells4s Rr_5
          have q0 := fz (k := 0) Rz_5
          have q1 := fz (k := 1) Rz_5
          obtain ⟨E0, E1⟩ := set2_cells Rz_5 (.int .u64 (u : Nat)) (.int .u64 (v : Nat))
          go_wp2
          exact bodyPost_ret (v := .tuple #[.agg #[.int .u64 (u : Nat), .int .u64 (v : Nat)], .int .u8 1]) (by simp [results, Tryz.results69, go_sem, E0, E1]) rfl ⟨rfl, set2_below B5 (by first | exact Nat.le_refl _ | omega | (have := H1.out; omega)) _ _⟩
        · obtain rfl : (3 : Int) = fl := HFL.out
          go_wp2_with fail
          refine (KN.out _ (fatB FF.out B3) (tabB TT.out B3)).mono ?_
          rintro r w4 ⟨rfl, b4⟩
          have B4 : Below w.heap.size w w4 := btr B3 b4
          have Rn_4 := heap_of b4 _ _ _ Rn_3
          have Rz_4 := heap_of b4 _ _ _ Rz_3
          have Rr_4 := heap_of b4 _ _ _ Rr_3
          clear b4 B3 Rn_3 cn_3_0 cn_3_1 cn_3_2 cn_3_3 cn_3_4 Rz_3 cz_3_0 cz_3_1 Rr_3 cr_3_0 cr_3_1 cr_3_2 cr_3_3
          have cn_4_0 := cells4 Rn_4 0 _ rfl
          have cn_4_1 := cells4 Rn_4 1 _ rfl
          have cn_4_2 := cells4 Rn_4 2 _ rfl
          have cn_4_3 := cells4 Rn_4 3 _ rfl
          have cn_4_4 := cells4 Rn_4 4 _ rfl
          obtain ⟨cz_4_0, cz_4_1⟩ := cells2s Rz_4
          obtain ⟨cr_4_0, cr_4_1, cr_4_2, cr_4_3⟩ := cells4s Rr_4
          go_wp2_with fail
          refine (K5.out _ (fatB FF.out B4) (tabB TT.out B4)).mono ?_
          rintro r w5 ⟨rfl, b5⟩
          have B5 : Below w.heap.size w w5 := btr B4 b5
          have Rn_5 := heap_of b5 _ _ _ Rn_4
          have Rz_5 := heap_of b5 _ _ _ Rz_4
          have Rr_5 := heap_of b5 _ _ _ Rr_4
          clear b5 B4 Rn_4 cn_4_0 cn_4_1 cn_4_2 cn_4_3 cn_4_4 Rz_4 cz_4_0 cz_4_1 Rr_4 cr_4_0 cr_4_1 cr_4_2 cr_4_3
          have cn_5_0 := cells4 Rn_5 0 _ rfl
          have cn_5_1 := cells4 Rn_5 1 _ rfl
          have cn_5_2 := cells4 Rn_5 2 _ rfl
          have cn_5_3 := cells4 Rn_5 3 _ rfl
          have cn_5_4 := cells4 Rn_5 4 _ rfl
          obtain ⟨cz_5_0, cz_5_1⟩ := cells2s Rz_5
          obtain ⟨cr_5_0, cr_5_1, cr_5_2, cr_5_3⟩ := cells4s Rr_5
          have q0 := fz (k := 0) Rz_5
          have q1 := fz (k := 1) Rz_5
          obtain ⟨E0, E1⟩ := set2_cells Rz_5 (.int .u64 (u : Nat)) (.int .u64 (v : Nat))
          go_wp2
          exact bodyPost_ret (v := .tuple #[.agg #[.int .u64 (u : Nat), .int .u64 (v : Nat)], .int .u8 3]) (by simp [results, Tryz.results69, go_sem, E0, E1]) rfl ⟨rfl, set2_below B5 (by first | exact Nat.le_refl _ | omega | (have := H1.out; omega)) _ _⟩
  · have K5 := box (KB.out rfl)
    clear KB KD
    obtain rfl : (5 : Int) = fl := HFL.out
    go_wp2_with fail
    refine (K5.out _ (fatB FF.out B3)).mono ?_
    rintro r w4 ⟨rfl, b4⟩
    have B4 : Below w.heap.size w w4 := btr B3 b4
    have Rn_4 := heap_of b4 _ _ _ Rn_3
    have Rz_4 := heap_of b4 _ _ _ Rz_3
    have Rr_4 := heap_of b4 _ _ _ Rr_3
    clear b4 B3 Rn_3 cn_3_0 cn_3_1 cn_3_2 cn_3_3 cn_3_4 Rz_3 cz_3_0 cz_3_1 Rr_3 cr_3_0 cr_3_1 cr_3_2 cr_3_3
    have cn_4_0 := cells4 Rn_4 0 _ rfl
    have cn_4_1 := cells4 Rn_4 1 _ rfl
    have cn_4_2 := cells4 Rn_4 2 _ rfl
    have cn_4_3 := cells4 Rn_4 3 _ rfl
    have cn_4_4 := cells4 Rn_4 4 _ rfl
    obtain ⟨cz_4_0, cz_4_1⟩ := cells2s Rz_4
    obtain ⟨cr_4_0, cr_4_1, cr_4_2, cr_4_3⟩ := cells4s Rr_4
    have q0 := fz (k := 0) Rz_4
    have q1 := fz (k := 1) Rz_4
    obtain ⟨E0, E1⟩ := set2_cells Rz_4 (.int .u64 (u : Nat)) (.int .u64 (v : Nat))
    go_wp2
    exact bodyPost_ret (v := .tuple #[.agg #[.int .u64 (u : Nat), .int .u64 (v : Nat)], .int .u8 5]) (by simp [results, Tryz.results69, go_sem, E0, E1]) rfl ⟨rfl, set2_below B4 (by first | exact Nat.le_refl _ | omega | (have := H1.out; omega)) _ _⟩
set_option maxRecDepth 100000 in
set_option maxHeartbeats 4000000 in
theorem ru_tiny (f m : Int) (neg : Bool) (T La : Int) (ws : ByteArray) (more : Bool) (I st rt : Int) (rs : ByteArray) (half mo o : Bool) (w : World)
    (KI : Box (∀ w, FAt w → Calls Tryz.prog 85 #[.int .u8 f] w fun r w' => r = .returned (.int .i64 I) ∧ Below w.heap.size w w'))
    (KS : Box (∀ w, FAt w → Calls Tryz.prog 148 #[.int .u8 f, .int .i64 T] w fun r w' => r = .returned (.int .i64 st) ∧ Below w.heap.size w w'))
    (KR : Box (∀ w, TabAt w → Calls Tryz.prog 147 #[.int .u8 m, .agg #[.bool neg, .int .i64 T, .int .i64 La, .string ws, .bool more], .int .i64 st] w fun r w' => r = .returned (.agg #[.string rs, .int .i64 st, .bool half, .bool mo]) ∧ Below w.heap.size w w'))
    (KT : Box (∀ w, Calls Tryz.prog 149 #[.agg #[.string rs, .int .i64 st, .bool half, .bool mo]] w fun r w' => r = .returned (.int .i64 rt) ∧ Below w.heap.size w w'))
    (ho : decide (rt < I) = o)
    (hT : FAt w) (hT2 : TabAt w) : Calls Tryz.prog 152 #[.int .u8 f, .int .u8 m, .agg #[.bool neg, .int .i64 T, .int .i64 La, .string ws, .bool more]] w fun r w' => r = .returned (.bool o) ∧ Below w.heap.size w w' := by
  have FF := box hT
  have TT := box hT2
  clear hT hT2
  obtain ⟨Rn_0, B0⟩ := opn1 w (Obj.cells #[.bool neg, .int .i64 T, .int .i64 La, .string ws, .bool more] 107)
  go_enter Tryz.func152, Tryz.ntmps152
  have sS : Box (∀ W W1 : World, (Below w.heap.size w W ∧ W.heap[w.heap.size]? = some (Obj.cells #[.bool neg, .int .i64 T, .int .i64 La, .string ws, .bool more] 107) ∧ W.cell? ⟨w.heap.size, 0, none⟩ = some (.bool neg) ∧ W.cell? ⟨w.heap.size, 1, none⟩ = some (.int .i64 T) ∧ W.cell? ⟨w.heap.size, 2, none⟩ = some (.int .i64 La) ∧ W.cell? ⟨w.heap.size, 3, none⟩ = some (.string ws) ∧ W.cell? ⟨w.heap.size, 4, none⟩ = some (.bool more)) → Below W.heap.size W W1 → (Below w.heap.size w W1 ∧ W1.heap[w.heap.size]? = some (Obj.cells #[.bool neg, .int .i64 T, .int .i64 La, .string ws, .bool more] 107) ∧ W1.cell? ⟨w.heap.size, 0, none⟩ = some (.bool neg) ∧ W1.cell? ⟨w.heap.size, 1, none⟩ = some (.int .i64 T) ∧ W1.cell? ⟨w.heap.size, 2, none⟩ = some (.int .i64 La) ∧ W1.cell? ⟨w.heap.size, 3, none⟩ = some (.string ws) ∧ W1.cell? ⟨w.heap.size, 4, none⟩ = some (.bool more))) := box (fun W W1 h b => ⟨btr h.1 b, heap_of b _ _ _ h.2.1, cell7 (heap_of b _ _ _ h.2.1) 0 _ rfl, cell7 (heap_of b _ _ _ h.2.1) 1 _ rfl, cell7 (heap_of b _ _ _ h.2.1) 2 _ rfl, cell7 (heap_of b _ _ _ h.2.1) 3 _ rfl, cell7 (heap_of b _ _ _ h.2.1) 4 _ rfl⟩)
  have s0 : Below w.heap.size w ((w.alloc (Obj.cells #[.bool neg, .int .i64 T, .int .i64 La, .string ws, .bool more] 107))).drew ∧ ((w.alloc (Obj.cells #[.bool neg, .int .i64 T, .int .i64 La, .string ws, .bool more] 107))).drew.heap[w.heap.size]? = some (Obj.cells #[.bool neg, .int .i64 T, .int .i64 La, .string ws, .bool more] 107) ∧ ((w.alloc (Obj.cells #[.bool neg, .int .i64 T, .int .i64 La, .string ws, .bool more] 107))).drew.cell? ⟨w.heap.size, 0, none⟩ = some (.bool neg) ∧ ((w.alloc (Obj.cells #[.bool neg, .int .i64 T, .int .i64 La, .string ws, .bool more] 107))).drew.cell? ⟨w.heap.size, 1, none⟩ = some (.int .i64 T) ∧ ((w.alloc (Obj.cells #[.bool neg, .int .i64 T, .int .i64 La, .string ws, .bool more] 107))).drew.cell? ⟨w.heap.size, 2, none⟩ = some (.int .i64 La) ∧ ((w.alloc (Obj.cells #[.bool neg, .int .i64 T, .int .i64 La, .string ws, .bool more] 107))).drew.cell? ⟨w.heap.size, 3, none⟩ = some (.string ws) ∧ ((w.alloc (Obj.cells #[.bool neg, .int .i64 T, .int .i64 La, .string ws, .bool more] 107))).drew.cell? ⟨w.heap.size, 4, none⟩ = some (.bool more) := ⟨B0.drew, Rn_0, cell7 (Rn_0) 0 _ rfl, cell7 (Rn_0) 1 _ rfl, cell7 (Rn_0) 2 _ rfl, cell7 (Rn_0) 3 _ rfl, cell7 (Rn_0) 4 _ rfl⟩
  go_wp2_with fail
  go_region_held3 (fun W => Below w.heap.size w W ∧ W.heap[w.heap.size]? = some (Obj.cells #[.bool neg, .int .i64 T, .int .i64 La, .string ws, .bool more] 107) ∧ W.cell? ⟨w.heap.size, 0, none⟩ = some (.bool neg) ∧ W.cell? ⟨w.heap.size, 1, none⟩ = some (.int .i64 T) ∧ W.cell? ⟨w.heap.size, 2, none⟩ = some (.int .i64 La) ∧ W.cell? ⟨w.heap.size, 3, none⟩ = some (.string ws) ∧ W.cell? ⟨w.heap.size, 4, none⟩ = some (.bool more)) (first | exact s1 | exact s0)
    (first | (go_at_call 148; (first | refine (KS.out _ (fatB FF.out (And.left s1))).mono ?_ | refine (KS.out _ (fatB FF.out (And.left s0))).mono ?_); rintro r wq ⟨rfl, bq⟩; have s1 := (by first | exact sS.out _ _ s1 bq | exact sS.out _ _ s0 bq); clear bq) | (go_at_call 147; (first | refine (KR.out _ (tabB TT.out (And.left s1))).mono ?_ | refine (KR.out _ (tabB TT.out (And.left s0))).mono ?_); rintro r wq ⟨rfl, bq⟩; have s1 := (by first | exact sS.out _ _ s1 bq | exact sS.out _ _ s0 bq); clear bq) | (go_at_call 149; (first | refine (KT.out _).mono ?_ | refine (KT.out _).mono ?_); rintro r wq ⟨rfl, bq⟩; have s1 := (by first | exact sS.out _ _ s1 bq | exact sS.out _ _ s0 bq); clear bq) | (go_at_call 85; (first | refine (KI.out _ (fatB FF.out (And.left s1))).mono ?_ | refine (KI.out _ (fatB FF.out (And.left s0))).mono ?_); rintro r wq ⟨rfl, bq⟩; have s1 := (by first | exact sS.out _ _ s1 bq | exact sS.out _ _ s0 bq); clear bq) | fail)
  have B1 := (And.left s1)
  have Rn_1 := s1.2.1
  clear s0 s1 sS B0 Rn_0
  have cn_1_0 := cells4 Rn_1 0 _ rfl
  have cn_1_1 := cells4 Rn_1 1 _ rfl
  have cn_1_2 := cells4 Rn_1 2 _ rfl
  have cn_1_3 := cells4 Rn_1 3 _ rfl
  have cn_1_4 := cells4 Rn_1 4 _ rfl
  go_wp2
  go_ret
  exact ⟨rfl, B1⟩
set_option maxRecDepth 100000 in
set_option maxHeartbeats 4000000 in
theorem ru_check_a (f m : Int) (b : Bool) (s t : ByteArray) (e : Int) (c1 c2 c3 : Int) (w : World)
    (K1 : Box (∀ w, Calls Tryz.prog 57 #[.int .u8 f] w fun r w' => r = .returned (.int .i64 c1) ∧ Below w.heap.size w w'))
    (K2 : Box (∀ w, Calls Tryz.prog 48 #[.int .u8 m] w fun r w' => r = .returned (.int .i64 c2) ∧ Below w.heap.size w w'))
    (K3 : Box (∀ w, TabAt w → Calls Tryz.prog 145 #[.agg #[.bool b, .string s, .string t, .int .i64 e]] w fun r w' => r = .returned (.int .i64 c3) ∧ Below w.heap.size w w'))
    (h1 : (c1 != 0) = true)
    (hT2 : TabAt w) : Calls Tryz.prog 68 #[.int .u8 f, .int .u8 m, .agg #[.bool b, .string s, .string t, .int .i64 e]] w fun r w' => r = .returned (.int .i64 2) ∧ Below w.heap.size w w' := by
  have TT := box hT2
  clear hT2
  obtain ⟨Rx_0, B0⟩ := opn1 w (Obj.cells #[.bool b, .string s, .string t, .int .i64 e] 41)
  go_enter Tryz.func68, Tryz.ntmps68
  go_wp2_with fail
  refine (K1.out _).mono ?_
  rintro r w1 ⟨rfl, b1⟩
  have B1 : Below w.heap.size w w1 := btr B0 b1
  have Rx_1 := heap_of b1 _ _ _ Rx_0
  clear b1 B0 Rx_0
  obtain ⟨cx_1_0, cx_1_1, cx_1_2, cx_1_3⟩ := cells4s Rx_1
  go_wp2
  go_ret
  exact ⟨rfl, B1⟩
set_option maxRecDepth 100000 in
set_option maxHeartbeats 4000000 in
theorem ru_check_b (f m : Int) (b : Bool) (s t : ByteArray) (e : Int) (c1 c2 c3 : Int) (w : World)
    (K1 : Box (∀ w, Calls Tryz.prog 57 #[.int .u8 f] w fun r w' => r = .returned (.int .i64 c1) ∧ Below w.heap.size w w'))
    (K2 : Box (∀ w, Calls Tryz.prog 48 #[.int .u8 m] w fun r w' => r = .returned (.int .i64 c2) ∧ Below w.heap.size w w'))
    (K3 : Box (∀ w, TabAt w → Calls Tryz.prog 145 #[.agg #[.bool b, .string s, .string t, .int .i64 e]] w fun r w' => r = .returned (.int .i64 c3) ∧ Below w.heap.size w w'))
    (h1 : (c1 != 0) = false) (h2 : (c2 != 0) = true)
    (hT2 : TabAt w) : Calls Tryz.prog 68 #[.int .u8 f, .int .u8 m, .agg #[.bool b, .string s, .string t, .int .i64 e]] w fun r w' => r = .returned (.int .i64 2) ∧ Below w.heap.size w w' := by
  have TT := box hT2
  clear hT2
  obtain ⟨Rx_0, B0⟩ := opn1 w (Obj.cells #[.bool b, .string s, .string t, .int .i64 e] 41)
  go_enter Tryz.func68, Tryz.ntmps68
  go_wp2_with fail
  refine (K1.out _).mono ?_
  rintro r w1 ⟨rfl, b1⟩
  have B1 : Below w.heap.size w w1 := btr B0 b1
  have Rx_1 := heap_of b1 _ _ _ Rx_0
  clear b1 B0 Rx_0
  obtain ⟨cx_1_0, cx_1_1, cx_1_2, cx_1_3⟩ := cells4s Rx_1
  go_wp2_with fail
  refine (K2.out _).mono ?_
  rintro r w2 ⟨rfl, b2⟩
  have B2 : Below w.heap.size w w2 := btr B1 b2
  have Rx_2 := heap_of b2 _ _ _ Rx_1
  clear b2 B1 Rx_1 cx_1_0 cx_1_1 cx_1_2 cx_1_3
  obtain ⟨cx_2_0, cx_2_1, cx_2_2, cx_2_3⟩ := cells4s Rx_2
  go_wp2
  go_ret
  exact ⟨rfl, B2⟩
set_option maxRecDepth 100000 in
set_option maxHeartbeats 4000000 in
theorem ru_check_c (f m : Int) (b : Bool) (s t : ByteArray) (e : Int) (c1 c2 c3 : Int) (w : World)
    (K1 : Box (∀ w, Calls Tryz.prog 57 #[.int .u8 f] w fun r w' => r = .returned (.int .i64 c1) ∧ Below w.heap.size w w'))
    (K2 : Box (∀ w, Calls Tryz.prog 48 #[.int .u8 m] w fun r w' => r = .returned (.int .i64 c2) ∧ Below w.heap.size w w'))
    (K3 : Box (∀ w, TabAt w → Calls Tryz.prog 145 #[.agg #[.bool b, .string s, .string t, .int .i64 e]] w fun r w' => r = .returned (.int .i64 c3) ∧ Below w.heap.size w w'))
    (h1 : (c1 != 0) = false) (h2 : (c2 != 0) = false) (h3 : (c3 != 0) = true)
    (hT2 : TabAt w) : Calls Tryz.prog 68 #[.int .u8 f, .int .u8 m, .agg #[.bool b, .string s, .string t, .int .i64 e]] w fun r w' => r = .returned (.int .i64 2) ∧ Below w.heap.size w w' := by
  have TT := box hT2
  clear hT2
  obtain ⟨Rx_0, B0⟩ := opn1 w (Obj.cells #[.bool b, .string s, .string t, .int .i64 e] 41)
  go_enter Tryz.func68, Tryz.ntmps68
  go_wp2_with fail
  refine (K1.out _).mono ?_
  rintro r w1 ⟨rfl, b1⟩
  have B1 : Below w.heap.size w w1 := btr B0 b1
  have Rx_1 := heap_of b1 _ _ _ Rx_0
  clear b1 B0 Rx_0
  obtain ⟨cx_1_0, cx_1_1, cx_1_2, cx_1_3⟩ := cells4s Rx_1
  go_wp2_with fail
  refine (K2.out _).mono ?_
  rintro r w2 ⟨rfl, b2⟩
  have B2 : Below w.heap.size w w2 := btr B1 b2
  have Rx_2 := heap_of b2 _ _ _ Rx_1
  clear b2 B1 Rx_1 cx_1_0 cx_1_1 cx_1_2 cx_1_3
  obtain ⟨cx_2_0, cx_2_1, cx_2_2, cx_2_3⟩ := cells4s Rx_2
  go_wp2_with fail
  refine (K3.out _ (tabB TT.out B2)).mono ?_
  rintro r w3 ⟨rfl, b3⟩
  have B3 : Below w.heap.size w w3 := btr B2 b3
  have Rx_3 := heap_of b3 _ _ _ Rx_2
  clear b3 B2 Rx_2 cx_2_0 cx_2_1 cx_2_2 cx_2_3
  obtain ⟨cx_3_0, cx_3_1, cx_3_2, cx_3_3⟩ := cells4s Rx_3
  go_wp2
  go_ret
  exact ⟨rfl, B3⟩
set_option maxRecDepth 100000 in
set_option maxHeartbeats 4000000 in
theorem ru_check_d (f m : Int) (b : Bool) (s t : ByteArray) (e : Int) (c1 c2 c3 : Int) (w : World)
    (K1 : Box (∀ w, Calls Tryz.prog 57 #[.int .u8 f] w fun r w' => r = .returned (.int .i64 c1) ∧ Below w.heap.size w w'))
    (K2 : Box (∀ w, Calls Tryz.prog 48 #[.int .u8 m] w fun r w' => r = .returned (.int .i64 c2) ∧ Below w.heap.size w w'))
    (K3 : Box (∀ w, TabAt w → Calls Tryz.prog 145 #[.agg #[.bool b, .string s, .string t, .int .i64 e]] w fun r w' => r = .returned (.int .i64 c3) ∧ Below w.heap.size w w'))
    (h1 : (c1 != 0) = false) (h2 : (c2 != 0) = false) (h3 : (c3 != 0) = false) (h4 : decide ((8192 : Int) < (s.size : Int)) = true)
    (hT2 : TabAt w) : Calls Tryz.prog 68 #[.int .u8 f, .int .u8 m, .agg #[.bool b, .string s, .string t, .int .i64 e]] w fun r w' => r = .returned (.int .i64 4) ∧ Below w.heap.size w w' := by
  have TT := box hT2
  clear hT2
  obtain ⟨Rx_0, B0⟩ := opn1 w (Obj.cells #[.bool b, .string s, .string t, .int .i64 e] 41)
  go_enter Tryz.func68, Tryz.ntmps68
  go_wp2_with fail
  refine (K1.out _).mono ?_
  rintro r w1 ⟨rfl, b1⟩
  have B1 : Below w.heap.size w w1 := btr B0 b1
  have Rx_1 := heap_of b1 _ _ _ Rx_0
  clear b1 B0 Rx_0
  obtain ⟨cx_1_0, cx_1_1, cx_1_2, cx_1_3⟩ := cells4s Rx_1
  go_wp2_with fail
  refine (K2.out _).mono ?_
  rintro r w2 ⟨rfl, b2⟩
  have B2 : Below w.heap.size w w2 := btr B1 b2
  have Rx_2 := heap_of b2 _ _ _ Rx_1
  clear b2 B1 Rx_1 cx_1_0 cx_1_1 cx_1_2 cx_1_3
  obtain ⟨cx_2_0, cx_2_1, cx_2_2, cx_2_3⟩ := cells4s Rx_2
  go_wp2_with fail
  refine (K3.out _ (tabB TT.out B2)).mono ?_
  rintro r w3 ⟨rfl, b3⟩
  have B3 : Below w.heap.size w w3 := btr B2 b3
  have Rx_3 := heap_of b3 _ _ _ Rx_2
  clear b3 B2 Rx_2 cx_2_0 cx_2_1 cx_2_2 cx_2_3
  obtain ⟨cx_3_0, cx_3_1, cx_3_2, cx_3_3⟩ := cells4s Rx_3
  go_wp2
  go_ret
  exact ⟨rfl, B3⟩
set_option maxRecDepth 100000 in
set_option maxHeartbeats 4000000 in
theorem ru_check_e (f m : Int) (b : Bool) (s t : ByteArray) (e : Int) (c1 c2 c3 : Int) (w : World)
    (K1 : Box (∀ w, Calls Tryz.prog 57 #[.int .u8 f] w fun r w' => r = .returned (.int .i64 c1) ∧ Below w.heap.size w w'))
    (K2 : Box (∀ w, Calls Tryz.prog 48 #[.int .u8 m] w fun r w' => r = .returned (.int .i64 c2) ∧ Below w.heap.size w w'))
    (K3 : Box (∀ w, TabAt w → Calls Tryz.prog 145 #[.agg #[.bool b, .string s, .string t, .int .i64 e]] w fun r w' => r = .returned (.int .i64 c3) ∧ Below w.heap.size w w'))
    (h1 : (c1 != 0) = false) (h2 : (c2 != 0) = false) (h3 : (c3 != 0) = false) (h4 : decide ((8192 : Int) < (s.size : Int)) = false) (h5 : decide ((8192 : Int) < (t.size : Int)) = true)
    (hT2 : TabAt w) : Calls Tryz.prog 68 #[.int .u8 f, .int .u8 m, .agg #[.bool b, .string s, .string t, .int .i64 e]] w fun r w' => r = .returned (.int .i64 4) ∧ Below w.heap.size w w' := by
  have TT := box hT2
  clear hT2
  obtain ⟨Rx_0, B0⟩ := opn1 w (Obj.cells #[.bool b, .string s, .string t, .int .i64 e] 41)
  go_enter Tryz.func68, Tryz.ntmps68
  go_wp2_with fail
  refine (K1.out _).mono ?_
  rintro r w1 ⟨rfl, b1⟩
  have B1 : Below w.heap.size w w1 := btr B0 b1
  have Rx_1 := heap_of b1 _ _ _ Rx_0
  clear b1 B0 Rx_0
  obtain ⟨cx_1_0, cx_1_1, cx_1_2, cx_1_3⟩ := cells4s Rx_1
  go_wp2_with fail
  refine (K2.out _).mono ?_
  rintro r w2 ⟨rfl, b2⟩
  have B2 : Below w.heap.size w w2 := btr B1 b2
  have Rx_2 := heap_of b2 _ _ _ Rx_1
  clear b2 B1 Rx_1 cx_1_0 cx_1_1 cx_1_2 cx_1_3
  obtain ⟨cx_2_0, cx_2_1, cx_2_2, cx_2_3⟩ := cells4s Rx_2
  go_wp2_with fail
  refine (K3.out _ (tabB TT.out B2)).mono ?_
  rintro r w3 ⟨rfl, b3⟩
  have B3 : Below w.heap.size w w3 := btr B2 b3
  have Rx_3 := heap_of b3 _ _ _ Rx_2
  clear b3 B2 Rx_2 cx_2_0 cx_2_1 cx_2_2 cx_2_3
  obtain ⟨cx_3_0, cx_3_1, cx_3_2, cx_3_3⟩ := cells4s Rx_3
  go_wp2
  go_ret
  exact ⟨rfl, B3⟩
set_option maxRecDepth 100000 in
set_option maxHeartbeats 4000000 in
theorem ru_check_f (f m : Int) (b : Bool) (s t : ByteArray) (e : Int) (c1 c2 c3 : Int) (w : World)
    (K1 : Box (∀ w, Calls Tryz.prog 57 #[.int .u8 f] w fun r w' => r = .returned (.int .i64 c1) ∧ Below w.heap.size w w'))
    (K2 : Box (∀ w, Calls Tryz.prog 48 #[.int .u8 m] w fun r w' => r = .returned (.int .i64 c2) ∧ Below w.heap.size w w'))
    (K3 : Box (∀ w, TabAt w → Calls Tryz.prog 145 #[.agg #[.bool b, .string s, .string t, .int .i64 e]] w fun r w' => r = .returned (.int .i64 c3) ∧ Below w.heap.size w w'))
    (h1 : (c1 != 0) = false) (h2 : (c2 != 0) = false) (h3 : (c3 != 0) = false) (h4 : decide ((8192 : Int) < (s.size : Int)) = false) (h5 : decide ((8192 : Int) < (t.size : Int)) = false)
    (hT2 : TabAt w) : Calls Tryz.prog 68 #[.int .u8 f, .int .u8 m, .agg #[.bool b, .string s, .string t, .int .i64 e]] w fun r w' => r = .returned (.int .i64 0) ∧ Below w.heap.size w w' := by
  have TT := box hT2
  clear hT2
  obtain ⟨Rx_0, B0⟩ := opn1 w (Obj.cells #[.bool b, .string s, .string t, .int .i64 e] 41)
  go_enter Tryz.func68, Tryz.ntmps68
  go_wp2_with fail
  refine (K1.out _).mono ?_
  rintro r w1 ⟨rfl, b1⟩
  have B1 : Below w.heap.size w w1 := btr B0 b1
  have Rx_1 := heap_of b1 _ _ _ Rx_0
  clear b1 B0 Rx_0
  obtain ⟨cx_1_0, cx_1_1, cx_1_2, cx_1_3⟩ := cells4s Rx_1
  go_wp2_with fail
  refine (K2.out _).mono ?_
  rintro r w2 ⟨rfl, b2⟩
  have B2 : Below w.heap.size w w2 := btr B1 b2
  have Rx_2 := heap_of b2 _ _ _ Rx_1
  clear b2 B1 Rx_1 cx_1_0 cx_1_1 cx_1_2 cx_1_3
  obtain ⟨cx_2_0, cx_2_1, cx_2_2, cx_2_3⟩ := cells4s Rx_2
  go_wp2_with fail
  refine (K3.out _ (tabB TT.out B2)).mono ?_
  rintro r w3 ⟨rfl, b3⟩
  have B3 : Below w.heap.size w w3 := btr B2 b3
  have Rx_3 := heap_of b3 _ _ _ Rx_2
  clear b3 B2 Rx_2 cx_2_0 cx_2_1 cx_2_2 cx_2_3
  obtain ⟨cx_3_0, cx_3_1, cx_3_2, cx_3_3⟩ := cells4s Rx_3
  go_wp2
  go_ret
  exact ⟨rfl, B3⟩
end Go.Proofs.YtfmmeifipbpbmaaGreatDoor
namespace Go.Proofs.YtfmmeifipbpbmaaGreatDoor
set_option maxRecDepth 100000
open Go.RowKit WMath XMath
set_option linter.unusedSimpArgs false
set_option linter.unusedVariables false

theorem odd_ne (x : Nat) : decide (x % 2 ^ (1 : Int).toNat ≠ 0) = decide (x % 2 = 1) := by
  rw [show (1 : Int).toNat = 1 from rfl, Nat.pow_one, decide_eq_decide]
  omega
theorem lg_is (x : Nat) (h : nl x ≤ 16384) : lg x = (nbA x, 0) := by unfold lg; rw [if_pos h]
theorem kround (m : Int) (hm : 0 ≤ m ∧ m ≤ 4) (neg : Bool) (T La st : Int) (W k : Nat) (more : Bool) (ws rs : ByteArray) (hws : nbA W = ws) (lw : nl W ≤ 8192) (s1 : -2000000 ≤ st) (s2 : st ≤ 2000000) (l1 : -2000000 ≤ La) (l2 : La ≤ 2000000) (hk : st - 1 - La = (k : Int)) (half mo : Bool) (hh : rH W k = half) (hmo : rM W k more = mo) (hr : nbA (rG m neg W k more) = rs) (w : World) (hT2 : TabAt w) :
    Calls Tryz.prog 147 #[.int .u8 m, .agg #[.bool neg, .int .i64 T, .int .i64 La, .string ws, .bool more], .int .i64 st] w fun r w' => r = .returned (.agg #[.string rs, .int .i64 st, .bool half, .bool mo]) ∧ Below w.heap.size w w' := by
  have d1 : nl (W / 2 ^ k) ≤ 8192 := Nat.le_trans (nl_mono _ _ (Nat.div_le_self _ _)) lw
  have d2 : nl (rS W k) ≤ 8192 := Nat.le_trans (nl_mono _ _ (Nat.div_le_self _ _)) d1
  have d3 : nl (rS W k + 1) ≤ 16384 := by
    have q : blen (rS W k + 1) ≤ blen (rS W k) + 1 := (blen_iff _ _).2 (by
      have a := (blen_iff (rS W k) _).1 (Nat.le_refl _)
      have b := Nat.two_pow_pos (blen (rS W k))
      rw [Nat.pow_succ]
      omega)
    unfold nl at d2 ⊢
    omega
  refine ru_round m st neg T La ws more (st - 1) (k : Int) 0 0 0 0 (nbA (W / 2 ^ k)) (nbA (rS W k)) (nbA (rS W k / 2)) (nbA (rS W k + 1)) rs (decide (W % 2 ^ k ≠ 0)) half (rO W k) (gO m neg (rO W k) half mo) mo w
    (box (fun w hT => pn_right_ok W (k : Int) ws _ _ hws (by omega) (by omega) (by omega) (by rw [Int.toNat_natCast]) (by rw [Int.toNat_natCast]) w hT))
    (box (fun w hT => pn_right_ok (W / 2 ^ k) 1 _ _ _ rfl (by omega) (by omega) (by omega) (by rw [show (1 : Int).toNat = 1 from rfl, Nat.pow_one]; rfl) (by rw [odd_ne]; exact hh) w hT))
    (box (fun w hT => pn_right_ok (rS W k) 1 _ _ _ rfl (by omega) (by omega) (by omega) (by rw [show (1 : Int).toNat = 1 from rfl, Nat.pow_one]) (by rw [odd_ne]; rfl) w hT))
    (box (fun w => ru_goesOn m hm neg _ _ _ _ rfl w))
    (box (fun _ w => pn_add_ok (rS W k) 1 _ _ _ 0 rfl nb1 (by omega) nl1 (lg_is _ d3) w))
    (wrap_i64_is _ (by omega) (by omega)) (by rw [wrap_i64_is _ (by omega) (by omega)]; exact hk) ?_ ?_ hT2
  · exact hmo
  · rw [← hr]
    unfold rG
    rw [hh, hmo]
    split <;> rfl
theorem nl_W {f : Int} (hf : Is4 f) {W : Nat} (h : Wok f W) : nl W ≤ 8192 := by
  obtain ⟨n1, n2, n3, n4, n5, n6⟩ := nm8 hf
  have := nl_le_of W 17 (by
    have a := h.2
    have b : 2 ^ pV f ≤ 2 ^ 127 := Nat.pow_le_pow_right (by decide) (by omega)
    rw [show (2 : Nat) ^ (8 * 17) = 4 * 2 ^ 127 * 128 by decide]
    omega)
  omega
theorem k_emin (f : Int) (hf : Is4 f) (w : World) (hT : FAt w) : Calls Tryz.prog 85 #[.int .u8 f] w fun r w' => r = .returned (.int .i64 (1 - fE f)) ∧ Below w.heap.size w w' :=
  s_emin f _ _ (is4_ok hf).1 (is4_ok hf).2.1 rfl (em_lim hf).2.2.2.2.1 w hT
theorem k_step (f : Int) (hf : Is4 f) (T : Int) (h1 : -1900000 ≤ T) (h2 : T ≤ 1900000) (v : Int) (hv : T - fP f + 1 = v) (w : World) (hT : FAt w) : Calls Tryz.prog 148 #[.int .u8 f, .int .i64 T] w fun r w' => r = .returned (.int .i64 v) ∧ Below w.heap.size w w' := by
  have p := fp8 hf
  have n4 := (nm8 hf).2.2.2.1
  exact ru_stepAt f T (fP f) (T - fP f) v w (box (fun w hT => kb_precision f _ (is4_ok hf).1 (is4_ok hf).2.1 rfl w hT)) (wrap_i64_is _ (by omega) (by omega)) (by rw [wrap_i64_is _ (by omega) (by omega)]; exact hv) hT
theorem k_rtop (S l : Nat) (s : ByteArray) (hs : nbA S = s) (ls : nl S ≤ 16384) (hl : blen S = l) (st v : Int) (s1 : -2000000 ≤ st) (s2 : st ≤ 2000000) (half mo : Bool) (hv : st + (l : Int) - 1 = v) (w : World) : Calls Tryz.prog 149 #[.agg #[.string s, .int .i64 st, .bool half, .bool mo]] w fun r w' => r = .returned (.int .i64 v) ∧ Below w.heap.size w w' := by
  have : l ≤ 131072 + 7 := by rw [← hl]; unfold nl at ls; omega
  exact ru_rtop s st half mo l (st + l) v w (box (fun w => pn_len_ok S l s hs ls hl w)) (wrap_i64_is _ (by omega) (by omega)) (by rw [wrap_i64_is _ (by omega) (by omega)]; exact hv)
theorem ktiny (f m : Int) (hf : Is4 f) (hm : 0 ≤ m ∧ m ≤ 4) (neg : Bool) (T : Int) (h1 : -1300000 ≤ T) (h2 : T ≤ 1300000) (W : Nat) (more : Bool) (hW : Wok f W) (ws : ByteArray) (hws : nbA W = ws) (La : Int) (hLa : T - fP f = La) (o : Bool) (ho : tnB f m neg T W more = o) (w : World) (hT : FAt w) (hT2 : TabAt w) :
    Calls Tryz.prog 152 #[.int .u8 f, .int .u8 m, .agg #[.bool neg, .int .i64 T, .int .i64 La, .string ws, .bool more]] w fun r w' => r = .returned (.bool o) ∧ Below w.heap.size w w' := by
  have p := fp8 hf
  obtain ⟨n1, n2, n3, n4, n5, n6⟩ := nm8 hf
  have lim := (rG_lim hW m neg 0 more).1
  exact ru_tiny f m neg T La ws more (1 - fE f) (T - fP f + 1) (T - fP f + 1 + (blen (rG m neg W 0 more) : Int) - 1) _ _ _ o w
    (box (fun w hT => k_emin f hf w hT)) (box (fun w hT => k_step f hf T (by omega) (by omega) _ rfl w hT))
    (box (fun w hT => kround m hm neg T La (T - fP f + 1) W 0 more ws _ hws (nl_W hf hW) (by omega) (by omega) (by omega) (by omega) (by omega) _ _ rfl rfl rfl w hT))
    (box (fun w => k_rtop _ _ _ rfl (nl_small hf _ lim) rfl _ _ (by omega) (by omega) _ _ rfl w)) (by
      rw [← ho]
      unfold tnB
      rw [decide_eq_decide]
      omega) hT hT2
theorem eS_flip {f : Int} (hf : Is4 f) (j S : Nat) (hS : j * 2 ^ pV f + S < 2 ^ wV f) : sgB f (eS f false j S) true = eS f true j S := by
  unfold eS
  rw [if_neg (by decide), Nat.add_zero, sgB_low hS]
theorem eS_lt {f : Int} (hf : Is4 f) (j S : Nat) (hS : S ≤ 2 * 2 ^ pV f) (hj : j = 0 ∨ 2 ^ pV f ≤ S) (ht : lx f + (j : Int) - 1 + (blen S : Int) ≤ fE f) : j * 2 ^ pV f + S < 2 ^ wV f := by
  obtain ⟨g1, g2, g3, g4, g5, g6, g7⟩ := fm hf
  have p := Nat.two_pow_pos (pV f)
  by_cases s0 : S = 0
  · obtain rfl : j = 0 := by omega
    subst s0
    rw [Nat.zero_mul]
    exact Nat.two_pow_pos _
  obtain ⟨e, t, he, htt, nz, h1, h2⟩ := rep hf j S s0 hS hj ht
  have := h1 false
  unfold enc7 eS at this
  rw [if_neg (by decide), Nat.add_zero, Nat.add_zero] at this
  rw [← this, g1]
  have := Nat.mul_le_mul_right (2 ^ pV f) (show e + 1 ≤ oV f + 1 by omega)
  rw [Nat.add_mul, Nat.one_mul] at this
  omega
theorem kencoded (f : Int) (hf : Is4 f) (neg : Bool) (j S : Nat) (s : ByteArray) (hs : nbA S = s) (st : Int) (hst : st = lx f + (j : Int)) (hS : S ≤ 2 * 2 ^ pV f) (hj : j = 0 ∨ 2 ^ pV f ≤ S) (ht : lx f + (j : Int) - 1 + (blen S : Int) ≤ fE f) (half mo : Bool) (u v : Nat) (hv : bv7 (eS f neg j S) = (u, v)) (w : World) (hT : FAt w) (hT2 : TabAt w) :
    Calls Tryz.prog 151 #[.int .u8 f, .bool neg, .agg #[.string s, .int .i64 st, .bool half, .bool mo]] w fun r w' => r = .returned (.agg #[.int .u64 (u : Nat), .int .u64 (v : Nat)]) ∧ Below w.heap.size w w' := by
  obtain ⟨n1, n2, n3, n4, n5, n6⟩ := nm8 hf
  obtain ⟨g1, g2, g3, g4, g5, g6, g7⟩ := fm hf
  have elt := eS_lt hf j S hS hj ht
  have e0 : eS f false j S = j * 2 ^ pV f + S := by unfold eS; rw [if_neg (by decide), Nat.add_zero]
  have lim : eS f false j S < 340282366920938463463374607431768211456 := by omega
  have j4 : j ≤ 40000 := by
    rcases hj with h | h
    · omega
    · have := (blen_low S (by have := Nat.two_pow_pos (pV f); omega)).1
      omega
  obtain ⟨x, hx, xc, hof⟩ : ∃ x : XN, mk false S 1 st = (x, 0) ∧ x.can ∧ ofX f x = (eS f false j S, true) := by
    by_cases s0 : S = 0
    · subst s0
      obtain rfl : j = 0 := by have := Nat.two_pow_pos (pV f); omega
      refine ⟨X0, mk_null _ _ _, x0_can, ?_⟩
      rw [e0]
      unfold ofX
      rw [if_pos (show X0.n = 0 from rfl), Nat.zero_mul]
    · obtain ⟨a, b, c, d⟩ := mk_small hf false j S s0 hS j4
      exact ⟨_, by rw [hst]; exact a, b, of_rep hf false j S s0 hS hj ht⟩
  obtain ⟨xb, xn, xd, xe⟩ := x
  obtain ⟨i, k, hik⟩ : ∃ i k, bv7 (eS f false j S) = (i, k) := ⟨_, _, rfl⟩
  obtain ⟨i1, i2, i3⟩ := bv_lt lim hik
  have KM : Box (∀ w, TabAt w → Calls Tryz.prog 162 #[.bool false, .string s, .string ⟨#[1]⟩, .int .i64 st] w fun r w' => r = .returned (.tuple #[.agg #[.bool xb, .string (nbA xn), .string (nbA xd), .int .i64 xe], .int .i64 0]) ∧ Below w.heap.size w w') := box (fun w hT => makex_ok false S 1 st s _ xb xn xd xe 0 _ _ hs nb1 (nl_small hf S hS) nl1 (by decide) (by omega) (by omega) hx rfl rfl w hT)
  have KO : Box (∀ w, FAt w → TabAt w → Calls Tryz.prog 230 #[.int .u8 f, .agg #[.bool xb, .string (nbA xn), .string (nbA xd), .int .i64 xe]] w fun r w' => r = .returned (.tuple #[.agg #[.int .u64 (i : Nat), .int .u64 (k : Nat)], .bool true, .int .i64 0]) ∧ Below w.heap.size w w') := box (fun w hT hT2 => kOf_is f hf xb xn xd _ _ xe rfl rfl xc _ true i k hof hik w hT hT2)
  cases neg
  · rw [hik] at hv
    injection hv with a b
    subst a b
    exact ru_encoded_pos f s st half mo xb _ _ xe 0 i k true 0 w KM KO hT hT2
  · exact ru_encoded_neg f s st half mo xb _ _ xe 0 i k u v true 0 w KM KO (box (fun w hT => kFlip_yes f hf i k _ u v i1 i2 i3 (by unfold okB; rw [decide_eq_true_iff]; exact ⟨by rcases hf with rfl | rfl | rfl | rfl <;> decide, by omega⟩) (by rw [eS_flip hf j S elt]; exact hv) w hT)) hT hT2
theorem kbeyond (f m : Int) (hf : Is4 f) (hm : 0 ≤ m ∧ m ≤ 4) (neg : Bool) (u v : Nat) (hv : bv7 (ovB f m neg) = (u, v)) (w : World) (hT : FAt w) : Calls Tryz.prog 150 #[.int .u8 f, .int .u8 m, .bool neg] w fun r w' => r = .returned (.agg #[.int .u64 (u : Nat), .int .u64 (v : Nat)]) ∧ Below w.heap.size w w' := by
  refine ru_beyond f m neg (gO m neg false true true) u v w (box (fun w => ru_goesOn m hm neg false true true _ rfl w)) (box (fun h w hT => sk_inf f neg hf u v ?_ w hT)) (box (fun h w hT => ?_)) hT
  · unfold ovB at hv; rw [if_pos h] at hv; exact hv
  · unfold ovB at hv
    rw [if_neg (by rw [h]; decide)] at hv
    have := s_greatest f neg hf _ rfl w hT
    rw [hv] at this
    exact this
end Go.Proofs.YtfmmeifipbpbmaaGreatDoor
