/-
  What the functions that the statement reaches return: part 18 (R4, R6).
-/
import Derived.Test.YtbmhfcppaajgbaaGreatDoorRe17
namespace Go.Proofs.YtbmhfcppaajgbaaGreatDoor
set_option maxRecDepth 100000
open Go.RowKit WMath
set_option linter.unusedSimpArgs false
set_option linter.unusedVariables false

set_option maxRecDepth 100000 in
set_option maxHeartbeats 2000000 in
theorem ru_known1 (f : Int) (neg : Bool) (T St La : Int) (b : Bool) (s t : ByteArray) (e : Int) (m : ByteArray) (is mo : Bool) (w : World)
    (KS : Box (∀ w, FAt w → Calls Tryz.prog 148 #[.int .u8 f, .int .i64 T] w fun r w' => r = .returned (.int .i64 St) ∧ Below w.heap.size w w'))
    (h1 : IntKind.i64.wrap (St - 1) = La) (hmo : (!is) = mo)
    (KF : Box (∀ w, TabAt w → Calls Tryz.prog 154 #[.agg #[.bool b, .string s, .string t, .int .i64 e], .int .i64 La] w fun r w' => r = .returned (.tuple #[.string m, .bool is]) ∧ Below w.heap.size w w'))
    (hT : FAt w) (hT2 : TabAt w) : Calls Tryz.prog 152 #[.int .u8 f, .bool neg, .int .i64 T, .func (.func 154) #[.agg #[.bool b, .string s, .string t, .int .i64 e]] #[]] w fun r w' => r = .returned (.agg #[.bool neg, .int .i64 T, .int .i64 La, .string m, .bool mo]) ∧ Below w.heap.size w w' := by
  have FF := box hT
  have TT := box hT2
  clear hT hT2
  obtain ⟨Rz_0, B0⟩ := opn1 w (Obj.cells #[.bool false, .int .i64 0, .int .i64 0, .string ⟨#[]⟩, .bool false] 106)
  go_enter Tryz.func152, Tryz.ntmps152
  go_wp2_with fail
  refine (KS.out _ (fatB FF.out B0)).mono ?_
  rintro r w1 ⟨rfl, b1⟩
  have B1 : Below w.heap.size w w1 := btr B0 b1
  have Rz_1 := heap_of b1 _ _ _ Rz_0
  clear b1 B0 Rz_0
  have cz_1_0 := cells4 Rz_1 0 _ rfl
  have cz_1_1 := cells4 Rz_1 1 _ rfl
  have cz_1_2 := cells4 Rz_1 2 _ rfl
  have cz_1_3 := cells4 Rz_1 3 _ rfl
  have cz_1_4 := cells4 Rz_1 4 _ rfl
  go_wp2_with fail
  refine (KF.out _ (tabB TT.out B1)).mono ?_
  rintro r w2 ⟨rfl, b2⟩
  have B2 : Below w.heap.size w w2 := btr B1 b2
  have Rz_2 := heap_of b2 _ _ _ Rz_1
  clear b2 B1 Rz_1 cz_1_0 cz_1_1 cz_1_2 cz_1_3 cz_1_4
  have cz_2_0 := cells4 Rz_2 0 _ rfl
  have cz_2_1 := cells4 Rz_2 1 _ rfl
  have cz_2_2 := cells4 Rz_2 2 _ rfl
  have cz_2_3 := cells4 Rz_2 3 _ rfl
  have cz_2_4 := cells4 Rz_2 4 _ rfl
  have q0 := fz (k := 0) Rz_2
  have q1 := fz (k := 1) Rz_2
  have q2 := fz (k := 2) Rz_2
  have q3 := fz (k := 3) Rz_2
  have q4 := fz (k := 4) Rz_2
  obtain ⟨E0, E1, E2, E3, E4⟩ := set5_cells Rz_2 rfl (.bool neg) (.int .i64 T) (.int .i64 La) (.string m) (.bool mo)
  go_wp2
  exact bodyPost_ret (v := .agg #[.bool neg, .int .i64 T, .int .i64 La, .string m, .bool mo]) (by simp [results, Tryz.results152, go_sem, E0, E1, E2, E3, E4]) rfl ⟨rfl, set5_below B2 (by first | exact Nat.le_refl _ | omega | (skip; omega)) _ _ _ _ _⟩
set_option maxRecDepth 100000 in
set_option maxHeartbeats 2000000 in
theorem ru_known2 (f : Int) (neg : Bool) (T St La : Int) (b : Bool) (s t : ByteArray) (e : Int) (m : ByteArray) (is mo : Bool) (w : World)
    (KS : Box (∀ w, FAt w → Calls Tryz.prog 148 #[.int .u8 f, .int .i64 T] w fun r w' => r = .returned (.int .i64 St) ∧ Below w.heap.size w w'))
    (h1 : IntKind.i64.wrap (St - 1) = La) (hmo : (!is) = mo)
    (KF : Box (∀ w, TabAt w → Calls Tryz.prog 160 #[.agg #[.bool b, .string s, .string t, .int .i64 e], .int .i64 La] w fun r w' => r = .returned (.tuple #[.string m, .bool is]) ∧ Below w.heap.size w w'))
    (hT : FAt w) (hT2 : TabAt w) : Calls Tryz.prog 152 #[.int .u8 f, .bool neg, .int .i64 T, .func (.func 160) #[.agg #[.bool b, .string s, .string t, .int .i64 e]] #[]] w fun r w' => r = .returned (.agg #[.bool neg, .int .i64 T, .int .i64 La, .string m, .bool mo]) ∧ Below w.heap.size w w' := by
  have FF := box hT
  have TT := box hT2
  clear hT hT2
  obtain ⟨Rz_0, B0⟩ := opn1 w (Obj.cells #[.bool false, .int .i64 0, .int .i64 0, .string ⟨#[]⟩, .bool false] 106)
  go_enter Tryz.func152, Tryz.ntmps152
  go_wp2_with fail
  refine (KS.out _ (fatB FF.out B0)).mono ?_
  rintro r w1 ⟨rfl, b1⟩
  have B1 : Below w.heap.size w w1 := btr B0 b1
  have Rz_1 := heap_of b1 _ _ _ Rz_0
  clear b1 B0 Rz_0
  have cz_1_0 := cells4 Rz_1 0 _ rfl
  have cz_1_1 := cells4 Rz_1 1 _ rfl
  have cz_1_2 := cells4 Rz_1 2 _ rfl
  have cz_1_3 := cells4 Rz_1 3 _ rfl
  have cz_1_4 := cells4 Rz_1 4 _ rfl
  go_wp2_with fail
  refine (KF.out _ (tabB TT.out B1)).mono ?_
  rintro r w2 ⟨rfl, b2⟩
  have B2 : Below w.heap.size w w2 := btr B1 b2
  have Rz_2 := heap_of b2 _ _ _ Rz_1
  clear b2 B1 Rz_1 cz_1_0 cz_1_1 cz_1_2 cz_1_3 cz_1_4
  have cz_2_0 := cells4 Rz_2 0 _ rfl
  have cz_2_1 := cells4 Rz_2 1 _ rfl
  have cz_2_2 := cells4 Rz_2 2 _ rfl
  have cz_2_3 := cells4 Rz_2 3 _ rfl
  have cz_2_4 := cells4 Rz_2 4 _ rfl
  have q0 := fz (k := 0) Rz_2
  have q1 := fz (k := 1) Rz_2
  have q2 := fz (k := 2) Rz_2
  have q3 := fz (k := 3) Rz_2
  have q4 := fz (k := 4) Rz_2
  obtain ⟨E0, E1, E2, E3, E4⟩ := set5_cells Rz_2 rfl (.bool neg) (.int .i64 T) (.int .i64 La) (.string m) (.bool mo)
  go_wp2
  exact bodyPost_ret (v := .agg #[.bool neg, .int .i64 T, .int .i64 La, .string m, .bool mo]) (by simp [results, Tryz.results152, go_sem, E0, E1, E2, E3, E4]) rfl ⟨rfl, set5_below B2 (by first | exact Nat.le_refl _ | omega | (skip; omega)) _ _ _ _ _⟩
set_option maxRecDepth 100000 in
set_option maxHeartbeats 4000000 in
theorem ru_ofExact (f : Int) (b : Bool) (s t : ByteArray) (e T La : Int) (m : ByteArray) (mo : Bool) (w : World)
    (KT : Box (∀ w, TabAt w → Calls Tryz.prog 153 #[.agg #[.bool b, .string s, .string t, .int .i64 e]] w fun r w' => r = .returned (.int .i64 T) ∧ Below w.heap.size w w'))
    (KK : Box (∀ w, FAt w → TabAt w → Calls Tryz.prog 152 #[.int .u8 f, .bool b, .int .i64 T, .func (.func 154) #[.agg #[.bool b, .string s, .string t, .int .i64 e]] #[]] w fun r w' => r = .returned (.agg #[.bool b, .int .i64 T, .int .i64 La, .string m, .bool mo]) ∧ Below w.heap.size w w'))
    (hT : FAt w) (hT2 : TabAt w) : Calls Tryz.prog 67 #[.int .u8 f, .agg #[.bool b, .string s, .string t, .int .i64 e]] w fun r w' => r = .returned (.agg #[.bool b, .int .i64 T, .int .i64 La, .string m, .bool mo]) ∧ Below w.heap.size w w' := by
  have FF := box hT
  have TT := box hT2
  clear hT hT2
  have hmf : ∀ (fn : Fn) (first cap : Array Value) (w : World), (Instr.makeFunc fn first cap).run Tryz.prog w = .ok (.func fn first cap) w := fun _ _ _ _ => rfl
  obtain ⟨Rx_0, Rz_0, B0⟩ := opn2 w (Obj.cells #[.bool b, .string s, .string t, .int .i64 e] 41) (Obj.cells #[.bool false, .int .i64 0, .int .i64 0, .string ⟨#[]⟩, .bool false] 106)
  go_enter Tryz.func67, Tryz.ntmps67
  have sS : Box (∀ W W1 : World, (Below w.heap.size w W ∧ W.heap[w.heap.size]? = some (Obj.cells #[.bool b, .string s, .string t, .int .i64 e] 41) ∧ W.cell? ⟨w.heap.size, 0, none⟩ = some (.bool b) ∧ W.cell? ⟨w.heap.size, 1, none⟩ = some (.string s) ∧ W.cell? ⟨w.heap.size, 2, none⟩ = some (.string t) ∧ W.cell? ⟨w.heap.size, 3, none⟩ = some (.int .i64 e)) → Below W.heap.size W W1 → (Below w.heap.size w W1 ∧ W1.heap[w.heap.size]? = some (Obj.cells #[.bool b, .string s, .string t, .int .i64 e] 41) ∧ W1.cell? ⟨w.heap.size, 0, none⟩ = some (.bool b) ∧ W1.cell? ⟨w.heap.size, 1, none⟩ = some (.string s) ∧ W1.cell? ⟨w.heap.size, 2, none⟩ = some (.string t) ∧ W1.cell? ⟨w.heap.size, 3, none⟩ = some (.int .i64 e))) := box (fun W W1 h b => ⟨btr h.1 b, heap_of b _ _ _ h.2.1, cell7 (heap_of b _ _ _ h.2.1) 0 _ rfl, cell7 (heap_of b _ _ _ h.2.1) 1 _ rfl, cell7 (heap_of b _ _ _ h.2.1) 2 _ rfl, cell7 (heap_of b _ _ _ h.2.1) 3 _ rfl⟩)
  have sT : Box (∀ (W : World) (xA xB xC xD xE : Value), (Below w.heap.size w W ∧ W.heap[w.heap.size]? = some (Obj.cells #[.bool b, .string s, .string t, .int .i64 e] 41) ∧ W.cell? ⟨w.heap.size, 0, none⟩ = some (.bool b) ∧ W.cell? ⟨w.heap.size, 1, none⟩ = some (.string s) ∧ W.cell? ⟨w.heap.size, 2, none⟩ = some (.string t) ∧ W.cell? ⟨w.heap.size, 3, none⟩ = some (.int .i64 e)) → (Below w.heap.size w (((((W.setCell ⟨w.heap.size + 1, 0, none⟩ xA).setCell ⟨w.heap.size + 1, 1, none⟩ xB).setCell ⟨w.heap.size + 1, 2, none⟩ xC).setCell ⟨w.heap.size + 1, 3, none⟩ xD).setCell ⟨w.heap.size + 1, 4, none⟩ xE) ∧ (((((W.setCell ⟨w.heap.size + 1, 0, none⟩ xA).setCell ⟨w.heap.size + 1, 1, none⟩ xB).setCell ⟨w.heap.size + 1, 2, none⟩ xC).setCell ⟨w.heap.size + 1, 3, none⟩ xD).setCell ⟨w.heap.size + 1, 4, none⟩ xE).heap[w.heap.size]? = some (Obj.cells #[.bool b, .string s, .string t, .int .i64 e] 41) ∧ (((((W.setCell ⟨w.heap.size + 1, 0, none⟩ xA).setCell ⟨w.heap.size + 1, 1, none⟩ xB).setCell ⟨w.heap.size + 1, 2, none⟩ xC).setCell ⟨w.heap.size + 1, 3, none⟩ xD).setCell ⟨w.heap.size + 1, 4, none⟩ xE).cell? ⟨w.heap.size, 0, none⟩ = some (.bool b) ∧ (((((W.setCell ⟨w.heap.size + 1, 0, none⟩ xA).setCell ⟨w.heap.size + 1, 1, none⟩ xB).setCell ⟨w.heap.size + 1, 2, none⟩ xC).setCell ⟨w.heap.size + 1, 3, none⟩ xD).setCell ⟨w.heap.size + 1, 4, none⟩ xE).cell? ⟨w.heap.size, 1, none⟩ = some (.string s) ∧ (((((W.setCell ⟨w.heap.size + 1, 0, none⟩ xA).setCell ⟨w.heap.size + 1, 1, none⟩ xB).setCell ⟨w.heap.size + 1, 2, none⟩ xC).setCell ⟨w.heap.size + 1, 3, none⟩ xD).setCell ⟨w.heap.size + 1, 4, none⟩ xE).cell? ⟨w.heap.size, 2, none⟩ = some (.string t) ∧ (((((W.setCell ⟨w.heap.size + 1, 0, none⟩ xA).setCell ⟨w.heap.size + 1, 1, none⟩ xB).setCell ⟨w.heap.size + 1, 2, none⟩ xC).setCell ⟨w.heap.size + 1, 3, none⟩ xD).setCell ⟨w.heap.size + 1, 4, none⟩ xE).cell? ⟨w.heap.size, 3, none⟩ = some (.int .i64 e))) := box (fun W xA xB xC xD xE h => ⟨set5_below h.1 (by first | exact Nat.le_refl _ | omega | (skip; omega)) xA xB xC xD xE, ((setCell_other (by first | omega | (skip; omega))).trans ((setCell_other (by first | omega | (skip; omega))).trans ((setCell_other (by first | omega | (skip; omega))).trans ((setCell_other (by first | omega | (skip; omega))).trans ((setCell_other (by first | omega | (skip; omega))).trans h.2.1))))), cell7 (((setCell_other (by first | omega | (skip; omega))).trans ((setCell_other (by first | omega | (skip; omega))).trans ((setCell_other (by first | omega | (skip; omega))).trans ((setCell_other (by first | omega | (skip; omega))).trans ((setCell_other (by first | omega | (skip; omega))).trans h.2.1)))))) 0 _ rfl, cell7 (((setCell_other (by first | omega | (skip; omega))).trans ((setCell_other (by first | omega | (skip; omega))).trans ((setCell_other (by first | omega | (skip; omega))).trans ((setCell_other (by first | omega | (skip; omega))).trans ((setCell_other (by first | omega | (skip; omega))).trans h.2.1)))))) 1 _ rfl, cell7 (((setCell_other (by first | omega | (skip; omega))).trans ((setCell_other (by first | omega | (skip; omega))).trans ((setCell_other (by first | omega | (skip; omega))).trans ((setCell_other (by first | omega | (skip; omega))).trans ((setCell_other (by first | omega | (skip; omega))).trans h.2.1)))))) 2 _ rfl, cell7 (((setCell_other (by first | omega | (skip; omega))).trans ((setCell_other (by first | omega | (skip; omega))).trans ((setCell_other (by first | omega | (skip; omega))).trans ((setCell_other (by first | omega | (skip; omega))).trans ((setCell_other (by first | omega | (skip; omega))).trans h.2.1)))))) 3 _ rfl⟩)
  have s0 : Below w.heap.size w (((w.alloc (Obj.cells #[.bool b, .string s, .string t, .int .i64 e] 41)).alloc (Obj.cells #[.bool false, .int .i64 0, .int .i64 0, .string ⟨#[]⟩, .bool false] 106))).drew ∧ (((w.alloc (Obj.cells #[.bool b, .string s, .string t, .int .i64 e] 41)).alloc (Obj.cells #[.bool false, .int .i64 0, .int .i64 0, .string ⟨#[]⟩, .bool false] 106))).drew.heap[w.heap.size]? = some (Obj.cells #[.bool b, .string s, .string t, .int .i64 e] 41) ∧ (((w.alloc (Obj.cells #[.bool b, .string s, .string t, .int .i64 e] 41)).alloc (Obj.cells #[.bool false, .int .i64 0, .int .i64 0, .string ⟨#[]⟩, .bool false] 106))).drew.cell? ⟨w.heap.size, 0, none⟩ = some (.bool b) ∧ (((w.alloc (Obj.cells #[.bool b, .string s, .string t, .int .i64 e] 41)).alloc (Obj.cells #[.bool false, .int .i64 0, .int .i64 0, .string ⟨#[]⟩, .bool false] 106))).drew.cell? ⟨w.heap.size, 1, none⟩ = some (.string s) ∧ (((w.alloc (Obj.cells #[.bool b, .string s, .string t, .int .i64 e] 41)).alloc (Obj.cells #[.bool false, .int .i64 0, .int .i64 0, .string ⟨#[]⟩, .bool false] 106))).drew.cell? ⟨w.heap.size, 2, none⟩ = some (.string t) ∧ (((w.alloc (Obj.cells #[.bool b, .string s, .string t, .int .i64 e] 41)).alloc (Obj.cells #[.bool false, .int .i64 0, .int .i64 0, .string ⟨#[]⟩, .bool false] 106))).drew.cell? ⟨w.heap.size, 3, none⟩ = some (.int .i64 e) := ⟨B0.drew, Rx_0, cell7 (Rx_0) 0 _ rfl, cell7 (Rx_0) 1 _ rfl, cell7 (Rx_0) 2 _ rfl, cell7 (Rx_0) 3 _ rfl⟩
  have rz : (((w.alloc (Obj.cells #[.bool b, .string s, .string t, .int .i64 e] 41)).alloc (Obj.cells #[.bool false, .int .i64 0, .int .i64 0, .string ⟨#[]⟩, .bool false] 106))).drew.heap[w.heap.size + 1]? = some (Obj.cells #[.bool false, .int .i64 0, .int .i64 0, .string ⟨#[]⟩, .bool false] 106) := Rz_0
  have hq0 := fz (k := 0) rz
  have hq1 := fz (k := 1) rz
  have hq2 := fz (k := 2) rz
  have hq3 := fz (k := 3) rz
  have hq4 := fz (k := 4) rz
  have hc0 := cell7 rz 0 _ rfl
  have hc1 := cell7 rz 1 _ rfl
  have hc2 := cell7 rz 2 _ rfl
  have hc3 := cell7 rz 3 _ rfl
  have hc4 := cell7 rz 4 _ rfl
  go_wp2_with fail
  go_region_held3 (fun W => Below w.heap.size w W ∧ W.heap[w.heap.size]? = some (Obj.cells #[.bool b, .string s, .string t, .int .i64 e] 41) ∧ W.cell? ⟨w.heap.size, 0, none⟩ = some (.bool b) ∧ W.cell? ⟨w.heap.size, 1, none⟩ = some (.string s) ∧ W.cell? ⟨w.heap.size, 2, none⟩ = some (.string t) ∧ W.cell? ⟨w.heap.size, 3, none⟩ = some (.int .i64 e)) (first | exact s1 | exact s0 | exact sT.out _ _ _ _ _ _ s1 | exact sT.out _ _ _ _ _ _ s0)
    (first | (go_at_call 153; (first | refine (KT.out _ (tabB TT.out (And.left s1))).mono ?_ | refine (KT.out _ (tabB TT.out (And.left s0))).mono ?_); rintro r wq ⟨rfl, bq⟩; have s1 := (by first | exact sS.out _ _ s1 bq | exact sS.out _ _ s0 bq); have rz := heap_of bq _ _ _ rz; have hq0 := fz (k := 0) rz; have hc0 := cell7 rz 0 _ rfl; have hq1 := fz (k := 1) rz; have hc1 := cell7 rz 1 _ rfl; have hq2 := fz (k := 2) rz; have hc2 := cell7 rz 2 _ rfl; have hq3 := fz (k := 3) rz; have hc3 := cell7 rz 3 _ rfl; have hq4 := fz (k := 4) rz; have hc4 := cell7 rz 4 _ rfl; clear bq) | (go_at_call 152; (first | refine (KK.out _ (fatB FF.out (And.left s1)) (tabB TT.out (And.left s1))).mono ?_ | refine (KK.out _ (fatB FF.out (And.left s0)) (tabB TT.out (And.left s0))).mono ?_); rintro r wq ⟨rfl, bq⟩; have s1 := (by first | exact sS.out _ _ s1 bq | exact sS.out _ _ s0 bq); have rz := heap_of bq _ _ _ rz; have hq0 := fz (k := 0) rz; have hc0 := cell7 rz 0 _ rfl; have hq1 := fz (k := 1) rz; have hc1 := cell7 rz 1 _ rfl; have hq2 := fz (k := 2) rz; have hc2 := cell7 rz 2 _ rfl; have hq3 := fz (k := 3) rz; have hc3 := cell7 rz 3 _ rfl; have hq4 := fz (k := 4) rz; have hc4 := cell7 rz 4 _ rfl; clear bq) | fail)
  all_goals
    obtain ⟨E0, E1, E2, E3, E4⟩ := set5_cells rz rfl (.bool b) (.int .i64 T) (.int .i64 La) (.string m) (.bool mo)
    have BZ := (by first | exact And.left s1 | exact And.left s0 : Below w.heap.size w _)
    go_wp2
    exact bodyPost_ret (v := .agg #[.bool b, .int .i64 T, .int .i64 La, .string m, .bool mo]) (by simp [results, Tryz.results67, go_sem, E0, E1, E2, E3, E4]) rfl ⟨rfl, set5_below BZ (by first | exact Nat.le_refl _ | omega | (skip; omega)) _ _ _ _ _⟩
set_option maxRecDepth 100000 in
set_option maxHeartbeats 4000000 in
theorem ru_ofRoot (f : Int) (b : Bool) (s t : ByteArray) (e T T2 La : Int) (m : ByteArray) (mo : Bool) (w : World)
    (KT : Box (∀ w, TabAt w → Calls Tryz.prog 153 #[.agg #[.bool b, .string s, .string t, .int .i64 e]] w fun r w' => r = .returned (.int .i64 T) ∧ Below w.heap.size w w'))
    (h2 : T / 2 = T2)
    (KK : Box (∀ w, FAt w → TabAt w → Calls Tryz.prog 152 #[.int .u8 f, .bool false, .int .i64 T2, .func (.func 160) #[.agg #[.bool b, .string s, .string t, .int .i64 e]] #[]] w fun r w' => r = .returned (.agg #[.bool false, .int .i64 T2, .int .i64 La, .string m, .bool mo]) ∧ Below w.heap.size w w'))
    (hT : FAt w) (hT2 : TabAt w) : Calls Tryz.prog 70 #[.int .u8 f, .agg #[.bool b, .string s, .string t, .int .i64 e]] w fun r w' => r = .returned (.agg #[.bool false, .int .i64 T2, .int .i64 La, .string m, .bool mo]) ∧ Below w.heap.size w w' := by
  have FF := box hT
  have TT := box hT2
  clear hT hT2
  have hmf : ∀ (fn : Fn) (first cap : Array Value) (w : World), (Instr.makeFunc fn first cap).run Tryz.prog w = .ok (.func fn first cap) w := fun _ _ _ _ => rfl
  obtain ⟨Rx_0, Rz_0, B0⟩ := opn2 w (Obj.cells #[.bool b, .string s, .string t, .int .i64 e] 41) (Obj.cells #[.bool false, .int .i64 0, .int .i64 0, .string ⟨#[]⟩, .bool false] 106)
  go_enter Tryz.func70, Tryz.ntmps70
  have sS : Box (∀ W W1 : World, (Below w.heap.size w W ∧ W.heap[w.heap.size]? = some (Obj.cells #[.bool b, .string s, .string t, .int .i64 e] 41) ∧ W.cell? ⟨w.heap.size, 0, none⟩ = some (.bool b) ∧ W.cell? ⟨w.heap.size, 1, none⟩ = some (.string s) ∧ W.cell? ⟨w.heap.size, 2, none⟩ = some (.string t) ∧ W.cell? ⟨w.heap.size, 3, none⟩ = some (.int .i64 e)) → Below W.heap.size W W1 → (Below w.heap.size w W1 ∧ W1.heap[w.heap.size]? = some (Obj.cells #[.bool b, .string s, .string t, .int .i64 e] 41) ∧ W1.cell? ⟨w.heap.size, 0, none⟩ = some (.bool b) ∧ W1.cell? ⟨w.heap.size, 1, none⟩ = some (.string s) ∧ W1.cell? ⟨w.heap.size, 2, none⟩ = some (.string t) ∧ W1.cell? ⟨w.heap.size, 3, none⟩ = some (.int .i64 e))) := box (fun W W1 h b => ⟨btr h.1 b, heap_of b _ _ _ h.2.1, cell7 (heap_of b _ _ _ h.2.1) 0 _ rfl, cell7 (heap_of b _ _ _ h.2.1) 1 _ rfl, cell7 (heap_of b _ _ _ h.2.1) 2 _ rfl, cell7 (heap_of b _ _ _ h.2.1) 3 _ rfl⟩)
  have sT : Box (∀ (W : World) (xA xB xC xD xE : Value), (Below w.heap.size w W ∧ W.heap[w.heap.size]? = some (Obj.cells #[.bool b, .string s, .string t, .int .i64 e] 41) ∧ W.cell? ⟨w.heap.size, 0, none⟩ = some (.bool b) ∧ W.cell? ⟨w.heap.size, 1, none⟩ = some (.string s) ∧ W.cell? ⟨w.heap.size, 2, none⟩ = some (.string t) ∧ W.cell? ⟨w.heap.size, 3, none⟩ = some (.int .i64 e)) → (Below w.heap.size w (((((W.setCell ⟨w.heap.size + 1, 0, none⟩ xA).setCell ⟨w.heap.size + 1, 1, none⟩ xB).setCell ⟨w.heap.size + 1, 2, none⟩ xC).setCell ⟨w.heap.size + 1, 3, none⟩ xD).setCell ⟨w.heap.size + 1, 4, none⟩ xE) ∧ (((((W.setCell ⟨w.heap.size + 1, 0, none⟩ xA).setCell ⟨w.heap.size + 1, 1, none⟩ xB).setCell ⟨w.heap.size + 1, 2, none⟩ xC).setCell ⟨w.heap.size + 1, 3, none⟩ xD).setCell ⟨w.heap.size + 1, 4, none⟩ xE).heap[w.heap.size]? = some (Obj.cells #[.bool b, .string s, .string t, .int .i64 e] 41) ∧ (((((W.setCell ⟨w.heap.size + 1, 0, none⟩ xA).setCell ⟨w.heap.size + 1, 1, none⟩ xB).setCell ⟨w.heap.size + 1, 2, none⟩ xC).setCell ⟨w.heap.size + 1, 3, none⟩ xD).setCell ⟨w.heap.size + 1, 4, none⟩ xE).cell? ⟨w.heap.size, 0, none⟩ = some (.bool b) ∧ (((((W.setCell ⟨w.heap.size + 1, 0, none⟩ xA).setCell ⟨w.heap.size + 1, 1, none⟩ xB).setCell ⟨w.heap.size + 1, 2, none⟩ xC).setCell ⟨w.heap.size + 1, 3, none⟩ xD).setCell ⟨w.heap.size + 1, 4, none⟩ xE).cell? ⟨w.heap.size, 1, none⟩ = some (.string s) ∧ (((((W.setCell ⟨w.heap.size + 1, 0, none⟩ xA).setCell ⟨w.heap.size + 1, 1, none⟩ xB).setCell ⟨w.heap.size + 1, 2, none⟩ xC).setCell ⟨w.heap.size + 1, 3, none⟩ xD).setCell ⟨w.heap.size + 1, 4, none⟩ xE).cell? ⟨w.heap.size, 2, none⟩ = some (.string t) ∧ (((((W.setCell ⟨w.heap.size + 1, 0, none⟩ xA).setCell ⟨w.heap.size + 1, 1, none⟩ xB).setCell ⟨w.heap.size + 1, 2, none⟩ xC).setCell ⟨w.heap.size + 1, 3, none⟩ xD).setCell ⟨w.heap.size + 1, 4, none⟩ xE).cell? ⟨w.heap.size, 3, none⟩ = some (.int .i64 e))) := box (fun W xA xB xC xD xE h => ⟨set5_below h.1 (by first | exact Nat.le_refl _ | omega | (skip; omega)) xA xB xC xD xE, ((setCell_other (by first | omega | (skip; omega))).trans ((setCell_other (by first | omega | (skip; omega))).trans ((setCell_other (by first | omega | (skip; omega))).trans ((setCell_other (by first | omega | (skip; omega))).trans ((setCell_other (by first | omega | (skip; omega))).trans h.2.1))))), cell7 (((setCell_other (by first | omega | (skip; omega))).trans ((setCell_other (by first | omega | (skip; omega))).trans ((setCell_other (by first | omega | (skip; omega))).trans ((setCell_other (by first | omega | (skip; omega))).trans ((setCell_other (by first | omega | (skip; omega))).trans h.2.1)))))) 0 _ rfl, cell7 (((setCell_other (by first | omega | (skip; omega))).trans ((setCell_other (by first | omega | (skip; omega))).trans ((setCell_other (by first | omega | (skip; omega))).trans ((setCell_other (by first | omega | (skip; omega))).trans ((setCell_other (by first | omega | (skip; omega))).trans h.2.1)))))) 1 _ rfl, cell7 (((setCell_other (by first | omega | (skip; omega))).trans ((setCell_other (by first | omega | (skip; omega))).trans ((setCell_other (by first | omega | (skip; omega))).trans ((setCell_other (by first | omega | (skip; omega))).trans ((setCell_other (by first | omega | (skip; omega))).trans h.2.1)))))) 2 _ rfl, cell7 (((setCell_other (by first | omega | (skip; omega))).trans ((setCell_other (by first | omega | (skip; omega))).trans ((setCell_other (by first | omega | (skip; omega))).trans ((setCell_other (by first | omega | (skip; omega))).trans ((setCell_other (by first | omega | (skip; omega))).trans h.2.1)))))) 3 _ rfl⟩)
  have s0 : Below w.heap.size w (((w.alloc (Obj.cells #[.bool b, .string s, .string t, .int .i64 e] 41)).alloc (Obj.cells #[.bool false, .int .i64 0, .int .i64 0, .string ⟨#[]⟩, .bool false] 106))).drew ∧ (((w.alloc (Obj.cells #[.bool b, .string s, .string t, .int .i64 e] 41)).alloc (Obj.cells #[.bool false, .int .i64 0, .int .i64 0, .string ⟨#[]⟩, .bool false] 106))).drew.heap[w.heap.size]? = some (Obj.cells #[.bool b, .string s, .string t, .int .i64 e] 41) ∧ (((w.alloc (Obj.cells #[.bool b, .string s, .string t, .int .i64 e] 41)).alloc (Obj.cells #[.bool false, .int .i64 0, .int .i64 0, .string ⟨#[]⟩, .bool false] 106))).drew.cell? ⟨w.heap.size, 0, none⟩ = some (.bool b) ∧ (((w.alloc (Obj.cells #[.bool b, .string s, .string t, .int .i64 e] 41)).alloc (Obj.cells #[.bool false, .int .i64 0, .int .i64 0, .string ⟨#[]⟩, .bool false] 106))).drew.cell? ⟨w.heap.size, 1, none⟩ = some (.string s) ∧ (((w.alloc (Obj.cells #[.bool b, .string s, .string t, .int .i64 e] 41)).alloc (Obj.cells #[.bool false, .int .i64 0, .int .i64 0, .string ⟨#[]⟩, .bool false] 106))).drew.cell? ⟨w.heap.size, 2, none⟩ = some (.string t) ∧ (((w.alloc (Obj.cells #[.bool b, .string s, .string t, .int .i64 e] 41)).alloc (Obj.cells #[.bool false, .int .i64 0, .int .i64 0, .string ⟨#[]⟩, .bool false] 106))).drew.cell? ⟨w.heap.size, 3, none⟩ = some (.int .i64 e) := ⟨B0.drew, Rx_0, cell7 (Rx_0) 0 _ rfl, cell7 (Rx_0) 1 _ rfl, cell7 (Rx_0) 2 _ rfl, cell7 (Rx_0) 3 _ rfl⟩
  have rz : (((w.alloc (Obj.cells #[.bool b, .string s, .string t, .int .i64 e] 41)).alloc (Obj.cells #[.bool false, .int .i64 0, .int .i64 0, .string ⟨#[]⟩, .bool false] 106))).drew.heap[w.heap.size + 1]? = some (Obj.cells #[.bool false, .int .i64 0, .int .i64 0, .string ⟨#[]⟩, .bool false] 106) := Rz_0
  have hq0 := fz (k := 0) rz
  have hq1 := fz (k := 1) rz
  have hq2 := fz (k := 2) rz
  have hq3 := fz (k := 3) rz
  have hq4 := fz (k := 4) rz
  have hc0 := cell7 rz 0 _ rfl
  have hc1 := cell7 rz 1 _ rfl
  have hc2 := cell7 rz 2 _ rfl
  have hc3 := cell7 rz 3 _ rfl
  have hc4 := cell7 rz 4 _ rfl
  go_wp2_with fail
  go_region_held3 (fun W => Below w.heap.size w W ∧ W.heap[w.heap.size]? = some (Obj.cells #[.bool b, .string s, .string t, .int .i64 e] 41) ∧ W.cell? ⟨w.heap.size, 0, none⟩ = some (.bool b) ∧ W.cell? ⟨w.heap.size, 1, none⟩ = some (.string s) ∧ W.cell? ⟨w.heap.size, 2, none⟩ = some (.string t) ∧ W.cell? ⟨w.heap.size, 3, none⟩ = some (.int .i64 e)) (first | exact s1 | exact s0 | exact sT.out _ _ _ _ _ _ s1 | exact sT.out _ _ _ _ _ _ s0)
    (first | (go_at_call 153; (first | refine (KT.out _ (tabB TT.out (And.left s1))).mono ?_ | refine (KT.out _ (tabB TT.out (And.left s0))).mono ?_); rintro r wq ⟨rfl, bq⟩; have s1 := (by first | exact sS.out _ _ s1 bq | exact sS.out _ _ s0 bq); have rz := heap_of bq _ _ _ rz; have hq0 := fz (k := 0) rz; have hc0 := cell7 rz 0 _ rfl; have hq1 := fz (k := 1) rz; have hc1 := cell7 rz 1 _ rfl; have hq2 := fz (k := 2) rz; have hc2 := cell7 rz 2 _ rfl; have hq3 := fz (k := 3) rz; have hc3 := cell7 rz 3 _ rfl; have hq4 := fz (k := 4) rz; have hc4 := cell7 rz 4 _ rfl; clear bq) | (go_at_call 152; (first | refine (KK.out _ (fatB FF.out (And.left s1)) (tabB TT.out (And.left s1))).mono ?_ | refine (KK.out _ (fatB FF.out (And.left s0)) (tabB TT.out (And.left s0))).mono ?_); rintro r wq ⟨rfl, bq⟩; have s1 := (by first | exact sS.out _ _ s1 bq | exact sS.out _ _ s0 bq); have rz := heap_of bq _ _ _ rz; have hq0 := fz (k := 0) rz; have hc0 := cell7 rz 0 _ rfl; have hq1 := fz (k := 1) rz; have hc1 := cell7 rz 1 _ rfl; have hq2 := fz (k := 2) rz; have hc2 := cell7 rz 2 _ rfl; have hq3 := fz (k := 3) rz; have hc3 := cell7 rz 3 _ rfl; have hq4 := fz (k := 4) rz; have hc4 := cell7 rz 4 _ rfl; clear bq) | fail)
  all_goals
    obtain ⟨E0, E1, E2, E3, E4⟩ := set5_cells rz rfl (.bool false) (.int .i64 T2) (.int .i64 La) (.string m) (.bool mo)
    have BZ := (by first | exact And.left s1 | exact And.left s0 : Below w.heap.size w _)
    go_wp2
    exact bodyPost_ret (v := .agg #[.bool false, .int .i64 T2, .int .i64 La, .string m, .bool mo]) (by simp [results, Tryz.results70, go_sem, E0, E1, E2, E3, E4]) rfl ⟨rfl, set5_below BZ (by first | exact Nat.le_refl _ | omega | (skip; omega)) _ _ _ _ _⟩
end Go.Proofs.YtbmhfcppaajgbaaGreatDoor
namespace Go.Proofs.YtbmhfcppaajgbaaGreatDoor
set_option maxRecDepth 100000
open Go.RowKit WMath
set_option linter.unusedSimpArgs false
set_option linter.unusedVariables false

set_option maxRecDepth 100000 in
set_option maxHeartbeats 4000000 in
theorem ru_round (m st : Int) (neg : Bool) (T La : Int) (ws : ByteArray) (more : Bool) (A1 K e1 e2 e3 e4 : Int) (hs ss us ss' rs : ByteArray) (lost half odd o mo : Bool) (w : World)
    (K1 : Box (∀ w, TabAt w → Calls Tryz.prog 222 #[.string ws, .int .i64 K] w fun r w' => r = .returned (.tuple #[.string hs, .bool lost, .int .i64 e1]) ∧ Below w.heap.size w w'))
    (K2 : Box (∀ w, TabAt w → Calls Tryz.prog 222 #[.string hs, .int .i64 1] w fun r w' => r = .returned (.tuple #[.string ss, .bool half, .int .i64 e2]) ∧ Below w.heap.size w w'))
    (K3 : Box (∀ w, TabAt w → Calls Tryz.prog 222 #[.string ss, .int .i64 1] w fun r w' => r = .returned (.tuple #[.string us, .bool odd, .int .i64 e3]) ∧ Below w.heap.size w w'))
    (KG : Box (∀ w, Calls Tryz.prog 223 #[.int .u8 m, .bool neg, .bool odd, .agg #[.bool half, .bool mo]] w fun r w' => r = .returned (.bool o) ∧ Below w.heap.size w w'))
    (KA : Box (o = true → ∀ w, Calls Tryz.prog 224 #[.string ss, .string ⟨#[1]⟩] w fun r w' => r = .returned (.tuple #[.string ss', .int .i64 e4]) ∧ Below w.heap.size w w'))
    (h1 : IntKind.i64.wrap (st - 1) = A1) (h2 : IntKind.i64.wrap (A1 - La) = K) (hmo : (lost || more) = mo) (hrs : (if o = true then ss' else ss) = rs)
    (hT2 : TabAt w) : Calls Tryz.prog 147 #[.int .u8 m, .agg #[.bool neg, .int .i64 T, .int .i64 La, .string ws, .bool more], .int .i64 st] w fun r w' => r = .returned (.agg #[.string rs, .int .i64 st, .bool half, .bool mo]) ∧ Below w.heap.size w w' := by
  have TT := box hT2
  clear hT2
  cases o
  · rw [if_neg (by decide)] at hrs
    subst hrs
    clear KA
    cases lost
    · obtain rfl : more = mo := hmo
      obtain ⟨Rn_0, Rz_0, B0⟩ := opn2 w (Obj.cells #[.bool neg, .int .i64 T, .int .i64 La, .string ws, .bool more] 106) (Obj.cells #[.string ⟨#[]⟩, .int .i64 0, .bool false, .bool false] 174)
      go_enter Tryz.func147, Tryz.ntmps147
      go_wp2_with fail
      refine (K1.out _ (tabB TT.out B0)).mono ?_
      rintro r w1 ⟨rfl, b1⟩
      have B1 : Below w.heap.size w w1 := btr B0 b1
      have Rn_1 := heap_of b1 _ _ _ Rn_0
      have Rz_1 := heap_of b1 _ _ _ Rz_0
      clear b1 B0 Rn_0 Rz_0
      have cn_1_0 := cells4 Rn_1 0 _ rfl
      have cn_1_1 := cells4 Rn_1 1 _ rfl
      have cn_1_2 := cells4 Rn_1 2 _ rfl
      have cn_1_3 := cells4 Rn_1 3 _ rfl
      have cn_1_4 := cells4 Rn_1 4 _ rfl
      obtain ⟨cz_1_0, cz_1_1, cz_1_2, cz_1_3⟩ := cells4s Rz_1
      go_wp2_with fail
      refine (K2.out _ (tabB TT.out B1)).mono ?_
      rintro r w2 ⟨rfl, b2⟩
      have B2 : Below w.heap.size w w2 := btr B1 b2
      have Rn_2 := heap_of b2 _ _ _ Rn_1
      have Rz_2 := heap_of b2 _ _ _ Rz_1
      clear b2 B1 Rn_1 cn_1_0 cn_1_1 cn_1_2 cn_1_3 cn_1_4 Rz_1 cz_1_0 cz_1_1 cz_1_2 cz_1_3
      have cn_2_0 := cells4 Rn_2 0 _ rfl
      have cn_2_1 := cells4 Rn_2 1 _ rfl
      have cn_2_2 := cells4 Rn_2 2 _ rfl
      have cn_2_3 := cells4 Rn_2 3 _ rfl
      have cn_2_4 := cells4 Rn_2 4 _ rfl
      obtain ⟨cz_2_0, cz_2_1, cz_2_2, cz_2_3⟩ := cells4s Rz_2
      go_wp2_with fail
      have S3 := box B2.size
      have Ln_3 : Box (w.heap.size < w2.heap.size) := box (Array.getElem?_eq_some_iff.1 Rn_2).1
      have Lz_3 : Box (w.heap.size + 1 < w2.heap.size) := box (Array.getElem?_eq_some_iff.1 Rz_2).1
      have Rr_3 := heap_alloc_last w2 (Obj.cells #[.string ss, .int .i64 st, .bool half, .bool more] 174)
      have B3 := btr B2 (bal w2 (Obj.cells #[.string ss, .int .i64 st, .bool half, .bool more] 174))
      have Rn_3 := heap_of (bal w2 (Obj.cells #[.string ss, .int .i64 st, .bool half, .bool more] 174)) _ _ _ Rn_2
      have Rz_3 := heap_of (bal w2 (Obj.cells #[.string ss, .int .i64 st, .bool half, .bool more] 174)) _ _ _ Rz_2
      clear B2 Rn_2 cn_2_0 cn_2_1 cn_2_2 cn_2_3 cn_2_4 Rz_2 cz_2_0 cz_2_1 cz_2_2 cz_2_3
      have cn_3_0 := cells4 Rn_3 0 _ rfl
      have cn_3_1 := cells4 Rn_3 1 _ rfl
      have cn_3_2 := cells4 Rn_3 2 _ rfl
      have cn_3_3 := cells4 Rn_3 3 _ rfl
      have cn_3_4 := cells4 Rn_3 4 _ rfl
      obtain ⟨cz_3_0, cz_3_1, cz_3_2, cz_3_3⟩ := cells4s Rz_3
      obtain ⟨cr_3_0, cr_3_1, cr_3_2, cr_3_3⟩ := cells4s Rr_3
      go_wp2_with fail
      refine (K3.out _ (tabB TT.out B3)).mono ?_
      rintro r w4 ⟨rfl, b4⟩
      have B4 : Below w.heap.size w w4 := btr B3 b4
      have Rn_4 := heap_of b4 _ _ _ Rn_3
      have Rz_4 := heap_of b4 _ _ _ Rz_3
      have Rr_4 := heap_of b4 _ _ _ Rr_3
      clear b4 B3 Rn_3 cn_3_0 cn_3_1 cn_3_2 cn_3_3 cn_3_4 Rz_3 cz_3_0 cz_3_1 cz_3_2 cz_3_3 Rr_3 cr_3_0 cr_3_1 cr_3_2 cr_3_3
      have cn_4_0 := cells4 Rn_4 0 _ rfl
      have cn_4_1 := cells4 Rn_4 1 _ rfl
      have cn_4_2 := cells4 Rn_4 2 _ rfl
      have cn_4_3 := cells4 Rn_4 3 _ rfl
      have cn_4_4 := cells4 Rn_4 4 _ rfl
      obtain ⟨cz_4_0, cz_4_1, cz_4_2, cz_4_3⟩ := cells4s Rz_4
      obtain ⟨cr_4_0, cr_4_1, cr_4_2, cr_4_3⟩ := cells4s Rr_4
      go_wp2_with fail
      refine (KG.out _).mono ?_
      rintro r w5 ⟨rfl, b5⟩
      have B5 : Below w.heap.size w w5 := btr B4 b5
      have Rn_5 := heap_of b5 _ _ _ Rn_4
      have Rz_5 := heap_of b5 _ _ _ Rz_4
      have Rr_5 := heap_of b5 _ _ _ Rr_4
      clear b5 B4 Rn_4 cn_4_0 cn_4_1 cn_4_2 cn_4_3 cn_4_4 Rz_4 cz_4_0 cz_4_1 cz_4_2 cz_4_3 Rr_4 cr_4_0 cr_4_1 cr_4_2 cr_4_3
      have cn_5_0 := cells4 Rn_5 0 _ rfl
      have cn_5_1 := cells4 Rn_5 1 _ rfl
      have cn_5_2 := cells4 Rn_5 2 _ rfl
      have cn_5_3 := cells4 Rn_5 3 _ rfl
      have cn_5_4 := cells4 Rn_5 4 _ rfl
      obtain ⟨cz_5_0, cz_5_1, cz_5_2, cz_5_3⟩ := cells4s Rz_5
      obtain ⟨cr_5_0, cr_5_1, cr_5_2, cr_5_3⟩ := cells4s Rr_5
      have q0 := fz (k := 0) Rz_5
      have q1 := fz (k := 1) Rz_5
      have q2 := fz (k := 2) Rz_5
      have q3 := fz (k := 3) Rz_5
      obtain ⟨E0, E1, E2, E3⟩ := set4_cells Rz_5 rfl (.string ss) (.int .i64 st) (.bool half) (.bool more)
      go_wp2
      exact bodyPost_ret (v := .agg #[.string ss, .int .i64 st, .bool half, .bool more]) (by simp [results, Tryz.results147, go_sem, E0, E1, E2, E3]) rfl ⟨rfl, set4_below B5 (by first | exact Nat.le_refl _ | omega | (have := S3.out; have := Ln_3.out; have := Lz_3.out; omega)) _ _ _ _⟩
    · obtain rfl : true = mo := hmo
      obtain ⟨Rn_0, Rz_0, B0⟩ := opn2 w (Obj.cells #[.bool neg, .int .i64 T, .int .i64 La, .string ws, .bool more] 106) (Obj.cells #[.string ⟨#[]⟩, .int .i64 0, .bool false, .bool false] 174)
      go_enter Tryz.func147, Tryz.ntmps147
      go_wp2_with fail
      refine (K1.out _ (tabB TT.out B0)).mono ?_
      rintro r w1 ⟨rfl, b1⟩
      have B1 : Below w.heap.size w w1 := btr B0 b1
      have Rn_1 := heap_of b1 _ _ _ Rn_0
      have Rz_1 := heap_of b1 _ _ _ Rz_0
      clear b1 B0 Rn_0 Rz_0
      have cn_1_0 := cells4 Rn_1 0 _ rfl
      have cn_1_1 := cells4 Rn_1 1 _ rfl
      have cn_1_2 := cells4 Rn_1 2 _ rfl
      have cn_1_3 := cells4 Rn_1 3 _ rfl
      have cn_1_4 := cells4 Rn_1 4 _ rfl
      obtain ⟨cz_1_0, cz_1_1, cz_1_2, cz_1_3⟩ := cells4s Rz_1
      go_wp2_with fail
      refine (K2.out _ (tabB TT.out B1)).mono ?_
      rintro r w2 ⟨rfl, b2⟩
      have B2 : Below w.heap.size w w2 := btr B1 b2
      have Rn_2 := heap_of b2 _ _ _ Rn_1
      have Rz_2 := heap_of b2 _ _ _ Rz_1
      clear b2 B1 Rn_1 cn_1_0 cn_1_1 cn_1_2 cn_1_3 cn_1_4 Rz_1 cz_1_0 cz_1_1 cz_1_2 cz_1_3
      have cn_2_0 := cells4 Rn_2 0 _ rfl
      have cn_2_1 := cells4 Rn_2 1 _ rfl
      have cn_2_2 := cells4 Rn_2 2 _ rfl
      have cn_2_3 := cells4 Rn_2 3 _ rfl
      have cn_2_4 := cells4 Rn_2 4 _ rfl
      obtain ⟨cz_2_0, cz_2_1, cz_2_2, cz_2_3⟩ := cells4s Rz_2
      have S3 := box B2.size
      have Ln_3 : Box (w.heap.size < w2.heap.size) := box (Array.getElem?_eq_some_iff.1 Rn_2).1
      have Lz_3 : Box (w.heap.size + 1 < w2.heap.size) := box (Array.getElem?_eq_some_iff.1 Rz_2).1
      have Rr_3 := heap_alloc_last w2 (Obj.cells #[.string ss, .int .i64 st, .bool half, .bool true] 174)
      have B3 := btr B2 (bal w2 (Obj.cells #[.string ss, .int .i64 st, .bool half, .bool true] 174))
      have Rn_3 := heap_of (bal w2 (Obj.cells #[.string ss, .int .i64 st, .bool half, .bool true] 174)) _ _ _ Rn_2
      have Rz_3 := heap_of (bal w2 (Obj.cells #[.string ss, .int .i64 st, .bool half, .bool true] 174)) _ _ _ Rz_2
      clear B2 Rn_2 cn_2_0 cn_2_1 cn_2_2 cn_2_3 cn_2_4 Rz_2 cz_2_0 cz_2_1 cz_2_2 cz_2_3
      have cn_3_0 := cells4 Rn_3 0 _ rfl
      have cn_3_1 := cells4 Rn_3 1 _ rfl
      have cn_3_2 := cells4 Rn_3 2 _ rfl
      have cn_3_3 := cells4 Rn_3 3 _ rfl
      have cn_3_4 := cells4 Rn_3 4 _ rfl
      obtain ⟨cz_3_0, cz_3_1, cz_3_2, cz_3_3⟩ := cells4s Rz_3
      obtain ⟨cr_3_0, cr_3_1, cr_3_2, cr_3_3⟩ := cells4s Rr_3
      go_wp2_with fail
      refine (K3.out _ (tabB TT.out B3)).mono ?_
      rintro r w4 ⟨rfl, b4⟩
      have B4 : Below w.heap.size w w4 := btr B3 b4
      have Rn_4 := heap_of b4 _ _ _ Rn_3
      have Rz_4 := heap_of b4 _ _ _ Rz_3
      have Rr_4 := heap_of b4 _ _ _ Rr_3
      clear b4 B3 Rn_3 cn_3_0 cn_3_1 cn_3_2 cn_3_3 cn_3_4 Rz_3 cz_3_0 cz_3_1 cz_3_2 cz_3_3 Rr_3 cr_3_0 cr_3_1 cr_3_2 cr_3_3
      have cn_4_0 := cells4 Rn_4 0 _ rfl
      have cn_4_1 := cells4 Rn_4 1 _ rfl
      have cn_4_2 := cells4 Rn_4 2 _ rfl
      have cn_4_3 := cells4 Rn_4 3 _ rfl
      have cn_4_4 := cells4 Rn_4 4 _ rfl
      obtain ⟨cz_4_0, cz_4_1, cz_4_2, cz_4_3⟩ := cells4s Rz_4
      obtain ⟨cr_4_0, cr_4_1, cr_4_2, cr_4_3⟩ := cells4s Rr_4
      go_wp2_with fail
      refine (KG.out _).mono ?_
      rintro r w5 ⟨rfl, b5⟩
      have B5 : Below w.heap.size w w5 := btr B4 b5
      have Rn_5 := heap_of b5 _ _ _ Rn_4
      have Rz_5 := heap_of b5 _ _ _ Rz_4
      have Rr_5 := heap_of b5 _ _ _ Rr_4
      clear b5 B4 Rn_4 cn_4_0 cn_4_1 cn_4_2 cn_4_3 cn_4_4 Rz_4 cz_4_0 cz_4_1 cz_4_2 cz_4_3 Rr_4 cr_4_0 cr_4_1 cr_4_2 cr_4_3
      have cn_5_0 := cells4 Rn_5 0 _ rfl
      have cn_5_1 := cells4 Rn_5 1 _ rfl
      have cn_5_2 := cells4 Rn_5 2 _ rfl
      have cn_5_3 := cells4 Rn_5 3 _ rfl
      have cn_5_4 := cells4 Rn_5 4 _ rfl
      obtain ⟨cz_5_0, cz_5_1, cz_5_2, cz_5_3⟩ := cells4s Rz_5
      obtain ⟨cr_5_0, cr_5_1, cr_5_2, cr_5_3⟩ := cells4s Rr_5
      have q0 := fz (k := 0) Rz_5
      have q1 := fz (k := 1) Rz_5
      have q2 := fz (k := 2) Rz_5
      have q3 := fz (k := 3) Rz_5
      obtain ⟨E0, E1, E2, E3⟩ := set4_cells Rz_5 rfl (.string ss) (.int .i64 st) (.bool half) (.bool true)
      go_wp2
      exact bodyPost_ret (v := .agg #[.string ss, .int .i64 st, .bool half, .bool true]) (by simp [results, Tryz.results147, go_sem, E0, E1, E2, E3]) rfl ⟨rfl, set4_below B5 (by first | exact Nat.le_refl _ | omega | (have := S3.out; have := Ln_3.out; have := Lz_3.out; omega)) _ _ _ _⟩
  · rw [if_pos rfl] at hrs
    subst hrs
    have K5 := box (KA.out rfl)
    clear KA
    cases lost
    · obtain rfl : more = mo := hmo
      obtain ⟨Rn_0, Rz_0, B0⟩ := opn2 w (Obj.cells #[.bool neg, .int .i64 T, .int .i64 La, .string ws, .bool more] 106) (Obj.cells #[.string ⟨#[]⟩, .int .i64 0, .bool false, .bool false] 174)
      go_enter Tryz.func147, Tryz.ntmps147
      go_wp2_with fail
      refine (K1.out _ (tabB TT.out B0)).mono ?_
      rintro r w1 ⟨rfl, b1⟩
      have B1 : Below w.heap.size w w1 := btr B0 b1
      have Rn_1 := heap_of b1 _ _ _ Rn_0
      have Rz_1 := heap_of b1 _ _ _ Rz_0
      clear b1 B0 Rn_0 Rz_0
      have cn_1_0 := cells4 Rn_1 0 _ rfl
      have cn_1_1 := cells4 Rn_1 1 _ rfl
      have cn_1_2 := cells4 Rn_1 2 _ rfl
      have cn_1_3 := cells4 Rn_1 3 _ rfl
      have cn_1_4 := cells4 Rn_1 4 _ rfl
      obtain ⟨cz_1_0, cz_1_1, cz_1_2, cz_1_3⟩ := cells4s Rz_1
      go_wp2_with fail
      refine (K2.out _ (tabB TT.out B1)).mono ?_
      rintro r w2 ⟨rfl, b2⟩
      have B2 : Below w.heap.size w w2 := btr B1 b2
      have Rn_2 := heap_of b2 _ _ _ Rn_1
      have Rz_2 := heap_of b2 _ _ _ Rz_1
      clear b2 B1 Rn_1 cn_1_0 cn_1_1 cn_1_2 cn_1_3 cn_1_4 Rz_1 cz_1_0 cz_1_1 cz_1_2 cz_1_3
      have cn_2_0 := cells4 Rn_2 0 _ rfl
      have cn_2_1 := cells4 Rn_2 1 _ rfl
      have cn_2_2 := cells4 Rn_2 2 _ rfl
      have cn_2_3 := cells4 Rn_2 3 _ rfl
      have cn_2_4 := cells4 Rn_2 4 _ rfl
      obtain ⟨cz_2_0, cz_2_1, cz_2_2, cz_2_3⟩ := cells4s Rz_2
      go_wp2_with fail
      have S3 := box B2.size
      have Ln_3 : Box (w.heap.size < w2.heap.size) := box (Array.getElem?_eq_some_iff.1 Rn_2).1
      have Lz_3 : Box (w.heap.size + 1 < w2.heap.size) := box (Array.getElem?_eq_some_iff.1 Rz_2).1
      have Rr_3 := heap_alloc_last w2 (Obj.cells #[.string ss, .int .i64 st, .bool half, .bool more] 174)
      have B3 := btr B2 (bal w2 (Obj.cells #[.string ss, .int .i64 st, .bool half, .bool more] 174))
      have Rn_3 := heap_of (bal w2 (Obj.cells #[.string ss, .int .i64 st, .bool half, .bool more] 174)) _ _ _ Rn_2
      have Rz_3 := heap_of (bal w2 (Obj.cells #[.string ss, .int .i64 st, .bool half, .bool more] 174)) _ _ _ Rz_2
      clear B2 Rn_2 cn_2_0 cn_2_1 cn_2_2 cn_2_3 cn_2_4 Rz_2 cz_2_0 cz_2_1 cz_2_2 cz_2_3
      have cn_3_0 := cells4 Rn_3 0 _ rfl
      have cn_3_1 := cells4 Rn_3 1 _ rfl
      have cn_3_2 := cells4 Rn_3 2 _ rfl
      have cn_3_3 := cells4 Rn_3 3 _ rfl
      have cn_3_4 := cells4 Rn_3 4 _ rfl
      obtain ⟨cz_3_0, cz_3_1, cz_3_2, cz_3_3⟩ := cells4s Rz_3
      obtain ⟨cr_3_0, cr_3_1, cr_3_2, cr_3_3⟩ := cells4s Rr_3
      go_wp2_with fail
      refine (K3.out _ (tabB TT.out B3)).mono ?_
      rintro r w4 ⟨rfl, b4⟩
      have B4 : Below w.heap.size w w4 := btr B3 b4
      have Rn_4 := heap_of b4 _ _ _ Rn_3
      have Rz_4 := heap_of b4 _ _ _ Rz_3
      have Rr_4 := heap_of b4 _ _ _ Rr_3
      clear b4 B3 Rn_3 cn_3_0 cn_3_1 cn_3_2 cn_3_3 cn_3_4 Rz_3 cz_3_0 cz_3_1 cz_3_2 cz_3_3 Rr_3 cr_3_0 cr_3_1 cr_3_2 cr_3_3
      have cn_4_0 := cells4 Rn_4 0 _ rfl
      have cn_4_1 := cells4 Rn_4 1 _ rfl
      have cn_4_2 := cells4 Rn_4 2 _ rfl
      have cn_4_3 := cells4 Rn_4 3 _ rfl
      have cn_4_4 := cells4 Rn_4 4 _ rfl
      obtain ⟨cz_4_0, cz_4_1, cz_4_2, cz_4_3⟩ := cells4s Rz_4
      obtain ⟨cr_4_0, cr_4_1, cr_4_2, cr_4_3⟩ := cells4s Rr_4
      go_wp2_with fail
      refine (KG.out _).mono ?_
      rintro r w5 ⟨rfl, b5⟩
      have B5 : Below w.heap.size w w5 := btr B4 b5
      have Rn_5 := heap_of b5 _ _ _ Rn_4
      have Rz_5 := heap_of b5 _ _ _ Rz_4
      have Rr_5 := heap_of b5 _ _ _ Rr_4
      clear b5 B4 Rn_4 cn_4_0 cn_4_1 cn_4_2 cn_4_3 cn_4_4 Rz_4 cz_4_0 cz_4_1 cz_4_2 cz_4_3 Rr_4 cr_4_0 cr_4_1 cr_4_2 cr_4_3
      have cn_5_0 := cells4 Rn_5 0 _ rfl
      have cn_5_1 := cells4 Rn_5 1 _ rfl
      have cn_5_2 := cells4 Rn_5 2 _ rfl
      have cn_5_3 := cells4 Rn_5 3 _ rfl
      have cn_5_4 := cells4 Rn_5 4 _ rfl
      obtain ⟨cz_5_0, cz_5_1, cz_5_2, cz_5_3⟩ := cells4s Rz_5
      obtain ⟨cr_5_0, cr_5_1, cr_5_2, cr_5_3⟩ := cells4s Rr_5
      go_wp2_with fail
      refine (K5.out _).mono ?_
      rintro r w6 ⟨rfl, b6⟩
      have B6 : Below w.heap.size w w6 := btr B5 b6
      have Rn_6 := heap_of b6 _ _ _ Rn_5
      have Rz_6 := heap_of b6 _ _ _ Rz_5
      have Rr_6 := heap_of b6 _ _ _ Rr_5
      clear b6 B5 Rn_5 cn_5_0 cn_5_1 cn_5_2 cn_5_3 cn_5_4 Rz_5 cz_5_0 cz_5_1 cz_5_2 cz_5_3 Rr_5 cr_5_0 cr_5_1 cr_5_2 cr_5_3
      have cn_6_0 := cells4 Rn_6 0 _ rfl
      have cn_6_1 := cells4 Rn_6 1 _ rfl
      have cn_6_2 := cells4 Rn_6 2 _ rfl
      have cn_6_3 := cells4 Rn_6 3 _ rfl
      have cn_6_4 := cells4 Rn_6 4 _ rfl
      obtain ⟨cz_6_0, cz_6_1, cz_6_2, cz_6_3⟩ := cells4s Rz_6
      obtain ⟨cr_6_0, cr_6_1, cr_6_2, cr_6_3⟩ := cells4s Rr_6
      have qr_6 := fz (k := 0) Rr_6
      have B7 : Below w.heap.size w (w6.setCell ⟨w2.heap.size, 0, none⟩ (.string ss')) := B6.setCell (by first | exact Nat.le_refl _ | (have := S3.out; have := Ln_3.out; have := Lz_3.out; show w.heap.size ≤ w2.heap.size; omega)) _
      have Rr_7 : (w6.setCell ⟨w2.heap.size, 0, none⟩ (.string ss')).heap[w2.heap.size]? = some (Obj.cells #[.string ss', .int .i64 st, .bool half, .bool more] 174) := by rw [setCell_row Rr_6]; rfl
      have Rn_7 : (w6.setCell ⟨w2.heap.size, 0, none⟩ (.string ss')).heap[w.heap.size]? = some (Obj.cells #[.bool neg, .int .i64 T, .int .i64 La, .string ws, .bool more] 106) := by rw [setCell_other (by first | omega | (have := S3.out; have := Ln_3.out; have := Lz_3.out; omega))]; exact Rn_6
      have Rz_7 : (w6.setCell ⟨w2.heap.size, 0, none⟩ (.string ss')).heap[w.heap.size + 1]? = some (Obj.cells #[.string ⟨#[]⟩, .int .i64 0, .bool false, .bool false] 174) := by rw [setCell_other (by first | omega | (have := S3.out; have := Ln_3.out; have := Lz_3.out; omega))]; exact Rz_6
      have cn_7_0 := cells4 Rn_7 0 _ rfl
      have cn_7_1 := cells4 Rn_7 1 _ rfl
      have cn_7_2 := cells4 Rn_7 2 _ rfl
      have cn_7_3 := cells4 Rn_7 3 _ rfl
      have cn_7_4 := cells4 Rn_7 4 _ rfl
      obtain ⟨cz_7_0, cz_7_1, cz_7_2, cz_7_3⟩ := cells4s Rz_7
      obtain ⟨cr_7_0, cr_7_1, cr_7_2, cr_7_3⟩ := cells4s Rr_7
      have q0 := fz (k := 0) Rz_7
      have q1 := fz (k := 1) Rz_7
      have q2 := fz (k := 2) Rz_7
      have q3 := fz (k := 3) Rz_7
      obtain ⟨E0, E1, E2, E3⟩ := set4_cells Rz_7 rfl (.string ss') (.int .i64 st) (.bool half) (.bool more)
      go_wp2
      exact bodyPost_ret (v := .agg #[.string ss', .int .i64 st, .bool half, .bool more]) (by simp [results, Tryz.results147, go_sem, E0, E1, E2, E3]) rfl ⟨rfl, set4_below B7 (by first | exact Nat.le_refl _ | omega | (have := S3.out; have := Ln_3.out; have := Lz_3.out; omega)) _ _ _ _⟩
    · obtain rfl : true = mo := hmo
      obtain ⟨Rn_0, Rz_0, B0⟩ := opn2 w (Obj.cells #[.bool neg, .int .i64 T, .int .i64 La, .string ws, .bool more] 106) (Obj.cells #[.string ⟨#[]⟩, .int .i64 0, .bool false, .bool false] 174)
      go_enter Tryz.func147, Tryz.ntmps147
      go_wp2_with fail
      refine (K1.out _ (tabB TT.out B0)).mono ?_
      rintro r w1 ⟨rfl, b1⟩
      have B1 : Below w.heap.size w w1 := btr B0 b1
      have Rn_1 := heap_of b1 _ _ _ Rn_0
      have Rz_1 := heap_of b1 _ _ _ Rz_0
      clear b1 B0 Rn_0 Rz_0
      have cn_1_0 := cells4 Rn_1 0 _ rfl
      have cn_1_1 := cells4 Rn_1 1 _ rfl
      have cn_1_2 := cells4 Rn_1 2 _ rfl
      have cn_1_3 := cells4 Rn_1 3 _ rfl
      have cn_1_4 := cells4 Rn_1 4 _ rfl
      obtain ⟨cz_1_0, cz_1_1, cz_1_2, cz_1_3⟩ := cells4s Rz_1
      go_wp2_with fail
      refine (K2.out _ (tabB TT.out B1)).mono ?_
      rintro r w2 ⟨rfl, b2⟩
      have B2 : Below w.heap.size w w2 := btr B1 b2
      have Rn_2 := heap_of b2 _ _ _ Rn_1
      have Rz_2 := heap_of b2 _ _ _ Rz_1
      clear b2 B1 Rn_1 cn_1_0 cn_1_1 cn_1_2 cn_1_3 cn_1_4 Rz_1 cz_1_0 cz_1_1 cz_1_2 cz_1_3
      have cn_2_0 := cells4 Rn_2 0 _ rfl
      have cn_2_1 := cells4 Rn_2 1 _ rfl
      have cn_2_2 := cells4 Rn_2 2 _ rfl
      have cn_2_3 := cells4 Rn_2 3 _ rfl
      have cn_2_4 := cells4 Rn_2 4 _ rfl
      obtain ⟨cz_2_0, cz_2_1, cz_2_2, cz_2_3⟩ := cells4s Rz_2
      have S3 := box B2.size
      have Ln_3 : Box (w.heap.size < w2.heap.size) := box (Array.getElem?_eq_some_iff.1 Rn_2).1
      have Lz_3 : Box (w.heap.size + 1 < w2.heap.size) := box (Array.getElem?_eq_some_iff.1 Rz_2).1
      have Rr_3 := heap_alloc_last w2 (Obj.cells #[.string ss, .int .i64 st, .bool half, .bool true] 174)
      have B3 := btr B2 (bal w2 (Obj.cells #[.string ss, .int .i64 st, .bool half, .bool true] 174))
      have Rn_3 := heap_of (bal w2 (Obj.cells #[.string ss, .int .i64 st, .bool half, .bool true] 174)) _ _ _ Rn_2
      have Rz_3 := heap_of (bal w2 (Obj.cells #[.string ss, .int .i64 st, .bool half, .bool true] 174)) _ _ _ Rz_2
      clear B2 Rn_2 cn_2_0 cn_2_1 cn_2_2 cn_2_3 cn_2_4 Rz_2 cz_2_0 cz_2_1 cz_2_2 cz_2_3
      have cn_3_0 := cells4 Rn_3 0 _ rfl
      have cn_3_1 := cells4 Rn_3 1 _ rfl
      have cn_3_2 := cells4 Rn_3 2 _ rfl
      have cn_3_3 := cells4 Rn_3 3 _ rfl
      have cn_3_4 := cells4 Rn_3 4 _ rfl
      obtain ⟨cz_3_0, cz_3_1, cz_3_2, cz_3_3⟩ := cells4s Rz_3
      obtain ⟨cr_3_0, cr_3_1, cr_3_2, cr_3_3⟩ := cells4s Rr_3
      go_wp2_with fail
      refine (K3.out _ (tabB TT.out B3)).mono ?_
      rintro r w4 ⟨rfl, b4⟩
      have B4 : Below w.heap.size w w4 := btr B3 b4
      have Rn_4 := heap_of b4 _ _ _ Rn_3
      have Rz_4 := heap_of b4 _ _ _ Rz_3
      have Rr_4 := heap_of b4 _ _ _ Rr_3
      clear b4 B3 Rn_3 cn_3_0 cn_3_1 cn_3_2 cn_3_3 cn_3_4 Rz_3 cz_3_0 cz_3_1 cz_3_2 cz_3_3 Rr_3 cr_3_0 cr_3_1 cr_3_2 cr_3_3
      have cn_4_0 := cells4 Rn_4 0 _ rfl
      have cn_4_1 := cells4 Rn_4 1 _ rfl
      have cn_4_2 := cells4 Rn_4 2 _ rfl
      have cn_4_3 := cells4 Rn_4 3 _ rfl
      have cn_4_4 := cells4 Rn_4 4 _ rfl
      obtain ⟨cz_4_0, cz_4_1, cz_4_2, cz_4_3⟩ := cells4s Rz_4
      obtain ⟨cr_4_0, cr_4_1, cr_4_2, cr_4_3⟩ := cells4s Rr_4
      go_wp2_with fail
      refine (KG.out _).mono ?_
      rintro r w5 ⟨rfl, b5⟩
      have B5 : Below w.heap.size w w5 := btr B4 b5
      have Rn_5 := heap_of b5 _ _ _ Rn_4
      have Rz_5 := heap_of b5 _ _ _ Rz_4
      have Rr_5 := heap_of b5 _ _ _ Rr_4
      clear b5 B4 Rn_4 cn_4_0 cn_4_1 cn_4_2 cn_4_3 cn_4_4 Rz_4 cz_4_0 cz_4_1 cz_4_2 cz_4_3 Rr_4 cr_4_0 cr_4_1 cr_4_2 cr_4_3
      have cn_5_0 := cells4 Rn_5 0 _ rfl
      have cn_5_1 := cells4 Rn_5 1 _ rfl
      have cn_5_2 := cells4 Rn_5 2 _ rfl
      have cn_5_3 := cells4 Rn_5 3 _ rfl
      have cn_5_4 := cells4 Rn_5 4 _ rfl
      obtain ⟨cz_5_0, cz_5_1, cz_5_2, cz_5_3⟩ := cells4s Rz_5
      obtain ⟨cr_5_0, cr_5_1, cr_5_2, cr_5_3⟩ := cells4s Rr_5
      go_wp2_with fail
      refine (K5.out _).mono ?_
      rintro r w6 ⟨rfl, b6⟩
      have B6 : Below w.heap.size w w6 := btr B5 b6
      have Rn_6 := heap_of b6 _ _ _ Rn_5
      have Rz_6 := heap_of b6 _ _ _ Rz_5
      have Rr_6 := heap_of b6 _ _ _ Rr_5
      clear b6 B5 Rn_5 cn_5_0 cn_5_1 cn_5_2 cn_5_3 cn_5_4 Rz_5 cz_5_0 cz_5_1 cz_5_2 cz_5_3 Rr_5 cr_5_0 cr_5_1 cr_5_2 cr_5_3
      have cn_6_0 := cells4 Rn_6 0 _ rfl
      have cn_6_1 := cells4 Rn_6 1 _ rfl
      have cn_6_2 := cells4 Rn_6 2 _ rfl
      have cn_6_3 := cells4 Rn_6 3 _ rfl
      have cn_6_4 := cells4 Rn_6 4 _ rfl
      obtain ⟨cz_6_0, cz_6_1, cz_6_2, cz_6_3⟩ := cells4s Rz_6
      obtain ⟨cr_6_0, cr_6_1, cr_6_2, cr_6_3⟩ := cells4s Rr_6
      have qr_6 := fz (k := 0) Rr_6
      have B7 : Below w.heap.size w (w6.setCell ⟨w2.heap.size, 0, none⟩ (.string ss')) := B6.setCell (by first | exact Nat.le_refl _ | (have := S3.out; have := Ln_3.out; have := Lz_3.out; show w.heap.size ≤ w2.heap.size; omega)) _
      have Rr_7 : (w6.setCell ⟨w2.heap.size, 0, none⟩ (.string ss')).heap[w2.heap.size]? = some (Obj.cells #[.string ss', .int .i64 st, .bool half, .bool true] 174) := by rw [setCell_row Rr_6]; rfl
      have Rn_7 : (w6.setCell ⟨w2.heap.size, 0, none⟩ (.string ss')).heap[w.heap.size]? = some (Obj.cells #[.bool neg, .int .i64 T, .int .i64 La, .string ws, .bool more] 106) := by rw [setCell_other (by first | omega | (have := S3.out; have := Ln_3.out; have := Lz_3.out; omega))]; exact Rn_6
      have Rz_7 : (w6.setCell ⟨w2.heap.size, 0, none⟩ (.string ss')).heap[w.heap.size + 1]? = some (Obj.cells #[.string ⟨#[]⟩, .int .i64 0, .bool false, .bool false] 174) := by rw [setCell_other (by first | omega | (have := S3.out; have := Ln_3.out; have := Lz_3.out; omega))]; exact Rz_6
      have cn_7_0 := cells4 Rn_7 0 _ rfl
      have cn_7_1 := cells4 Rn_7 1 _ rfl
      have cn_7_2 := cells4 Rn_7 2 _ rfl
      have cn_7_3 := cells4 Rn_7 3 _ rfl
      have cn_7_4 := cells4 Rn_7 4 _ rfl
      obtain ⟨cz_7_0, cz_7_1, cz_7_2, cz_7_3⟩ := cells4s Rz_7
      obtain ⟨cr_7_0, cr_7_1, cr_7_2, cr_7_3⟩ := cells4s Rr_7
      have q0 := fz (k := 0) Rz_7
      have q1 := fz (k := 1) Rz_7
      have q2 := fz (k := 2) Rz_7
      have q3 := fz (k := 3) Rz_7
      obtain ⟨E0, E1, E2, E3⟩ := set4_cells Rz_7 rfl (.string ss') (.int .i64 st) (.bool half) (.bool true)
      go_wp2
      exact bodyPost_ret (v := .agg #[.string ss', .int .i64 st, .bool half, .bool true]) (by simp [results, Tryz.results147, go_sem, E0, E1, E2, E3]) rfl ⟨rfl, set4_below B7 (by first | exact Nat.le_refl _ | omega | (have := S3.out; have := Ln_3.out; have := Lz_3.out; omega)) _ _ _ _⟩
end Go.Proofs.YtbmhfcppaajgbaaGreatDoor
