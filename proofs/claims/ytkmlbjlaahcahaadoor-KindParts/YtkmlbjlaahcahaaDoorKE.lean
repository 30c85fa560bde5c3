/-
  What the laws ask first; the document's Next.
-/
import Derived.Test.YtkmlbjlaahcahaaDoorKD
import Derived.Test.YtkmlbjlaahcahaaDoorKA
namespace Go.Proofs.YtkmlbjlaahcahaaDoor
open Go.RowKit WMath
set_option linter.unusedSimpArgs false
set_option linter.unusedVariables false

set_option maxRecDepth 100000 in
set_option maxHeartbeats 1000000 in
theorem kalive (w : World) (hT : FAt w) : Calls Tryd.prog 11 #[] w fun r w' => r = .returned (.bool true) ∧ Below w.heap.size w w' := by
  have hf2 : Is4 2 := Or.inr (Or.inr (Or.inl rfl))
  have K1 : Box (∀ w, FAt w → Calls Tryd.prog 4 #[.int .u8 2, .agg #[.int .u64 0, .int .u64 32768]] w fun r w' => r = .returned (.tuple #[.int .u8 3, .int .i64 0]) ∧ Below w.heap.size w w') := box (fun w hT => kClass_yes 2 hf2 0 32768 32768 3 (by decide) (by decide) (by decide) (by decide +kernel) (by decide +kernel) w hT)
  have K2 : Box (∀ w, FAt w → Calls Tryd.prog 5 #[.int .u8 2, .agg #[.int .u64 0, .int .u64 15360]] w fun r w' => r = .returned (.tuple #[.agg (pt 6 1024 (-10) 0), .int .i64 0]) ∧ Below w.heap.size w w') := box (fun w hT => kUnpack_yes 2 hf2 0 15360 15360 6 1024 0 (-10) (by decide) (by decide) (by decide) (by decide +kernel) (by decide +kernel) w hT)
  have K3 : Box (∀ w, FAt w → Calls Tryd.prog 4 #[.int .u8 4, .agg #[.int .u64 0, .int .u64 0]] w fun r w' => r = .returned (.tuple #[.int .u8 0, .int .i64 2]) ∧ Below w.heap.size w w') := box (fun w hT => kClass_no 4 (by decide) (by decide) 0 0 0 (by decide) (by decide) (by decide) (by decide +kernel) w hT)
  have hat := cw_at 6
  have hz := cw6z
  have hff := cw6f
  have hs0 := st0
  have hcs : ∀ x, ((cw 6 x).size = 6) = True := fun x => eq_true (cw_size 6 x)
  have heq := eq6
  have hg := eqg6
  have h1024 : (1024 : Nat) < Q := lt_Q7 (by decide)
  have hset : (cw 6 0).setIfInBounds 0 (.int .u64 1024) = cw 6 1024 := set0 1024 (by decide)
  have hp1 := ptf
  have hp3 := ptz
  have hp4 := st_p0
  have hp5 : ∀ (c s : Nat) (x : Int) (r : Nat), ((pt c s x r).size = 14) = True := fun _ _ _ _ => eq_true rfl
  have ha1 := pt_at1
  have ha2 := pt_at2
  have ha3 := pt_at3
  have ha4 := pt_at4
  have ha5 := pt_at5
  have ha6 := pt_at6
  have ha7 := pt_at7
  have TT := box hT
  clear hT hf2
  have B0 : Below w.heap.size w w := (Below.refl _ _)
  go_enter Tryd.func11, Tryd.ntmps11
  go_wp2_with fail
  refine (K1.out _ (fatB TT.out B0)).mono ?_
  rintro r w1 ⟨rfl, b1⟩
  have B1 : Below w.heap.size w w1 := btr7 B0 b1
  clear b1 B0 
  go_wp2_with fail
  refine (K2.out _ (fatB TT.out B1)).mono ?_
  rintro r w2 ⟨rfl, b2⟩
  have B2 : Below w.heap.size w w2 := btr7 B1 b2
  clear b2 B1 
  have S3 := box B2.size
  have Rp_3 := heap_alloc_last w2 (Obj.cells (pt 6 1024 (-10) 0) 30)
  have B3 := btr7 B2 (bal7 w2 (Obj.cells (pt 6 1024 (-10) 0) 30))
  clear B2 
  obtain ⟨cp_3_0, cp_3_1, cp_3_2, cp_3_3, cp_3_4, cp_3_5, cp_3_6, cp_3_7, cp_3_8, cp_3_9, cp_3_10, cp_3_11, cp_3_12, cp_3_13⟩ := pt_cells Rp_3
  go_wp2_with fail
  refine (K3.out _ (fatB TT.out B3)).mono ?_
  rintro r w4 ⟨rfl, b4⟩
  have B4 : Below w.heap.size w w4 := btr7 B3 b4
  have Rp_4 := heap_of b4 _ _ _ Rp_3
  clear b4 B3 Rp_3 cp_3_0 cp_3_1 cp_3_2 cp_3_3 cp_3_4 cp_3_5 cp_3_6 cp_3_7 cp_3_8 cp_3_9 cp_3_10 cp_3_11 cp_3_12 cp_3_13
  obtain ⟨cp_4_0, cp_4_1, cp_4_2, cp_4_3, cp_4_4, cp_4_5, cp_4_6, cp_4_7, cp_4_8, cp_4_9, cp_4_10, cp_4_11, cp_4_12, cp_4_13⟩ := pt_cells Rp_4
  go_wp2
  go_ret
  exact ⟨rfl, B4⟩

theorem kfits_law (f : Int) (x y n : Nat) (o : Bool) (h0 : 0 ≤ f) (hx : x < 18446744073709551616) (hy : y < 18446744073709551616) (hn : y + 18446744073709551616 * x = n) (ho : okB f n = o) (w : World) : Calls Tryd.prog 6 #[.int .u8 f, .agg #[.int .u64 (x : Nat), .int .u64 (y : Nat)]] w fun r w' => r = .returned (.bool o) ∧ Below w.heap.size w w' := by
  have K1 := box (rk_fits f x y n o h0 hx hy hn ho)
  clear hx hy hn ho
  obtain ⟨Rb_0, B0⟩ := kopn1 w (Obj.cells #[.int .u64 (x : Nat), .int .u64 (y : Nat)] 25)
  go_enter Tryd.func6, Tryd.ntmps6
  go_wp2_with fail
  refine (K1.out _).mono ?_
  rintro r w1 ⟨rfl, b1⟩
  have B1 : Below w.heap.size w w1 := btr7 B0 b1
  have Rb_1 := heap_of b1 _ _ _ Rb_0
  clear b1 B0 Rb_0
  obtain ⟨cb_1_0, cb_1_1⟩ := cell7t Rb_1
  go_wp2
  go_ret
  exact ⟨rfl, B1⟩
end Go.Proofs.YtkmlbjlaahcahaaDoor
