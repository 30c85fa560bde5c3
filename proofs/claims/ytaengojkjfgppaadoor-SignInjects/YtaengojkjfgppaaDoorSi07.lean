/-
  What the functions that the statement reaches return: part 7 (GF, GB).
-/
import Derived.Test.YtaengojkjfgppaaDoorSi06
namespace Go.Proofs.YtaengojkjfgppaaDoor
set_option maxRecDepth 100000
set_option maxHeartbeats 40000000
set_option maxRecDepth 100000
open Go.RowKit WMath
set_option linter.unusedSimpArgs false
set_option linter.unusedVariables false
theorem al17 : wiB 2 15360 (kN 2 32768) = 48128 ∧ 2 ^ kC 2 32256 = 512 ∧ okB 2 15360 = true ∧ okB 2 32768 = true ∧ okB 2 32256 = true := by decide +kernel
set_option maxRecDepth 100000 in
set_option maxHeartbeats 8000000 in
theorem r17alive0 (K1 : Box (∀ w, FAt w → Calls Tryd.prog 6 #[.int .u8 2, .agg #[.int .u64 0, .int .u64 15360], .agg #[.int .u64 0, .int .u64 32768]] w fun r w' => r = .returned (.tuple #[.agg #[.int .u64 0, .int .u64 48128], .int .i64 0]) ∧ Below w.heap.size w w')) (K2 : Box (∀ w, FAt w → Calls Tryd.prog 13 #[.int .u8 2, .agg #[.int .u64 0, .int .u64 32256]] w fun r w' => r = .returned (.tuple #[.int .u64 512, .int .i64 0]) ∧ Below w.heap.size w w')) (w : World) (hT : FAt w) : Calls Tryd.prog 10 #[] w fun r w' => r = .returned (.bool true) ∧ Below w.heap.size w w' := by
  have FF := box hT
  clear hT
  have B0 : Below w.heap.size w w := (Below.refl _ _)
  go_enter Tryd.func10, Tryd.ntmps10
  go_wp2_with fail
  refine (K1.out _ (fatB FF.out B0)).mono ?_
  rintro r w1 ⟨rfl, b1⟩
  have B1 : Below w.heap.size w w1 := btr B0 b1
  clear b1 B0 
  have S2 := box B1.size
  have Rb_2 := heap_alloc_last w1 (Obj.cells #[.int .u64 0, .int .u64 48128] 25)
  have B2 := btr B1 (bal w1 (Obj.cells #[.int .u64 0, .int .u64 48128] 25))
  clear B1 
  obtain ⟨cb_2_0, cb_2_1⟩ := cells2s Rb_2
  go_wp2_with fail
  refine (K2.out _ (fatB FF.out B2)).mono ?_
  rintro r w3 ⟨rfl, b3⟩
  have B3 : Below w.heap.size w w3 := btr B2 b3
  have Rb_3 := heap_of b3 _ _ _ Rb_2
  clear b3 B2 Rb_2 cb_2_0 cb_2_1
  obtain ⟨cb_3_0, cb_3_1⟩ := cells2s Rb_3
  go_wp2
  go_ret
  exact ⟨rfl, B3⟩
theorem injects_all (f : Int) (h0 : 0 ≤ f) (x1 y1 a x2 y2 b : Nat) (hx1 : x1 < 18446744073709551616) (hy1 : y1 < 18446744073709551616) (ha : y1 + 18446744073709551616 * x1 = a) (hx2 : x2 < 18446744073709551616) (hy2 : y2 < 18446744073709551616) (hb : y2 + 18446744073709551616 * x2 = b)
    (K1 : okB f a = true → okB f b = true → ∀ u v, bv7 (wiB f a (kN f b)) = (u, v) → Box (∀ w, FAt w → Calls Tryd.prog 6 #[.int .u8 f, .agg #[.int .u64 (x1 : Nat), .int .u64 (y1 : Nat)], .agg #[.int .u64 (x2 : Nat), .int .u64 (y2 : Nat)]] w fun r w' => r = .returned (.tuple #[.agg #[.int .u64 (u : Nat), .int .u64 (v : Nat)], .int .i64 0]) ∧ Below w.heap.size w w'))
    (K2 : okB f a = true → okB f b = true → ∀ u v, bv7 (wiB f a (!kN f b)) = (u, v) → Box (∀ w, FAt w → Calls Tryd.prog 7 #[.int .u8 f, .agg #[.int .u64 (x1 : Nat), .int .u64 (y1 : Nat)], .agg #[.int .u64 (x2 : Nat), .int .u64 (y2 : Nat)]] w fun r w' => r = .returned (.tuple #[.agg #[.int .u64 (u : Nat), .int .u64 (v : Nat)], .int .i64 0]) ∧ Below w.heap.size w w'))
    (K3 : okB f a = true → okB f b = true → ∀ u v, bv7 (wiB f a (kN f a != kN f b)) = (u, v) → Box (∀ w, FAt w → Calls Tryd.prog 8 #[.int .u8 f, .agg #[.int .u64 (x1 : Nat), .int .u64 (y1 : Nat)], .agg #[.int .u64 (x2 : Nat), .int .u64 (y2 : Nat)]] w fun r w' => r = .returned (.tuple #[.agg #[.int .u64 (u : Nat), .int .u64 (v : Nat)], .int .i64 0]) ∧ Below w.heap.size w w'))
    (KE : ¬ (okB f a = true ∧ okB f b = true) → Box (∀ w, FAt w → Calls Tryd.prog 6 #[.int .u8 f, .agg #[.int .u64 (x1 : Nat), .int .u64 (y1 : Nat)], .agg #[.int .u64 (x2 : Nat), .int .u64 (y2 : Nat)]] w fun r w' => r = .returned (.tuple #[.agg #[.int .u64 0, .int .u64 0], .int .i64 2]) ∧ Below w.heap.size w w') ∧ Box (∀ w, FAt w → Calls Tryd.prog 7 #[.int .u8 f, .agg #[.int .u64 (x1 : Nat), .int .u64 (y1 : Nat)], .agg #[.int .u64 (x2 : Nat), .int .u64 (y2 : Nat)]] w fun r w' => r = .returned (.tuple #[.agg #[.int .u64 0, .int .u64 0], .int .i64 2]) ∧ Below w.heap.size w w') ∧ Box (∀ w, FAt w → Calls Tryd.prog 8 #[.int .u8 f, .agg #[.int .u64 (x1 : Nat), .int .u64 (y1 : Nat)], .agg #[.int .u64 (x2 : Nat), .int .u64 (y2 : Nat)]] w fun r w' => r = .returned (.tuple #[.agg #[.int .u64 0, .int .u64 0], .int .i64 2]) ∧ Below w.heap.size w w'))
    (KA : Box (∀ w, FAt w → Calls Tryd.prog 10 #[] w fun r w' => r = .returned (.bool true) ∧ Below w.heap.size w w')) (w : World) (hT : FAt w) : Calls Tryd.prog 3 #[.int .u8 f, .agg #[.int .u64 (x1 : Nat), .int .u64 (y1 : Nat)], .agg #[.int .u64 (x2 : Nat), .int .u64 (y2 : Nat)]] w fun r w' => r = .returned (.bool true) ∧ Below w.heap.size w w' := by
  have F1 : ∀ o, okB f a = o → Box (∀ w, Calls Tryd.prog 9 #[.int .u8 f, .agg #[.int .u64 (x1 : Nat), .int .u64 (y1 : Nat)]] w fun r w' => r = .returned (.bool o) ∧ Below w.heap.size w w') := fun o h => box (fun w => rk_fits f x1 y1 a o h0 hx1 hy1 ha h w)
  have F2 : ∀ o, okB f b = o → Box (∀ w, Calls Tryd.prog 9 #[.int .u8 f, .agg #[.int .u64 (x2 : Nat), .int .u64 (y2 : Nat)]] w fun r w' => r = .returned (.bool o) ∧ Below w.heap.size w w') := fun o h => box (fun w => rk_fits f x2 y2 b o h0 hx2 hy2 hb h w)
  by_cases oa : okB f a = true
  · by_cases ob : okB f b = true
    · have hf := (okB_yes h0 oa).1
      obtain ⟨ut, vt, ht⟩ : ∃ u v, bv7 (wiB f a true) = (u, v) := ⟨_, _, rfl⟩
      obtain ⟨uf, vf, hu⟩ : ∃ u v, bv7 (wiB f a false) = (u, v) := ⟨_, _, rfl⟩
      have RT := box (fun w => rwith_is f hf x1 y1 a hx1 hy1 ha oa true ut vt ht w)
      have RF := box (fun w => rwith_is f hf x1 y1 a hx1 hy1 ha oa false uf vf hu w)
      have S1 : ∀ o, kN f a = o → Box (∀ w, Calls Tryd.prog 11 #[.int .u8 f, .agg #[.int .u64 (x1 : Nat), .int .u64 (y1 : Nat)]] w fun r w' => r = .returned (.bool o) ∧ Below w.heap.size w w') := fun o h => box (fun w => rSign_yes f hf x1 y1 a o hx1 hy1 ha oa h w)
      have S2 : ∀ o, kN f b = o → Box (∀ w, Calls Tryd.prog 11 #[.int .u8 f, .agg #[.int .u64 (x2 : Nat), .int .u64 (y2 : Nat)]] w fun r w' => r = .returned (.bool o) ∧ Below w.heap.size w w') := fun o h => box (fun w => rSign_yes f hf x2 y2 b o hx2 hy2 hb ob h w)
      have K1 := K1 oa ob
      have K2 := K2 oa ob
      have K3 := K3 oa ob
      cases p : kN f a <;> cases q : kN f b <;> rw [q] at K1 K2 K3 <;> rw [p] at K3
      · exact si_yes00 f x1 y1 x2 y2 ut vt uf vf w (K1 _ _ hu) (K2 _ _ ht) (K3 _ _ hu) (F1 true oa) (F2 true ob) (S1 false p) (S2 false q) RF RT KA hT
      · exact si_yes01 f x1 y1 x2 y2 ut vt uf vf w (K1 _ _ ht) (K2 _ _ hu) (K3 _ _ ht) (F1 true oa) (F2 true ob) (S1 false p) (S2 true q) RF RT KA hT
      · exact si_yes10 f x1 y1 x2 y2 ut vt uf vf w (K1 _ _ hu) (K2 _ _ ht) (K3 _ _ ht) (F1 true oa) (F2 true ob) (S1 true p) (S2 false q) RF RT KA hT
      · exact si_yes11 f x1 y1 x2 y2 ut vt uf vf w (K1 _ _ ht) (K2 _ _ hu) (K3 _ _ hu) (F1 true oa) (F2 true ob) (S1 true p) (S2 true q) RF RT KA hT
    · obtain ⟨k1, k2, k3⟩ := KE (fun q => ob q.2)
      exact si_no2 f x1 y1 x2 y2 w k1 k2 k3 (F1 true oa) (F2 false (Bool.eq_false_iff.2 ob)) KA hT
  · obtain ⟨k1, k2, k3⟩ := KE (fun q => oa q.1)
    exact si_no1 f x1 y1 x2 y2 w k1 k2 k3 (F1 false (Bool.eq_false_iff.2 oa)) KA hT
end Go.Proofs.YtaengojkjfgppaaDoor
