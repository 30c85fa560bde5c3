/-
  What the functions that the statement reaches return: part 25 (L7, L8).
-/
import Derived.Deep.SlicePairs
import Derived.Carry
import Derived.Test.YtoaaajeblhaeoaaGreatDoorMl24
namespace Go.Proofs.YtoaaajeblhaeoaaGreatDoor
set_option maxRecDepth 100000
set_option maxHeartbeats 40000000
set_option maxRecDepth 100000
open Go.RowKit WMath XMath
set_option linter.unusedSimpArgs false
set_option linter.unusedVariables false
theorem one_pack {f : Int} (hf : Is4 f) {m : Int} (hm : 0 ≤ m ∧ m ≤ 4) : dlv f m false (0 + (blen 1 : Int) - 1) (qW (pV f + 1) 1) (qM (pV f + 1) 1 false) = (eOne f false, 0) := by
 have h : m = 0 ∨ m = 1 ∨ m = 2 ∨ m = 3 ∨ m = 4 := by omega
 rcases hf with rfl | rfl | rfl | rfl <;> rcases h with rfl | rfl | rfl | rfl | rfl <;> decide +kernel
theorem kmay_nil (f m : Int) (h0 : 0 ≤ f) (h1 : f ≤ 255) (m0 : 0 ≤ m) (o : Bool) (ho : decide (f ≤ 3 ∧ m ≤ 4) = o) (w : World) (hT : FAt w) : Calls Tryz.prog 75 #[.int .u8 f, .int .u8 m, .slice none 0 0] w fun r w' => r = .returned (.bool o) ∧ Below w.heap.size w w' := by
 by_cases cc : f ≤ 3 ∧ m ≤ 4
 ·
  have hf := is4_of h0 cc.1
  rw [decide_eq_true cc] at ho
  subst ho
  obtain ⟨u, v, hv⟩ : ∃ u v, bv7 (eZero f false) = (u, v) := ⟨_, _, rfl⟩
  exact may_nil f m u v 0 w (box (fun w hT => kPack_zero f m hf ⟨m0, cc.2⟩ false 0 (by decide) (by decide) u v hv w hT)) hT
 ·
  rw [decide_eq_false cc] at ho
  subst ho
  exact op_may_no f m 0 0 0 2 _ rfl _ (box (fun w hT => kPack_no f m h0 h1 false 0 Q_pos 0 false (fun q => cc ⟨q.1, q.2.1⟩) w hT)) hT
theorem rfit_nil (f m : Int) (ao : Option Addr) (c : Nat) (o : Bool) (ho : decide (f ≤ 3 ∧ m ≤ 4) = o) (w : World) : Calls Tryz.prog 77 #[.int .u8 f, .int .u8 m, .slice ao 0 c] w fun r w' => r = .returned (.bool o) ∧ Below w.heap.size w w' := by
 have KR : Box (∀ w, Calls Tryz.prog 14 #[.int .u8 f] w fun r w' => r = .returned (.bool (decide (f ≤ 3))) ∧ Below w.heap.size w w') := box (fun w => bel_same (r_right f _ rfl w))
 have KM : Box (∀ w, Calls Tryz.prog 19 #[.int .u8 m] w fun r w' => r = .returned (.bool (decide (m ≤ 4))) ∧ Below w.heap.size w w') := box (fun w => bel_same (r_mode m _ rfl w))
 by_cases c1 : f ≤ 3
 ·
  rw [decide_eq_true c1] at KR
  by_cases c2 : m ≤ 4
  ·
   rw [decide_eq_true c2] at KM
   rw [decide_eq_true (show f ≤ 3 ∧ m ≤ 4 from ⟨c1, c2⟩)] at ho
   subst ho
   exact fits_nil f m ao c w KR KM
  ·
   rw [decide_eq_false c2] at KM
   have e : o = false := by rw [← ho, decide_eq_false (fun q => c2 q.2)]
   subst e
   exact rf_nom f m _ _ KR KM
 ·
  rw [decide_eq_false c1] at KR
  have e : o = false := by rw [← ho, decide_eq_false (fun q => c1 q.1)]
  subst e
  exact rf_no f m _ _ KR
theorem prods_nil (f m : Int) (h0 : 0 ≤ f) (h1 : f ≤ 255) (m0 : 0 ≤ m) : ∃ (u v : Nat) (fl e : Int), IntKind.i64.wrap e = e ∧ Box (∀ w, FAt w → Calls Tryz.prog 43 #[.int .u8 f, .int .u8 m, .slice none 0 0] w fun r w' => r = .returned (.tuple #[.agg #[.int .u64 u, .int .u64 v], .int .u8 fl, .int .i64 e]) ∧ Below w.heap.size w w') ∧ Box (∀ ao c w, Calls Tryz.prog 44 #[.int .u8 f, .int .u8 m, .slice ao 0 c] w fun r w' => r = .returned (.tuple #[.agg #[.int .u64 u, .int .u64 v], .int .u8 fl, .int .i64 e]) ∧ Below w.heap.size w w') := by
 cases ho : decide (f ≤ 3 ∧ m ≤ 4)
 ·
  exact ⟨0, 0, 0, 2, by decide, box (fun w hT => pr_no f m _ w (box (fun V bV hV => kmay_nil f m h0 h1 m0 false ho V hV)) hT), box (fun ao c w => rpr_no f m _ w (box (fun V bV => rfit_nil f m ao c false ho V)))⟩
 ·
  have cc := of_decide_eq_true ho
  have hf := is4_of h0 cc.1
  have hm : 0 ≤ m ∧ m ≤ 4 := ⟨m0, cc.2⟩
  obtain ⟨u, v, hv⟩ : ∃ u v, bv7 (eOne f false) = (u, v) := ⟨_, _, rfl⟩
  refine ⟨u, v, 0, 0, by decide, box (fun w hT => pr_empty f m u v 0 w (box (fun w hT => kmay_nil f m h0 h1 m0 true ho w hT)) (box (fun w => wof_al 1 (by decide) w)) (box (fun w hT => kPack_is f m hf hm false 1 (lt_Q7 (by decide)) (by decide) 0 false (by decide) (by decide) (fun h => Bool.noConfusion h) _ _ (one_pack hf hm) u v hv w hT)) hT), box (fun ao c w => rpr_empty f m u v ao c w (box (fun w => rfit_nil f m ao c true ho w)) (box (fun w => ?_)))⟩
  have := r_one f false hf _ rfl w
  rw [hv] at this
  exact this
theorem mulLists_nil (f m : Int) (h0 : 0 ≤ f) (h1 : f ≤ 255) (m0 : 0 ≤ m) (w : World) (hT : FAt w) : Calls Tryz.prog 9 #[.int .u8 f, .int .u8 m, .slice none 0 0] w fun r w' => r = .returned (.bool true) ∧ Below w.heap.size w w' := by
 obtain ⟨u, v, fl, e, he, KP, KQ⟩ := prods_nil f m h0 h1 m0
 exact mll_nil f m 0 u v fl e he w KP (box (fun w => KQ.out none 0 w)) (box r12alive) hT
theorem mulLists_some (f m : Int) (h0 : 0 ≤ f) (h1 : f ≤ 255) (m0 : 0 ≤ m) (a : Addr) (l : List (Nat × Nat)) (L c : Nat) (w : World) (hl : l.length = L) (hc : L ≤ c) (ha : L = 0 ∨ a.spot = none) (hb : Box (∀ p ∈ l, p.1 < 18446744073709551616 ∧ p.2 < 18446744073709551616))
  (HC : Box (∀ W, Below w.heap.size w W → ∀ k p, l[k]? = some p → W.cell? ⟨a.block, a.off + k * 2, none⟩ = some (.int .u64 (p.1 : Nat)) ∧ W.cell? ⟨a.block, a.off + k * 2 + 1, none⟩ = some (.int .u64 (p.2 : Nat)))) (hT : FAt w) : Calls Tryz.prog 9 #[.int .u8 f, .int .u8 m, .slice (some a) L c] w fun r w' => r = .returned (.bool true) ∧ Below w.heap.size w w' := by
 by_cases h60 : 60 < L
 ·
  exact mll_long f m a L c w h60 (box r12alive) hT
 ·
  by_cases z : L = 0
  ·
   subst z
   obtain ⟨u, v, fl, e, he, KP, KQ⟩ := prods_nil f m h0 h1 m0
   exact mll_nul f m a c u v fl e he w KP (box (fun w => KQ.out (some a) c w)) (box r12alive) hT
  ·
   obtain ⟨u, v, fl, e, he, KP, KQ⟩ := both_prods f m h0 h1 m0 l L hl (by omega) (by omega) hb
   obtain ⟨g, o, sp⟩ := a
   obtain rfl : sp = none := ha.resolve_left z
   exact ml_law f m l L g o c w hl (by omega) (by omega) hc HC u v fl e he KP (box (fun W bW => KQ.out W g o c (fun V bV => HC.out V (btr bW bV)))) (box r12alive) hT
end Go.Proofs.YtoaaajeblhaeoaaGreatDoor
namespace Go.Proofs.YtoaaajeblhaeoaaGreatDoor
set_option maxRecDepth 100000
set_option maxHeartbeats 40000000
set_option maxRecDepth 100000
set_option maxRecDepth 100000
open Go.RowKit WMath XMath Go.ChangeShapes Go.WideShapes Go.ChangeAt Go.Deep
set_option linter.unusedSimpArgs false
set_option linter.unusedVariables false
def LAt (w : World) (v : Value) : Prop := v = .slice none 0 0 ∨ ∃ (a : Addr) (l : List (Nat × Nat)) (L c : Nat), v = .slice (some a) L c ∧ l.length = L ∧ L ≤ c ∧ (L = 0 ∨ a.spot = none) ∧ (∀ p ∈ l, p.1 < 18446744073709551616 ∧ p.2 < 18446744073709551616) ∧
  ∀ (k : Nat) (p : Nat × Nat), l[k]? = some p → w.cell? ⟨a.block, a.off + k * 2, none⟩ = some (.int .u64 (p.1 : Nat)) ∧ w.cell? ⟨a.block, a.off + k * 2 + 1, none⟩ = some (.int .u64 (p.2 : Nat))

theorem open_list {H : Type} {enc : TypeId × Value → H} {w : World} {base b : Nat} {spare : Nat → Bool} {held : Bool} {v : Value} {d : DataW H} {p : List MemPlace}
  (hok : Value.okWide Tryz.prog w .any base 65 v) (h : DataW.Trod enc Tryz.prog w b spare held 65 v d p) : LAt w v := by
 obtain ⟨ao, len0, cap0, rfl⟩ := okWide_slice Tryz.underlying65 hok
 obtain ⟨fuel, hf⟩ := h
 rcases open_slice_pairs Tryz.underlying65 Tryz.underlying25 (by kernel_rfl) rfl rfl (by kernel_rfl) (by kernel_rfl) hf with ⟨e, _⟩ | ⟨a, len, cap, m, n, V0, V1, D0, D1, P0, P1, e, hb, hl, hm, hmm, hx, hc⟩
 ·
  left
  simpa [Value.cells] using e
 ·
  right
  have hlm : len ≤ m := by rw [hmm]; split <;> omega
  have each : ∀ i, i < len → ∃ q : Nat × Nat, V0 i = .int .u64 (q.1 : Nat) ∧ V1 i = .int .u64 (q.2 : Nat) ∧ q.1 < 18446744073709551616 ∧ q.2 < 18446744073709551616 := by
   intro i hi
   obtain ⟨_, _, h0, h1⟩ := hc i (by omega)
   obtain ⟨x0, e0, g0, w0⟩ := DataW.trod_int Tryz.underlying23 h0
   obtain ⟨x1, e1, g1, w1⟩ := DataW.trod_int Tryz.underlying23 h1
   obtain ⟨a0, b0, rfl⟩ := nat_u64 w0
   obtain ⟨a1, b1, rfl⟩ := nat_u64 w1
   exact ⟨(a0, a1), by simpa using e0, by simpa using e1, b0, b1⟩
  obtain ⟨q, hq⟩ := choose_lt each
  have hs : len = 0 ∨ a.spot = none := by
   rcases Nat.eq_zero_or_pos len with z | z
   ·
    exact Or.inl z
   ·
    right
    have h0 := (hc 0 (by omega)).1
    rw [show 0 * 2 = 0 from rfl, show a.add 0 = a from rfl] at h0
    exact World.cell?_spot h0
  refine ⟨a, (List.range len).map q, len, cap, by simpa [Value.cells] using e, by simp, hl, hs, ?_, ?_⟩
  ·
   intro p hp
   obtain ⟨i, hi, rfl⟩ := List.mem_map.1 hp
   exact (hq i (List.mem_range.1 hi)).2.2
  ·
   intro k p hk
   have hk' : k < len := by
    rcases Nat.lt_or_ge k len with c | c
    ·
     exact c
    ·
     rw [List.getElem?_eq_none (by simpa using c)] at hk
     cases hk
   have hp : p = q k := by
    rw [List.getElem?_map, List.getElem?_range hk'] at hk
    exact (Option.some.inj hk).symm
   subst hp
   obtain ⟨c0, c1, _, _⟩ := hc k (by omega)
   obtain ⟨q0, q1, _, _⟩ := hq k hk'
   obtain ⟨g, o, sp⟩ := a
   obtain rfl : sp = none := hs.resolve_left (by omega)
   rw [add_plain, q0] at c0
   rw [add_plain, q1] at c1
   exact ⟨c0, by simpa [Nat.add_assoc] using c1⟩

theorem mulLists_all (f m : Int) (hf : (Lit.int .u8 f).wf = true) (hm : (Lit.int .u8 m).wf = true) (v : Value) (w : World) (h : LAt w v) (hT : FAt w) : Calls Tryz.prog 9 #[.int .u8 f, .int .u8 m, v] w fun r w' => r = .returned (.bool true) ∧ Below w.heap.size w w' := by
 have b0 := bounds_u8 hf
 have b1 := bounds_u8 hm
 rcases h with rfl | ⟨a, l, L, c, rfl, hl, hc, ha, hb, HC⟩
 ·
  exact mulLists_nil f m b0.1 b0.2 b1.1 w hT
 ·
  exact mulLists_some f m b0.1 b0.2 b1.1 a l L c w hl hc ha (box hb) (box (fun W bW k p hk => ⟨cellB bW (HC k p hk).1, cellB bW (HC k p hk).2⟩)) hT

theorem laidOut : laidOutB Tryz.prog = true := by kernel_rfl
theorem readable65 : Tryz.prog.readableRec 65 = true := by kernel_rfl
theorem small65 : 65 < Tryz.prog.types.size := of_decide_eq_true (by kernel_rfl)
end Go.Proofs.YtoaaajeblhaeoaaGreatDoor
