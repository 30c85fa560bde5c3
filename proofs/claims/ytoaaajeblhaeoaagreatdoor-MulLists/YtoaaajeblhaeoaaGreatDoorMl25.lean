/-
  What the functions that the statement reaches return: part 25 (L8).
-/
import Derived.Deep.SlicePairs
import Derived.Carry
import Derived.Test.YtoaaajeblhaeoaaGreatDoorMl24
namespace Go.Proofs.YtoaaajeblhaeoaaGreatDoor
set_option maxRecDepth 100000
set_option maxHeartbeats 40000000
set_option maxRecDepth 100000
set_option maxRecDepth 100000
open Go.RowKit WMath XMath Go.ChangeShapes Go.WideShapes Go.ChangeAt Go.Deep
set_option linter.unusedSimpArgs false
set_option linter.unusedVariables false
def LAt (w : World) (v : Value) : Prop := v = .slice none 0 0 ∨ ∃ (a : Addr) (l : List (Nat × Nat)) (L c : Nat), v = .slice (some a) L c ∧ l.length = L ∧ L ≤ c ∧ (L = 0 ∨ a.spot = none) ∧ (∀ p ∈ l, p.1 < 18446744073709551616 ∧ p.2 < 18446744073709551616) ∧
  ∀ (k : Nat) (p : Nat × Nat), l[k]? = some p → w.cell? ⟨a.block, a.off + k * 2, none⟩ = some (.int .u64 (p.1 : Nat)) ∧ w.cell? ⟨a.block, a.off + k * 2 + 1, none⟩ = some (.int .u64 (p.2 : Nat))

theorem open_list {H : Type} {enc : TypeId × Value → H} {w : World} {base b : Nat} {spare : Nat → Bool} {held : Bool} {v : Value} {d : DataW H} {p : List MemPlace}
  (hok : Value.okWide Tryz.prog w .any base 65 v) (h : DataW.Trod enc Tryz.prog w b spare held 65 v d p) : LAt w v := by
 obtain ⟨ao, len0, cap0, rfl⟩ := okWide_slice Tryz.underlying65 hok
 obtain ⟨fuel, hf⟩ := h
 rcases open_slice_pairs Tryz.underlying65 Tryz.underlying25 (by kernel_rfl) rfl rfl (by kernel_rfl) (by kernel_rfl) hf with ⟨e, _⟩ | ⟨a, len, cap, m, n, V0, V1, D0, D1, P0, P1, e, hb, hl, hm, hmm, hx, hc⟩
 ·
  left
  simpa [Value.cells] using e
 ·
  right
  have hlm : len ≤ m := by rw [hmm]; split <;> omega
  have each : ∀ i, i < len → ∃ q : Nat × Nat, V0 i = .int .u64 (q.1 : Nat) ∧ V1 i = .int .u64 (q.2 : Nat) ∧ q.1 < 18446744073709551616 ∧ q.2 < 18446744073709551616 := by
   intro i hi
   obtain ⟨_, _, h0, h1⟩ := hc i (by omega)
   obtain ⟨x0, e0, g0, w0⟩ := DataW.trod_int Tryz.underlying23 h0
   obtain ⟨x1, e1, g1, w1⟩ := DataW.trod_int Tryz.underlying23 h1
   obtain ⟨a0, b0, rfl⟩ := nat_u64 w0
   obtain ⟨a1, b1, rfl⟩ := nat_u64 w1
   exact ⟨(a0, a1), by simpa using e0, by simpa using e1, b0, b1⟩
  obtain ⟨q, hq⟩ := choose_lt each
  have hs : len = 0 ∨ a.spot = none := by
   rcases Nat.eq_zero_or_pos len with z | z
   ·
    exact Or.inl z
   ·
    right
    have h0 := (hc 0 (by omega)).1
    rw [show 0 * 2 = 0 from rfl, show a.add 0 = a from rfl] at h0
    exact World.cell?_spot h0
  refine ⟨a, (List.range len).map q, len, cap, by simpa [Value.cells] using e, by simp, hl, hs, ?_, ?_⟩
  ·
   intro p hp
   obtain ⟨i, hi, rfl⟩ := List.mem_map.1 hp
   exact (hq i (List.mem_range.1 hi)).2.2
  ·
   intro k p hk
   have hk' : k < len := by
    rcases Nat.lt_or_ge k len with c | c
    ·
     exact c
    ·
     rw [List.getElem?_eq_none (by simpa using c)] at hk
     cases hk
   have hp : p = q k := by
    rw [List.getElem?_map, List.getElem?_range hk'] at hk
    exact (Option.some.inj hk).symm
   subst hp
   obtain ⟨c0, c1, _, _⟩ := hc k (by omega)
   obtain ⟨q0, q1, _, _⟩ := hq k hk'
   obtain ⟨g, o, sp⟩ := a
   obtain rfl : sp = none := hs.resolve_left (by omega)
   rw [add_plain, q0] at c0
   rw [add_plain, q1] at c1
   exact ⟨c0, by simpa [Nat.add_assoc] using c1⟩

theorem mulLists_all (f m : Int) (hf : (Lit.int .u8 f).wf = true) (hm : (Lit.int .u8 m).wf = true) (v : Value) (w : World) (h : LAt w v) (hT : FAt w) : Calls Tryz.prog 9 #[.int .u8 f, .int .u8 m, v] w fun r w' => r = .returned (.bool true) ∧ Below w.heap.size w w' := by
 have b0 := bounds_u8 hf
 have b1 := bounds_u8 hm
 rcases h with rfl | ⟨a, l, L, c, rfl, hl, hc, ha, hb, HC⟩
 ·
  exact mulLists_nil f m b0.1 b0.2 b1.1 w hT
 ·
  exact mulLists_some f m b0.1 b0.2 b1.1 a l L c w hl hc ha (box hb) (box (fun W bW k p hk => ⟨cellB bW (HC k p hk).1, cellB bW (HC k p hk).2⟩)) hT

theorem laidOut : laidOutB Tryz.prog = true := by kernel_rfl
theorem readable65 : Tryz.prog.readableRec 65 = true := by kernel_rfl
theorem small65 : 65 < Tryz.prog.types.size := of_decide_eq_true (by kernel_rfl)
end Go.Proofs.YtoaaajeblhaeoaaGreatDoor
