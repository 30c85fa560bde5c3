/-
  What the functions that the statement reaches return: part 3 (IP).
-/
import Derived.Handed
import Derived.Shelf.Vars
import Derived.Test.YtinagedilgihjaaDoorCt02
namespace Go.Proofs.YtinagedilgihjaaDoor
set_option maxRecDepth 100000
set_option maxHeartbeats 40000000
set_option maxRecDepth 100000
open Go.RowKit WMath
set_option linter.unusedSimpArgs false
set_option linter.unusedVariables false
def FMt (w : World) : Prop := FAt w ∧ ∃ m, w.cell? ⟨2, 0, none⟩ = some (.int .i64 m)
theorem fmtB {w w' : World} (h : FMt w) (hb : Below w.heap.size w w') : FMt w' := by
  obtain ⟨a, m, hm⟩ := h
  refine ⟨fatB a hb, m, ?_⟩
  rw [hb.cell (p := ⟨2, 0, none⟩) (World.block_lt_of_cell? w _ hm)]
  exact hm
theorem rgK_D : ∀ m, m < 32 → rgK (txD m).data.toList 5 = m := by decide +kernel
theorem kCo_is (s sub : ByteArray) (hs : s.size < 4294967281) (w : World) (hT : FMt w) : Calls Tryd.prog 36 #[.string s, .string sub] w fun r w' => r = .returned (.bool (Lib.contains s.data.toList sub.data.toList)) ∧ Below w.heap.size w w' := by
  obtain ⟨_, m, hm⟩ := hT
  exact (Any.strings_Contains Tryd.laysContains s sub m w hs hm).mono fun e w' q => ⟨q.1, q.2 ▸ Below.refl _ _⟩
theorem kRt_is (s : ByteArray) (hs : s.size < 4294967281) (w : World) (hT : FMt w) : Calls Tryd.prog 28 #[.string s] w fun r w' => r = .returned (.tuple #[.int .u8 ((rtR s).1 : Nat), .int .i64 (rtR s).2]) ∧ Below w.heap.size w w' := by
  have hG := rgK_lt s.data.toList 5 (by decide)
  have FB := box (fun {w w' : World} (h : FMt w) (hb : Below w.heap.size w w') => fmtB h hb)
  have KC := box (fun (k : Nat) (w : World) (hT : FMt w) => kCo_is s (wdA k) hs w hT)
  have KJ := box (fun (w : World) (hT : FMt w) => kJn_is (rgK s.data.toList 5) hG w hT.1)
  unfold rtR
  cases h : (List.range 32).find? (fun i => (txt i).toList == s.toList) with
  | none =>
    have q := List.find?_eq_none.1 h _ (List.mem_range.2 hG)
    exact pc_rdt_n s _ (Bool.eq_false_iff.2 q) FMt FB w KC KJ hT.1 hT
  | some m =>
    have q := List.find?_range_eq_some.1 h
    have lt := List.mem_range.1 q.2.1
    have e : rgK s.data.toList 5 = m := by
      have e1 := q.1
      rw [beq_iff_eq, ByteArray.toList_eq, ByteArray.toList_eq, txt_D] at e1
      rw [← e1]
      exact rgK_D m lt
    have := pc_rdt_y s _ (by rw [e]; exact q.1) FMt FB w KC KJ hT.1 hT
    rw [e] at this
    exact this
theorem csrTexts_fin (n : Int) (g : Nat) (s : ByteArray) (hs : s.size < 4294967281) (w : World) (hT : FMt w) : Calls Tryd.prog 5 #[.int .i64 n, .int .u8 (g : Nat), .string s] w fun r w' => r = .returned (.bool true) ∧ Below w.heap.size w w' :=
  ct_law (box (fun {w w' : World} (h : FMt w) (hb : Below w.heap.size w w') => fmtB h hb)) n _ s _ _ _ _ _ _ _ _ w (box (fun w hT => kNm_is n w hT.1)) (box (fun w => rNm_w n w)) (box (fun w hT => kNd_is s w hT.1)) (box (fun w => rNd_w s w)) (box (fun w hT => kTx_is g w hT.1)) (box (fun w => rTx_w g w)) (box (fun w hT => kRt_is s hs w hT)) (box (fun w => rRt_w s w)) (box (fun w hT => csrLives w hT.1)) hT
theorem maxlen_of {W : World} (h : W.ShapedOpen Tryd.prog) : ∃ m, W.cell? ⟨2, 0, none⟩ = some (.int .i64 m) :=
  cell_of_shapedOpen_int (zero := #[.int .i64 0]) h (by decide +kernel) (by kernel_rfl) rfl (by kernel_rfl) (by kernel_rfl) Tryd.underlying3
end Go.Proofs.YtinagedilgihjaaDoor
