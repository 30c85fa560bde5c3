/-
  What the functions that the statement reaches return: part 10 (YD, YE).
-/
import Derived.Test.YtamlcgmipdcgjaaDoorWa09
namespace Go.Proofs.YtamlcgmipdcgjaaDoor
set_option maxRecDepth 100000
set_option maxHeartbeats 40000000
set_option maxRecDepth 100000
open Go.RowKit WMath
set_option linter.unusedSimpArgs false
set_option linter.unusedVariables false
theorem layL : allL.all (fun p => decide (1 ≤ p.1.lay ∧ p.1.lay ≤ 9 ∧ 1 ≤ p.1.op ∧ p.1.op ≤ 31 ∧ p.1.form < 4 ∧ p.1.frm < 4 ∧ p.1.kind < 4)) = true := by decide +kernel
theorem lay24 {p : Nm} (hp : p ∈ allL) : 1 ≤ p.1.lay ∧ p.1.lay ≤ 9 ∧ 1 ≤ p.1.op ∧ p.1.op ≤ 31 ∧ p.1.form < 4 ∧ p.1.frm < 4 ∧ p.1.kind < 4 := by
  have := List.all_eq_true.1 layL p hp
  simpa only [decide_eq_true_iff] using this
theorem fd_mem {x : Nat} {p : Nm} (h : fdL x = some p) : p ∈ allL ∧ fitsL p.1 x = true := by
  unfold fdL fstL at h
  exact ⟨List.mem_of_find?_eq_some h, by simpa using List.find?_some h⟩
theorem m256 (a n : Nat) (h : a < n) (hn : n ≤ 256) : ((a : Nat) : Int) % 256 = (a : Nat) := by omega
theorem rDc25 (x : Nat) (hx : x < 4294967296) (i : In) (e : Int) (h : dcR x = (i, e)) (w : World) : Calls Tryd.prog 10 #[.int .u32 (x : Nat)] w fun r w' => r = .returned (.tuple #[.agg (inC i), .int .i64 e]) ∧ Below w.heap.size w w' := by
  unfold dcR at h
  cases q : fdL x with
  | none =>
    rw [q] at h
    cases h
    exact b25_dec_no x rwZ ⟨#[]⟩ w (box (fun w => rFind24 x hx rwZ [] false (by rw [q]; rfl) (by rw [q]; rfl) w))
  | some p =>
    rw [q] at h
    cases h
    obtain ⟨pm, _⟩ := fd_mem q
    obtain ⟨l1, l9, _⟩ := lay24 pm
    obtain ⟨ro, nn⟩ := p
    simp only at l1 l9
    have KF := box (fun w => rFind24 x hx ro nn true (by rw [q]; rfl) (by rw [q]; rfl) w)
    have fb : ∀ lo n, lo + n ≤ 32 → Box (∀ w, Calls Tryd.prog 25 #[.int .u32 (x : Nat), .int .i64 (lo : Nat), .int .i64 (n : Nat)] w fun r w' => r = .returned (.int .i64 (fld x lo n : Nat)) ∧ Below w.heap.size w w') := fun lo n h => box (fun w => b25_field x lo n hx h w)
    have F7 := fb 7 5 (by decide)
    have F12 := fb 12 3 (by decide)
    have F15 := fb 15 5 (by decide)
    have F20 := fb 20 5 (by decide)
    have F27 := fb 27 5 (by decide)
    have FI := fb 20 12 (by decide)
    have FH := fb 25 7 (by decide)
    have a7 := fld_lt x 7 5
    have a12 := fld_lt x 12 3
    have a15 := fld_lt x 15 5
    have a20 := fld_lt x 20 5
    have a27 := fld_lt x 27 5
    have aI := fld_lt x 20 12
    have aH := fld_lt x 25 7
    have m0 := m256 _ 32 a7 (by decide)
    have m1 := m256 _ 8 a12 (by decide)
    have m2 := m256 _ 32 a15 (by decide)
    have m3 := m256 _ 32 a20 (by decide)
    have m4 := m256 _ 32 a27 (by decide)
    unfold dcI
    have tt : ∀ j : Nat, ro.lay = j → (((ro.lay : Nat) : Int) == ((j : Nat) : Int)) = true := fun j h => beq_iff_eq.2 (by omega)
    have ff : ∀ j : Nat, ro.lay ≠ j → (((ro.lay : Nat) : Int) == ((j : Nat) : Int)) = false := fun j h => beq_eq_false_iff_ne.2 (by omega)
    have nn2 : ro.lay ≠ 2 → (((ro.lay : Nat) : Int) != 2) = true := fun h => bne_iff_ne.2 (by omega)
    rcases (by omega : ro.lay = 1 ∨ ro.lay = 2 ∨ ro.lay = 3 ∨ ro.lay = 4 ∨ ro.lay = 5 ∨ ro.lay = 6 ∨ ro.lay = 7 ∨ ro.lay = 8 ∨ ro.lay = 9) with c | c | c | c | c | c | c | c | c
    · simp only [c, reduceCtorEq, if_true, if_false, Nat.reduceEqDiff, or_true, true_or, or_false, false_or]
      exact b25_dec_1 x ro _ (fld x 7 5) (fld x 12 3) (fld x 15 5) (fld x 20 5) (fld x 27 5) _ _ (tt 1 c) (nn2 (by omega)) m0 m1 m2 m3 m4 w KF F7 F12 F15 F20 F27 FI (box (fun w => b25_signed _ aI w))
    · simp only [c, reduceCtorEq, if_true, if_false, Nat.reduceEqDiff, or_true, true_or, or_false, false_or]
      exact b25_dec_2 x ro _ (fld x 7 5) (fld x 12 3) (fld x 15 5) (fld x 20 5) (fld x 27 5) _ (32 * fld x 25 7 + fld x 7 5) _ (ff 1 (by omega)) (tt 2 c) (by rw [c]; rfl) m0 m1 m2 m3 m4 w KF F7 F12 F15 F20 F27 FH (box (fun w => b25_signed _ (by omega) w)) (by rw [IntKind.wrap_i64]; omega) (by rw [IntKind.wrap_i64]; omega)
    · simp only [c, reduceCtorEq, if_true, if_false, Nat.reduceEqDiff, or_true, true_or, or_false, false_or]
      exact b25_dec_3 x ro _ (fld x 7 5) (fld x 12 3) (fld x 15 5) (fld x 20 5) (fld x 27 5) (ff 1 (by omega)) (ff 2 (by omega)) (tt 3 c) (nn2 (by omega)) m0 m1 m2 m3 m4 w KF F7 F12 F15 F20 F27
    · simp only [c, reduceCtorEq, if_true, if_false, Nat.reduceEqDiff, or_true, true_or, or_false, false_or]
      exact b25_dec_4 x ro _ (fld x 7 5) (fld x 12 3) (fld x 15 5) (fld x 20 5) (fld x 27 5) (ff 1 (by omega)) (ff 2 (by omega)) (ff 3 (by omega)) (tt 4 c) (nn2 (by omega)) m0 m1 m2 m3 m4 w KF F7 F12 F15 F20 F27
    · simp only [c, reduceCtorEq, if_true, if_false, Nat.reduceEqDiff, or_true, true_or, or_false, false_or]
      exact b25_dec_5 x ro _ (fld x 7 5) (fld x 12 3) (fld x 15 5) (fld x 20 5) (fld x 27 5) (ff 1 (by omega)) (ff 2 (by omega)) (ff 3 (by omega)) (ff 4 (by omega)) (tt 5 c) (nn2 (by omega)) m0 m1 m2 m3 m4 w KF F7 F12 F15 F20 F27
    · simp only [c, reduceCtorEq, if_true, if_false, Nat.reduceEqDiff, or_true, true_or, or_false, false_or]
      exact b25_dec_6 x ro _ (fld x 7 5) (fld x 12 3) (fld x 15 5) (fld x 20 5) (fld x 27 5) (ff 1 (by omega)) (ff 2 (by omega)) (ff 3 (by omega)) (ff 4 (by omega)) (ff 5 (by omega)) (tt 6 c) (nn2 (by omega)) m0 m1 m2 m3 m4 w KF F7 F12 F15 F20 F27
    · simp only [c, reduceCtorEq, if_true, if_false, Nat.reduceEqDiff, or_true, true_or, or_false, false_or]
      exact b25_dec_7 x ro _ (fld x 7 5) (fld x 12 3) (fld x 15 5) (fld x 20 5) (fld x 27 5) (ff 1 (by omega)) (ff 2 (by omega)) (ff 3 (by omega)) (ff 4 (by omega)) (ff 5 (by omega)) (ff 6 (by omega)) (ff 8 (by omega)) (ff 9 (by omega)) (nn2 (by omega)) m0 m1 m2 m3 m4 w KF F7 F12 F15 F20 F27
    · simp only [c, reduceCtorEq, if_true, if_false, Nat.reduceEqDiff, or_true, true_or, or_false, false_or]
      exact b25_dec_8 x ro _ (fld x 7 5) (fld x 12 3) (fld x 15 5) (fld x 20 5) (fld x 27 5) _ (fld x 20 12 % 256) (ff 1 (by omega)) (ff 2 (by omega)) (ff 3 (by omega)) (ff 4 (by omega)) (ff 5 (by omega)) (ff 6 (by omega)) (tt 8 c) (nn2 (by omega)) m0 m1 m2 m3 m4 w KF F7 F12 F15 F20 F27 FI (by omega)
    · simp only [c, reduceCtorEq, if_true, if_false, Nat.reduceEqDiff, or_true, true_or, or_false, false_or]
      exact b25_dec_9 x ro _ (fld x 7 5) (fld x 12 3) (fld x 15 5) (fld x 20 5) (fld x 27 5) _ (fld x 20 12 % 256) (ff 1 (by omega)) (ff 2 (by omega)) (ff 3 (by omega)) (ff 4 (by omega)) (ff 5 (by omega)) (ff 6 (by omega)) (ff 8 (by omega)) (tt 9 c) (nn2 (by omega)) m0 m1 m2 m3 m4 w KF F7 F12 F15 F20 F27 FI (by omega)
structure Us where
  rx : Nat
  rf : Nat
  wx : Nat
  wf : Nat
deriving DecidableEq
def usC (x : Us) : Array Value := #[.int .u32 (x.rx : Nat), .int .u32 (x.rf : Nat), .int .u32 (x.wx : Nat), .int .u32 (x.wf : Nat)]
theorem usC_cells {w : World} {b : Nat} {x : Us} {T : TypeId} (h : w.heap[b]? = some (.cells (usC x) T)) : w.cell? ⟨b, 0, none⟩ = some (.int .u32 (x.rx : Nat)) ∧ w.cell? ⟨b, 1, none⟩ = some (.int .u32 (x.rf : Nat)) ∧ w.cell? ⟨b, 2, none⟩ = some (.int .u32 (x.wx : Nat)) ∧ w.cell? ⟨b, 3, none⟩ = some (.int .u32 (x.wf : Nat)) :=
  ⟨cell7 h 0 _ rfl, cell7 h 1 _ rfl, cell7 h 2 _ rfl, cell7 h 3 _ rfl⟩
theorem usC_fold (x : Us) : #[Value.int .u32 (x.rx : Nat), .int .u32 (x.rf : Nat), .int .u32 (x.wx : Nat), .int .u32 (x.wf : Nat)] = usC x := rfl
theorem usC_store {w : World} {b : Nat} {x : Us} {c : Array Value} {T : TypeId} (h : w.heap[b]? = some (.cells c T)) (hc : c.size = 4) : (storeCells ⟨b, 0, none⟩ (usC x).toList 0).run Tryd.prog w = .ok () (w.setRow b (usC x)) := by
  have := run_storeCells_from (P := Tryd.prog) b T (usC x).toList 0 c w h (by simp [usC, hc]) (fun v hv => by
    simp [usC] at hv
    rcases hv with rfl | rfl | rfl | rfl <;> rfl)
  have e : List.drop 4 c.toList = [] := List.drop_eq_nil_of_le (by rw [Array.length_toList, hc]; exact Nat.le_refl _)
  simpa [usC, e] using this
theorem usC_lv {w : World} {b : Nat} {x : Us} {T : TypeId} (h : w.heap[b]? = some (.cells (usC x) T)) : (loadVar 33 ⟨b, 0, none⟩).run Tryd.prog w = .ok (.agg (usC x)) w := by
  have ha : (isAgg 33).run Tryd.prog w = .ok true w := by kernel_rfl
  have hs : (sizeOf 33).run Tryd.prog w = .ok 4 w := by kernel_rfl
  have q := run_loadCells_list (P := Tryd.prog) w ⟨b, 0, none⟩ (usC x).toList (fun j v hv => by
    have hadd : (⟨b, 0, none⟩ : Addr).add j = ⟨b, j, none⟩ := by unfold Addr.add; split <;> simp_all
    rw [hadd]
    exact cell7 h j v (by simpa using hv))
  rw [Array.length_toList, show (usC x).size = 4 from rfl] at q
  simp only [Sem.run_bind, Sem.run_pure, Result.andThen, loadVar, ha, hs, if_true, q]
theorem res_usC {fn : Func} {z : Tmp} (h : fn.results = #[.cell z 33]) {tmps : Array Value} {w : World} {b : Nat} {x : Us} {T : TypeId} (hz : tmps.getD z undef = .pointer (some ⟨b, 0, none⟩)) (hr : w.heap[b]? = some (.cells (usC x) T)) : (results fn tmps).run Tryd.prog w = .ok (.agg (usC x)) w := by
  have q := usC_lv hr
  have hz2 : tmps[z]?.getD undef = .pointer (some ⟨b, 0, none⟩) := by rw [← Array.getD_eq_getD_getElem?]; exact hz
  simp [results, h, hz2, asAddr, q, Result.andThen]
theorem usC_new (w : World) (b : Nat) (x : Us) (hb : b = w.heap.size) : (storeCells ⟨b, 0, none⟩ (usC x).toList 0).run Tryd.prog (w.alloc (.cells #[.int .u32 0, .int .u32 0, .int .u32 0, .int .u32 0] 33)) = .ok () (w.alloc (.cells (usC x) 33)) := by
  subst hb
  exact run_storeCells_new (P := Tryd.prog) w 33 #[.int .u32 0, .int .u32 0, .int .u32 0, .int .u32 0] (usC x) (by kernel_rfl) rfl (by simp [usC]; exact ⟨rfl, rfl, rfl, rfl⟩)
end Go.Proofs.YtamlcgmipdcgjaaDoor
