/-
  Laws of the model at arrays of six words: a word read out of an array by value; a whole array stored into a block that a walk has made.
-/
import Derived.Test.YtbjknklgkhhebaaDoorWord1
import Derived.Test.YtbjknklgkhhebaaDoorMx
import Derived.Deep.WholeRow
import Derived.Below
namespace Go.Proofs.YtbjknklgkhhebaaDoor
open Go.RowKit WMath

theorem setRow_below (w : World) (b : Nat) (c : Array Value) (o : Obj) (h : b < w.heap.size) : (w.alloc o).setRow b c = (w.setRow b c).alloc o := by
  simp only [World.setRow, World.alloc]
  congr 1
  apply Array.ext_getElem?
  intro i
  rw [Array.getElem?_modify, Array.getElem?_push, Array.getElem?_push, Array.size_modify, Array.getElem?_modify]
  by_cases e : i = w.heap.size
  · subst e
    rw [if_pos rfl, if_pos rfl, if_neg (by omega)]
  · rw [if_neg e, if_neg e]

theorem heap_below (w : World) (b : Nat) (o : Obj) (h : b < w.heap.size) : (w.alloc o).heap[b]? = w.heap[b]? := Below.heap_alloc w o b h
theorem size_al (w : World) (o : Obj) : (w.alloc o).heap.size = w.heap.size + 1 := by
  show (w.heap.push o).size = _
  simp

theorem info6 : (Tryd.prog.info? 28).map (·.size) = some 6 := by kernel_rfl

theorem st_any (w : World) (b x y : Nat) (h : w.heap[b]? = some (.cells (cw 6 y) 28)) :
    (storeCells ⟨b, 0, none⟩ (cw 6 x).toList 0).run Tryd.prog w = .ok () (w.setRow b (cw 6 x)) := by
  have := run_storeCells_from (P := Tryd.prog) b 28 (cw 6 x).toList 0 (cw 6 y) w h (by simp [cw_size]) (fun v hv => (Array.all_eq_true_iff_forall_mem.1 (cw_oneCell 6 x)) v (by simpa using hv))
  simpa using this

theorem ix6 (n k : Nat) (w : World) (h : k < 6) : (Instr.index 28 (.agg (cw 6 n)) (.int .i64 k)).run Tryd.prog w = .ok (.int .u64 (wd n k : Nat)) w := by
  have h2 : (0 : Int) ≤ k ∧ (k : Int) < (6 : Nat) := by omega
  simp [Instr.index, run_underlying Tryd.underlying28, asIntOf, h2, go_sem]
  rw [if_pos h, cw_at 6 n k h]
  rfl

theorem st0 (w : World) (b x y : Nat) (hb : b = w.heap.size) :
    (storeCells ⟨b, 0, none⟩ (cw 6 x).toList 0).run Tryd.prog (w.alloc (.cells (cw 6 y) 28)) = .ok () (w.alloc (.cells (cw 6 x) 28)) := by
  subst hb
  rw [st_any _ _ x y (heap_alloc_last w _), World.setRow_alloc_new]
theorem st1 (w : World) (b x y : Nat) (o : Obj) (hb : b = w.heap.size) :
    (storeCells ⟨b, 0, none⟩ (cw 6 x).toList 0).run Tryd.prog ((w.alloc (.cells (cw 6 y) 28)).alloc o) = .ok () ((w.alloc (.cells (cw 6 x) 28)).alloc o) := by
  subst hb
  have h0 : w.heap.size < (w.alloc (.cells (cw 6 y) 28)).heap.size := by rw [size_al]; omega
  rw [st_any _ _ x y (by rw [heap_below _ _ _ h0]; exact heap_alloc_last w _), setRow_below _ _ _ _ h0, World.setRow_alloc_new]
theorem st2 (w : World) (b x y : Nat) (o o2 : Obj) (hb : b = w.heap.size) :
    (storeCells ⟨b, 0, none⟩ (cw 6 x).toList 0).run Tryd.prog (((w.alloc (.cells (cw 6 y) 28)).alloc o).alloc o2) = .ok () (((w.alloc (.cells (cw 6 x) 28)).alloc o).alloc o2) := by
  subst hb
  have h0 : w.heap.size < (w.alloc (.cells (cw 6 y) 28)).heap.size := by rw [size_al]; omega
  have h1 : w.heap.size < ((w.alloc (.cells (cw 6 y) 28)).alloc o).heap.size := by rw [size_al]; omega
  rw [st_any _ _ x y (by rw [heap_below _ _ _ h1, heap_below _ _ _ h0]; exact heap_alloc_last w _), setRow_below _ _ _ _ h1, setRow_below _ _ _ _ h0, World.setRow_alloc_new]
theorem sc0d (w : World) (b t d : Nat) (c : Array Value) (T : TypeId) (v : Value) (hb : b = w.heap.size) :
    ((w.alloc (.cells c T)).drewN d).setCell ⟨b, t, none⟩ v = (w.alloc (.cells (c.setIfInBounds t v) T)).drewN d := by
  rw [← World.setCell_alloc_at (w := w) c T b t v hb]
  rfl
theorem st_drew (w w2 : World) (b x d : Nat) (h : (storeCells ⟨b, 0, none⟩ (cw 6 x).toList 0).run Tryd.prog w = .ok () w2) (y : Nat) (hy : w.heap[b]? = some (.cells (cw 6 y) 28)) :
    (storeCells ⟨b, 0, none⟩ (cw 6 x).toList 0).run Tryd.prog (w.drewN d) = .ok () (w2.drewN d) := by
  rw [st_any w b x y hy] at h
  rw [st_any (w.drewN d) b x y hy]
  injection h with _ h
  rw [← h]
  rfl
theorem st0d (w : World) (b x y d : Nat) (hb : b = w.heap.size) :
    (storeCells ⟨b, 0, none⟩ (cw 6 x).toList 0).run Tryd.prog ((w.alloc (.cells (cw 6 y) 28)).drewN d) = .ok () ((w.alloc (.cells (cw 6 x) 28)).drewN d) :=
  st_drew _ _ b x d (st0 w b x y hb) y (by rw [hb]; exact heap_alloc_last w _)
theorem st1d (w : World) (b x y d : Nat) (o : Obj) (hb : b = w.heap.size) :
    (storeCells ⟨b, 0, none⟩ (cw 6 x).toList 0).run Tryd.prog (((w.alloc (.cells (cw 6 y) 28)).alloc o).drewN d) = .ok () (((w.alloc (.cells (cw 6 x) 28)).alloc o).drewN d) := by
  refine st_drew _ _ b x d (st1 w b x y o hb) y ?_
  have h0 : b < (w.alloc (.cells (cw 6 y) 28)).heap.size := by rw [size_al]; omega
  rw [heap_below _ _ _ h0, hb]
  exact heap_alloc_last w _
end Go.Proofs.YtbjknklgkhhebaaDoor
