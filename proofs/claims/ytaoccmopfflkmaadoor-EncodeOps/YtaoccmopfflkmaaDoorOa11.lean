/-
  What the functions that the statement reaches return: part 11 (DF, DG, DH, DI, DJ, DK, YA, YC, YD, YE, YF, YG, YJ, YM, YO, ZA, ZC, ZD).
-/
import Derived.Maps.OwnIn
import Derived.DeepKeys4
import Derived.Maps.OwnSet
import Derived.Stop.RegionWithIn
import Derived.Deep.RegionWith
import Derived.Laws.IdiomStrings
import Derived.Lib.AppendStr
import Derived.Laws.AppendOwn
import Derived.RangeFuncNested
import Derived.RangeFuncBound
import Derived.RangeFuncCalls
import Derived.RangeFuncLeaves
import Derived.RangeFuncFrom
import Derived.Shelf.Abstract
import Derived.Shelf.RegionOpen
import Derived.WalkKit
import Derived.OwnWalkIn
import Derived.TacticsInMore
import Derived.LoopNIn
import Derived.LoopIn
import Derived.LoopN
import Derived.Sort.QuietIn
import Derived.Deep.RegionHeld3
import Derived.ChangeMaps5
import Derived.OpenShut
import Derived.Carry
import Derived.Laws.OwnMore
import Derived.Laws.Cover3
import Derived.Test.YtaoccmopfflkmaaDoorOa10
namespace Go.Proofs.YtaoccmopfflkmaaDoor
set_option maxRecDepth 100000
set_option maxHeartbeats 40000000
set_option maxRecDepth 100000
open Go.RowKit Go.Shelf WMath
set_option linter.unusedVariables false
set_option linter.unusedSimpArgs false
attribute [local go_sem] Oper.semAt_some

def mkD (D : Nat) : Deferred := { target := .collected D, args := #[] }
def Marks (base : Nat) (Ds : List Nat) (W : World) : Prop := Ds.Pairwise (· > ·) ∧ ∀ D ∈ Ds, base ≤ D ∧ W.heap[D]? = some (.deferred (some []))
theorem Marks.nil (base : Nat) (W : World) : Marks base [] W := ⟨List.Pairwise.nil, fun D h => by cases h⟩
theorem Marks.cons {base D : Nat} {Ds : List Nat} {W : World} (h : Marks base Ds W) (hb : base ≤ D) (hl : ∀ E ∈ Ds, E < D) (hd : W.heap[D]? = some (.deferred (some []))) : Marks base (D :: Ds) W :=
  ⟨List.pairwise_cons.2 ⟨hl, h.1⟩, fun E hE => by
    rcases List.mem_cons.1 hE with rfl | hE
    · exact ⟨hb, hd⟩
    · exact h.2 E hE⟩
theorem Marks.lt {base : Nat} {Ds : List Nat} {W : World} (h : Marks base Ds W) : ∀ E ∈ Ds, E < W.heap.size := fun E hE => (Array.getElem?_eq_some_iff.1 (h.2 E hE).2).1
theorem Marks.kept {base : Nat} {Ds : List Nat} {W V : World} (h : Marks base Ds W) (k : ∀ D, D < W.heap.size → base ≤ D → W.heap[D]? = some (.deferred (some [])) → V.heap[D]? = some (.deferred (some []))) : Marks base Ds V :=
  ⟨h.1, fun D hD => ⟨(h.2 D hD).1, k D (h.lt D hD) (h.2 D hD).1 (h.2 D hD).2⟩⟩
theorem Marks.below {base : Nat} {Ds : List Nat} {W V : World} (h : Marks base Ds W) (b : Below W.heap.size W V) : Marks base Ds V := h.kept (fun D hl _ hd => (b.block D hl).trans hd)
theorem leaves_marks {F : Fence} {n : Nat} {P : Program} {fn : Func} {tmps : Array Value} {R : Ending → World → Prop} {base : Nat} (G : World → Prop)
    (hG : ∀ W D, G W → base ≤ D → W.heap[D]? = some (.deferred (some [])) → G (W.putObj D (.deferred none)))
    (hend : ∀ W, G W → ∃ v, (results fn tmps).run P W = .ok v W ∧ R (.returned v) W) :
    ∀ (Ds : List Nat) (W : World), Marks base Ds W → G W → LeavesInM F n P fn tmps R (Ds.map mkD) .returning W := by
  intro Ds
  induction Ds with
  | nil =>
    intro W _ hg
    exact hend W hg
  | cons D Ds ih =>
    intro W hm hg
    have hD := hm.2 D (List.mem_cons_self ..)
    refine ⟨by simp, .inl ⟨D, _, rfl, run_takeDeferred hD.2, ih _ ?_ (hG W D hg hD.1 hD.2)⟩⟩
    have hp := List.pairwise_cons.1 hm.1
    refine ⟨hp.2, fun E hE => ⟨(hm.2 E (List.mem_cons_of_mem _ hE)).1, ?_⟩⟩
    rw [World.putObj_heap_other (by have := hp.1 E hE; omega)]
    exact (hm.2 E (List.mem_cons_of_mem _ hE)).2
theorem below_put24 {w W : World} {D : Nat} {o : Obj} (h : Below w.heap.size w W) (hD : w.heap.size ≤ D) : Below w.heap.size w (W.putObj D o) := h.trans ((Below.refl _ W).grown (grownBy_putObj' W D o) (Nat.le_trans h.size (Nat.le_refl _)) (fun k e => by cases e; exact hD))
theorem pcell24 {w : World} {b : Nat} {x : Value} {T : TypeId} (h : w.heap[b]? = some (.cells #[x] T)) : w.cell? ⟨b, 0, none⟩ = some x := cells4 h 0 _ rfl
theorem res_re {fn : Func} {z y : Tmp} (h : fn.results = #[.cell z 45, .cell y 29]) {tmps : Array Value} {w : World} {b c : Nat} {r : Rw} {e : Int} {T : TypeId} (hz : tmps.getD z undef = .pointer (some ⟨b, 0, none⟩)) (hy : tmps.getD y undef = .pointer (some ⟨c, 0, none⟩))
    (hr : w.heap[b]? = some (.cells (rwC r) T)) (he : w.heap[c]? = some (.cells #[.int .i64 e] 29)) : (results fn tmps).run Tryd.prog w = .ok (.tuple #[.agg (rwC r), .int .i64 e]) w := by
  have q := rwC_lv hr
  have q2 : (loadVar 29 ⟨c, 0, none⟩).run Tryd.prog w = .ok (.int .i64 e) w := by
    have hc := pcell24 he
    simp [go_sem, hc]
  have hz2 : tmps[z]?.getD undef = .pointer (some ⟨b, 0, none⟩) := by rw [← Array.getD_eq_getD_getElem?]; exact hz
  have hy2 : tmps[y]?.getD undef = .pointer (some ⟨c, 0, none⟩) := by rw [← Array.getD_eq_getD_getElem?]; exact hy
  simp [results, h, hz2, hy2, asAddr, q, q2, Result.andThen]
def ofQ (f g k : Nat) (r : Rw) : Bool := decide (r.form = f) && (decide (r.frm = g) && decide (r.kind = k))
def ofP (o f g k : Nat) : Option Rw := (rwsO o).find? (ofQ f g k)
theorem find_pre {α : Type} {q : α → Bool} {pre l : List α} {x : α} (h : pre ++ [x] <+: l) (hp : ∀ y ∈ pre, q y = false) (hx : q x = true) : l.find? q = some x := by
  obtain ⟨t, rfl⟩ := h
  rw [List.append_assoc, List.find?_append]
  have e : pre.find? q = none := List.find?_eq_none.2 (fun y hy => by rw [hp y hy]; decide)
  rw [e]
  simp [hx]
theorem put_cells24 {W : World} {D b : Nat} {o : Obj} {c : Array Value} {T : TypeId} {l : Option (List Deferred)} (hd : W.heap[D]? = some (.deferred l)) (h : W.heap[b]? = some (.cells c T)) : (W.putObj D o).heap[b]? = some (.cells c T) :=
  (World.putObj_heap_other (fun e => by subst e; rw [h] at hd; cases hd)).trans h
theorem set_cells24 {W : World} {D b : Nat} {u : Value} {o : Obj} (hb : b ≠ D) (hd : W.heap[D]? = some o) : (W.setCell ⟨b, 0, none⟩ u).heap[D]? = some o := (setCell_other hb).trans hd
theorem leaves_re {w W : World} {F : Fence} {n : Nat} {fn : Func} {tmps : Array Value} {z y : Tmp} {b c : Nat} {r : Rw} {e : Int} {Ds : List Nat} (h : fn.results = #[.cell z 45, .cell y 29]) (hz : tmps.getD z undef = .pointer (some ⟨b, 0, none⟩)) (hy : tmps.getD y undef = .pointer (some ⟨c, 0, none⟩))
    (hm : Marks w.heap.size Ds W) (hr : W.heap[b]? = some (.cells (rwC r) 45)) (he : W.heap[c]? = some (.cells #[.int .i64 e] 29)) (hb : Below w.heap.size w W) :
    LeavesInM F n Tryd.prog fn tmps (fun r' w' => r' = .returned (.tuple #[.agg (rwC r), .int .i64 e]) ∧ Below w.heap.size w w') (Ds.map mkD) .returning W :=
  leaves_marks (base := w.heap.size) (fun V => V.heap[b]? = some (.cells (rwC r) 45) ∧ V.heap[c]? = some (.cells #[.int .i64 e] 29) ∧ Below w.heap.size w V)
    (fun V D hv hD hd => ⟨put_cells24 hd hv.1, put_cells24 hd hv.2.1, below_put24 hv.2.2 hD⟩)
    (fun V hv => ⟨_, res_re h hz hy hv.1 hv.2.1, rfl, hv.2.2⟩) Ds W hm ⟨hr, he, hb⟩
theorem bz_size24 (W : World) (b : Nat) (c : Array Value) : W.heap.size ≤ (W.setRow b c).heap.size := (Below.setRow (Below.refl 0 W) (Nat.zero_le _)).size
theorem rwz_fold : #[Value.int .u8 0, .int .u8 0, .int .u8 0, .int .u8 0, .int .u32 0, .int .u32 0, .int .u8 0] = rwC rwZ := rfl
set_option maxRecDepth 100000 in
set_option maxHeartbeats 8000000 in
theorem t_of_no (o f g k : Nat) (ho : o < 256) (h : o = 0 ∨ 32 ≤ o) (w : World) (hT : T24 w) : Calls Tryd.prog 22 #[.int .u8 (o : Nat), .int .u8 (f : Nat), .int .u8 (g : Nat), .int .u8 (k : Nat)] w fun r w' => r = .returned (.tuple #[.agg (rwC rwZ), .int .i64 2]) ∧ Below w.heap.size w w' := by
  have FF := box hT
  have hw : IntKind.i64.wrap (o : Int) = (o : Int) := by rw [IntKind.wrap_i64]; omega
  have hw2 : wrap64 (o : Int) = (o : Int) := by first | exact hw | (unfold wrap64; omega)
  clear hT
  refine (callsIn_wide (n := 6)).1 ?_
  refine callsIn_of_wp_marks Tryd.func22 rfl trivial ?_ rfl
  refine wpIn_wide.2 ?_
  simp only [Tryd.ntmps22, List.size_toArray, List.length_cons, List.length_nil, Nat.reduceAdd, Nat.reduceSub, Array.replicate_succ, Array.replicate_zero, List.push_toArray, List.append_toArray, List.nil_append, List.cons_append]
  have Rf_0 : (((((w.alloc (Obj.cells #[.int .u8 (f : Nat)] 23)).alloc (Obj.cells #[.int .u8 (g : Nat)] 23)).alloc (Obj.cells #[.int .u8 (k : Nat)] 24)).alloc (Obj.cells #[.int .u8 0, .int .u8 0, .int .u8 0, .int .u8 0, .int .u32 0, .int .u32 0, .int .u8 0] 45)).alloc (Obj.cells #[.int .i64 0] 29)).heap[w.heap.size]? = some (Obj.cells #[.int .u8 (f : Nat)] 23) := by rw [heap_below _ _ _ (by simp only [size_al]; omega), heap_below _ _ _ (by simp only [size_al]; omega), heap_below _ _ _ (by simp only [size_al]; omega), heap_below _ _ _ (by simp only [size_al]; omega)]; have := heap_alloc_last w (Obj.cells #[.int .u8 (f : Nat)] 23); simpa only [size_al] using this
  have Rg_0 : (((((w.alloc (Obj.cells #[.int .u8 (f : Nat)] 23)).alloc (Obj.cells #[.int .u8 (g : Nat)] 23)).alloc (Obj.cells #[.int .u8 (k : Nat)] 24)).alloc (Obj.cells #[.int .u8 0, .int .u8 0, .int .u8 0, .int .u8 0, .int .u32 0, .int .u32 0, .int .u8 0] 45)).alloc (Obj.cells #[.int .i64 0] 29)).heap[w.heap.size + 1]? = some (Obj.cells #[.int .u8 (g : Nat)] 23) := by rw [heap_below _ _ _ (by simp only [size_al]; omega), heap_below _ _ _ (by simp only [size_al]; omega), heap_below _ _ _ (by simp only [size_al]; omega)]; have := heap_alloc_last (w.alloc (Obj.cells #[.int .u8 (f : Nat)] 23)) (Obj.cells #[.int .u8 (g : Nat)] 23); simpa only [size_al] using this
  have Rk_0 : (((((w.alloc (Obj.cells #[.int .u8 (f : Nat)] 23)).alloc (Obj.cells #[.int .u8 (g : Nat)] 23)).alloc (Obj.cells #[.int .u8 (k : Nat)] 24)).alloc (Obj.cells #[.int .u8 0, .int .u8 0, .int .u8 0, .int .u8 0, .int .u32 0, .int .u32 0, .int .u8 0] 45)).alloc (Obj.cells #[.int .i64 0] 29)).heap[w.heap.size + 1 + 1]? = some (Obj.cells #[.int .u8 (k : Nat)] 24) := by rw [heap_below _ _ _ (by simp only [size_al]; omega), heap_below _ _ _ (by simp only [size_al]; omega)]; have := heap_alloc_last ((w.alloc (Obj.cells #[.int .u8 (f : Nat)] 23)).alloc (Obj.cells #[.int .u8 (g : Nat)] 23)) (Obj.cells #[.int .u8 (k : Nat)] 24); simpa only [size_al] using this
  have Rz_0 : (((((w.alloc (Obj.cells #[.int .u8 (f : Nat)] 23)).alloc (Obj.cells #[.int .u8 (g : Nat)] 23)).alloc (Obj.cells #[.int .u8 (k : Nat)] 24)).alloc (Obj.cells #[.int .u8 0, .int .u8 0, .int .u8 0, .int .u8 0, .int .u32 0, .int .u32 0, .int .u8 0] 45)).alloc (Obj.cells #[.int .i64 0] 29)).heap[w.heap.size + 1 + 1 + 1]? = some (Obj.cells #[.int .u8 0, .int .u8 0, .int .u8 0, .int .u8 0, .int .u32 0, .int .u32 0, .int .u8 0] 45) := by rw [heap_below _ _ _ (by simp only [size_al]; omega)]; have := heap_alloc_last (((w.alloc (Obj.cells #[.int .u8 (f : Nat)] 23)).alloc (Obj.cells #[.int .u8 (g : Nat)] 23)).alloc (Obj.cells #[.int .u8 (k : Nat)] 24)) (Obj.cells #[.int .u8 0, .int .u8 0, .int .u8 0, .int .u8 0, .int .u32 0, .int .u32 0, .int .u8 0] 45); simpa only [size_al] using this
  have Re_0 : (((((w.alloc (Obj.cells #[.int .u8 (f : Nat)] 23)).alloc (Obj.cells #[.int .u8 (g : Nat)] 23)).alloc (Obj.cells #[.int .u8 (k : Nat)] 24)).alloc (Obj.cells #[.int .u8 0, .int .u8 0, .int .u8 0, .int .u8 0, .int .u32 0, .int .u32 0, .int .u8 0] 45)).alloc (Obj.cells #[.int .i64 0] 29)).heap[w.heap.size + 1 + 1 + 1 + 1]? = some (Obj.cells #[.int .i64 0] 29) := by have := heap_alloc_last ((((w.alloc (Obj.cells #[.int .u8 (f : Nat)] 23)).alloc (Obj.cells #[.int .u8 (g : Nat)] 23)).alloc (Obj.cells #[.int .u8 (k : Nat)] 24)).alloc (Obj.cells #[.int .u8 0, .int .u8 0, .int .u8 0, .int .u8 0, .int .u32 0, .int .u32 0, .int .u8 0] 45)) (Obj.cells #[.int .i64 0] 29); simpa only [size_al] using this
  have B0 : Below w.heap.size w (((((w.alloc (Obj.cells #[.int .u8 (f : Nat)] 23)).alloc (Obj.cells #[.int .u8 (g : Nat)] 23)).alloc (Obj.cells #[.int .u8 (k : Nat)] 24)).alloc (Obj.cells #[.int .u8 0, .int .u8 0, .int .u8 0, .int .u8 0, .int .u32 0, .int .u32 0, .int .u8 0] 45)).alloc (Obj.cells #[.int .i64 0] 29)) := ((((((Below.refl _ _).alloc (by first | omega | (simp only [size_al]; omega)) _).alloc (by first | omega | (simp only [size_al]; omega)) _).alloc (by first | omega | (simp only [size_al]; omega)) _).alloc (by first | omega | (simp only [size_al]; omega)) _).alloc (by first | omega | (simp only [size_al]; omega)) _)
  have T0 := t24B FF.out B0
  obtain ⟨_, _, _, b, a, cap, hs, _⟩ := T0
  have cond : ((o : Int) == 0) = true ∨ (((o : Int) == 0) = false ∧ decide ((32 : Int) ≤ (o : Int)) = true) := by
    rcases h with h | h
    · left; simp [h]
    · right; exact ⟨by simp; omega, decide_eq_true (by omega)⟩
  clear B0 Rf_0 Rg_0 Rk_0 Rz_0 Re_0
  rcases cond with c1 | ⟨c1, c2⟩
  · go_wp2
    refine ⟨.tuple #[.agg (rwC rwZ), .int .i64 2], res_re (T := 45) Tryd.results22 rfl rfl ?_ ?_, rfl, ?_⟩
    · exact row_al (row_last (by simp only [size_al])) _
    · exact row_last (by simp only [size_al])
    · exact ((((bal w _).trans ((bal _ _).mono (by simp only [size_al]; omega))).trans ((bal _ _).mono (by simp only [size_al]; omega))).trans ((bal _ _).mono (by simp only [size_al]; omega))).trans ((bal _ _).mono (by simp only [size_al]; omega))
  · go_wp2
    refine ⟨.tuple #[.agg (rwC rwZ), .int .i64 2], res_re (T := 45) Tryd.results22 rfl rfl ?_ ?_, rfl, ?_⟩
    · exact row_al (row_last (by simp only [size_al])) _
    · exact row_last (by simp only [size_al])
    · exact ((((bal w _).trans ((bal _ _).mono (by simp only [size_al]; omega))).trans ((bal _ _).mono (by simp only [size_al]; omega))).trans ((bal _ _).mono (by simp only [size_al]; omega))).trans ((bal _ _).mono (by simp only [size_al]; omega))
set_option maxRecDepth 100000 in
set_option maxHeartbeats 8000000 in
theorem t_of_go (o f g k : Nat) (ho : o < 256) (h1 : 1 ≤ o) (h2 : o < 32) (rr : Rw) (er : Int) (hv : (rr, er) = match ofP o f g k with | some r => (r, 0) | none => (rwZ, 240)) (hE : ∀ args w, (callFunc 48 args).run Tryd.prog w = .ok (.enter 48 args) w) (w : World) (hT : T24 w) :
    Calls Tryd.prog 22 #[.int .u8 (o : Nat), .int .u8 (f : Nat), .int .u8 (g : Nat), .int .u8 (k : Nat)] w fun r w' => r = .returned (.tuple #[.agg (rwC rr), .int .i64 er]) ∧ Below w.heap.size w w' := by
  have FF := box hT
  have KE := k_each o ho
  have HV := box hv
  clear hv
  have c1 : ((o : Int) == 0) = false := by simp; omega
  have c2 : decide ((32 : Int) ≤ (o : Int)) = false := decide_eq_false (by omega)
  clear hT
  refine (callsIn_wide (n := 6)).1 ?_
  refine callsIn_of_wp_marks Tryd.func22 rfl trivial ?_ rfl
  refine wpIn_wide.2 ?_
  simp only [Tryd.ntmps22, List.size_toArray, List.length_cons, List.length_nil, Nat.reduceAdd, Nat.reduceSub, Array.replicate_succ, Array.replicate_zero, List.push_toArray, List.append_toArray, List.nil_append, List.cons_append]
  have Rf_0 : (((((w.alloc (Obj.cells #[.int .u8 (f : Nat)] 23)).alloc (Obj.cells #[.int .u8 (g : Nat)] 23)).alloc (Obj.cells #[.int .u8 (k : Nat)] 24)).alloc (Obj.cells #[.int .u8 0, .int .u8 0, .int .u8 0, .int .u8 0, .int .u32 0, .int .u32 0, .int .u8 0] 45)).alloc (Obj.cells #[.int .i64 0] 29)).heap[w.heap.size]? = some (Obj.cells #[.int .u8 (f : Nat)] 23) := by rw [heap_below _ _ _ (by simp only [size_al]; omega), heap_below _ _ _ (by simp only [size_al]; omega), heap_below _ _ _ (by simp only [size_al]; omega), heap_below _ _ _ (by simp only [size_al]; omega)]; have := heap_alloc_last w (Obj.cells #[.int .u8 (f : Nat)] 23); simpa only [size_al] using this
  have Rg_0 : (((((w.alloc (Obj.cells #[.int .u8 (f : Nat)] 23)).alloc (Obj.cells #[.int .u8 (g : Nat)] 23)).alloc (Obj.cells #[.int .u8 (k : Nat)] 24)).alloc (Obj.cells #[.int .u8 0, .int .u8 0, .int .u8 0, .int .u8 0, .int .u32 0, .int .u32 0, .int .u8 0] 45)).alloc (Obj.cells #[.int .i64 0] 29)).heap[w.heap.size + 1]? = some (Obj.cells #[.int .u8 (g : Nat)] 23) := by rw [heap_below _ _ _ (by simp only [size_al]; omega), heap_below _ _ _ (by simp only [size_al]; omega), heap_below _ _ _ (by simp only [size_al]; omega)]; have := heap_alloc_last (w.alloc (Obj.cells #[.int .u8 (f : Nat)] 23)) (Obj.cells #[.int .u8 (g : Nat)] 23); simpa only [size_al] using this
  have Rk_0 : (((((w.alloc (Obj.cells #[.int .u8 (f : Nat)] 23)).alloc (Obj.cells #[.int .u8 (g : Nat)] 23)).alloc (Obj.cells #[.int .u8 (k : Nat)] 24)).alloc (Obj.cells #[.int .u8 0, .int .u8 0, .int .u8 0, .int .u8 0, .int .u32 0, .int .u32 0, .int .u8 0] 45)).alloc (Obj.cells #[.int .i64 0] 29)).heap[w.heap.size + 1 + 1]? = some (Obj.cells #[.int .u8 (k : Nat)] 24) := by rw [heap_below _ _ _ (by simp only [size_al]; omega), heap_below _ _ _ (by simp only [size_al]; omega)]; have := heap_alloc_last ((w.alloc (Obj.cells #[.int .u8 (f : Nat)] 23)).alloc (Obj.cells #[.int .u8 (g : Nat)] 23)) (Obj.cells #[.int .u8 (k : Nat)] 24); simpa only [size_al] using this
  have Rz_0 : (((((w.alloc (Obj.cells #[.int .u8 (f : Nat)] 23)).alloc (Obj.cells #[.int .u8 (g : Nat)] 23)).alloc (Obj.cells #[.int .u8 (k : Nat)] 24)).alloc (Obj.cells #[.int .u8 0, .int .u8 0, .int .u8 0, .int .u8 0, .int .u32 0, .int .u32 0, .int .u8 0] 45)).alloc (Obj.cells #[.int .i64 0] 29)).heap[w.heap.size + 1 + 1 + 1]? = some (Obj.cells #[.int .u8 0, .int .u8 0, .int .u8 0, .int .u8 0, .int .u32 0, .int .u32 0, .int .u8 0] 45) := by rw [heap_below _ _ _ (by simp only [size_al]; omega)]; have := heap_alloc_last (((w.alloc (Obj.cells #[.int .u8 (f : Nat)] 23)).alloc (Obj.cells #[.int .u8 (g : Nat)] 23)).alloc (Obj.cells #[.int .u8 (k : Nat)] 24)) (Obj.cells #[.int .u8 0, .int .u8 0, .int .u8 0, .int .u8 0, .int .u32 0, .int .u32 0, .int .u8 0] 45); simpa only [size_al] using this
  have Re_0 : (((((w.alloc (Obj.cells #[.int .u8 (f : Nat)] 23)).alloc (Obj.cells #[.int .u8 (g : Nat)] 23)).alloc (Obj.cells #[.int .u8 (k : Nat)] 24)).alloc (Obj.cells #[.int .u8 0, .int .u8 0, .int .u8 0, .int .u8 0, .int .u32 0, .int .u32 0, .int .u8 0] 45)).alloc (Obj.cells #[.int .i64 0] 29)).heap[w.heap.size + 1 + 1 + 1 + 1]? = some (Obj.cells #[.int .i64 0] 29) := by have := heap_alloc_last ((((w.alloc (Obj.cells #[.int .u8 (f : Nat)] 23)).alloc (Obj.cells #[.int .u8 (g : Nat)] 23)).alloc (Obj.cells #[.int .u8 (k : Nat)] 24)).alloc (Obj.cells #[.int .u8 0, .int .u8 0, .int .u8 0, .int .u8 0, .int .u32 0, .int .u32 0, .int .u8 0] 45)) (Obj.cells #[.int .i64 0] 29); simpa only [size_al] using this
  have B0 : Below w.heap.size w (((((w.alloc (Obj.cells #[.int .u8 (f : Nat)] 23)).alloc (Obj.cells #[.int .u8 (g : Nat)] 23)).alloc (Obj.cells #[.int .u8 (k : Nat)] 24)).alloc (Obj.cells #[.int .u8 0, .int .u8 0, .int .u8 0, .int .u8 0, .int .u32 0, .int .u32 0, .int .u8 0] 45)).alloc (Obj.cells #[.int .i64 0] 29)) := ((((((Below.refl _ _).alloc (by first | omega | (simp only [size_al]; omega)) _).alloc (by first | omega | (simp only [size_al]; omega)) _).alloc (by first | omega | (simp only [size_al]; omega)) _).alloc (by first | omega | (simp only [size_al]; omega)) _).alloc (by first | omega | (simp only [size_al]; omega)) _)
  have T0 := t24B FF.out B0
  obtain ⟨_, _, _, b, a, cap, hs, _⟩ := T0
  go_wp2_with fail
  refine (KE.out _ (t24B FF.out B0)).mono ?_
  rintro r W0 ⟨lb, B, rfl, hb0, hB1, hB2, seq⟩
  have RF0 := heap_of hb0 _ _ _ Rf_0
  have RG0 := heap_of hb0 _ _ _ Rg_0
  have RK0 := heap_of hb0 _ _ _ Rk_0
  have RZ0 := heap_of hb0 _ _ _ Rz_0
  have RE0 := heap_of hb0 _ _ _ Re_0
  have BW0 := btr B0 hb0
  have TW0 := box (t24B FF.out BW0)
  have SEQ := box seq
  clear seq hs hb0 B0 Rf_0 Rg_0 Rk_0 Rz_0 Re_0
  have LE0 : w.heap.size + 1 + 1 + 1 + 1 < W0.heap.size := (Array.getElem?_eq_some_iff.1 RE0).1
  go_wp2_with fail
  refine (wpIn_wide (n := 6)).1 ?_
  refine wp_range_topM (by decide) (gf := 48) (lb := lb) rfl hE (SEQ.out 5 (by decide)) (fun _ => rfl)
    (fun M pre V => Below W0.heap.size W0 V ∧ ∀ r ∈ pre, ofQ f g k r = false)
    (fun M c pre V => c = .ret ∧ ∃ p x, pre = p ++ [x] ∧ ofQ f g k x = true ∧ (∀ r ∈ p, ofQ f g k r = false) ∧ V.heap[w.heap.size + 1 + 1 + 1]? = some (.cells (rwC x) 45) ∧ V.heap[w.heap.size + 1 + 1 + 1 + 1]? = some (.cells #[.int .i64 0] 29) ∧ Below w.heap.size w V)
    (fun M s A B row hs hg hr => ⟨hs.1.grown hg hs.1.size (fun r e => (hr r e).1), hs.2⟩)
    (fun M c s A B row hs hg hr => ⟨hs.1, by
      obtain ⟨p, x, e1, e2, e3, e4, e5, e6⟩ := hs.2
      exact ⟨p, x, e1, e2, e3, row_grq e4 hg (fun r e => (hr r e).1) (by omega), row_grq e5 hg (fun r e => (hr r e).1) (by omega), e6.grown hg e6.size (fun r e => by have := (hr r e).1; omega)⟩⟩)
    (fun M pre V hv => ⟨t24B TW0.out hv.1, heap_of hv.1 _ _ _ hB2⟩) (fun M hM => ⟨Below.refl _ _, fun r h => by cases h⟩) ?a1 (fun x => Obj.cells (rwC x) 45) ?assign ?body ?done ?stop
  case assign =>
    intro l x W K hK
    have hrn := rwC_new
    obtain ⟨m, hm⟩ : ∃ m, W.heap.size = m := ⟨_, rfl⟩
    have hK := hK (W.alloc (Obj.cells (rwC x) 45)) (World.grownBy_alloc W _ none) (by simp only [size_al]) (last7 W _)
    rw [hm] at hK
    gi_wp2
    exact hK
  case body =>
    rintro M l pre xx mm V hM0 hM1 ⟨hB, hno⟩ hl4 hsp hm0 hm1 hmx
    have cf := pcell24 (heap_of hB _ _ _ RF0)
    have cg := pcell24 (heap_of hB _ _ _ RG0)
    have ck := pcell24 (heap_of hB _ _ _ RK0)
    obtain ⟨x0, x1, x2, x3, x4, x5, x6⟩ := rwC_cells hmx
    have t1 := beqN24 xx.form f
    have t2 := beqN24 xx.frm g
    have t3 := beqN24 xx.kind k
    have hq : ofQ f g k xx = (decide (xx.form = f) && (decide (xx.frm = g) && decide (xx.kind = k))) := rfl
    have HNO := box hno
    have HB := box hB
    clear hno
    have nope : ofQ f g k xx = false → (TopM W0.heap.size M V V ∧ Below W0.heap.size W0 V ∧ ∀ r ∈ pre ++ [xx], ofQ f g k r = false) := fun h => ⟨TopM.refl _ _ _, HB.out, fun r hr => by
      rcases List.mem_append.1 hr with hr | hr
      · exact HNO.out r hr
      · rw [List.mem_singleton.1 hr]; exact h⟩
    have NOPE := box nope
    clear nope hB
    generalize decide (xx.form = f) = b1 at *
    generalize decide (xx.frm = g) = b2 at *
    generalize decide (xx.kind = k) = b3 at *
    have HQ := box hq
    clear hq
    cases b1
    · gi_wp2
      exact NOPE.out HQ.out
    · cases b2
      · gi_wp2
        exact NOPE.out HQ.out
      · cases b3
        · gi_wp2
          exact NOPE.out HQ.out
        · have hfo := rwC_fold xx
          have hst := rwC_storeG (r := xx) (heap_of HB.out _ _ _ RZ0) rfl
          have rz := setRow_row (c' := rwC xx) (heap_of HB.out _ _ _ RZ0)
          have rE := (setRow_other (w := V) (b := w.heap.size + 1 + 1 + 1) (b' := w.heap.size + 1 + 1 + 1 + 1) (c' := rwC xx) (by omega)).trans (heap_of HB.out _ _ _ RE0)
          have bz : Below w.heap.size w (V.setRow (w.heap.size + 1 + 1 + 1) (rwC xx)) := Below.setRow (BW0.trans (HB.out.mono BW0.size)) (by omega)
          have tz : TopM W0.heap.size M V (V.setRow (w.heap.size + 1 + 1 + 1) (rwC xx)) := ⟨bz_size24 _ _ _, fun q a c => setRow_other (by omega)⟩
          obtain ⟨VZ, hVZ⟩ : ∃ X, V.setRow (w.heap.size + 1 + 1 + 1) (rwC xx) = X := ⟨_, rfl⟩
          rw [hVZ] at hst rz rE bz tz
          have fe := fz (k := 0) rE
          have ce := pcell24 rE
          clear hVZ
          gi_wp2
          refine ⟨tz.trans ⟨((Below.refl 0 VZ).setCell (p := ⟨w.heap.size + 1 + 1 + 1 + 1, 0, none⟩) (Nat.zero_le _) _).size, fun q a c => setCell_other (by omega)⟩, rfl, pre, xx, rfl, HQ.out, HNO.out, ?_, ?_, ?_⟩
          · rw [setCell_other (by omega)]; exact rz
          · rw [setCell_row rE]; rfl
          · exact bz.setCell (p := ⟨w.heap.size + 1 + 1 + 1 + 1, 0, none⟩) (show w.heap.size ≤ w.heap.size + 1 + 1 + 1 + 1 by omega) _
  case done =>
    rintro M D ys V hM hD rfl ⟨hB, hno⟩ hK
    have hp : ofP o f g k = none := List.find?_eq_none.2 (fun r hr => by rw [hno r hr]; decide)
    have hv := HV.out
    rw [hp] at hv
    obtain ⟨rfl, rfl⟩ := hv
    have hzf := rwz_fold
    have hst := rwC_storeG (r := rwZ) (heap_of hB _ _ _ RZ0) rfl
    have rz := setRow_row (c' := rwC rwZ) (heap_of hB _ _ _ RZ0)
    have rE := (setRow_other (w := V) (b := w.heap.size + 1 + 1 + 1) (b' := w.heap.size + 1 + 1 + 1 + 1) (c' := rwC rwZ) (by omega)).trans (heap_of hB _ _ _ RE0)
    have rD := (setRow_other (w := V) (b := w.heap.size + 1 + 1 + 1) (b' := D) (c' := rwC rwZ) (by omega)).trans hK
    have bz : Below w.heap.size w (V.setRow (w.heap.size + 1 + 1 + 1) (rwC rwZ)) := Below.setRow (BW0.trans (hB.mono BW0.size)) (by omega)
    obtain ⟨VZ, hVZ⟩ : ∃ X, V.setRow (w.heap.size + 1 + 1 + 1) (rwC rwZ) = X := ⟨_, rfl⟩
    rw [hVZ] at hst rz rE bz rD
    have fe := fz (k := 0) rE
    have ce := pcell24 rE
    clear hVZ
    go_wp2
    refine leaves_re (Ds := [D]) (Tryd.results22) rfl rfl (Marks.cons (Marks.nil _ _) (by omega) (fun E h => by cases h) (set_cells24 (by omega) rD)) ?_ ?_ ?_
    · rw [setCell_other (by omega)]; exact rz
    · rw [setCell_row rE]; rfl
    · exact bz.setCell (p := ⟨w.heap.size + 1 + 1 + 1 + 1, 0, none⟩) (show w.heap.size ≤ w.heap.size + 1 + 1 + 1 + 1 by omega) _
  case stop =>
    rintro M D c pre V hM hD hpre ⟨rfl, p, x, rfl, e2, e3, e4, e5, e6⟩ hK
    have hp : ofP o f g k = some x := find_pre hpre e3 e2
    have hv := HV.out
    rw [hp] at hv
    obtain ⟨rfl, rfl⟩ := hv
    gi_wp2
    exact leaves_re (Ds := [D]) (Tryd.results22) rfl rfl (Marks.cons (Marks.nil _ _) (by omega) (fun E h => by cases h) hK) e4 e5 e6
attribute [local go_sem] Oper.semAt_some

theorem own_grown24 {W W' : World} {base : Nat} {e : TypeId} {size n : Nat} {v : Value} {xs : List Value} {row : Option Nat} (h : W.ownsRow base e size v n xs) (hg : W.grownBy W' row) (hr : ∀ r, row = some r → ∃ o : Obj, W.heap[r]? = some o ∧ o.isCells = false) : W'.ownsRow base e size v n xs := by
  refine h.kept hg ?_
  by_cases z : v.ownBlock = none
  · exact .inl z
  · right
    intro q
    rcases h.2 with ⟨a, _⟩ | ⟨g, cap, cur, a1, a2, a3, _⟩
    · exact z (by rw [a]; rfl)
    · have hv : v.ownBlock = some g := by rw [a1]; rfl
      obtain ⟨o, h1, h2⟩ := hr g (by rw [← q, hv])
      rw [a3] at h1
      cases h1
      exact absurd h2 (by simp [Obj.isCells])
theorem own_below24 {W W' : World} {base : Nat} {e : TypeId} {size n : Nat} {v : Value} {xs : List Value} (h : W.ownsRow base e size v n xs) (hb : Below W.heap.size W W') : W'.ownsRow base e size v n xs :=
  own_grown24 h (below_grown24 hb) (fun r e => by cases e)
theorem own_slice24 {w : World} {base : Nat} {e : TypeId} {size n : Nat} {v : Value} {xs : List Value} (h : w.ownsRow base e size v n xs) (hn : 0 < n) : ∃ g cap, v = .slice (some ⟨g, 0, none⟩) n cap := by
  rcases h.2 with ⟨_, q⟩ | ⟨g, cap, cur, h1, _⟩
  · omega
  · exact ⟨g, cap, h1⟩
theorem OwnsRws.put {w V : World} {v : Value} {D : Nat} {l : Option (List Deferred)} {o : Obj} (h : OwnsRws w V v) (hD : w.heap.size ≤ D) (hd : V.heap[D]? = some (.deferred l)) : OwnsRws w (V.putObj D o) v := by
  obtain ⟨g, cap, h1, h2, ⟨cur, h3, h4⟩, h5⟩ := h
  exact ⟨g, cap, h1, h2, ⟨cur, put_cells24 hd h3, h4⟩, below_put24 h5 hD⟩
end Go.Proofs.YtaoccmopfflkmaaDoor
namespace Go.Proofs.YtaoccmopfflkmaaDoor
set_option maxRecDepth 100000
set_option maxHeartbeats 40000000
set_option maxRecDepth 100000
open Go.RowKit Go.Shelf WMath
open Go.Maps (Keyed)
set_option linter.unusedVariables false
set_option linter.unusedSimpArgs false
attribute [local go_sem] Oper.semAt_some

theorem laid24 : laidOutB Tryd.prog = true := by kernel_rfl
theorem rowF24 : (98 : TypeId) < Tryd.prog.types.size := of_decide_eq_true (by kernel_rfl)
theorem wideF24 : (match Tryd.prog.underlying 98 with | some (.array _ _) | some (.struct _) => true | _ => false) = true := by rw [Tryd.underlying98]
theorem keyF24 : Keyed Tryd.prog 98 := Keyed.of_law (deep_law_laid laid24 (m := 2) (by omega) rowF24 (by kernel_rfl) wideF24)
def FdsOk (F : FdS) : Prop := F.opc < 256 ∧ F.rm < 256 ∧ F.rs2 < 256 ∧ F.form < 256 ∧ F.rs3 < 256
theorem fdC_inj {F G : FdS} (h : Value.agg (fdC F) = .agg (fdC G)) : F = G := by
  obtain ⟨a, b, c, d, e⟩ := F
  obtain ⟨a', b', c', d', e'⟩ := G
  simp only [fdC, Value.agg.injEq, Array.mk.injEq, List.cons.injEq, Value.int.injEq, true_and, and_true] at h
  obtain ⟨h1, h2, h3, h4, h5⟩ := h
  simp only [FdS.mk.injEq]
  omega
theorem key_fd (F : FdS) (h : FdsOk F) : ∃ kl, keyOf Tryd.prog 98 (.agg (fdC F)) = some kl := by
  obtain ⟨h0, h1, h2, h3, h4⟩ := h
  have hk : Tryd.prog.keyType 98 = true := by kernel_rfl
  have hc : Tryd.prog.cellsOf 98 = 5 := by kernel_rfl
  have hc5 : Tryd.prog.cellsOf 5 = 1 := by kernel_rfl
  have hf : (Value.agg (fdC F)).formed Tryd.prog 98 = true := by simp [Value.formed, Tryd.underlying98, hc, fdC]
  have hn : ∃ m, Tryd.prog.types.size + 1 = m + 2 := ⟨Tryd.prog.types.size - 1, by have h : (98 : Nat) < Tryd.prog.types.size := rowF24; omega⟩
  obtain ⟨m, hm⟩ := hn
  have w : ∀ a : Nat, a < 256 → (Lit.int .u8 (a : Int)).wf = true := fun a ha => by
    have e1 : IntKind.u8.min = 0 := by decide
    have e2 : IntKind.u8.max = 255 := by decide
    show (decide (IntKind.u8.min ≤ (a : Int)) && decide ((a : Int) ≤ IntKind.u8.max)) = true
    rw [e1, e2, decide_eq_true (by omega), decide_eq_true (by omega)]
    rfl
  have q : ∃ ls, Tryd.prog.keyLits (m + 2) 98 (fdC F).toList = some ls := by
    simp [Program.keyLits, Tryd.underlying98, Tryd.underlying5, hc, hc5, fdC, w _ h0, w _ h1, w _ h2, w _ h3, w _ h4]
  obtain ⟨ls, q⟩ := q
  refine ⟨.string (keyBytes ls), ?_⟩
  unfold keyOf
  rw [Tryd.underlying98, hk, hf, hm]
  simp only [Bool.and_self, if_true]
  show (Tryd.prog.keyLits (m + 2) 98 (fdC F).toList).map _ = _
  rw [q]
  rfl
def datR (r : Rw) : DataW Unit := .agg [.lit (.int .u8 (r.op : Nat)), .lit (.int .u8 (r.form : Nat)), .lit (.int .u8 (r.frm : Nat)), .lit (.int .u8 (r.kind : Nat)), .lit (.int .u32 (r.mask : Nat)), .lit (.int .u32 (r.mtch : Nat)), .lit (.int .u8 (r.lay : Nat))]
def R24 (v : Value) : Option (DataW Unit × List MemPlace) := match v with
  | .agg ⟨[.int .u8 a, .int .u8 b, .int .u8 c, .int .u8 d, .int .u32 e, .int .u32 f, .int .u8 g]⟩ => some (.agg [.lit (.int .u8 a), .lit (.int .u8 b), .lit (.int .u8 c), .lit (.int .u8 d), .lit (.int .u32 e), .lit (.int .u32 f), .lit (.int .u8 g)], [])
  | _ => none
theorem R24_of (r : Rw) : R24 (.agg (rwC r)) = some (datR r, []) := rfl
def keyR (r : Rw) : FdS := fdB (cutF r.mtch)
def lastR (L : List Rw) (F : FdS) : Option Rw := L.reverse.find? fun r => decide (keyR r = F)
theorem lastR_next (L : List Rw) (r : Rw) (F : FdS) : lastR (L ++ [r]) F = if keyR r = F then some r else lastR L F := by
  unfold lastR
  rw [List.reverse_append]
  by_cases h : keyR r = F
  · simp [h]
  · simp [h]
theorem keyR_ok (r : Rw) : FdsOk (keyR r) := by
  refine ⟨?_, ?_, ?_, ?_, ?_⟩ <;> simp only [keyR, fdB, cutF] <;> omega
def MapR (V : World) (b : Nat) (L : List Rw) : Prop := ∃ n D, V.ownsMap Tryd.prog 98 R24 b n D ∧ n ≤ L.length ∧ Maps.IsMap D ∧ ∀ F kl, keyOf Tryd.prog 98 (.agg (fdC F)) = some kl → Maps.has D kl = (lastR L F).isSome ∧ D.atKey kl (datR rwZ) = datR ((lastR L F).getD rwZ)
theorem MapR.kept {V V' : World} {b : Nat} {L : List Rw} {row : Option Nat} (h : MapR V b L) (hg : V.grownBy V' row) (hne : some b ≠ row) : MapR V' b L := by
  obtain ⟨n, D, h1, h2, h3, h4⟩ := h
  exact ⟨n, D, h1.kept hg hne, h2, h3, h4⟩
theorem MapR.below {V V' : World} {b : Nat} {L : List Rw} (h : MapR V b L) (hb : Below V.heap.size V V') : MapR V' b L := h.kept (below_grown24 hb) (by simp)
theorem MapR.lt {V : World} {b : Nat} {L : List Rw} (h : MapR V b L) : b < V.heap.size := by
  obtain ⟨n, D, h1, _⟩ := h
  exact h1.lt
theorem MapR.drew {V : World} {b : Nat} {L : List Rw} (h : MapR V b L) : MapR V.drew b L := h
theorem MapR.put {V : World} {b : Nat} {L : List Rw} (h : MapR V b L) (hl : L.length < 1000) (r : Rw) : ∃ V', (Instr.mapUpdate 103 (.map (some b)) (.agg (fdC (keyR r))) (.agg (rwC r))).run Tryd.prog V = .ok () V' ∧ MapR V' b (L ++ [r]) ∧ V.grownBy V' (some b) := by
  obtain ⟨n, D, h1, h2, h3, h4⟩ := h
  obtain ⟨kl, hk⟩ := key_fd (keyR r) (keyR_ok r)
  obtain ⟨V', hrun, o1, g1⟩ := h1.update keyF24 Tryd.underlying103 (by unfold maxLen; omega) hk (R24_of r)
  refine ⟨V', hrun, ⟨n + 1, D.put kl (datR r), o1, by simp; omega, h3.put _ _, fun F kl' hk' => ?_⟩, g1⟩
  rw [lastR_next]
  by_cases e : keyR r = F
  · subst e
    obtain rfl : kl = kl' := Option.some.inj (hk.symm.trans hk')
    rw [if_pos rfl]
    exact ⟨Maps.has_put_same h3 (keyF24.key hk) _, Maps.atKey_put_same h3 (keyF24.key hk) _ _⟩
  · have hne : kl' ≠ kl := fun z => e (fdC_inj (keyF24.inj hk (z ▸ hk')))
    rw [if_neg e, Maps.has_put_other hne, Maps.atKey_put_other hne]
    exact h4 F kl' hk'
structure BfK (w W0 : World) (o gm bm B : Nat) (pre : List Rw) (V : World) : Prop where
  b : Below w.heap.size w V
  z : W0.heap.size ≤ V.heap.size
  g : V.heap[gm]? = some (.cells #[.map (some bm)] 103)
  m : MapR V bm pre
  e : V.heap[B]? = some (.cells #[.int .u8 (o : Nat)] 22)
theorem BfK.grown {w W0 : World} {o gm bm B : Nat} {pre : List Rw} {X Y : World} {row : Option Nat} (h : BfK w W0 o gm bm B pre X) (hg0 : gm < W0.heap.size) (hB0 : B < W0.heap.size) (hb0 : bm < W0.heap.size) (hw : w.heap.size ≤ W0.heap.size) (hg : X.grownBy Y row) (hr : ∀ r, row = some r → W0.heap.size ≤ r ∧ ∃ o : Obj, X.heap[r]? = some o ∧ o.isCells = false) : BfK w W0 o gm bm B pre Y :=
  ⟨h.b.grown hg h.b.size (fun r e => by have := (hr r e).1; omega), Nat.le_trans h.z hg.size, row_grq h.g hg (fun r e => (hr r e).1) hg0, h.m.kept hg (fun e => by have := (hr bm e.symm).1; omega), row_grq h.e hg (fun r e => (hr r e).1) hB0⟩
end Go.Proofs.YtaoccmopfflkmaaDoor
namespace Go.Proofs.YtaoccmopfflkmaaDoor
set_option maxRecDepth 100000
set_option maxHeartbeats 40000000
set_option maxRecDepth 100000
open Go.RowKit Go.Shelf WMath
set_option linter.unusedVariables false
set_option linter.unusedSimpArgs false
structure FdK (w : World) (r : Rw) (V : World) : Prop where
  b : Below w.heap.size w V
  z : V.heap[w.heap.size]? = some (.cells (rwC r) 45)
theorem FdK.below {w : World} {r : Rw} {V V' : World} (h : FdK w r V) (b : Below V.heap.size V V') : FdK w r V' := ⟨h.b.trans (b.mono h.b.size), heap_of b _ _ _ h.z⟩
def bcs (L : List UInt8) : List Value := L.map fun b => Value.int .u8 (b.toNat : Int)
theorem cell_same24 {V V' : World} {g i : Nat} (h : V'.heap[g]? = V.heap[g]?) : V'.cell? ⟨g, i, none⟩ = V.cell? ⟨g, i, none⟩ := by
  simp only [World.cell?, h]
structure NmK (w : World) (q : Rw) (g : Nat) (nm : List UInt8) (v : Value) (L : List UInt8) (V : World) : Prop where
  b : Below w.heap.size w V
  r : V.heap[w.heap.size]? = some (.cells (rwC q) 45)
  c : ∀ i (h : i < nm.length), V.cell? ⟨g, i, none⟩ = some (.int .u8 (nm[i].toNat : Int))
  l : g < V.heap.size
  o : V.ownsRow (g + 1) 5 1 v L.length (bcs L)
theorem NmK.below {w : World} {q : Rw} {g : Nat} {nm : List UInt8} {v : Value} {L : List UInt8} {V V' : World} (h : NmK w q g nm v L V) (b : Below V.heap.size V V') : NmK w q g nm v L V' :=
  ⟨h.b.trans (b.mono h.b.size), heap_of b _ _ _ h.r, fun i hi => cellB b (h.c i hi), Nat.lt_of_lt_of_le h.l b.size, own_below24 h.o b⟩
theorem NmK.grown {w : World} {q : Rw} {g : Nat} {nm : List UInt8} {v v' : Value} {L L' : List UInt8} {V V' : World} (h : NmK w q g nm v L V) (hg : w.heap.size < g) (gr : V.grownBy V' v.ownBlock) (o : V'.ownsRow (g + 1) 5 1 v' L'.length (bcs L')) : NmK w q g nm v' L' V' := by
  have hne : ∀ k, k < g + 1 → some k ≠ v.ownBlock := fun k hk e => by have := (h.o.lt k e.symm).1; omega
  refine ⟨h.b.grown gr h.b.size (fun k e => by have := (h.o.lt k e).1; omega), (gr.block _ (Array.getElem?_eq_some_iff.1 h.r).1 (hne _ (by omega))).trans h.r, fun i hi => ?_, Nat.lt_of_lt_of_le h.l gr.size, o⟩
  rw [← h.c i hi]
  exact cell_same24 (gr.block g h.l (hne g (by omega)))
theorem rws_flt : ((List.range 32).all fun o => decide (rwsO o = (allL.map (·.1)).filter (fun r => decide (r.op = o)))) = true := by decide +kernel
structure HhK (w : World) (g : Nat) (nm : List UInt8) (V : World) : Prop where
  b : Below w.heap.size w V
  c : ∀ i (h : i < nm.length), V.cell? ⟨g, i, none⟩ = some (.int .u8 (nm[i].toNat : Int))
theorem HhK.below {w : World} {g : Nat} {nm : List UInt8} {V V' : World} (h : HhK w g nm V) (b : Below V.heap.size V V') : HhK w g nm V' := ⟨h.b.trans (b.mono h.b.size), fun i hi => cellB b (h.c i hi)⟩
theorem ofP_of (o f g k : Nat) (h1 : 1 ≤ o) (h2 : o < 32) : (ofR24 o f g k).map (·.1) = ofP o f g k := by
  unfold ofR24 ofP fstL
  rw [if_neg (by omega)]
  have e : rwsO o = (allL.map (·.1)).filter (fun r => decide (r.op = o)) := by
    have := List.all_eq_true.1 rws_flt o (List.mem_range.2 h2)
    exact of_decide_eq_true this
  rw [e, List.find?_filter, List.find?_map]
  congr 2
  funext p
  show ofB o f g k p = _
  simp only [Function.comp]
  rw [Bool.eq_iff_iff]
  unfold ofB ofQ
  simp
  omega
theorem k_of (o f g k : Nat) (ho : o < 256) (hE : ∀ args w, (callFunc 48 args).run Tryd.prog w = .ok (.enter 48 args) w) : Box (∀ w, T24 w → Calls Tryd.prog 22 #[.int .u8 (o : Nat), .int .u8 (f : Nat), .int .u8 (g : Nat), .int .u8 (k : Nat)] w fun r w' => r = .returned (.tuple #[.agg (rwC (ndO (ofR24 o f g k)).1), .int .i64 (erF o f g k)]) ∧ Below w.heap.size w w') := box (fun w hT => by
  by_cases h : o = 0 ∨ 32 ≤ o
  · have e1 : ofR24 o f g k = none := by unfold ofR24; rw [if_pos (by omega)]
    have e2 : erF o f g k = 2 := by unfold erF; rw [if_pos (by omega)]
    rw [e1, e2]
    exact t_of_no o f g k ho h w hT
  · have q := ofP_of o f g k (by omega) (by omega)
    refine t_of_go o f g k ho (by omega) (by omega) _ _ ?_ hE w hT
    have e2 : erF o f g k = erO (ofR24 o f g k) := by unfold erF ofR24; rw [if_neg (by omega), if_neg (by omega)]
    rw [e2]
    cases z : ofR24 o f g k with
    | none => rw [z] at q; rw [← q]; rfl
    | some p => rw [z] at q; rw [← q]; rfl)
end Go.Proofs.YtaoccmopfflkmaaDoor
namespace Go.Proofs.YtaoccmopfflkmaaDoor
set_option maxRecDepth 100000
set_option maxHeartbeats 40000000
set_option maxRecDepth 100000
open Go.RowKit WMath
set_option linter.unusedSimpArgs false
set_option linter.unusedVariables false
def fld (w low n : Nat) : Nat := w / 2 ^ low % 2 ^ n
def sg12 (x : Nat) : Int := if 2048 ≤ x then (x : Int) - 4096 else (x : Int)
structure In where
  op : Nat
  form : Nat
  frm : Nat
  kind : Nat
  rd : Nat
  rs1 : Nat
  rs2 : Nat
  rs3 : Nat
  rm : Nat
  imm : Int
  csr : Nat
deriving DecidableEq
def inC (i : In) : Array Value := #[.int .u8 (i.op : Nat), .int .u8 (i.form : Nat), .int .u8 (i.frm : Nat), .int .u8 (i.kind : Nat), .int .u8 (i.rd : Nat), .int .u8 (i.rs1 : Nat), .int .u8 (i.rs2 : Nat), .int .u8 (i.rs3 : Nat), .int .u8 (i.rm : Nat), .int .i16 i.imm, .int .u8 (i.csr : Nat)]
theorem inC_cells {w : World} {b : Nat} {x : In} {T : TypeId} (h : w.heap[b]? = some (.cells (inC x) T)) : w.cell? ⟨b, 0, none⟩ = some (.int .u8 (x.op : Nat)) ∧ w.cell? ⟨b, 1, none⟩ = some (.int .u8 (x.form : Nat)) ∧ w.cell? ⟨b, 2, none⟩ = some (.int .u8 (x.frm : Nat)) ∧ w.cell? ⟨b, 3, none⟩ = some (.int .u8 (x.kind : Nat)) ∧ w.cell? ⟨b, 4, none⟩ = some (.int .u8 (x.rd : Nat)) ∧ w.cell? ⟨b, 5, none⟩ = some (.int .u8 (x.rs1 : Nat)) ∧ w.cell? ⟨b, 6, none⟩ = some (.int .u8 (x.rs2 : Nat)) ∧ w.cell? ⟨b, 7, none⟩ = some (.int .u8 (x.rs3 : Nat)) ∧ w.cell? ⟨b, 8, none⟩ = some (.int .u8 (x.rm : Nat)) ∧ w.cell? ⟨b, 9, none⟩ = some (.int .i16 x.imm) ∧ w.cell? ⟨b, 10, none⟩ = some (.int .u8 (x.csr : Nat)) :=
  ⟨cell7 h 0 _ rfl, cell7 h 1 _ rfl, cell7 h 2 _ rfl, cell7 h 3 _ rfl, cell7 h 4 _ rfl, cell7 h 5 _ rfl, cell7 h 6 _ rfl, cell7 h 7 _ rfl, cell7 h 8 _ rfl, cell7 h 9 _ rfl, cell7 h 10 _ rfl⟩
theorem inC_fold (x : In) : #[Value.int .u8 (x.op : Nat), .int .u8 (x.form : Nat), .int .u8 (x.frm : Nat), .int .u8 (x.kind : Nat), .int .u8 (x.rd : Nat), .int .u8 (x.rs1 : Nat), .int .u8 (x.rs2 : Nat), .int .u8 (x.rs3 : Nat), .int .u8 (x.rm : Nat), .int .i16 x.imm, .int .u8 (x.csr : Nat)] = inC x := rfl
theorem inC_store {w : World} {b : Nat} {x : In} {c : Array Value} {T : TypeId} (h : w.heap[b]? = some (.cells c T)) (hc : c.size = 11) : (storeCells ⟨b, 0, none⟩ (inC x).toList 0).run Tryd.prog w = .ok () (w.setRow b (inC x)) := by
  have := run_storeCells_from (P := Tryd.prog) b T (inC x).toList 0 c w h (by simp [inC, hc]) (fun v hv => by
    simp [inC] at hv
    rcases hv with rfl | rfl | rfl | rfl | rfl | rfl | rfl | rfl | rfl | rfl | rfl <;> rfl)
  have e : List.drop 11 c.toList = [] := List.drop_eq_nil_of_le (by rw [Array.length_toList, hc]; exact Nat.le_refl _)
  simpa [inC, e] using this
theorem in_lv {w : World} {b : Nat} {x : In} {T : TypeId} (h : w.heap[b]? = some (.cells (inC x) T)) : (loadVar 27 ⟨b, 0, none⟩).run Tryd.prog w = .ok (.agg (inC x)) w := by
  have ha : (isAgg 27).run Tryd.prog w = .ok true w := by kernel_rfl
  have hs : (sizeOf 27).run Tryd.prog w = .ok 11 w := by kernel_rfl
  have q := run_loadCells_list (P := Tryd.prog) w ⟨b, 0, none⟩ (inC x).toList (fun j v hv => by
    have hadd : (⟨b, 0, none⟩ : Addr).add j = ⟨b, j, none⟩ := by unfold Addr.add; split <;> simp_all
    rw [hadd]
    exact cell7 h j v (by simpa using hv))
  rw [Array.length_toList, show (inC x).size = 11 from rfl] at q
  simp only [Sem.run_bind, Sem.run_pure, Result.andThen, loadVar, ha, hs, if_true, q]
theorem inC_new (w : World) (b : Nat) (x : In) (hb : b = w.heap.size) : (storeCells ⟨b, 0, none⟩ (inC x).toList 0).run Tryd.prog (w.alloc (.cells #[.int .u8 0, .int .u8 0, .int .u8 0, .int .u8 0, .int .u8 0, .int .u8 0, .int .u8 0, .int .u8 0, .int .u8 0, .int .i16 0, .int .u8 0] 27)) = .ok () (w.alloc (.cells (inC x) 27)) := by
  subst hb
  exact run_storeCells_new (P := Tryd.prog) w 27 #[.int .u8 0, .int .u8 0, .int .u8 0, .int .u8 0, .int .u8 0, .int .u8 0, .int .u8 0, .int .u8 0, .int .u8 0, .int .i16 0, .int .u8 0] (inC x) (by kernel_rfl) rfl (by simp [inC]; exact ⟨rfl, rfl, rfl, rfl, rfl, rfl, rfl, rfl, rfl, rfl, rfl⟩)
def dcI (r : Rw) (w : Nat) : In := ⟨r.op, r.form, r.frm, r.kind, if r.lay = 2 then 0 else fld w 7 5, fld w 15 5, if r.lay = 2 ∨ r.lay = 3 ∨ r.lay = 4 ∨ r.lay = 5 then fld w 20 5 else 0, if r.lay = 3 then fld w 27 5 else 0, if r.lay = 3 ∨ r.lay = 4 ∨ r.lay = 6 then fld w 12 3 else 0, if r.lay = 1 then sg12 (fld w 20 12) else if r.lay = 2 then sg12 (32 * fld w 25 7 + fld w 7 5) else 0, if r.lay = 8 ∨ r.lay = 9 then fld w 20 12 % 256 else 0⟩
theorem in_fold0 (a b c d : Nat) : #[Value.int .u8 (a : Nat), .int .u8 (b : Nat), .int .u8 (c : Nat), .int .u8 (d : Nat), .int .u8 0, .int .u8 0, .int .u8 0, .int .u8 0, .int .u8 0, .int .i16 0, .int .u8 0] = inC ⟨a, b, c, d, 0, 0, 0, 0, 0, 0, 0⟩ := rfl
theorem nd_row (r : Rw) (s : ByteArray) : #[(ndC r s)[0]'(show 0 < (ndC r s).size from (show 0 < 8 by decide)), (ndC r s)[1]'(show 1 < (ndC r s).size from (show 1 < 8 by decide)), (ndC r s)[2]'(show 2 < (ndC r s).size from (show 2 < 8 by decide)), (ndC r s)[3]'(show 3 < (ndC r s).size from (show 3 < 8 by decide)), (ndC r s)[4]'(show 4 < (ndC r s).size from (show 4 < 8 by decide)), (ndC r s)[5]'(show 5 < (ndC r s).size from (show 5 < 8 by decide)), (ndC r s)[6]'(show 6 < (ndC r s).size from (show 6 < 8 by decide))] = rwC r := rfl
theorem rw_at0 (r : Rw) (h : 0 < (rwC r).size) : (rwC r)[0] = .int .u8 (r.op : Nat) := rfl
theorem rw_at1 (r : Rw) (h : 1 < (rwC r).size) : (rwC r)[1] = .int .u8 (r.form : Nat) := rfl
theorem rw_at2 (r : Rw) (h : 2 < (rwC r).size) : (rwC r)[2] = .int .u8 (r.frm : Nat) := rfl
theorem rw_at3 (r : Rw) (h : 3 < (rwC r).size) : (rwC r)[3] = .int .u8 (r.kind : Nat) := rfl
theorem rw_at4 (r : Rw) (h : 4 < (rwC r).size) : (rwC r)[4] = .int .u32 (r.mask : Nat) := rfl
theorem rw_at5 (r : Rw) (h : 5 < (rwC r).size) : (rwC r)[5] = .int .u32 (r.mtch : Nat) := rfl
theorem rw_at6 (r : Rw) (h : 6 < (rwC r).size) : (rwC r)[6] = .int .u8 (r.lay : Nat) := rfl
theorem layL : allL.all (fun p => decide (1 ≤ p.1.lay ∧ p.1.lay ≤ 9 ∧ 1 ≤ p.1.op ∧ p.1.op ≤ 31 ∧ p.1.form < 4 ∧ p.1.frm < 4 ∧ p.1.kind < 4)) = true := by decide +kernel
theorem lay24 {p : Nm} (hp : p ∈ allL) : 1 ≤ p.1.lay ∧ p.1.lay ≤ 9 ∧ 1 ≤ p.1.op ∧ p.1.op ≤ 31 ∧ p.1.form < 4 ∧ p.1.frm < 4 ∧ p.1.kind < 4 := by
  have := List.all_eq_true.1 layL p hp
  simpa only [decide_eq_true_iff] using this
theorem fd_mem {x : Nat} {p : Nm} (h : fdL x = some p) : p ∈ allL ∧ fitsL p.1 x = true := by
  unfold fdL fstL at h
  exact ⟨List.mem_of_find?_eq_some h, by simpa using List.find?_some h⟩
structure Hs where
  rd : Bool
  rs2 : Bool
  rs3 : Bool
  rm : Bool
  imm : Bool
  csr : Bool
deriving DecidableEq
def hsL (l : Nat) : Hs := if l = 1 then ⟨true, false, false, false, true, false⟩ else if l = 2 then ⟨false, true, false, false, true, false⟩ else if l = 3 then ⟨true, true, true, true, false, false⟩ else if l = 4 then ⟨true, true, false, true, false, false⟩ else if l = 5 then ⟨true, true, false, false, false, false⟩ else if l = 6 then ⟨true, false, false, true, false, false⟩ else if l = 8 then ⟨true, false, false, false, false, true⟩ else if l = 9 then ⟨true, false, false, false, false, true⟩ else ⟨true, false, false, false, false, false⟩
def mkL (l : Nat) : Nat := if l = 1 then 4294938496 else if l = 2 then 4294938496 else if l = 3 then 4194303872 else if l = 4 then 33554304 else if l = 5 then 33525632 else if l = 6 then 1048448 else if l = 7 then 1019776 else if l = 8 then 4294938496 else 4294938496
def inCE (r q : In) : Bool := (((r.op : Nat) : Int) == ((q.op : Nat) : Int)) && (((r.form : Nat) : Int) == ((q.form : Nat) : Int)) && (((r.frm : Nat) : Int) == ((q.frm : Nat) : Int)) && (((r.kind : Nat) : Int) == ((q.kind : Nat) : Int)) && (((r.rd : Nat) : Int) == ((q.rd : Nat) : Int)) && (((r.rs1 : Nat) : Int) == ((q.rs1 : Nat) : Int)) && (((r.rs2 : Nat) : Int) == ((q.rs2 : Nat) : Int)) && (((r.rs3 : Nat) : Int) == ((q.rs3 : Nat) : Int)) && (((r.rm : Nat) : Int) == ((q.rm : Nat) : Int)) && (r.imm == q.imm) && (((r.csr : Nat) : Int) == ((q.csr : Nat) : Int))
theorem inCE_is (r q : In) : inCE r q = decide (r = q) := by
  unfold inCE
  rw [Bool.eq_iff_iff, decide_eq_true_iff]
  simp only [Bool.and_eq_true, beq_iff_eq]
  constructor
  · intro h
    cases r; cases q
    simp only at h
    simp only [In.mk.injEq]
    omega
  · rintro rfl
    simp
set_option maxRecDepth 100000 in
theorem eqin (r q : In) (w : World) : (Op.equalIn 10000 27 (.agg (inC r)) (.agg (inC q))).run Tryd.prog w = .ok (inCE r q) w := by
  have q0 : ∀ (r : In), (part 22 (inC r) 0).run Tryd.prog w = .ok (.int .u8 ((r.op : Nat) : Int)) w := fun r => by kernel_rfl
  have i0 : (Op.equalIn 9999 22 (.int .u8 ((r.op : Nat) : Int)) (.int .u8 ((q.op : Nat) : Int))).run Tryd.prog w = .ok (((r.op : Nat) : Int) == ((q.op : Nat) : Int)) w := run_equalIn_int w 9998 22 .u8 .u8 _ _ Tryd.underlying22
  have n0 : ("Op" = "_") = False := by simp
  have q1 : ∀ (r : In), (part 23 (inC r) 1).run Tryd.prog w = .ok (.int .u8 ((r.form : Nat) : Int)) w := fun r => by kernel_rfl
  have i1 : (Op.equalIn 9999 23 (.int .u8 ((r.form : Nat) : Int)) (.int .u8 ((q.form : Nat) : Int))).run Tryd.prog w = .ok (((r.form : Nat) : Int) == ((q.form : Nat) : Int)) w := run_equalIn_int w 9998 23 .u8 .u8 _ _ Tryd.underlying23
  have n1 : ("Form" = "_") = False := by simp
  have q2 : ∀ (r : In), (part 23 (inC r) 2).run Tryd.prog w = .ok (.int .u8 ((r.frm : Nat) : Int)) w := fun r => by kernel_rfl
  have i2 : (Op.equalIn 9999 23 (.int .u8 ((r.frm : Nat) : Int)) (.int .u8 ((q.frm : Nat) : Int))).run Tryd.prog w = .ok (((r.frm : Nat) : Int) == ((q.frm : Nat) : Int)) w := run_equalIn_int w 9998 23 .u8 .u8 _ _ Tryd.underlying23
  have n2 : ("From" = "_") = False := by simp
  have q3 : ∀ (r : In), (part 24 (inC r) 3).run Tryd.prog w = .ok (.int .u8 ((r.kind : Nat) : Int)) w := fun r => by kernel_rfl
  have i3 : (Op.equalIn 9999 24 (.int .u8 ((r.kind : Nat) : Int)) (.int .u8 ((q.kind : Nat) : Int))).run Tryd.prog w = .ok (((r.kind : Nat) : Int) == ((q.kind : Nat) : Int)) w := run_equalIn_int w 9998 24 .u8 .u8 _ _ Tryd.underlying24
  have n3 : ("Kind" = "_") = False := by simp
  have q4 : ∀ (r : In), (part 5 (inC r) 4).run Tryd.prog w = .ok (.int .u8 ((r.rd : Nat) : Int)) w := fun r => by kernel_rfl
  have i4 : (Op.equalIn 9999 5 (.int .u8 ((r.rd : Nat) : Int)) (.int .u8 ((q.rd : Nat) : Int))).run Tryd.prog w = .ok (((r.rd : Nat) : Int) == ((q.rd : Nat) : Int)) w := run_equalIn_int w 9998 5 .u8 .u8 _ _ Tryd.underlying5
  have n4 : ("Rd" = "_") = False := by simp
  have q5 : ∀ (r : In), (part 5 (inC r) 5).run Tryd.prog w = .ok (.int .u8 ((r.rs1 : Nat) : Int)) w := fun r => by kernel_rfl
  have i5 : (Op.equalIn 9999 5 (.int .u8 ((r.rs1 : Nat) : Int)) (.int .u8 ((q.rs1 : Nat) : Int))).run Tryd.prog w = .ok (((r.rs1 : Nat) : Int) == ((q.rs1 : Nat) : Int)) w := run_equalIn_int w 9998 5 .u8 .u8 _ _ Tryd.underlying5
  have n5 : ("Rs1" = "_") = False := by simp
  have q6 : ∀ (r : In), (part 5 (inC r) 6).run Tryd.prog w = .ok (.int .u8 ((r.rs2 : Nat) : Int)) w := fun r => by kernel_rfl
  have i6 : (Op.equalIn 9999 5 (.int .u8 ((r.rs2 : Nat) : Int)) (.int .u8 ((q.rs2 : Nat) : Int))).run Tryd.prog w = .ok (((r.rs2 : Nat) : Int) == ((q.rs2 : Nat) : Int)) w := run_equalIn_int w 9998 5 .u8 .u8 _ _ Tryd.underlying5
  have n6 : ("Rs2" = "_") = False := by simp
  have q7 : ∀ (r : In), (part 5 (inC r) 7).run Tryd.prog w = .ok (.int .u8 ((r.rs3 : Nat) : Int)) w := fun r => by kernel_rfl
  have i7 : (Op.equalIn 9999 5 (.int .u8 ((r.rs3 : Nat) : Int)) (.int .u8 ((q.rs3 : Nat) : Int))).run Tryd.prog w = .ok (((r.rs3 : Nat) : Int) == ((q.rs3 : Nat) : Int)) w := run_equalIn_int w 9998 5 .u8 .u8 _ _ Tryd.underlying5
  have n7 : ("Rs3" = "_") = False := by simp
  have q8 : ∀ (r : In), (part 5 (inC r) 8).run Tryd.prog w = .ok (.int .u8 ((r.rm : Nat) : Int)) w := fun r => by kernel_rfl
  have i8 : (Op.equalIn 9999 5 (.int .u8 ((r.rm : Nat) : Int)) (.int .u8 ((q.rm : Nat) : Int))).run Tryd.prog w = .ok (((r.rm : Nat) : Int) == ((q.rm : Nat) : Int)) w := run_equalIn_int w 9998 5 .u8 .u8 _ _ Tryd.underlying5
  have n8 : ("Rm" = "_") = False := by simp
  have q9 : ∀ (r : In), (part 25 (inC r) 9).run Tryd.prog w = .ok (.int .i16 r.imm) w := fun r => by kernel_rfl
  have i9 : (Op.equalIn 9999 25 (.int .i16 r.imm) (.int .i16 q.imm)).run Tryd.prog w = .ok (r.imm == q.imm) w := run_equalIn_int w 9998 25 .i16 .i16 _ _ Tryd.underlying25
  have n9 : ("Imm" = "_") = False := by simp
  have q10 : ∀ (r : In), (part 5 (inC r) 10).run Tryd.prog w = .ok (.int .u8 ((r.csr : Nat) : Int)) w := fun r => by kernel_rfl
  have i10 : (Op.equalIn 9999 5 (.int .u8 ((r.csr : Nat) : Int)) (.int .u8 ((q.csr : Nat) : Int))).run Tryd.prog w = .ok (((r.csr : Nat) : Int) == ((q.csr : Nat) : Int)) w := run_equalIn_int w 9998 5 .u8 .u8 _ _ Tryd.underlying5
  have n10 : ("Csr" = "_") = False := by simp
  have st : Tryd.prog.stoodInHeld 27 = false := by kernel_rfl
  rw [show (10000 : Nat) = 9999 + 1 from rfl]
  unfold Op.equalIn
  simp only [Sem.run_bind, run_underlying Tryd.underlying27, Result.andThen_ok]
  rw [show (Sem.run Tryd.prog program w) = .ok Tryd.prog w from rfl]
  simp only [Result.andThen_ok, st, Bool.false_eq_true, if_false]
  have fo : ∀ (l : List Field) (b : Field → (Option Bool × Unit) → Sem (ForInStep (Option Bool × Unit))), (forIn l.toArray (none, ()) b : Sem (Option Bool × Unit)) = forIn l (none, ()) b := fun l b => by simp
  simp only [fo, List.forIn_cons, List.forIn_nil, ne_eq, n0, n1, n2, n3, n4, n5, n6, n7, n8, n9, n10, not_false_eq_true, if_true]
  unfold inCE
  obtain ⟨b0, h0⟩ : ∃ x, (((r.op : Nat) : Int) == ((q.op : Nat) : Int)) = x := ⟨_, rfl⟩
  rw [h0] at i0
  obtain ⟨b1, h1⟩ : ∃ x, (((r.form : Nat) : Int) == ((q.form : Nat) : Int)) = x := ⟨_, rfl⟩
  rw [h1] at i1
  obtain ⟨b2, h2⟩ : ∃ x, (((r.frm : Nat) : Int) == ((q.frm : Nat) : Int)) = x := ⟨_, rfl⟩
  rw [h2] at i2
  obtain ⟨b3, h3⟩ : ∃ x, (((r.kind : Nat) : Int) == ((q.kind : Nat) : Int)) = x := ⟨_, rfl⟩
  rw [h3] at i3
  obtain ⟨b4, h4⟩ : ∃ x, (((r.rd : Nat) : Int) == ((q.rd : Nat) : Int)) = x := ⟨_, rfl⟩
  rw [h4] at i4
  obtain ⟨b5, h5⟩ : ∃ x, (((r.rs1 : Nat) : Int) == ((q.rs1 : Nat) : Int)) = x := ⟨_, rfl⟩
  rw [h5] at i5
  obtain ⟨b6, h6⟩ : ∃ x, (((r.rs2 : Nat) : Int) == ((q.rs2 : Nat) : Int)) = x := ⟨_, rfl⟩
  rw [h6] at i6
  obtain ⟨b7, h7⟩ : ∃ x, (((r.rs3 : Nat) : Int) == ((q.rs3 : Nat) : Int)) = x := ⟨_, rfl⟩
  rw [h7] at i7
  obtain ⟨b8, h8⟩ : ∃ x, (((r.rm : Nat) : Int) == ((q.rm : Nat) : Int)) = x := ⟨_, rfl⟩
  rw [h8] at i8
  obtain ⟨b9, h9⟩ : ∃ x, (r.imm == q.imm) = x := ⟨_, rfl⟩
  rw [h9] at i9
  obtain ⟨b10, h10⟩ : ∃ x, (((r.csr : Nat) : Int) == ((q.csr : Nat) : Int)) = x := ⟨_, rfl⟩
  rw [h10] at i10
  rw [h0, h1, h2, h3, h4, h5, h6, h7, h8, h9, h10]
  cases b0
  · simp only [Sem.run_bind, Sem.run_pure, Result.andThen_ok, Bool.not_false, Bool.not_true, Bool.false_eq_true, if_false, if_true, Bool.false_and, Bool.true_and, q0, i0]
  cases b1
  · simp only [Sem.run_bind, Sem.run_pure, Result.andThen_ok, Bool.not_false, Bool.not_true, Bool.false_eq_true, if_false, if_true, Bool.false_and, Bool.true_and, q0, i0, q1, i1]
  cases b2
  · simp only [Sem.run_bind, Sem.run_pure, Result.andThen_ok, Bool.not_false, Bool.not_true, Bool.false_eq_true, if_false, if_true, Bool.false_and, Bool.true_and, q0, i0, q1, i1, q2, i2]
  cases b3
  · simp only [Sem.run_bind, Sem.run_pure, Result.andThen_ok, Bool.not_false, Bool.not_true, Bool.false_eq_true, if_false, if_true, Bool.false_and, Bool.true_and, q0, i0, q1, i1, q2, i2, q3, i3]
  cases b4
  · simp only [Sem.run_bind, Sem.run_pure, Result.andThen_ok, Bool.not_false, Bool.not_true, Bool.false_eq_true, if_false, if_true, Bool.false_and, Bool.true_and, q0, i0, q1, i1, q2, i2, q3, i3, q4, i4]
  cases b5
  · simp only [Sem.run_bind, Sem.run_pure, Result.andThen_ok, Bool.not_false, Bool.not_true, Bool.false_eq_true, if_false, if_true, Bool.false_and, Bool.true_and, q0, i0, q1, i1, q2, i2, q3, i3, q4, i4, q5, i5]
  cases b6
  · simp only [Sem.run_bind, Sem.run_pure, Result.andThen_ok, Bool.not_false, Bool.not_true, Bool.false_eq_true, if_false, if_true, Bool.false_and, Bool.true_and, q0, i0, q1, i1, q2, i2, q3, i3, q4, i4, q5, i5, q6, i6]
  cases b7
  · simp only [Sem.run_bind, Sem.run_pure, Result.andThen_ok, Bool.not_false, Bool.not_true, Bool.false_eq_true, if_false, if_true, Bool.false_and, Bool.true_and, q0, i0, q1, i1, q2, i2, q3, i3, q4, i4, q5, i5, q6, i6, q7, i7]
  cases b8
  · simp only [Sem.run_bind, Sem.run_pure, Result.andThen_ok, Bool.not_false, Bool.not_true, Bool.false_eq_true, if_false, if_true, Bool.false_and, Bool.true_and, q0, i0, q1, i1, q2, i2, q3, i3, q4, i4, q5, i5, q6, i6, q7, i7, q8, i8]
  cases b9
  · simp only [Sem.run_bind, Sem.run_pure, Result.andThen_ok, Bool.not_false, Bool.not_true, Bool.false_eq_true, if_false, if_true, Bool.false_and, Bool.true_and, q0, i0, q1, i1, q2, i2, q3, i3, q4, i4, q5, i5, q6, i6, q7, i7, q8, i8, q9, i9]
  cases b10
  · simp only [Sem.run_bind, Sem.run_pure, Result.andThen_ok, Bool.not_false, Bool.not_true, Bool.false_eq_true, if_false, if_true, Bool.false_and, Bool.true_and, q0, i0, q1, i1, q2, i2, q3, i3, q4, i4, q5, i5, q6, i6, q7, i7, q8, i8, q9, i9, q10, i10]
  simp only [Sem.run_bind, Sem.run_pure, Result.andThen_ok, Bool.not_false, Bool.not_true, Bool.false_eq_true, if_false, if_true, Bool.false_and, Bool.true_and, q0, i0, q1, i1, q2, i2, q3, i3, q4, i4, q5, i5, q6, i6, q7, i7, q8, i8, q9, i9, q10, i10]
theorem fld_bit {v w lo n k : Nat} (h : fld v lo n = fld w lo n) (h1 : lo ≤ k) (h2 : k < lo + n) : v.testBit k = w.testBit k := by
  have e := congrArg (Nat.testBit · (k - lo)) h
  unfold fld at e
  simp only [Nat.testBit_mod_two_pow, Nat.testBit_div_two_pow] at e
  rw [show k - lo + lo = k by omega] at e
  have d : decide (k - lo < n) = true := decide_eq_true (by omega)
  simpa only [d, Bool.true_and] using e
theorem xor32u (a b : Nat) (ha : a < 4294967296) (hb : b < 4294967296) : bits .xor .u32 (a : Int) (b : Int) = ((a ^^^ b : Nat) : Int) ∧ a ^^^ b < 4294967296 := by
  have hx : a ^^^ b < 4294967296 := Nat.xor_lt_two_pow (n := 32) ha hb
  have h1 : (BitVec.ofInt 32 (a : Int)).toNat = a := by
    rw [BitVec.ofInt_natCast, BitVec.toNat_ofNat]; exact Nat.mod_eq_of_lt ha
  have h2 : (BitVec.ofInt 32 (b : Int)).toNat = b := by
    rw [BitVec.ofInt_natCast, BitVec.toNat_ofNat]; exact Nat.mod_eq_of_lt hb
  refine ⟨?_, hx⟩
  show IntKind.u32.wrap ((BitVec.ofInt 32 (a : Int) ^^^ BitVec.ofInt 32 (b : Int)).toNat : Int) = _
  rw [BitVec.toNat_xor, h1, h2, show ∀ y : Int, IntKind.u32.wrap y = y % 4294967296 from fun _ => rfl]
  omega

def InOk (x : In) : Prop := x.op < 256 ∧ x.form < 256 ∧ x.frm < 256 ∧ x.kind < 256 ∧ x.rd < 256 ∧ x.rs1 < 256 ∧ x.rs2 < 256 ∧ x.rs3 < 256 ∧ x.rm < 256 ∧ -32768 ≤ x.imm ∧ x.imm < 32768 ∧ x.csr < 256
theorem and_low5 (y : Nat) (hy : y < 4294967296) : bits .and .u32 ((y : Nat) : Int) 31 = ((y % 32 : Nat) : Int) := by
  have q := and32t y 31 hy (by decide)
  rw [Nat.and_two_pow_sub_one_eq_mod y 5] at q
  exact q
def Rd (b : Nat) (T : TypeId) (j : In) (w : World) (r : Ending) (w' : World) : Prop := (∃ v, r = .returned v) ∧ w'.heap[b]? = some (.cells (inC j) T) ∧ ∀ n, n ≤ b → Below n w w'
theorem in_one (x : In) : ∀ u ∈ (inC x).toList, u.oneCell' = true := fun v hv => by
  simp [inC] at hv
  rcases hv with rfl | rfl | rfl | rfl | rfl | rfl | rfl | rfl | rfl | rfl | rfl <;> rfl
set_option maxRecDepth 100000 in
set_option maxHeartbeats 8000000 in
theorem wpl_one25 {ops : Array Oper} {rest : List Oper} {o : Oper} {a : Act} {w : World} {Q : Exit → Act → World → Prop} (hg : o.guard = none) (parts : Array (Nat × Operand)) (ho : o.op = .buildSlice 34 1 parts) (x : Operand) (hp : parts = #[(0, x)]) (r : In) (hx : a.eval x = .agg (inC r))
    (h : wpList Tryd.prog ops Q rest (a.put o.dst (.slice (some ⟨w.heap.size, 0, none⟩) 1 1)) (w.alloc (.cells (inC r) 27))) : wpList Tryd.prog ops Q (o :: rest) a w := by
  obtain ⟨i0, hi, hz0, hz1, hz2⟩ := info_parts (show (Tryd.prog.info? 27).map (fun i => (i.zero, i.size, i.bytes)) = some (some (.agg #[.int .u8 0, .int .u8 0, .int .u8 0, .int .u8 0, .int .u8 0, .int .u8 0, .int .u8 0, .int .u8 0, .int .u8 0, .int .i16 0, .int .u8 0]), 11, 14) by kernel_rfl)
  subst hp
  refine wpList_buildSlice hg 34 27 1 _ ho (inC r) i0 _ Tryd.underlying34 hi hz0 ?_ ?_ ?_ h
  · rw [hz1]; decide
  · rw [hz1]; decide
  · rw [hz1]
    simp only [List.map_toArray, List.map_cons, List.map_nil, hx]
    kernel_rfl
end Go.Proofs.YtaoccmopfflkmaaDoor
namespace Go.Proofs.YtaoccmopfflkmaaDoor
set_option maxRecDepth 100000
set_option maxHeartbeats 40000000
set_option maxRecDepth 100000
open Go.RowKit Go.Shelf WMath
set_option linter.unusedSimpArgs false
set_option linter.unusedVariables false
theorem hE25 : ∀ args w, (callFunc 48 args).run Tryd.prog w = .ok (.enter 48 args) w := enters_of Tryd.func48 (by kernel_rfl) rfl
theorem fb25 : Box (∀ {w w' : World}, T24 w → Below w.heap.size w w' → T24 w') := box (fun h b => t24B h b)
end Go.Proofs.YtaoccmopfflkmaaDoor
