/-
  What the functions that the statement reaches return: part 4 (DF, DG, DH).
-/
import Derived.Maps.OwnIn
import Derived.DeepKeys4
import Derived.Maps.OwnSet
import Derived.Stop.RegionWithIn
import Derived.Test.YtfdhglllmhggkaaDoorOa03
namespace Go.Proofs.YtfdhglllmhggkaaDoor
set_option maxRecDepth 100000
set_option maxHeartbeats 40000000
set_option maxRecDepth 100000
open Go.RowKit Go.Shelf WMath
set_option linter.unusedVariables false
set_option linter.unusedSimpArgs false
attribute [local go_sem] Oper.semAt_some

def mkD (D : Nat) : Deferred := { target := .collected D, args := #[] }
def Marks (base : Nat) (Ds : List Nat) (W : World) : Prop := Ds.Pairwise (· > ·) ∧ ∀ D ∈ Ds, base ≤ D ∧ W.heap[D]? = some (.deferred (some []))
theorem Marks.nil (base : Nat) (W : World) : Marks base [] W := ⟨List.Pairwise.nil, fun D h => by cases h⟩
theorem Marks.cons {base D : Nat} {Ds : List Nat} {W : World} (h : Marks base Ds W) (hb : base ≤ D) (hl : ∀ E ∈ Ds, E < D) (hd : W.heap[D]? = some (.deferred (some []))) : Marks base (D :: Ds) W :=
  ⟨List.pairwise_cons.2 ⟨hl, h.1⟩, fun E hE => by
    rcases List.mem_cons.1 hE with rfl | hE
    · exact ⟨hb, hd⟩
    · exact h.2 E hE⟩
theorem Marks.lt {base : Nat} {Ds : List Nat} {W : World} (h : Marks base Ds W) : ∀ E ∈ Ds, E < W.heap.size := fun E hE => (Array.getElem?_eq_some_iff.1 (h.2 E hE).2).1
theorem Marks.kept {base : Nat} {Ds : List Nat} {W V : World} (h : Marks base Ds W) (k : ∀ D, D < W.heap.size → base ≤ D → W.heap[D]? = some (.deferred (some [])) → V.heap[D]? = some (.deferred (some []))) : Marks base Ds V :=
  ⟨h.1, fun D hD => ⟨(h.2 D hD).1, k D (h.lt D hD) (h.2 D hD).1 (h.2 D hD).2⟩⟩
theorem Marks.below {base : Nat} {Ds : List Nat} {W V : World} (h : Marks base Ds W) (b : Below W.heap.size W V) : Marks base Ds V := h.kept (fun D hl _ hd => (b.block D hl).trans hd)
theorem leaves_marks {F : Fence} {n : Nat} {P : Program} {fn : Func} {tmps : Array Value} {R : Ending → World → Prop} {base : Nat} (G : World → Prop)
    (hG : ∀ W D, G W → base ≤ D → W.heap[D]? = some (.deferred (some [])) → G (W.putObj D (.deferred none)))
    (hend : ∀ W, G W → ∃ v, (results fn tmps).run P W = .ok v W ∧ R (.returned v) W) :
    ∀ (Ds : List Nat) (W : World), Marks base Ds W → G W → LeavesInM F n P fn tmps R (Ds.map mkD) .returning W := by
  intro Ds
  induction Ds with
  | nil =>
    intro W _ hg
    exact hend W hg
  | cons D Ds ih =>
    intro W hm hg
    have hD := hm.2 D (List.mem_cons_self ..)
    refine ⟨by simp, .inl ⟨D, _, rfl, run_takeDeferred hD.2, ih _ ?_ (hG W D hg hD.1 hD.2)⟩⟩
    have hp := List.pairwise_cons.1 hm.1
    refine ⟨hp.2, fun E hE => ⟨(hm.2 E (List.mem_cons_of_mem _ hE)).1, ?_⟩⟩
    rw [World.putObj_heap_other (by have := hp.1 E hE; omega)]
    exact (hm.2 E (List.mem_cons_of_mem _ hE)).2
theorem below_put24 {w W : World} {D : Nat} {o : Obj} (h : Below w.heap.size w W) (hD : w.heap.size ≤ D) : Below w.heap.size w (W.putObj D o) := h.trans ((Below.refl _ W).grown (grownBy_putObj' W D o) (Nat.le_trans h.size (Nat.le_refl _)) (fun k e => by cases e; exact hD))
theorem pcell24 {w : World} {b : Nat} {x : Value} {T : TypeId} (h : w.heap[b]? = some (.cells #[x] T)) : w.cell? ⟨b, 0, none⟩ = some x := cells4 h 0 _ rfl
theorem res_re {fn : Func} {z y : Tmp} (h : fn.results = #[.cell z 36, .cell y 27]) {tmps : Array Value} {w : World} {b c : Nat} {r : Rw} {e : Int} {T : TypeId} (hz : tmps.getD z undef = .pointer (some ⟨b, 0, none⟩)) (hy : tmps.getD y undef = .pointer (some ⟨c, 0, none⟩))
    (hr : w.heap[b]? = some (.cells (rwC r) T)) (he : w.heap[c]? = some (.cells #[.int .i64 e] 27)) : (results fn tmps).run Tryd.prog w = .ok (.tuple #[.agg (rwC r), .int .i64 e]) w := by
  have q := rwC_lv hr
  have q2 : (loadVar 27 ⟨c, 0, none⟩).run Tryd.prog w = .ok (.int .i64 e) w := by
    have hc := pcell24 he
    simp [go_sem, hc]
  have hz2 : tmps[z]?.getD undef = .pointer (some ⟨b, 0, none⟩) := by rw [← Array.getD_eq_getD_getElem?]; exact hz
  have hy2 : tmps[y]?.getD undef = .pointer (some ⟨c, 0, none⟩) := by rw [← Array.getD_eq_getD_getElem?]; exact hy
  simp [results, h, hz2, hy2, asAddr, q, q2, Result.andThen]
def ofQ (f g k : Nat) (r : Rw) : Bool := decide (r.form = f) && (decide (r.frm = g) && decide (r.kind = k))
def ofP (o f g k : Nat) : Option Rw := (rwsO o).find? (ofQ f g k)
theorem find_pre {α : Type} {q : α → Bool} {pre l : List α} {x : α} (h : pre ++ [x] <+: l) (hp : ∀ y ∈ pre, q y = false) (hx : q x = true) : l.find? q = some x := by
  obtain ⟨t, rfl⟩ := h
  rw [List.append_assoc, List.find?_append]
  have e : pre.find? q = none := List.find?_eq_none.2 (fun y hy => by rw [hp y hy]; decide)
  rw [e]
  simp [hx]
theorem put_cells24 {W : World} {D b : Nat} {o : Obj} {c : Array Value} {T : TypeId} {l : Option (List Deferred)} (hd : W.heap[D]? = some (.deferred l)) (h : W.heap[b]? = some (.cells c T)) : (W.putObj D o).heap[b]? = some (.cells c T) :=
  (World.putObj_heap_other (fun e => by subst e; rw [h] at hd; cases hd)).trans h
theorem set_cells24 {W : World} {D b : Nat} {u : Value} {o : Obj} (hb : b ≠ D) (hd : W.heap[D]? = some o) : (W.setCell ⟨b, 0, none⟩ u).heap[D]? = some o := (setCell_other hb).trans hd
theorem leaves_re {w W : World} {F : Fence} {n : Nat} {fn : Func} {tmps : Array Value} {z y : Tmp} {b c : Nat} {r : Rw} {e : Int} {Ds : List Nat} (h : fn.results = #[.cell z 36, .cell y 27]) (hz : tmps.getD z undef = .pointer (some ⟨b, 0, none⟩)) (hy : tmps.getD y undef = .pointer (some ⟨c, 0, none⟩))
    (hm : Marks w.heap.size Ds W) (hr : W.heap[b]? = some (.cells (rwC r) 36)) (he : W.heap[c]? = some (.cells #[.int .i64 e] 27)) (hb : Below w.heap.size w W) :
    LeavesInM F n Tryd.prog fn tmps (fun r' w' => r' = .returned (.tuple #[.agg (rwC r), .int .i64 e]) ∧ Below w.heap.size w w') (Ds.map mkD) .returning W :=
  leaves_marks (base := w.heap.size) (fun V => V.heap[b]? = some (.cells (rwC r) 36) ∧ V.heap[c]? = some (.cells #[.int .i64 e] 27) ∧ Below w.heap.size w V)
    (fun V D hv hD hd => ⟨put_cells24 hd hv.1, put_cells24 hd hv.2.1, below_put24 hv.2.2 hD⟩)
    (fun V hv => ⟨_, res_re h hz hy hv.1 hv.2.1, rfl, hv.2.2⟩) Ds W hm ⟨hr, he, hb⟩
theorem bz_size24 (W : World) (b : Nat) (c : Array Value) : W.heap.size ≤ (W.setRow b c).heap.size := (Below.setRow (Below.refl 0 W) (Nat.zero_le _)).size
theorem rwz_fold : #[Value.int .u8 0, .int .u8 0, .int .u8 0, .int .u8 0, .int .u32 0, .int .u32 0, .int .u8 0] = rwC rwZ := rfl
set_option maxRecDepth 100000 in
set_option maxHeartbeats 8000000 in
theorem t_of_no (o f g k : Nat) (ho : o < 256) (h : o = 0 ∨ 32 ≤ o) (w : World) (hT : T24 w) : Calls Tryd.prog 21 #[.int .u8 (o : Nat), .int .u8 (f : Nat), .int .u8 (g : Nat), .int .u8 (k : Nat)] w fun r w' => r = .returned (.tuple #[.agg (rwC rwZ), .int .i64 2]) ∧ Below w.heap.size w w' := by
  have FF := box hT
  have hw : IntKind.i64.wrap (o : Int) = (o : Int) := by rw [IntKind.wrap_i64]; omega
  have hw2 : wrap64 (o : Int) = (o : Int) := by first | exact hw | (unfold wrap64; omega)
  clear hT
  refine (callsIn_wide (n := 6)).1 ?_
  refine callsIn_of_wp_marks Tryd.func21 rfl trivial ?_ rfl
  refine wpIn_wide.2 ?_
  simp only [Tryd.ntmps21, List.size_toArray, List.length_cons, List.length_nil, Nat.reduceAdd, Nat.reduceSub, Array.replicate_succ, Array.replicate_zero, List.push_toArray, List.append_toArray, List.nil_append, List.cons_append]
  have Rf_0 : (((((w.alloc (Obj.cells #[.int .u8 (f : Nat)] 31)).alloc (Obj.cells #[.int .u8 (g : Nat)] 31)).alloc (Obj.cells #[.int .u8 (k : Nat)] 32)).alloc (Obj.cells #[.int .u8 0, .int .u8 0, .int .u8 0, .int .u8 0, .int .u32 0, .int .u32 0, .int .u8 0] 36)).alloc (Obj.cells #[.int .i64 0] 27)).heap[w.heap.size]? = some (Obj.cells #[.int .u8 (f : Nat)] 31) := by rw [heap_below _ _ _ (by simp only [size_al]; omega), heap_below _ _ _ (by simp only [size_al]; omega), heap_below _ _ _ (by simp only [size_al]; omega), heap_below _ _ _ (by simp only [size_al]; omega)]; have := heap_alloc_last w (Obj.cells #[.int .u8 (f : Nat)] 31); simpa only [size_al] using this
  have Rg_0 : (((((w.alloc (Obj.cells #[.int .u8 (f : Nat)] 31)).alloc (Obj.cells #[.int .u8 (g : Nat)] 31)).alloc (Obj.cells #[.int .u8 (k : Nat)] 32)).alloc (Obj.cells #[.int .u8 0, .int .u8 0, .int .u8 0, .int .u8 0, .int .u32 0, .int .u32 0, .int .u8 0] 36)).alloc (Obj.cells #[.int .i64 0] 27)).heap[w.heap.size + 1]? = some (Obj.cells #[.int .u8 (g : Nat)] 31) := by rw [heap_below _ _ _ (by simp only [size_al]; omega), heap_below _ _ _ (by simp only [size_al]; omega), heap_below _ _ _ (by simp only [size_al]; omega)]; have := heap_alloc_last (w.alloc (Obj.cells #[.int .u8 (f : Nat)] 31)) (Obj.cells #[.int .u8 (g : Nat)] 31); simpa only [size_al] using this
  have Rk_0 : (((((w.alloc (Obj.cells #[.int .u8 (f : Nat)] 31)).alloc (Obj.cells #[.int .u8 (g : Nat)] 31)).alloc (Obj.cells #[.int .u8 (k : Nat)] 32)).alloc (Obj.cells #[.int .u8 0, .int .u8 0, .int .u8 0, .int .u8 0, .int .u32 0, .int .u32 0, .int .u8 0] 36)).alloc (Obj.cells #[.int .i64 0] 27)).heap[w.heap.size + 1 + 1]? = some (Obj.cells #[.int .u8 (k : Nat)] 32) := by rw [heap_below _ _ _ (by simp only [size_al]; omega), heap_below _ _ _ (by simp only [size_al]; omega)]; have := heap_alloc_last ((w.alloc (Obj.cells #[.int .u8 (f : Nat)] 31)).alloc (Obj.cells #[.int .u8 (g : Nat)] 31)) (Obj.cells #[.int .u8 (k : Nat)] 32); simpa only [size_al] using this
  have Rz_0 : (((((w.alloc (Obj.cells #[.int .u8 (f : Nat)] 31)).alloc (Obj.cells #[.int .u8 (g : Nat)] 31)).alloc (Obj.cells #[.int .u8 (k : Nat)] 32)).alloc (Obj.cells #[.int .u8 0, .int .u8 0, .int .u8 0, .int .u8 0, .int .u32 0, .int .u32 0, .int .u8 0] 36)).alloc (Obj.cells #[.int .i64 0] 27)).heap[w.heap.size + 1 + 1 + 1]? = some (Obj.cells #[.int .u8 0, .int .u8 0, .int .u8 0, .int .u8 0, .int .u32 0, .int .u32 0, .int .u8 0] 36) := by rw [heap_below _ _ _ (by simp only [size_al]; omega)]; have := heap_alloc_last (((w.alloc (Obj.cells #[.int .u8 (f : Nat)] 31)).alloc (Obj.cells #[.int .u8 (g : Nat)] 31)).alloc (Obj.cells #[.int .u8 (k : Nat)] 32)) (Obj.cells #[.int .u8 0, .int .u8 0, .int .u8 0, .int .u8 0, .int .u32 0, .int .u32 0, .int .u8 0] 36); simpa only [size_al] using this
  have Re_0 : (((((w.alloc (Obj.cells #[.int .u8 (f : Nat)] 31)).alloc (Obj.cells #[.int .u8 (g : Nat)] 31)).alloc (Obj.cells #[.int .u8 (k : Nat)] 32)).alloc (Obj.cells #[.int .u8 0, .int .u8 0, .int .u8 0, .int .u8 0, .int .u32 0, .int .u32 0, .int .u8 0] 36)).alloc (Obj.cells #[.int .i64 0] 27)).heap[w.heap.size + 1 + 1 + 1 + 1]? = some (Obj.cells #[.int .i64 0] 27) := by have := heap_alloc_last ((((w.alloc (Obj.cells #[.int .u8 (f : Nat)] 31)).alloc (Obj.cells #[.int .u8 (g : Nat)] 31)).alloc (Obj.cells #[.int .u8 (k : Nat)] 32)).alloc (Obj.cells #[.int .u8 0, .int .u8 0, .int .u8 0, .int .u8 0, .int .u32 0, .int .u32 0, .int .u8 0] 36)) (Obj.cells #[.int .i64 0] 27); simpa only [size_al] using this
  have B0 : Below w.heap.size w (((((w.alloc (Obj.cells #[.int .u8 (f : Nat)] 31)).alloc (Obj.cells #[.int .u8 (g : Nat)] 31)).alloc (Obj.cells #[.int .u8 (k : Nat)] 32)).alloc (Obj.cells #[.int .u8 0, .int .u8 0, .int .u8 0, .int .u8 0, .int .u32 0, .int .u32 0, .int .u8 0] 36)).alloc (Obj.cells #[.int .i64 0] 27)) := ((((((Below.refl _ _).alloc (by first | omega | (simp only [size_al]; omega)) _).alloc (by first | omega | (simp only [size_al]; omega)) _).alloc (by first | omega | (simp only [size_al]; omega)) _).alloc (by first | omega | (simp only [size_al]; omega)) _).alloc (by first | omega | (simp only [size_al]; omega)) _)
  have T0 := t24B FF.out B0
  obtain ⟨_, _, _, b, a, cap, hs, _⟩ := T0
  have cond : ((o : Int) == 0) = true ∨ (((o : Int) == 0) = false ∧ decide ((32 : Int) ≤ (o : Int)) = true) := by
    rcases h with h | h
    · left; simp [h]
    · right; exact ⟨by simp; omega, decide_eq_true (by omega)⟩
  clear B0 Rf_0 Rg_0 Rk_0 Rz_0 Re_0
  rcases cond with c1 | ⟨c1, c2⟩
  · go_wp2
    refine ⟨.tuple #[.agg (rwC rwZ), .int .i64 2], res_re (T := 36) Tryd.results21 rfl rfl ?_ ?_, rfl, ?_⟩
    · exact row_al (row_last (by simp only [size_al])) _
    · exact row_last (by simp only [size_al])
    · exact ((((bal w _).trans ((bal _ _).mono (by simp only [size_al]; omega))).trans ((bal _ _).mono (by simp only [size_al]; omega))).trans ((bal _ _).mono (by simp only [size_al]; omega))).trans ((bal _ _).mono (by simp only [size_al]; omega))
  · go_wp2
    refine ⟨.tuple #[.agg (rwC rwZ), .int .i64 2], res_re (T := 36) Tryd.results21 rfl rfl ?_ ?_, rfl, ?_⟩
    · exact row_al (row_last (by simp only [size_al])) _
    · exact row_last (by simp only [size_al])
    · exact ((((bal w _).trans ((bal _ _).mono (by simp only [size_al]; omega))).trans ((bal _ _).mono (by simp only [size_al]; omega))).trans ((bal _ _).mono (by simp only [size_al]; omega))).trans ((bal _ _).mono (by simp only [size_al]; omega))
set_option maxRecDepth 100000 in
set_option maxHeartbeats 8000000 in
theorem t_of_go (o f g k : Nat) (ho : o < 256) (h1 : 1 ≤ o) (h2 : o < 32) (rr : Rw) (er : Int) (hv : (rr, er) = match ofP o f g k with | some r => (r, 0) | none => (rwZ, 240)) (hE : ∀ args w, (callFunc 33 args).run Tryd.prog w = .ok (.enter 33 args) w) (w : World) (hT : T24 w) :
    Calls Tryd.prog 21 #[.int .u8 (o : Nat), .int .u8 (f : Nat), .int .u8 (g : Nat), .int .u8 (k : Nat)] w fun r w' => r = .returned (.tuple #[.agg (rwC rr), .int .i64 er]) ∧ Below w.heap.size w w' := by
  have FF := box hT
  have KE := k_each o ho
  have HV := box hv
  clear hv
  have c1 : ((o : Int) == 0) = false := by simp; omega
  have c2 : decide ((32 : Int) ≤ (o : Int)) = false := decide_eq_false (by omega)
  clear hT
  refine (callsIn_wide (n := 6)).1 ?_
  refine callsIn_of_wp_marks Tryd.func21 rfl trivial ?_ rfl
  refine wpIn_wide.2 ?_
  simp only [Tryd.ntmps21, List.size_toArray, List.length_cons, List.length_nil, Nat.reduceAdd, Nat.reduceSub, Array.replicate_succ, Array.replicate_zero, List.push_toArray, List.append_toArray, List.nil_append, List.cons_append]
  have Rf_0 : (((((w.alloc (Obj.cells #[.int .u8 (f : Nat)] 31)).alloc (Obj.cells #[.int .u8 (g : Nat)] 31)).alloc (Obj.cells #[.int .u8 (k : Nat)] 32)).alloc (Obj.cells #[.int .u8 0, .int .u8 0, .int .u8 0, .int .u8 0, .int .u32 0, .int .u32 0, .int .u8 0] 36)).alloc (Obj.cells #[.int .i64 0] 27)).heap[w.heap.size]? = some (Obj.cells #[.int .u8 (f : Nat)] 31) := by rw [heap_below _ _ _ (by simp only [size_al]; omega), heap_below _ _ _ (by simp only [size_al]; omega), heap_below _ _ _ (by simp only [size_al]; omega), heap_below _ _ _ (by simp only [size_al]; omega)]; have := heap_alloc_last w (Obj.cells #[.int .u8 (f : Nat)] 31); simpa only [size_al] using this
  have Rg_0 : (((((w.alloc (Obj.cells #[.int .u8 (f : Nat)] 31)).alloc (Obj.cells #[.int .u8 (g : Nat)] 31)).alloc (Obj.cells #[.int .u8 (k : Nat)] 32)).alloc (Obj.cells #[.int .u8 0, .int .u8 0, .int .u8 0, .int .u8 0, .int .u32 0, .int .u32 0, .int .u8 0] 36)).alloc (Obj.cells #[.int .i64 0] 27)).heap[w.heap.size + 1]? = some (Obj.cells #[.int .u8 (g : Nat)] 31) := by rw [heap_below _ _ _ (by simp only [size_al]; omega), heap_below _ _ _ (by simp only [size_al]; omega), heap_below _ _ _ (by simp only [size_al]; omega)]; have := heap_alloc_last (w.alloc (Obj.cells #[.int .u8 (f : Nat)] 31)) (Obj.cells #[.int .u8 (g : Nat)] 31); simpa only [size_al] using this
  have Rk_0 : (((((w.alloc (Obj.cells #[.int .u8 (f : Nat)] 31)).alloc (Obj.cells #[.int .u8 (g : Nat)] 31)).alloc (Obj.cells #[.int .u8 (k : Nat)] 32)).alloc (Obj.cells #[.int .u8 0, .int .u8 0, .int .u8 0, .int .u8 0, .int .u32 0, .int .u32 0, .int .u8 0] 36)).alloc (Obj.cells #[.int .i64 0] 27)).heap[w.heap.size + 1 + 1]? = some (Obj.cells #[.int .u8 (k : Nat)] 32) := by rw [heap_below _ _ _ (by simp only [size_al]; omega), heap_below _ _ _ (by simp only [size_al]; omega)]; have := heap_alloc_last ((w.alloc (Obj.cells #[.int .u8 (f : Nat)] 31)).alloc (Obj.cells #[.int .u8 (g : Nat)] 31)) (Obj.cells #[.int .u8 (k : Nat)] 32); simpa only [size_al] using this
  have Rz_0 : (((((w.alloc (Obj.cells #[.int .u8 (f : Nat)] 31)).alloc (Obj.cells #[.int .u8 (g : Nat)] 31)).alloc (Obj.cells #[.int .u8 (k : Nat)] 32)).alloc (Obj.cells #[.int .u8 0, .int .u8 0, .int .u8 0, .int .u8 0, .int .u32 0, .int .u32 0, .int .u8 0] 36)).alloc (Obj.cells #[.int .i64 0] 27)).heap[w.heap.size + 1 + 1 + 1]? = some (Obj.cells #[.int .u8 0, .int .u8 0, .int .u8 0, .int .u8 0, .int .u32 0, .int .u32 0, .int .u8 0] 36) := by rw [heap_below _ _ _ (by simp only [size_al]; omega)]; have := heap_alloc_last (((w.alloc (Obj.cells #[.int .u8 (f : Nat)] 31)).alloc (Obj.cells #[.int .u8 (g : Nat)] 31)).alloc (Obj.cells #[.int .u8 (k : Nat)] 32)) (Obj.cells #[.int .u8 0, .int .u8 0, .int .u8 0, .int .u8 0, .int .u32 0, .int .u32 0, .int .u8 0] 36); simpa only [size_al] using this
  have Re_0 : (((((w.alloc (Obj.cells #[.int .u8 (f : Nat)] 31)).alloc (Obj.cells #[.int .u8 (g : Nat)] 31)).alloc (Obj.cells #[.int .u8 (k : Nat)] 32)).alloc (Obj.cells #[.int .u8 0, .int .u8 0, .int .u8 0, .int .u8 0, .int .u32 0, .int .u32 0, .int .u8 0] 36)).alloc (Obj.cells #[.int .i64 0] 27)).heap[w.heap.size + 1 + 1 + 1 + 1]? = some (Obj.cells #[.int .i64 0] 27) := by have := heap_alloc_last ((((w.alloc (Obj.cells #[.int .u8 (f : Nat)] 31)).alloc (Obj.cells #[.int .u8 (g : Nat)] 31)).alloc (Obj.cells #[.int .u8 (k : Nat)] 32)).alloc (Obj.cells #[.int .u8 0, .int .u8 0, .int .u8 0, .int .u8 0, .int .u32 0, .int .u32 0, .int .u8 0] 36)) (Obj.cells #[.int .i64 0] 27); simpa only [size_al] using this
  have B0 : Below w.heap.size w (((((w.alloc (Obj.cells #[.int .u8 (f : Nat)] 31)).alloc (Obj.cells #[.int .u8 (g : Nat)] 31)).alloc (Obj.cells #[.int .u8 (k : Nat)] 32)).alloc (Obj.cells #[.int .u8 0, .int .u8 0, .int .u8 0, .int .u8 0, .int .u32 0, .int .u32 0, .int .u8 0] 36)).alloc (Obj.cells #[.int .i64 0] 27)) := ((((((Below.refl _ _).alloc (by first | omega | (simp only [size_al]; omega)) _).alloc (by first | omega | (simp only [size_al]; omega)) _).alloc (by first | omega | (simp only [size_al]; omega)) _).alloc (by first | omega | (simp only [size_al]; omega)) _).alloc (by first | omega | (simp only [size_al]; omega)) _)
  have T0 := t24B FF.out B0
  obtain ⟨_, _, _, b, a, cap, hs, _⟩ := T0
  go_wp2_with fail
  refine (KE.out _ (t24B FF.out B0)).mono ?_
  rintro r W0 ⟨lb, B, rfl, hb0, hB1, hB2, seq⟩
  have RF0 := heap_of hb0 _ _ _ Rf_0
  have RG0 := heap_of hb0 _ _ _ Rg_0
  have RK0 := heap_of hb0 _ _ _ Rk_0
  have RZ0 := heap_of hb0 _ _ _ Rz_0
  have RE0 := heap_of hb0 _ _ _ Re_0
  have BW0 := btr B0 hb0
  have TW0 := box (t24B FF.out BW0)
  have SEQ := box seq
  clear seq hs hb0 B0 Rf_0 Rg_0 Rk_0 Rz_0 Re_0
  have LE0 : w.heap.size + 1 + 1 + 1 + 1 < W0.heap.size := (Array.getElem?_eq_some_iff.1 RE0).1
  go_wp2_with fail
  refine (wpIn_wide (n := 6)).1 ?_
  refine wp_range_topM (by decide) (gf := 33) (lb := lb) rfl hE (SEQ.out 5 (by decide)) (fun _ => rfl)
    (fun M pre V => Below W0.heap.size W0 V ∧ ∀ r ∈ pre, ofQ f g k r = false)
    (fun M c pre V => c = .ret ∧ ∃ p x, pre = p ++ [x] ∧ ofQ f g k x = true ∧ (∀ r ∈ p, ofQ f g k r = false) ∧ V.heap[w.heap.size + 1 + 1 + 1]? = some (.cells (rwC x) 36) ∧ V.heap[w.heap.size + 1 + 1 + 1 + 1]? = some (.cells #[.int .i64 0] 27) ∧ Below w.heap.size w V)
    (fun M s A B row hs hg hr => ⟨hs.1.grown hg hs.1.size (fun r e => (hr r e).1), hs.2⟩)
    (fun M c s A B row hs hg hr => ⟨hs.1, by
      obtain ⟨p, x, e1, e2, e3, e4, e5, e6⟩ := hs.2
      exact ⟨p, x, e1, e2, e3, row_grq e4 hg (fun r e => (hr r e).1) (by omega), row_grq e5 hg (fun r e => (hr r e).1) (by omega), e6.grown hg e6.size (fun r e => by have := (hr r e).1; omega)⟩⟩)
    (fun M pre V hv => ⟨t24B TW0.out hv.1, heap_of hv.1 _ _ _ hB2⟩) (fun M hM => ⟨Below.refl _ _, fun r h => by cases h⟩) ?a1 (fun x => Obj.cells (rwC x) 36) ?assign ?body ?done ?stop
  case assign =>
    intro l x W K hK
    have hrn := rwC_new
    obtain ⟨m, hm⟩ : ∃ m, W.heap.size = m := ⟨_, rfl⟩
    have hK := hK (W.alloc (Obj.cells (rwC x) 36)) (World.grownBy_alloc W _ none) (by simp only [size_al]) (last7 W _)
    rw [hm] at hK
    gi_wp2
    exact hK
  case body =>
    rintro M l pre xx mm V hM0 hM1 ⟨hB, hno⟩ hl4 hsp hm0 hm1 hmx
    have cf := pcell24 (heap_of hB _ _ _ RF0)
    have cg := pcell24 (heap_of hB _ _ _ RG0)
    have ck := pcell24 (heap_of hB _ _ _ RK0)
    obtain ⟨x0, x1, x2, x3, x4, x5, x6⟩ := rwC_cells hmx
    have t1 := beqN24 xx.form f
    have t2 := beqN24 xx.frm g
    have t3 := beqN24 xx.kind k
    have hq : ofQ f g k xx = (decide (xx.form = f) && (decide (xx.frm = g) && decide (xx.kind = k))) := rfl
    have HNO := box hno
    have HB := box hB
    clear hno
    have nope : ofQ f g k xx = false → (TopM W0.heap.size M V V ∧ Below W0.heap.size W0 V ∧ ∀ r ∈ pre ++ [xx], ofQ f g k r = false) := fun h => ⟨TopM.refl _ _ _, HB.out, fun r hr => by
      rcases List.mem_append.1 hr with hr | hr
      · exact HNO.out r hr
      · rw [List.mem_singleton.1 hr]; exact h⟩
    have NOPE := box nope
    clear nope hB
    generalize decide (xx.form = f) = b1 at *
    generalize decide (xx.frm = g) = b2 at *
    generalize decide (xx.kind = k) = b3 at *
    have HQ := box hq
    clear hq
    cases b1
    · gi_wp2
      exact NOPE.out HQ.out
    · cases b2
      · gi_wp2
        exact NOPE.out HQ.out
      · cases b3
        · gi_wp2
          exact NOPE.out HQ.out
        · have hfo := rwC_fold xx
          have hst := rwC_storeG (r := xx) (heap_of HB.out _ _ _ RZ0) rfl
          have rz := setRow_row (c' := rwC xx) (heap_of HB.out _ _ _ RZ0)
          have rE := (setRow_other (w := V) (b := w.heap.size + 1 + 1 + 1) (b' := w.heap.size + 1 + 1 + 1 + 1) (c' := rwC xx) (by omega)).trans (heap_of HB.out _ _ _ RE0)
          have bz : Below w.heap.size w (V.setRow (w.heap.size + 1 + 1 + 1) (rwC xx)) := Below.setRow (BW0.trans (HB.out.mono BW0.size)) (by omega)
          have tz : TopM W0.heap.size M V (V.setRow (w.heap.size + 1 + 1 + 1) (rwC xx)) := ⟨bz_size24 _ _ _, fun q a c => setRow_other (by omega)⟩
          obtain ⟨VZ, hVZ⟩ : ∃ X, V.setRow (w.heap.size + 1 + 1 + 1) (rwC xx) = X := ⟨_, rfl⟩
          rw [hVZ] at hst rz rE bz tz
          have fe := fz (k := 0) rE
          have ce := pcell24 rE
          clear hVZ
          gi_wp2
          refine ⟨tz.trans ⟨((Below.refl 0 VZ).setCell (p := ⟨w.heap.size + 1 + 1 + 1 + 1, 0, none⟩) (Nat.zero_le _) _).size, fun q a c => setCell_other (by omega)⟩, rfl, pre, xx, rfl, HQ.out, HNO.out, ?_, ?_, ?_⟩
          · rw [setCell_other (by omega)]; exact rz
          · rw [setCell_row rE]; rfl
          · exact bz.setCell (p := ⟨w.heap.size + 1 + 1 + 1 + 1, 0, none⟩) (show w.heap.size ≤ w.heap.size + 1 + 1 + 1 + 1 by omega) _
  case done =>
    rintro M D ys V hM hD rfl ⟨hB, hno⟩ hK
    have hp : ofP o f g k = none := List.find?_eq_none.2 (fun r hr => by rw [hno r hr]; decide)
    have hv := HV.out
    rw [hp] at hv
    obtain ⟨rfl, rfl⟩ := hv
    have hzf := rwz_fold
    have hst := rwC_storeG (r := rwZ) (heap_of hB _ _ _ RZ0) rfl
    have rz := setRow_row (c' := rwC rwZ) (heap_of hB _ _ _ RZ0)
    have rE := (setRow_other (w := V) (b := w.heap.size + 1 + 1 + 1) (b' := w.heap.size + 1 + 1 + 1 + 1) (c' := rwC rwZ) (by omega)).trans (heap_of hB _ _ _ RE0)
    have rD := (setRow_other (w := V) (b := w.heap.size + 1 + 1 + 1) (b' := D) (c' := rwC rwZ) (by omega)).trans hK
    have bz : Below w.heap.size w (V.setRow (w.heap.size + 1 + 1 + 1) (rwC rwZ)) := Below.setRow (BW0.trans (hB.mono BW0.size)) (by omega)
    obtain ⟨VZ, hVZ⟩ : ∃ X, V.setRow (w.heap.size + 1 + 1 + 1) (rwC rwZ) = X := ⟨_, rfl⟩
    rw [hVZ] at hst rz rE bz rD
    have fe := fz (k := 0) rE
    have ce := pcell24 rE
    clear hVZ
    go_wp2
    refine leaves_re (Ds := [D]) (Tryd.results21) rfl rfl (Marks.cons (Marks.nil _ _) (by omega) (fun E h => by cases h) (set_cells24 (by omega) rD)) ?_ ?_ ?_
    · rw [setCell_other (by omega)]; exact rz
    · rw [setCell_row rE]; rfl
    · exact bz.setCell (p := ⟨w.heap.size + 1 + 1 + 1 + 1, 0, none⟩) (show w.heap.size ≤ w.heap.size + 1 + 1 + 1 + 1 by omega) _
  case stop =>
    rintro M D c pre V hM hD hpre ⟨rfl, p, x, rfl, e2, e3, e4, e5, e6⟩ hK
    have hp : ofP o f g k = some x := find_pre hpre e3 e2
    have hv := HV.out
    rw [hp] at hv
    obtain ⟨rfl, rfl⟩ := hv
    gi_wp2
    exact leaves_re (Ds := [D]) (Tryd.results21) rfl rfl (Marks.cons (Marks.nil _ _) (by omega) (fun E h => by cases h) hK) e4 e5 e6
attribute [local go_sem] Oper.semAt_some

theorem own_grown24 {W W' : World} {base : Nat} {e : TypeId} {size n : Nat} {v : Value} {xs : List Value} {row : Option Nat} (h : W.ownsRow base e size v n xs) (hg : W.grownBy W' row) (hr : ∀ r, row = some r → ∃ o : Obj, W.heap[r]? = some o ∧ o.isCells = false) : W'.ownsRow base e size v n xs := by
  refine h.kept hg ?_
  by_cases z : v.ownBlock = none
  · exact .inl z
  · right
    intro q
    rcases h.2 with ⟨a, _⟩ | ⟨g, cap, cur, a1, a2, a3, _⟩
    · exact z (by rw [a]; rfl)
    · have hv : v.ownBlock = some g := by rw [a1]; rfl
      obtain ⟨o, h1, h2⟩ := hr g (by rw [← q, hv])
      rw [a3] at h1
      cases h1
      exact absurd h2 (by simp [Obj.isCells])
theorem own_below24 {W W' : World} {base : Nat} {e : TypeId} {size n : Nat} {v : Value} {xs : List Value} (h : W.ownsRow base e size v n xs) (hb : Below W.heap.size W W') : W'.ownsRow base e size v n xs :=
  own_grown24 h (below_grown24 hb) (fun r e => by cases e)
theorem own_slice24 {w : World} {base : Nat} {e : TypeId} {size n : Nat} {v : Value} {xs : List Value} (h : w.ownsRow base e size v n xs) (hn : 0 < n) : ∃ g cap, v = .slice (some ⟨g, 0, none⟩) n cap := by
  rcases h.2 with ⟨_, q⟩ | ⟨g, cap, cur, h1, _⟩
  · omega
  · exact ⟨g, cap, h1⟩
theorem own_rws24 {w : World} {base : Nat} {v : Value} {l : List Rw} (h : w.ownsRow base 36 7 v l.length (rwsC l)) (hl : 0 < l.length) : ∃ g cap cur, v = .slice (some ⟨g, 0, none⟩) l.length cap ∧ base ≤ g ∧ w.heap[g]? = some (.cells cur 36) ∧ ∀ k p, l[k]? = some p → ∀ j u, j < 7 → (rwC p)[j]? = some u → cur[k * 7 + j]? = some u := by
  rcases h.2 with ⟨_, q⟩ | ⟨g, cap, cur, h1, h2, h3, h4, h5, h6, h7⟩
  · omega
  · refine ⟨g, cap, cur, h1, h2, h3, fun k p hp j u hj hu => ?_⟩
    have hk : k < l.length := (List.getElem?_eq_some_iff.1 hp).1
    have hlt : k * 7 + j < l.length * 7 := by omega
    have a := rwsC_at l k j p hp hj
    have hu2 : (rwC p).toList[j]? = some u := by simpa using hu
    rw [hu2, ← h7, List.getElem?_take_of_lt hlt] at a
    simpa using a
def preR (k : Nat) : List Rw := (List.range k).flatMap rwsO
theorem preR_next (k : Nat) : preR (k + 1) = preR k ++ rwsO k := by simp [preR, List.range_succ]
theorem preR_all : preR 32 = allL.map (·.1) := rwsO_all
theorem preR_len {k : Nat} (h : k ≤ 32) : (preR k).length ≤ 136 := by
  have q : preR k <+: preR 32 := fm_pre _ (range_pre h)
  have := q.length_le
  rw [preR_all, List.length_map, allL_len] at this
  exact this
theorem rws_OwnsRws {w V : World} {v : Value} (hb : Below w.heap.size w V) (ho : V.ownsRow (w.heap.size + 1) 36 7 v (preR 32).length (rwsC (preR 32))) : OwnsRws w V v := by
  have hl : (preR 32).length = 136 := by rw [preR_all, List.length_map, allL_len]
  obtain ⟨g, cap, cur, h1, h2, h3, h4⟩ := own_rws24 ho (by rw [hl]; decide)
  refine ⟨g, cap, by rw [h1, hl], by omega, ⟨cur, h3, fun k p _ hp j u hj hu => h4 k p.1 ?_ j u hj hu⟩, hb⟩
  rw [preR_all, List.getElem?_map, hp]
  rfl
theorem OwnsRws.put {w V : World} {v : Value} {D : Nat} {l : Option (List Deferred)} {o : Obj} (h : OwnsRws w V v) (hD : w.heap.size ≤ D) (hd : V.heap[D]? = some (.deferred l)) : OwnsRws w (V.putObj D o) v := by
  obtain ⟨g, cap, h1, h2, ⟨cur, h3, h4⟩, h5⟩ := h
  exact ⟨g, cap, h1, h2, ⟨cur, put_cells24 hd h3, h4⟩, below_put24 h5 hD⟩
structure RwK (w : World) (L : List Rw) (Ds : List Nat) (V : World) : Prop where
  b : Below w.heap.size w V
  d : Marks w.heap.size Ds V
  o : ∃ v, V.heap[w.heap.size]? = some (.cells #[v] 24) ∧ V.ownsRow (w.heap.size + 1) 36 7 v L.length (rwsC L)
theorem RwK.below {w V W : World} {L : List Rw} {Ds : List Nat} (h : RwK w L Ds V) (hb : Below V.heap.size V W) : RwK w L Ds W := by
  obtain ⟨v, h1, h2⟩ := h.o
  exact ⟨h.b.trans (hb.mono h.b.size), h.d.below hb, v, heap_of hb _ _ _ h1, own_below24 h2 hb⟩
structure RwM (w W0 : World) (k B M : Nat) (L : List Rw) (Ds : List Nat) (V : World) : Prop where
  b : Below w.heap.size w V
  d : Marks w.heap.size Ds V
  z : W0.heap.size ≤ V.heap.size
  e : V.heap[B]? = some (.cells #[.int .u8 (k : Nat)] 30)
  o : ∃ v, V.heap[w.heap.size]? = some (.cells #[v] 24) ∧ V.ownsRow (w.heap.size + 1) 36 7 v L.length (rwsC L) ∧ (∀ E, v.ownBlock = some E → E < W0.heap.size ∨ M ≤ E) ∧ v.ownBlock ≠ some B
theorem RwM.start {w W0 : World} {k B M : Nat} {L : List Rw} {Ds : List Nat} (h : RwK w L Ds W0) (hB : W0.heap[B]? = some (.cells #[.int .u8 (k : Nat)] 30)) (hv : ∀ v, W0.heap[w.heap.size]? = some (.cells #[v] 24) → v.ownBlock ≠ some B) (hM : W0.heap.size ≤ M) : RwM w W0 k B M L Ds W0 := by
  obtain ⟨v, h1, h2⟩ := h.o
  exact ⟨h.b, h.d, Nat.le_refl _, hB, v, h1, h2, fun E hE => .inl (h2.lt E hE).2, hv v h1⟩
theorem RwM.grown {w W0 : World} {k B' M : Nat} {L : List Rw} {Ds : List Nat} {A B : World} {row : Option Nat} (h : RwM w W0 k B' M L Ds A) (hD : ∀ D ∈ Ds, D < W0.heap.size) (h0 : w.heap.size < W0.heap.size) (hB : B' < W0.heap.size) (hg : A.grownBy B row) (hr : ∀ r, row = some r → W0.heap.size ≤ r ∧ ∃ o : Obj, A.heap[r]? = some o ∧ o.isCells = false) : RwM w W0 k B' M L Ds B := by
  obtain ⟨v, h1, h2, h3, h4⟩ := h.o
  refine ⟨h.b.grown hg h.b.size (fun r e => by have := (hr r e).1; omega), ⟨h.d.1, fun D hDm => ⟨(h.d.2 D hDm).1, row_grq (h.d.2 D hDm).2 hg (fun r e => (hr r e).1) (hD D hDm)⟩⟩, Nat.le_trans h.z hg.size, row_grq h.e hg (fun r e => (hr r e).1) hB, v, row_grq h1 hg (fun r e => (hr r e).1) h0, own_grown24 h2 hg (fun r e => (hr r e).2), h3, h4⟩
theorem RwM.step {w W0 : World} {k B M : Nat} {L : List Rw} {x : Rw} {Ds : List Nat} {V W6 : World} {v v' : Value} (h : RwM w W0 k B M L Ds V) (hv : V.heap[w.heap.size]? = some (.cells #[v] 24)) (hM : M ≤ V.heap.size) (h0 : w.heap.size < W0.heap.size) (hM0 : W0.heap.size ≤ M) (hB0 : w.heap.size < B)
    (own : W6.ownsRow (w.heap.size + 1) 36 7 v' (L.length + 1) (rwsC L ++ (rwC x).toList)) (gr : (V.alloc (.cells (rwC x) 36)).grownBy W6 v.ownBlock) (blk : v'.ownBlock = v.ownBlock ∨ v'.ownBlock = some (V.alloc (.cells (rwC x) 36)).heap.size) :
    TopM W0.heap.size M V (W6.setCell ⟨w.heap.size, 0, none⟩ v') ∧ RwM w W0 k B M (L ++ [x]) Ds (W6.setCell ⟨w.heap.size, 0, none⟩ v') := by
  obtain ⟨u, h1, h2, h3, h4⟩ := h.o
  rw [hv] at h1
  simp only [Option.some.injEq, Obj.cells.injEq, Array.mk.injEq, List.cons.injEq, and_true] at h1
  obtain rfl := h1
  have sz : (V.alloc (.cells (rwC x) 36)).heap.size = V.heap.size + 1 := by simp only [size_al]
  have s6 := gr.size
  rw [sz] at s6 blk
  -- a block of V that is not the row's own stands as it stood
  have keep : ∀ q, q < V.heap.size → v.ownBlock ≠ some q → W6.heap[q]? = V.heap[q]? := fun q hq hn => (gr.block q (by omega) (fun e => hn e.symm)).trans (Below.heap_alloc V _ q hq)
  have keepO : ∀ q o, V.heap[q]? = some o → v.ownBlock ≠ some q → W6.heap[q]? = some o := fun q o hq hn => (keep q (Array.getElem?_eq_some_iff.1 hq).1 hn).trans hq
  have hg0 : v.ownBlock ≠ some w.heap.size := fun e => by have := (h2.lt _ e).1; omega
  have r6 := keepO _ _ hv hg0
  have hbs := h.b.size
  refine ⟨⟨by have := ((Below.refl 0 W6).setCell (p := ⟨w.heap.size, 0, none⟩) (Nat.zero_le _) v').size; omega, fun q a b => ?_⟩, ⟨?_, ?_, ?_, ?_, v', ?_, ?_, ?_, ?_⟩⟩
  · rw [setCell_other (by omega)]
    refine keep q (by omega) (fun e => ?_)
    rcases h3 q e with z | z <;> omega
  · refine Below.setCell (p := ⟨w.heap.size, 0, none⟩) ?_ (Nat.le_refl _) _
    exact ((h.b.trans ((bal V (.cells (rwC x) 36)).mono hbs)).grown gr (by omega) (fun q e => by have := (h2.lt q e).1; omega))
  · refine ⟨h.d.1, fun D hD => ⟨(h.d.2 D hD).1, ?_⟩⟩
    have hd := (h.d.2 D hD).2
    rw [setCell_other (fun e => by subst e; rw [hv] at hd; cases hd)]
    refine keepO D _ hd (fun e => ?_)
    rcases h2.2 with ⟨a, _⟩ | ⟨g, cap, cur, a1, a2, a3, _⟩
    · rw [a] at e; cases e
    · have hvv : v.ownBlock = some g := by rw [a1]; rfl
      rw [hvv] at e
      cases e
      rw [a3] at hd
      cases hd
  · have := ((Below.refl 0 W6).setCell (p := ⟨w.heap.size, 0, none⟩) (Nat.zero_le _) v').size
    have := h.z
    omega
  · rw [setCell_other (by omega)]
    exact keepO B _ h.e h4
  · rw [setCell_row r6]; rfl
  · have e : rwsC (L ++ [x]) = rwsC L ++ (rwC x).toList := by rw [rwsC_app]; simp [rwsC]
    rw [e, List.length_append]
    exact own_setq own (by omega)
  · intro E hE
    rcases blk with z | z
    · rw [z] at hE; exact h3 E hE
    · rw [z] at hE; cases hE; right; omega
  · rcases blk with z | z
    · rw [z]; exact h4
    · rw [z]
      intro e
      cases e
      have := (Array.getElem?_eq_some_iff.1 h.e).1
      omega
theorem wplIn_rw24 {F : Fence} {n : Nat} {ops : Array Oper} {rest : List Oper} {o : Oper} {a : Act} {w : World} {Q : Exit → Act → World → Prop} (hg : o.guard = none) (parts : Array (Nat × Operand)) (ho : o.op = .buildSlice 24 1 parts) (x : Operand) (hp : parts = #[(0, x)]) (r : Rw) (hx : a.eval x = .agg (rwC r))
    (h : wpListIn F n Tryd.prog ops Q rest (a.put o.dst (.slice (some ⟨w.heap.size, 0, none⟩) 1 1)) (w.alloc (.cells (rwC r) 36))) : wpListIn F n Tryd.prog ops Q (o :: rest) a w := by
  obtain ⟨i0, hi, hz0, hz1, hz2⟩ := info_parts (show (Tryd.prog.info? 36).map (fun i => (i.zero, i.size, i.bytes)) = some (some (.agg #[.int .u8 0, .int .u8 0, .int .u8 0, .int .u8 0, .int .u32 0, .int .u32 0, .int .u8 0]), 7, 16) by kernel_rfl)
  subst hp
  refine wpListIn_plain hg fun K hK => ?_
  have hrun := run_buildSlice (P := Tryd.prog) w 24 36 1 (#[(0, x)].map fun (i, x) => (i, a.eval x)) (rwC r) i0 _ Tryd.underlying24 hi hz0 (by rw [hz1]; decide) (by rw [hz1]; decide) (by
    rw [hz1]
    simp only [List.map_toArray, List.map_cons, List.map_nil, hx]
    kernel_rfl)
  unfold Oper.wpIn
  refine ⟨?_, ?_⟩
  · simp [Oper.about, ho]
  · rw [Oper.semAt_plain F _ _ (by rw [ho]; intro c hc'; cases hc')]
    simp only [execOp, ho, Sem.run_bind, hrun, Result.andThen_ok]
    exact hK _ _ h
set_option maxRecDepth 100000 in
set_option maxHeartbeats 8000000 in
theorem t_rows (hE : ∀ args w, (callFunc 33 args).run Tryd.prog w = .ok (.enter 33 args) w) (w : World) (hT : T24 w) : Calls Tryd.prog 10 #[] w fun r w' => ∃ v, r = .returned v ∧ OwnsRws w w' v := by
  have FF := box hT
  refine (callsIn_wide (n := 6)).1 ?_
  refine callsIn_of_wp_marks Tryd.func10 rfl trivial ?_ rfl
  refine wpIn_wide.2 ?_
  simp only [Tryd.ntmps10, List.size_toArray, List.length_cons, List.length_nil, Nat.reduceAdd, Nat.reduceSub, Array.replicate_succ, Array.replicate_zero, List.push_toArray, List.append_toArray, List.nil_append, List.cons_append]
  have B0 := bal w (.cells #[.slice none 0 0] 24)
  have R0 := last7 w (.cells #[.slice none 0 0] 24)
  obtain ⟨_, _, _, b, a, cap, hs, _⟩ := t24B hT B0
  have I0 : RwK w [] [] (w.alloc (.cells #[.slice none 0 0] 24)) := ⟨B0, Marks.nil _ _, _, R0, World.ownsRow_nil _ _ _ _⟩
  clear hT B0 R0
  go_wp2
  refine wp_loop (fun A V => ∃ (k : Nat) (u2 u3 u7 u8 u9 u10 u11 u12 u13 u14 u15 u16 u17 : Value) (Ds : List Nat), k ≤ 32 ∧ A = { tmps := #[.slice none 0 0, .pointer (some ⟨w.heap.size, 0, none⟩), u2, u3, .slice (some ⟨b, a, none⟩) 32 cap, .int .i64 32, .int .i64 (k : Nat), u7, u8, u9, u10, u11, u12, u13, u14, u15, u16, u17, undef], defers := Ds.map mkD } ∧ RwK w (preR k) Ds V) (fun A _ => 32 - (intOf (A.tmps.getD 6 undef)).toNat) ?start ?round
  case start => exact ⟨0, _, _, _, _, _, _, _, _, _, _, _, _, _, [], by omega, rfl, I0⟩
  case round =>
    clear I0 hs
    rintro A V ⟨k, u2, u3, u7, u8, u9, u10, u11, u12, u13, u14, u15, u16, u17, Ds, hk, rfl, HI⟩
    by_cases hlt : k < 32
    case neg =>
      have ke : k = 32 := by omega
      subst ke
      obtain ⟨v, h1, h2⟩ := HI.o
      have cv := pcell24 h1
      have OW := rws_OwnsRws HI.b h2
      have MD := HI.d
      clear h1 h2 HI
      go_wp2
      exact leaves_marks (base := w.heap.size) (fun V => OwnsRws w V v) (fun V D hv hD hd => hv.put hD hd) (fun V hv => ⟨v, by simp [results, Tryd.results10, go_sem], v, rfl, hv⟩) Ds V MD OW
    have d1 : decide ((k : Int) < 32) = true := decide_eq_true (by omega)
    have w8 : (k : Int) % 256 = (k : Int) := by omega
    have KE := k_each k (by omega)
    go_wp2_with fail
    refine (KE.out _ (t24B FF.out HI.b)).mono ?_
    rintro r W0 ⟨lb, B, rfl, hb0, hB1, hB2, seq⟩
    have hBs : w.heap.size < B := by obtain ⟨v, h1, _⟩ := HI.o; have := (Array.getElem?_eq_some_iff.1 h1).1; omega
    have hBlt := (Array.getElem?_eq_some_iff.1 hB2).1
    have hvB : ∀ v, W0.heap[w.heap.size]? = some (.cells #[v] 24) → v.ownBlock ≠ some B := by
      intro v hv e
      obtain ⟨v2, h1, h2⟩ := HI.o
      have q := heap_of hb0 _ _ _ h1
      rw [hv] at q
      simp only [Option.some.injEq, Obj.cells.injEq, Array.mk.injEq, List.cons.injEq, and_true] at q
      obtain rfl := q
      have := (h2.lt B e).2
      omega
    have H0 := HI.below hb0
    have HD0 : ∀ D ∈ Ds, D < W0.heap.size := H0.d.lt
    have hs0 : w.heap.size < W0.heap.size := by obtain ⟨v, h1, _⟩ := H0.o; exact (Array.getElem?_eq_some_iff.1 h1).1
    have SEQ := box seq
    clear seq hb0 HI KE
    go_wp2_with fail
    obtain ⟨L, hL⟩ : ∃ L, preR k = L := ⟨_, rfl⟩
    have hnx := preR_next k
    have hlen : L.length ≤ 136 := by rw [← hL]; exact preR_len hk
    have hlen2 : (L ++ rwsO k).length ≤ 136 := by rw [← hL, ← hnx]; exact preR_len hlt
    rw [hL] at H0 hnx
    have HNX := box hnx
    have HLEN := box hlen
    have HLEN2 := box hlen2
    clear hnx hL hlen hlen2
    refine (wpIn_wide (n := 6)).1 ?_
    refine wp_range_topM (by decide) (gf := 33) (lb := lb) rfl hE (SEQ.out 5 (by decide)) (fun _ => rfl)
      (fun M pre V => RwM w W0 k B M (L ++ pre) Ds V)
      (fun M c pre V => False)
      (fun M pre A B row hs hg hr => hs.grown HD0 hs0 hBlt hg hr)
      (fun M c s A B row hs hg hr => hs)
      (fun M pre V hv => ⟨t24B FF.out hv.b, hv.e⟩) (fun M hM => by rw [List.append_nil]; exact RwM.start H0 hB2 hvB hM) ?a1 (fun x => Obj.cells (rwC x) 36) ?assign ?body ?done ?stop
    case assign =>
      intro l x W K hK
      have hrn := rwC_new
      obtain ⟨m, hm⟩ : ∃ m, W.heap.size = m := ⟨_, rfl⟩
      have hK := hK (W.alloc (Obj.cells (rwC x) 36)) (World.grownBy_alloc W _ none) (by simp only [size_al]) (last7 W _)
      rw [hm] at hK
      gi_wp2
      exact hK
    case body =>
      rintro M l pre xx mm V hM0 hM1 HK hl4 hsp hm0 hm1 hmx
      obtain ⟨Lp, hLp⟩ : ∃ X, L ++ pre = X := ⟨_, rfl⟩
      have HK : RwM w W0 k B M Lp Ds V := by rw [← hLp]; exact HK
      have HLP := box hLp
      have hl5 : Lp.length < 272 := by rw [← hLp, List.length_append]; have := HLEN.out; omega
      clear hLp
      obtain ⟨v, g1, g2, g3⟩ := HK.o
      have cv := pcell24 g1
      have hvsz := (Array.getElem?_eq_some_iff.1 g1).1
      obtain ⟨x0, x1, x2, x3, x4, x5, x6⟩ := rwC_cells hmx
      have hfo := rwC_fold xx
      have r5 : ∀ W6, (V.alloc (.cells (rwC xx) 36)).grownBy W6 v.ownBlock → W6.heap[w.heap.size]? = some (.cells #[v] 24) := fun W6 gr => (gr.block _ (by simp only [size_al]; omega) (fun e => by have := (g2.lt _ e.symm).1; omega)).trans ((Below.heap_alloc V _ _ hvsz).trans g1)
      have R5 := box r5
      have HKB := box HK
      have G1 := box g1
      have G2 := box g2
      clear r5 HK g1 g2 g3
      obtain ⟨i0, hi, hz0, hz1, hz2⟩ := info_parts (show (Tryd.prog.info? 36).map (fun i => (i.zero, i.size, i.bytes)) = some (some (.agg #[.int .u8 0, .int .u8 0, .int .u8 0, .int .u8 0, .int .u32 0, .int .u32 0, .int .u8 0]), 7, 16) by kernel_rfl)
      gi_wp2_with (first | (refine wplIn_rw24 rfl _ rfl _ rfl xx rfl ?_) | (gi_at_builtin; refine wpListIn_append_own_at _ rfl _ _ 24 rfl (w.heap.size + 1) 36 i0 (.agg #[.int .u8 0, .int .u8 0, .int .u8 0, .int .u8 0, .int .u32 0, .int .u32 0, .int .u8 0]) 7 16 Tryd.underlying24 hi hz0 hz1 hz2 rfl (by decide) _ _ _ rfl (G2.out.alloc _) ⟨V.heap.size, 0, none⟩ 1 1 (rwC xx).toList rfl rfl (new_cells24 _ (rwC xx) _) (rw_oneq xx) (by unfold maxLen; omega) (by omega) (by simp only [size_al]; omega) ?_; intro v9 w6 hown9 hgrow9 hnil9 hblk9; obtain ⟨g9, cap9, e9⟩ := own_slice24 hown9 (Nat.succ_pos _); subst e9; have c9 := pcell24 (R5.out w6 hgrow9); have f9 := fz (k := 0) (R5.out w6 hgrow9)))
      obtain ⟨tk, st⟩ := RwM.step HKB.out G1.out (by omega) hs0 hM0 hBs hown9 hgrow9 hblk9
      refine ⟨tk, ?_⟩
      show RwM w W0 k B M (L ++ (pre ++ [xx])) Ds _
      rw [← List.append_assoc, HLP.out]
      exact st
    case done =>
      rintro M D ys V hM hD rfl HK hK
      go_wp2
      obtain ⟨v, h1, h2, _⟩ := HK.o
      refine ⟨⟨k + 1, _, _, _, _, _, _, _, _, _, _, _, _, _, D :: Ds, by omega, rfl, HK.b, Marks.cons HK.d (by omega) (fun E hE => by have := HD0 E hE; omega) hK, v, h1, by rw [HNX.out]; exact h2⟩, ?_⟩
      simp [intOf]
      omega
    case stop =>
      rintro M D c pre V hM hD hpre hf hK
      exact hf.elim
theorem k_rows (hE : ∀ args w, (callFunc 33 args).run Tryd.prog w = .ok (.enter 33 args) w) : Box (∀ w, T24 w → Calls Tryd.prog 10 #[] w fun r w' => ∃ v, r = .returned v ∧ OwnsRws w w' v) := box (fun w hT => t_rows hE w hT)
set_option maxRecDepth 100000 in
set_option maxHeartbeats 4000000 in
theorem k_len (hE : ∀ args w, (callFunc 33 args).run Tryd.prog w = .ok (.enter 33 args) w) : Box (∀ w, T24 w → Calls Tryd.prog 11 #[] w fun r w' => r = .returned (.int .i64 136) ∧ Below w.heap.size w w') := box (fun w hT => by
  have KR := k_rows hE
  go_enter Tryd.func11, Tryd.ntmps11
  go_wp2_with fail
  refine (KR.out w hT).mono ?_
  rintro r w' ⟨v, rfl, g, cap, rfl, _, _, hb⟩
  go_wp2
  go_ret
  exact ⟨rfl, hb⟩)
end Go.Proofs.YtfdhglllmhggkaaDoor
namespace Go.Proofs.YtfdhglllmhggkaaDoor
set_option maxRecDepth 100000
set_option maxHeartbeats 40000000
set_option maxRecDepth 100000
open Go.RowKit Go.Shelf WMath
open Go.Maps (Keyed)
set_option linter.unusedVariables false
set_option linter.unusedSimpArgs false
attribute [local go_sem] Oper.semAt_some

theorem laid24 : laidOutB Tryd.prog = true := by kernel_rfl
theorem rowF24 : (72 : TypeId) < Tryd.prog.types.size := of_decide_eq_true (by kernel_rfl)
theorem wideF24 : (match Tryd.prog.underlying 72 with | some (.array _ _) | some (.struct _) => true | _ => false) = true := by rw [Tryd.underlying72]
theorem keyF24 : Keyed Tryd.prog 72 := Keyed.of_law (deep_law_laid laid24 (m := 2) (by omega) rowF24 (by kernel_rfl) wideF24)
def FdsOk (F : FdS) : Prop := F.opc < 256 ∧ F.rm < 256 ∧ F.rs2 < 256 ∧ F.form < 256 ∧ F.rs3 < 256
theorem fdC_inj {F G : FdS} (h : Value.agg (fdC F) = .agg (fdC G)) : F = G := by
  obtain ⟨a, b, c, d, e⟩ := F
  obtain ⟨a', b', c', d', e'⟩ := G
  simp only [fdC, Value.agg.injEq, Array.mk.injEq, List.cons.injEq, Value.int.injEq, true_and, and_true] at h
  obtain ⟨h1, h2, h3, h4, h5⟩ := h
  simp only [FdS.mk.injEq]
  omega
theorem key_fd (F : FdS) (h : FdsOk F) : ∃ kl, keyOf Tryd.prog 72 (.agg (fdC F)) = some kl := by
  obtain ⟨h0, h1, h2, h3, h4⟩ := h
  have hk : Tryd.prog.keyType 72 = true := by kernel_rfl
  have hc : Tryd.prog.cellsOf 72 = 5 := by kernel_rfl
  have hc5 : Tryd.prog.cellsOf 5 = 1 := by kernel_rfl
  have hf : (Value.agg (fdC F)).formed Tryd.prog 72 = true := by simp [Value.formed, Tryd.underlying72, hc, fdC]
  have hn : ∃ m, Tryd.prog.types.size + 1 = m + 2 := ⟨Tryd.prog.types.size - 1, by have h : (72 : Nat) < Tryd.prog.types.size := rowF24; omega⟩
  obtain ⟨m, hm⟩ := hn
  have w : ∀ a : Nat, a < 256 → (Lit.int .u8 (a : Int)).wf = true := fun a ha => by
    have e1 : IntKind.u8.min = 0 := by decide
    have e2 : IntKind.u8.max = 255 := by decide
    show (decide (IntKind.u8.min ≤ (a : Int)) && decide ((a : Int) ≤ IntKind.u8.max)) = true
    rw [e1, e2, decide_eq_true (by omega), decide_eq_true (by omega)]
    rfl
  have q : ∃ ls, Tryd.prog.keyLits (m + 2) 72 (fdC F).toList = some ls := by
    simp [Program.keyLits, Tryd.underlying72, Tryd.underlying5, hc, hc5, fdC, w _ h0, w _ h1, w _ h2, w _ h3, w _ h4]
  obtain ⟨ls, q⟩ := q
  refine ⟨.string (keyBytes ls), ?_⟩
  unfold keyOf
  rw [Tryd.underlying72, hk, hf, hm]
  simp only [Bool.and_self, if_true]
  show (Tryd.prog.keyLits (m + 2) 72 (fdC F).toList).map _ = _
  rw [q]
  rfl
def datR (r : Rw) : DataW Unit := .agg [.lit (.int .u8 (r.op : Nat)), .lit (.int .u8 (r.form : Nat)), .lit (.int .u8 (r.frm : Nat)), .lit (.int .u8 (r.kind : Nat)), .lit (.int .u32 (r.mask : Nat)), .lit (.int .u32 (r.mtch : Nat)), .lit (.int .u8 (r.lay : Nat))]
def R24 (v : Value) : Option (DataW Unit × List MemPlace) := match v with
  | .agg ⟨[.int .u8 a, .int .u8 b, .int .u8 c, .int .u8 d, .int .u32 e, .int .u32 f, .int .u8 g]⟩ => some (.agg [.lit (.int .u8 a), .lit (.int .u8 b), .lit (.int .u8 c), .lit (.int .u8 d), .lit (.int .u32 e), .lit (.int .u32 f), .lit (.int .u8 g)], [])
  | _ => none
theorem R24_of (r : Rw) : R24 (.agg (rwC r)) = some (datR r, []) := rfl
theorem R24_inv {v : Value} {r : Rw} {ps : List MemPlace} (h : R24 v = some (datR r, ps)) : v = .agg (rwC r) := by
  unfold R24 at h
  split at h
  · rename_i a b c d e f g
    simp only [datR, Option.some.injEq, Prod.mk.injEq, DataW.agg.injEq, List.cons.injEq, DataW.lit.injEq, Lit.int.injEq, true_and, and_true] at h
    obtain ⟨⟨h0, h1, h2, h3, h4, h5, h6⟩, _⟩ := h
    rw [h0, h1, h2, h3, h4, h5, h6]
    rfl
  · cases h
def keyR (r : Rw) : FdS := fdB (cutF r.mtch)
def lastR (L : List Rw) (F : FdS) : Option Rw := L.reverse.find? fun r => decide (keyR r = F)
theorem lastR_next (L : List Rw) (r : Rw) (F : FdS) : lastR (L ++ [r]) F = if keyR r = F then some r else lastR L F := by
  unfold lastR
  rw [List.reverse_append]
  by_cases h : keyR r = F
  · simp [h]
  · simp [h]
theorem keyR_ok (r : Rw) : FdsOk (keyR r) := by
  refine ⟨?_, ?_, ?_, ?_, ?_⟩ <;> simp only [keyR, fdB, cutF] <;> omega
def MapR (V : World) (b : Nat) (L : List Rw) : Prop := ∃ n D, V.ownsMap Tryd.prog 72 R24 b n D ∧ n ≤ L.length ∧ Maps.IsMap D ∧ ∀ F kl, keyOf Tryd.prog 72 (.agg (fdC F)) = some kl → Maps.has D kl = (lastR L F).isSome ∧ D.atKey kl (datR rwZ) = datR ((lastR L F).getD rwZ)
theorem MapR.start (w : World) : MapR (w.alloc (.map #[] 0)) w.heap.size [] := ⟨0, .map [], World.ownsMap_made w _ _ _, Nat.le_refl _, Maps.isMap_empty, fun F kl h => ⟨rfl, rfl⟩⟩
theorem MapR.kept {V V' : World} {b : Nat} {L : List Rw} {row : Option Nat} (h : MapR V b L) (hg : V.grownBy V' row) (hne : some b ≠ row) : MapR V' b L := by
  obtain ⟨n, D, h1, h2, h3, h4⟩ := h
  exact ⟨n, D, h1.kept hg hne, h2, h3, h4⟩
theorem MapR.below {V V' : World} {b : Nat} {L : List Rw} (h : MapR V b L) (hb : Below V.heap.size V V') : MapR V' b L := h.kept (below_grown24 hb) (by simp)
theorem MapR.lt {V : World} {b : Nat} {L : List Rw} (h : MapR V b L) : b < V.heap.size := by
  obtain ⟨n, D, h1, _⟩ := h
  exact h1.lt
theorem MapR.drew {V : World} {b : Nat} {L : List Rw} (h : MapR V b L) : MapR V.drew b L := h
theorem MapR.look {V : World} {b : Nat} {L : List Rw} (h : MapR V b L) (F : FdS) (hF : FdsOk F) : (Instr.lookup 69 (.map (some b)) (.agg (fdC F)) true).run Tryd.prog V = .ok (.tuple #[.agg (rwC ((lastR L F).getD rwZ)), .bool (lastR L F).isSome]) V := by
  obtain ⟨n, D, h1, h2, h3, h4⟩ := h
  obtain ⟨kl, hk⟩ := key_fd F hF
  have hz : (zeroValue 36).run Tryd.prog V = .ok (.agg (rwC rwZ)) V := by kernel_rfl
  obtain ⟨v, ps, hrun, hv⟩ := h1.look_ok keyF24 Tryd.underlying69 hz (R24_of rwZ) hk
  obtain ⟨q1, q2⟩ := h4 F kl hk
  rw [q2] at hv
  rw [hrun, q1, R24_inv hv]
theorem MapR.put {V : World} {b : Nat} {L : List Rw} (h : MapR V b L) (hl : L.length < 1000) (r : Rw) : ∃ V', (Instr.mapUpdate 69 (.map (some b)) (.agg (fdC (keyR r))) (.agg (rwC r))).run Tryd.prog V = .ok () V' ∧ MapR V' b (L ++ [r]) ∧ V.grownBy V' (some b) := by
  obtain ⟨n, D, h1, h2, h3, h4⟩ := h
  obtain ⟨kl, hk⟩ := key_fd (keyR r) (keyR_ok r)
  obtain ⟨V', hrun, o1, g1⟩ := h1.update keyF24 Tryd.underlying69 (by unfold maxLen; omega) hk (R24_of r)
  refine ⟨V', hrun, ⟨n + 1, D.put kl (datR r), o1, by simp; omega, h3.put _ _, fun F kl' hk' => ?_⟩, g1⟩
  rw [lastR_next]
  by_cases e : keyR r = F
  · subst e
    obtain rfl : kl = kl' := Option.some.inj (hk.symm.trans hk')
    rw [if_pos rfl]
    exact ⟨Maps.has_put_same h3 (keyF24.key hk) _, Maps.atKey_put_same h3 (keyF24.key hk) _ _⟩
  · have hne : kl' ≠ kl := fun z => e (fdC_inj (keyF24.inj hk (z ▸ hk')))
    rw [if_neg e, Maps.has_put_other hne, Maps.atKey_put_other hne]
    exact h4 F kl' hk'
structure BfK (w W0 : World) (o gm bm B : Nat) (pre : List Rw) (V : World) : Prop where
  b : Below w.heap.size w V
  z : W0.heap.size ≤ V.heap.size
  g : V.heap[gm]? = some (.cells #[.map (some bm)] 69)
  m : MapR V bm pre
  e : V.heap[B]? = some (.cells #[.int .u8 (o : Nat)] 30)
theorem BfK.grown {w W0 : World} {o gm bm B : Nat} {pre : List Rw} {X Y : World} {row : Option Nat} (h : BfK w W0 o gm bm B pre X) (hg0 : gm < W0.heap.size) (hB0 : B < W0.heap.size) (hb0 : bm < W0.heap.size) (hw : w.heap.size ≤ W0.heap.size) (hg : X.grownBy Y row) (hr : ∀ r, row = some r → W0.heap.size ≤ r ∧ ∃ o : Obj, X.heap[r]? = some o ∧ o.isCells = false) : BfK w W0 o gm bm B pre Y :=
  ⟨h.b.grown hg h.b.size (fun r e => by have := (hr r e).1; omega), Nat.le_trans h.z hg.size, row_grq h.g hg (fun r e => (hr r e).1) hg0, h.m.kept hg (fun e => by have := (hr bm e.symm).1; omega), row_grq h.e hg (fun r e => (hr r e).1) hB0⟩
theorem BfK.step {w W0 : World} {o bm B M : Nat} {pre : List Rw} {x : Rw} {V V2 V' : World} (h : BfK w W0 o (bm + 1) bm B pre V) (hM : M ≤ V.heap.size) (hM0 : W0.heap.size ≤ M) (b2 : Below V.heap.size V V2) (mp : MapR V' bm (pre ++ [x])) (gr : V2.grownBy V' (some bm)) (hb0 : bm < W0.heap.size) (hw : w.heap.size ≤ bm) (hB : B ≠ bm) (hV : W0.heap.size ≤ V.heap.size) :
    TopM W0.heap.size M V V' ∧ BfK w W0 o (bm + 1) bm B (pre ++ [x]) V' := by
  have s1 := b2.size
  have s2 := gr.size
  have keep : ∀ q o, V.heap[q]? = some o → q ≠ bm → V'.heap[q]? = some o := fun q o hq hn => (gr.block q (Nat.lt_of_lt_of_le (Array.getElem?_eq_some_iff.1 hq).1 s1) (fun e => hn (Option.some.inj e))).trans ((b2.block q (Array.getElem?_eq_some_iff.1 hq).1).trans hq)
  refine ⟨⟨by omega, fun q a b => ?_⟩, ⟨?_, ?_, keep _ _ h.g (by omega), mp, keep _ _ h.e hB⟩⟩
  · rw [gr.block q (by omega) (fun e => by have := Option.some.inj e; omega), b2.block q (by omega)]
  · exact (h.b.trans (b2.mono h.b.size)).grown gr (by have := h.b.size; omega) (fun k e => by cases e; omega)
  · omega
theorem mt_all : ((List.range 32).all fun o => (rwsO o).all fun r => decide (r.mtch < 4294967296 ∧ r.mask < 4294967296)) = true := by decide +kernel
theorem mtch24 {o : Nat} {pre : List Rw} {x : Rw} (h : pre ++ [x] <+: rwsO o) : x.mtch < 4294967296 := by
  have hx : x ∈ rwsO o := h.subset (by simp)
  by_cases ho : o < 32
  · exact (of_decide_eq_true (List.all_eq_true.1 (List.all_eq_true.1 mt_all o (List.mem_range.2 ho)) x hx)).1
  · rw [rwsO_out (by omega)] at hx
    cases hx
theorem MapR.put24 {V : World} {b D : Nat} {L : List Rw} {o : Obj} (h : MapR V b L) (hd : V.heap[D]? = some (.deferred (some []))) : MapR (V.putObj D o) b L := h.kept (grownBy_putObj' V D o) (fun e => by
  injection e with e
  obtain ⟨n, D2, h1, _⟩ := h
  obtain ⟨es, clock, hb, _⟩ := h1
  rw [e, hd] at hb
  cases hb)
set_option maxRecDepth 100000 in
set_option maxHeartbeats 8000000 in
theorem t_byFields (o : Nat) (ho : o < 256) (hE : ∀ args w, (callFunc 33 args).run Tryd.prog w = .ok (.enter 33 args) w) (w : World) (hT : T24 w) : Calls Tryd.prog 31 #[.int .u8 (o : Nat)] w fun r w' => ∃ b, r = .returned (.map (some b)) ∧ MapR w' b (rwsO o) ∧ Below w.heap.size w w' ∧ w.heap.size ≤ b := by
  have FF := box hT
  have KE := k_each o ho
  have KC := k_counts o ho
  obtain ⟨c1, hc1⟩ : ∃ c, (cnQ o).1 = c := ⟨_, rfl⟩
  obtain ⟨c2, hc2⟩ : ∃ c, (cnQ o).2.1 = c := ⟨_, rfl⟩
  obtain ⟨c3, hc3⟩ : ∃ c, (cnQ o).2.2 = c := ⟨_, rfl⟩
  rw [hc1, hc2, hc3] at KC
  clear hc1 hc2 hc3
  refine (callsIn_wide (n := 6)).1 ?_
  refine callsIn_of_wp_marks Tryd.func31 rfl trivial ?_ rfl
  refine wpIn_wide.2 ?_
  simp only [Tryd.ntmps31, List.size_toArray, List.length_cons, List.length_nil, Nat.reduceAdd, Nat.reduceSub, Array.replicate_succ, Array.replicate_zero, List.push_toArray, List.append_toArray, List.nil_append, List.cons_append]
  go_wp2_with fail
  refine (KC.out w hT).mono ?_
  rintro r w1 ⟨rfl, b1⟩
  have hmk : ∀ (z : Int) (V : World), (Instr.makeMap 69 (some (.int .i64 z))).run Tryd.prog V = .ok (.map (some V.heap.size)) (V.alloc (.map #[] 0)) := fun z V => by first | rfl | kernel_rfl
  have M0 := MapR.start w1
  have B1 := (bal w1 (.map #[] 0))
  have B2 := (bal (w1.alloc (.map #[] 0)) (.cells #[.map (some w1.heap.size)] 69))
  have R2 := last7 (w1.alloc (.map #[] 0)) (.cells #[.map (some w1.heap.size)] 69)
  have M2 := M0.below B2
  have BB := b1.trans ((B1.trans (B2.mono B1.size)).mono b1.size)
  have hsz : (w1.alloc (.map #[] 0)).heap.size = w1.heap.size + 1 := by simp only [size_al]
  have hbm := b1.size
  rw [hsz] at R2
  clear B1 B2 M0 hsz b1
  go_wp2_with fail
  refine (KE.out _ (t24B FF.out BB)).mono ?_
  rintro r W0 ⟨lb, B, rfl, hb0, hB1, hB2, seq⟩
  have RM0 := heap_of hb0 _ _ _ R2
  have MM0 := M2.below hb0
  have BW0 := BB.trans (hb0.mono BB.size)
  have hlg := (Array.getElem?_eq_some_iff.1 RM0).1
  have hlB := (Array.getElem?_eq_some_iff.1 hB2).1
  have hBg : B ≠ w1.heap.size ∧ B ≠ w1.heap.size + 1 := by
    have := (Array.getElem?_eq_some_iff.1 R2).1
    omega
  obtain ⟨bm, hbmE⟩ : ∃ x, w1.heap.size = x := ⟨_, rfl⟩
  rw [hbmE] at RM0 MM0 hlg hBg hbm
  rw [hbmE]
  have SEQ := box seq
  clear seq hb0 M2 R2 BB hmk hbmE
  go_wp2_with fail
  refine (wpIn_wide (n := 6)).1 ?_
  refine wp_range_topM (by decide) (gf := 33) (lb := lb) rfl hE (SEQ.out 5 (by decide)) (fun _ => rfl)
    (fun M pre V => BfK w W0 o (bm + 1) bm B pre V)
    (fun M c pre V => False)
    (fun M pre X Y row hs hg hr => hs.grown hlg hlB (by omega) (by omega) hg hr)
    (fun M c s X Y row hs hg hr => hs)
    (fun M pre V hv => ⟨t24B FF.out hv.b, hv.e⟩) (fun M hM => ⟨BW0, Nat.le_refl _, RM0, MM0, hB2⟩) ?a1 (fun x => Obj.cells (rwC x) 36) ?assign ?body ?done ?stop
  case assign =>
    intro l x W K hK
    have hrn := rwC_new
    obtain ⟨m, hm⟩ : ∃ m, W.heap.size = m := ⟨_, rfl⟩
    have hK := hK (W.alloc (Obj.cells (rwC x) 36)) (World.grownBy_alloc W _ none) (by simp only [size_al]) (last7 W _)
    rw [hm] at hK
    gi_wp2
    exact hK
  case body =>
    rintro M l pre xx mm V hM0 hM1 HK hl4 hsp hm0 hm1 hmx
    have hx32 : xx.mtch < 4294967296 := mtch24 hsp
    have KU : Box (∀ W, Calls Tryd.prog 32 #[.int .u32 (xx.mtch : Nat)] W fun r w' => r = .returned (.agg (fdC (keyR xx))) ∧ Below W.heap.size W w') := box (fun W => t_cut xx.mtch hx32 _ rfl W)
    have cg := pcell24 HK.g
    obtain ⟨x0, x1, x2, x3, x4, x5, x6⟩ := rwC_cells hmx
    have hfo := rwC_fold xx
    have HKB := box HK
    have HMX := box hmx
    have UPD : Box (∀ V2, Below V.heap.size V V2 → V2.cell? ⟨bm + 1, 0, none⟩ = some (.map (some bm)) ∧ (V2.cell? ⟨mm, 0, none⟩ = some (.int .u8 (xx.op : Nat)) ∧ V2.cell? ⟨mm, 1, none⟩ = some (.int .u8 (xx.form : Nat)) ∧ V2.cell? ⟨mm, 2, none⟩ = some (.int .u8 (xx.frm : Nat)) ∧ V2.cell? ⟨mm, 3, none⟩ = some (.int .u8 (xx.kind : Nat)) ∧ V2.cell? ⟨mm, 4, none⟩ = some (.int .u32 (xx.mask : Nat)) ∧ V2.cell? ⟨mm, 5, none⟩ = some (.int .u32 (xx.mtch : Nat)) ∧ V2.cell? ⟨mm, 6, none⟩ = some (.int .u8 (xx.lay : Nat))) ∧ ∃ V', (Instr.mapUpdate 69 (.map (some bm)) (.agg (fdC (keyR xx))) (.agg (rwC xx))).run Tryd.prog V2 = .ok () V' ∧ TopM W0.heap.size M V V' ∧ BfK w W0 o (bm + 1) bm B (pre ++ [xx]) V') := box (fun V2 b2 => by
      refine ⟨pcell24 (heap_of b2 _ _ _ HKB.out.g), rwC_cells (heap_of b2 _ _ _ HMX.out), ?_⟩
      obtain ⟨V', hrun, mp, gr⟩ := (HKB.out.m.below b2).put (by omega) xx
      exact ⟨V', hrun, HKB.out.step (by omega) (by omega) b2 mp gr (by omega) (by omega) (by omega) (by omega)⟩)
    clear HK hmx
    have hfw : ∀ f, Fence.wide.fn f := fun _ => trivial
    gi_wp2_with fail
    gi_region_with (first | (gi_at_call 32; refine (CallsIn.inRound l (callsIn_wide.2 (KU.out _))).mono ?_; rintro r w5 ⟨rfl, b5⟩; have b6 : Below V.heap.size V w5 := ((Below.refl V.heap.size V).drew).trans b5; obtain ⟨d0, ⟨d1, d2, d3, d4, d5, d6, d7⟩, w7, hup, tk, st⟩ := UPD.out w5 b6) | fail)
    all_goals first | exact ⟨tk, st⟩ | (gi_wp2; exact ⟨tk, st⟩)
  case done =>
    rintro M D ys V hM hD rfl HK hK
    have cg := pcell24 HK.g
    go_wp2
    refine leaves_marks (base := w.heap.size) (fun V => MapR V bm (rwsO o) ∧ Below w.heap.size w V) (fun V D hv hD hd => ⟨hv.1.put24 hd, below_put24 hv.2 hD⟩) (fun V hv => ⟨.map (some bm), by simp [results, Tryd.results31, go_sem], bm, rfl, hv.1, hv.2, by omega⟩) [D] V (Marks.cons (Marks.nil _ _) (by omega) (fun E h => by cases h) hK) ⟨HK.m, HK.b⟩
  case stop =>
    rintro M D c pre V hM hD hpre hf hK
    exact hf.elim
end Go.Proofs.YtfdhglllmhggkaaDoor
