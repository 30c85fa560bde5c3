/-
  What the functions that the statement reaches return: part 7 (FrameRow, JP, JM, JQ).
-/
import Derived.ChangeMaps5
import Derived.OpenShut
import Derived.Carry
import Derived.RangeFuncNested
import Derived.RangeFuncBound
import Derived.RangeFuncCalls
import Derived.RangeFuncLeaves
import Derived.RangeFuncFrom
import Derived.Shelf.Abstract
import Derived.Shelf.RegionOpen
import Derived.WalkKit
import Derived.OwnWalkIn
import Derived.TacticsInMore
import Derived.LoopNIn
import Derived.LoopIn
import Derived.LoopN
import Derived.Sort.QuietIn
import Derived.Deep.RegionHeld3
import Derived.Test.YtfdhglllmhggkaaDoorAa06
namespace Go.Proofs.YtfdhglllmhggkaaDoor
set_option maxRecDepth 100000
set_option maxHeartbeats 40000000
set_option maxRecDepth 100000
open WMath
open Go.ChangeShapes Go.WideShapes Go.ChangeAt Go.RowKit
set_option linter.unusedVariables false
theorem list7r {α : Type} (l : List α) (h : l.length = 7) : ∃ a b c d e f g, l = [a, b, c, d, e, f, g] := by
  match l, h with
  | [a, b, c, d, e, f, g], _ => exact ⟨a, b, c, d, e, f, g, rfl⟩
theorem trod_s7 {H : Type} {enc : TypeId × Value → H} {P : Program} {w : World} {base : Nat} {spare : Nat → Bool} {held : Bool} {t : TypeId} {f0 f1 f2 f3 f4 f5 f6 : Field} {fuel : Nat} {cs : List Value} {x : DataW H × List MemPlace} (ht : P.underlying t = some (.struct #[f0, f1, f2, f3, f4, f5, f6])) (h : DataW.trod enc P w base spare held fuel t cs = some x) :
    ∃ y0 y1 y2 y3 y4 y5 y6 n, x.1 = .agg [y0.1, y1.1, y2.1, y3.1, y4.1, y5.1, y6.1] ∧ cs.length = P.cellsOf t ∧ DataW.trod enc P w base spare held n f0.type ((cs.drop f0.offset).take (P.cellsOf f0.type)) = some y0 ∧
      DataW.trod enc P w base spare held n f1.type ((cs.drop f1.offset).take (P.cellsOf f1.type)) = some y1 ∧ DataW.trod enc P w base spare held n f2.type ((cs.drop f2.offset).take (P.cellsOf f2.type)) = some y2 ∧
      DataW.trod enc P w base spare held n f3.type ((cs.drop f3.offset).take (P.cellsOf f3.type)) = some y3 ∧ DataW.trod enc P w base spare held n f4.type ((cs.drop f4.offset).take (P.cellsOf f4.type)) = some y4 ∧
      DataW.trod enc P w base spare held n f5.type ((cs.drop f5.offset).take (P.cellsOf f5.type)) = some y5 ∧ DataW.trod enc P w base spare held n f6.type ((cs.drop f6.offset).take (P.cellsOf f6.type)) = some y6 := by
  obtain ⟨xs, n, _, rfl, hl, hlen, hf⟩ := DataW.trod_struct ht h
  match xs, hlen with
  | [y0, y1, y2, y3, y4, y5, y6], _ => exact ⟨y0, y1, y2, y3, y4, y5, y6, n, by simp, hl, by simpa using hf 0 f0 rfl, by simpa using hf 1 f1 rfl, by simpa using hf 2 f2 rfl, by simpa using hf 3 f3 rfl, by simpa using hf 4 f4 rfl, by simpa using hf 5 f5 rfl, by simpa using hf 6 f6 rfl⟩
theorem nat_u8r {x : Int} (h : (Lit.int .u8 x).wf = true) : ∃ n : Nat, n < 256 ∧ x = (n : Int) := by
  have hb := bounds_u8 h
  obtain ⟨n, rfl⟩ := Int.eq_ofNat_of_zero_le hb.1
  exact ⟨n, by omega, rfl⟩
theorem nat_u32r {x : Int} (h : (Lit.int .u32 x).wf = true) : ∃ n : Nat, n < 4294967296 ∧ x = (n : Int) := by
  have hb := bounds_u32 h
  obtain ⟨n, rfl⟩ := Int.eq_ofNat_of_zero_le hb.1
  exact ⟨n, by omega, rfl⟩
theorem rd_rw {H : Type} {enc : TypeId × Value → H} {w : World} {base : Nat} {spare : Nat → Bool} {held : Bool} {fuel : Nat} {cs : List Value} {x : DataW H × List MemPlace}
    (h : DataW.trod enc Tryd.prog w base spare held fuel 36 cs = some x) : ∃ r : Rw, RwOk r ∧ cs = (rwC r).toList := by
  have hc : Tryd.prog.cellsOf 36 = 7 := by kernel_rfl
  have h0 : Tryd.prog.cellsOf 30 = 1 := by kernel_rfl
  have h1 : Tryd.prog.cellsOf 31 = 1 := by kernel_rfl
  have h3 : Tryd.prog.cellsOf 32 = 1 := by kernel_rfl
  have h4 : Tryd.prog.cellsOf 33 = 1 := by kernel_rfl
  have h6 : Tryd.prog.cellsOf 34 = 1 := by kernel_rfl
  obtain ⟨y0, y1, y2, y3, y4, y5, y6, n, _, hl, g0, g1, g2, g3, g4, g5, g6⟩ := trod_s7 Tryd.underlying36 h
  rw [hc] at hl
  obtain ⟨c0, c1, c2, c3, c4, c5, c6, rfl⟩ := list7r cs hl
  simp only [h0, h1, h3, h4, h6, List.drop_succ_cons, List.drop_zero, List.take_succ_cons, List.take_zero] at g0 g1 g2 g3 g4 g5 g6
  obtain ⟨x0, e0, _, w0⟩ := DataW.trod_int Tryd.underlying30 g0
  obtain ⟨x1, e1, _, w1⟩ := DataW.trod_int Tryd.underlying31 g1
  obtain ⟨x2, e2, _, w2⟩ := DataW.trod_int Tryd.underlying31 g2
  obtain ⟨x3, e3, _, w3⟩ := DataW.trod_int Tryd.underlying32 g3
  obtain ⟨x4, e4, _, w4⟩ := DataW.trod_int Tryd.underlying33 g4
  obtain ⟨x5, e5, _, w5⟩ := DataW.trod_int Tryd.underlying33 g5
  obtain ⟨x6, e6, _, w6⟩ := DataW.trod_int Tryd.underlying34 g6
  obtain ⟨a0, b0, rfl⟩ := nat_u8r w0
  obtain ⟨a1, b1, rfl⟩ := nat_u8r w1
  obtain ⟨a2, b2, rfl⟩ := nat_u8r w2
  obtain ⟨a3, b3, rfl⟩ := nat_u8r w3
  obtain ⟨a4, b4, rfl⟩ := nat_u32r w4
  obtain ⟨a5, b5, rfl⟩ := nat_u32r w5
  obtain ⟨a6, b6, rfl⟩ := nat_u8r w6
  simp at e0 e1 e2 e3 e4 e5 e6
  subst e0 e1 e2 e3 e4 e5 e6
  exact ⟨⟨a0, a1, a2, a3, a4, a5, a6⟩, ⟨b0, b1, b2, b3, b4, b5, b6⟩, rfl⟩
def askC (o f g k : Nat) (r : Rw) (s : ByteArray) (lv : Int) : Array Value := #[.int .u8 (o : Nat), .int .u8 (f : Nat), .int .u8 (g : Nat), .int .u8 (k : Nat), .int .u8 (r.op : Nat), .int .u8 (r.form : Nat), .int .u8 (r.frm : Nat), .int .u8 (r.kind : Nat), .int .u32 (r.mask : Nat), .int .u32 (r.mtch : Nat), .int .u8 (r.lay : Nat), .string s, .int .i64 lv]
def AskAt (v : Value) : Prop := ∃ (o f g k : Nat) (r : Rw) (s : ByteArray) (lv : Int), o < 256 ∧ f < 256 ∧ g < 256 ∧ k < 256 ∧ RwOk r ∧ s.size ≤ maxLen ∧ (Lit.int .i64 lv).wf = true ∧ v = .agg (askC o f g k r s lv)
theorem list13r {α : Type} (l : List α) (h : l.length = 13) : ∃ a0 a1 a2 a3 a4 a5 a6 a7 a8 a9 a10 a11 a12, l = [a0, a1, a2, a3, a4, a5, a6, a7, a8, a9, a10, a11, a12] := by
  match l, h with
  | [a0, a1, a2, a3, a4, a5, a6, a7, a8, a9, a10, a11, a12], _ => exact ⟨a0, a1, a2, a3, a4, a5, a6, a7, a8, a9, a10, a11, a12, rfl⟩
theorem open_ask24 {H : Type} {enc : TypeId × Value → H} {w : World} {base b : Nat} {spare : Nat → Bool} {held : Bool} {v : Value} {d : DataW H} {p : List MemPlace}
    (hok : Value.okWide Tryd.prog w .any base 50 v) (h : DataW.Trod enc Tryd.prog w b spare held 50 v d p) : AskAt v := by
  have hc : Tryd.prog.cellsOf 50 = 13 := by kernel_rfl
  have h0 : Tryd.prog.cellsOf 30 = 1 := by kernel_rfl
  have h1 : Tryd.prog.cellsOf 31 = 1 := by kernel_rfl
  have h3 : Tryd.prog.cellsOf 32 = 1 := by kernel_rfl
  have h4 : Tryd.prog.cellsOf 36 = 7 := by kernel_rfl
  have h5 : Tryd.prog.cellsOf 9 = 1 := by kernel_rfl
  have h6 : Tryd.prog.cellsOf 3 = 1 := by kernel_rfl
  obtain ⟨cs, rfl, hsz⟩ := okWide_struct Tryd.underlying50 hok
  obtain ⟨fuel, hf⟩ := h
  obtain ⟨y0, y1, y2, y3, y4, y5, y6, n, _, hl, g0, g1, g2, g3, g4, g5, g6⟩ := trod_s7 Tryd.underlying50 hf
  rw [hc] at hl
  obtain ⟨c0, c1, c2, c3, c4, c5, c6, c7, c8, c9, c10, c11, c12, e⟩ := list13r _ hl
  rw [e] at g0 g1 g2 g3 g4 g5 g6
  simp only [h0, h1, h3, h4, h5, h6, List.drop_succ_cons, List.drop_zero, List.take_succ_cons, List.take_zero] at g0 g1 g2 g3 g4 g5 g6
  obtain ⟨x0, e0, _, w0⟩ := DataW.trod_int Tryd.underlying30 g0
  obtain ⟨x1, e1, _, w1⟩ := DataW.trod_int Tryd.underlying31 g1
  obtain ⟨x2, e2, _, w2⟩ := DataW.trod_int Tryd.underlying31 g2
  obtain ⟨x3, e3, _, w3⟩ := DataW.trod_int Tryd.underlying32 g3
  obtain ⟨r, hr, e4⟩ := rd_rw g4
  obtain ⟨s, e5, _, w5⟩ := DataW.trod_string Tryd.underlying9 g5
  obtain ⟨x6, e6, _, w6⟩ := DataW.trod_int Tryd.underlying3 g6
  obtain ⟨a0, b0, rfl⟩ := nat_u8r w0
  obtain ⟨a1, b1, rfl⟩ := nat_u8r w1
  obtain ⟨a2, b2, rfl⟩ := nat_u8r w2
  obtain ⟨a3, b3, rfl⟩ := nat_u8r w3
  simp [rwC] at e0 e1 e2 e3 e4 e5 e6
  obtain ⟨rfl, rfl, rfl, rfl, rfl, rfl, rfl⟩ := e4
  subst e0 e1 e2 e3 e5 e6
  refine ⟨a0, a1, a2, a3, r, s, x6, b0, b1, b2, b3, hr, w5, w6, ?_⟩
  congr 1
  apply Array.toList_inj.1
  simpa [Value.cells, askC] using e
end Go.Proofs.YtfdhglllmhggkaaDoor
namespace Go.Proofs.YtfdhglllmhggkaaDoor
set_option maxRecDepth 100000
set_option maxHeartbeats 40000000
set_option maxRecDepth 100000
open Go.RowKit Go.Shelf WMath
set_option linter.unusedVariables false
set_option linter.unusedSimpArgs false
attribute [local go_sem] Oper.semAt_some

def BFQ (w4 : World) (gt gi : Nat) (tn k : Int) (V : World) : Prop := V.heap[gt]? = some (.cells #[.int .i64 tn] 3) ∧ V.heap[gi]? = some (.cells #[.int .i64 k] 3) ∧ Below w4.heap.size w4 V
theorem row_grq {W W' : World} {row : Option Nat} {B g : Nat} {o : Obj} (h : W.heap[g]? = some o) (hg : W.grownBy W' row) (hr : ∀ r, row = some r → B ≤ r) (hb : g < B) : W'.heap[g]? = some o := by
  rw [hg.block g (Array.getElem?_eq_some_iff.1 h).1 (fun e => by have := hr g e.symm; omega)]
  exact h
theorem bfq_grown {w4 : World} {gt gi : Nat} {tn k : Int} {W W' : World} {row : Option Nat} {B : Nat} (h : BFQ w4 gt gi tn k W) (hg : W.grownBy W' row) (hr : ∀ r, row = some r → B ≤ r) (h0 : w4.heap.size ≤ B) (h1 : gt < B) (h2 : gi < B) : BFQ w4 gt gi tn k W' :=
  ⟨row_grq h.1 hg hr h1, row_grq h.2.1 hg hr h2, h.2.2.grown hg h.2.2.size (fun j e => by have := hr j e; omega)⟩
theorem bfq_set {w4 : World} {gt gi : Nat} {tn k : Int} {W : World} (h : BFQ w4 gt gi tn k W) (h0 : w4.heap.size ≤ gi) (h1 : gt < gi) (k' : Int) : BFQ w4 gt gi tn k' (W.setCell ⟨gi, 0, none⟩ (.int .i64 k')) :=
  ⟨by rw [setCell_other (by omega)]; exact h.1, by rw [setCell_row h.2.1]; rfl, h.2.2.setCell (p := ⟨gi, 0, none⟩) (by simpa using h0) _⟩
theorem pre_yesq {α : Type} (pre L : List α) (x : α) (hp : pre <+: L) (h : pre.length < L.length) (hx : x = L[pre.length]) : pre ++ [x] <+: L := by
  have e : pre = L.take pre.length := List.prefix_iff_eq_take.1 hp
  have : pre ++ [x] = L.take (pre.length + 1) := by
    rw [List.take_add_one, List.getElem?_eq_getElem h, hx, ← e]
    rfl
  rw [this]
  exact List.take_prefix _ _
theorem pre_noq {α : Type} (pre L : List α) (x : α) (h : ∀ h : pre.length < L.length, ¬ x = L[pre.length]) : ¬ pre ++ [x] <+: L := by
  intro q
  have hl := q.length_le
  rw [List.length_append] at hl
  have hl2 : pre.length < L.length := by simp at hl; omega
  have e := List.prefix_iff_eq_take.1 q
  have e2 : (pre ++ [x])[pre.length]? = some x := by simp
  rw [e, List.getElem?_take, if_pos (by simp), List.getElem?_eq_getElem hl2] at e2
  exact h hl2 (Option.some.inj e2).symm
theorem range_keyq {P : Program} {c : Code} {Q : Exit → Act → World → Prop} {a : Act} {w : World} {id : Nat} (R : Nat → Int → World → Prop)
    (h1 : c.wp P (fun e a' V => (e = .normal ∨ e = .exit id) ∧ ∃ D m, a' = { a with defers := { target := .collected D, args := #[] } :: a.defers } ∧ R D m V) a w)
    (h2 : ∀ D m V, R D m V → Q .normal { a with defers := { target := .collected D, args := #[] } :: a.defers } V) (h3 : ∀ a V, Q .normal a V → Q (.exit id) a V) : c.wp P Q a w :=
  wp_mono h1 fun e a' V ⟨he, D, m, ha, hr⟩ => by
    subst ha
    rcases he with rfl | rfl
    · exact h2 D m V hr
    · exact h3 _ _ (h2 D m V hr)
theorem heap_obq {W w1 : World} (hb : Below W.heap.size W w1) {b : Nat} {o : Obj} (h : W.heap[b]? = some o) : w1.heap[b]? = some o := by
  rw [hb.block b (Array.getElem?_eq_some_iff.1 h).1, h]
theorem lvq2 {P : Program} {fn : Func} {tm : Array Value} {n D D2 r : Nat} {w W : World} (hr : ∀ U : World, U.cell? ⟨r, 0, none⟩ = some (.bool true) → (results fn tm).run P U = .ok (.bool true) U)
    (h2 : W.heap[D2]? = some (.deferred (some []))) (h1 : W.heap[D]? = some (.deferred (some []))) (hd : D ≠ D2) (g1 : w.heap.size ≤ D) (g2 : w.heap.size ≤ D2) (hB : Below w.heap.size w W) (hc : W.cell? ⟨r, 0, none⟩ = some (.bool true)) :
    LeavesInM Fence.wide n P fn tm (fun e w' => e = .returned (.bool true) ∧ Below w.heap.size w w') [{ target := .collected D2, args := #[] }, { target := .collected D, args := #[] }] .returning W := by
  have h1' : (W.putObj D2 (.deferred none)).heap[D]? = some (.deferred (some [])) := (World.putObj_heap_other (fun e => hd e)).trans h1
  have hc1 := cell_kept hc (grownBy_putObj' W D2 (.deferred none)) (fun r e => by cases e; exact ⟨_, h2, rfl⟩)
  have hc2 := cell_kept hc1 (grownBy_putObj' _ D (.deferred none)) (fun r e => by cases e; exact ⟨_, h1', rfl⟩)
  have b1 := hB.trans (belowK_b (w := w) (Nat.le_refl _) W D2 _ (.deferred none) g2 h2 rfl rfl)
  have b2 := b1.trans (belowK_b (w := w) (Nat.le_refl _) _ D _ (.deferred none) g1 h1' rfl rfl)
  exact ⟨by simp, .inl ⟨_, _, rfl, run_takeDeferred h2, by simp, .inl ⟨_, _, rfl, run_takeDeferred h1', ⟨_, hr _ hc2, rfl, b2⟩⟩⟩⟩
theorem bfq_same {w4 : World} {gt gi : Nat} {tn k : Int} {V V2 : World} (h : BFQ w4 gt gi tn k V) (b : Below V.heap.size V V2) (hh : V2.heap = V.heap) : BFQ w4 gt gi tn k V2 :=
  ⟨by rw [hh]; exact h.1, by rw [hh]; exact h.2.1, h.2.2.trans (b.mono h.2.2.size)⟩
theorem keeps_sameq {V V2 : World} (hh : V2.heap = V.heap) : KeepsOthers V V2 := ⟨by rw [hh]; exact Nat.le_refl _, fun j o h _ => by rw [hh]; exact h⟩
def NoDeferQ (o : Oper) : Bool := match o.op with | .defer _ => false | _ => true
theorem noDeferQ_ne {o : Oper} (h : NoDeferQ o = true) : ∀ c, o.op ≠ .defer c := fun c e => by
  unfold NoDeferQ at h
  rw [e] at h
  cases h
section
variable {F : Fence} {n : Nat} {P : Program} {ops : Array Oper} {C : World → Prop}
theorem op_in_roundq {i : Nat} {a : Act} {K : Act → Prop} {K' : Act → World → Prop} {Q' : Exit → Act → World → Prop} {w : World} (hnd : ∀ o, ops[i]? = some o → NoDeferQ o = true) (hC : C w) (h : ∀ a w', C w' → K a → K' a w') (hh : qOpIn F n P ops C i K a) : wpOpIn F n P ops Q' i K' a w := by
  unfold qOpIn at hh
  unfold wpOpIn
  cases ho : ops[i]? with
  | none => rw [ho] at hh; exact h _ _ hC hh
  | some o =>
    rw [ho] at hh
    obtain ⟨ha, hh⟩ := hh
    by_cases hw : Region.wanted o (yielded ops a.tmps) = true
    · simp only [hw, if_true] at hh ⊢
      obtain ⟨v, h1, h2⟩ := hh
      refine ⟨ha w hC, ?_⟩
      rw [Oper.semAt_eq _ _ _ (noDeferQ_ne (hnd o ho))]
      have q := h1 w hC
      unfold Oper.quietAtIn at q
      generalize (execOp a.eval o).run P w = rr at q ⊢
      rcases rr with ⟨x, w'⟩ | ⟨x, w'⟩
      · cases x <;> simp only [Oper.quietUponIn] at q <;> simp only [Oper.uponIn]
        · rw [q.1, q.2]; exact h _ _ hC h2
        · rw [q.1, ← q.2]; exact h _ _ hC h2
        · obtain ⟨q1, q2, q3⟩ := q
          rw [q1]
          refine ⟨q2, q3.mono ?_⟩
          rintro e w2 ⟨rfl, c2⟩
          exact h _ _ c2 h2
      · simp only [Oper.quietUponIn] at q
    · simp only [hw] at hh ⊢
      exact ⟨ha w hC, h _ _ hC hh⟩
theorem any_in_roundq {md : Region.Mode} {Q : Act → Prop} {Q' : Exit → Act → World → Prop} (hnd : ∀ (i : Nat) o, ops[i]? = some o → NoDeferQ o = true) (hQ : ∀ a w, C w → Q a → Q' .normal a w) (fuel : Nat) : ∀ (listed : Array Bool) (a : Act) (w : World), C w → wpAnyQIn F n P md ops C Q fuel listed a → wpAnyIn F n P md ops Q' fuel listed a w := by
  induction fuel with
  | zero => exact fun _ a w hw h => ⟨h.1, hQ a w hw h.2⟩
  | succ f ih => exact fun _ a w hw h => ⟨fun z => hQ a w hw (h.1 z), fun i hi => op_in_roundq (hnd i) hw (fun a' w' hw' => ih _ a' w' hw') (h.2 i hi)⟩
theorem region_in_roundq {id : Nat} {Q : Exit → Act → World → Prop} {a : Act} {w : World} {l : List Oper} (hnd : l.all NoDeferQ = true) (hm : P.follows .mixedOrders = true) (hB : Region.lexB .any l.toArray = true)
    (h : wpQuietIn F n P l.toArray (fun w' => ∃ n, w' = w.drewN n) (fun a' => ∀ w', (∃ n, w' = w.drewN n) → Q .normal a' w') l a) : (Code.region id l.toArray true).wpIn F n P Q a w := by
  have hB2 := hB
  simp only [Region.lexB, Bool.and_eq_true] at hB2
  refine wpIn_region_any hm (any_in_roundq (C := fun w' => ∃ n, w' = w.drewN n) (Q := fun a' => ∀ w', (∃ n, w' = w.drewN n) → Q .normal a' w') (fun i o ho => List.all_eq_true.1 hnd o (by simp at ho; exact List.mem_of_getElem? ho)) (fun _ w' hw' h => h w' hw') _ _ _ _ ⟨1, rfl⟩ ?_)
  have := wpAnyQIn_lex (F := F) (n := n) (C := fun w' => ∃ n, w' = w.drewN n) (md := .any) hB2.1 l.toArray.toList 0 (Array.replicate l.toArray.size false) a (by simp) (by simpa using hB2.2) h
  simpa using this
end
theorem cutq {G C : Prop} (h : G → C) (k : G) : C := h k
end Go.Proofs.YtfdhglllmhggkaaDoor
namespace Go.Proofs.YtfdhglllmhggkaaDoor
set_option maxRecDepth 100000
set_option maxHeartbeats 40000000
set_option maxRecDepth 100000
open Go.RowKit WMath
set_option linter.unusedVariables false
structure TopK (B : Nat) (W W' : World) : Prop where
  size : W.heap.size ≤ W'.heap.size
  same : ∀ k, B ≤ k → k < W.heap.size → W'.heap[k]? = W.heap[k]?
theorem TopK.refl (B : Nat) (W : World) : TopK B W W := ⟨Nat.le_refl _, fun _ _ _ => rfl⟩
theorem TopK.trans {B : Nat} {X Y Z : World} (h : TopK B X Y) (k : TopK B Y Z) : TopK B X Z :=
  ⟨Nat.le_trans h.size k.size, fun i a b => (k.same i a (Nat.lt_of_lt_of_le b h.size)).trans (h.same i a b)⟩
theorem TopK.mono {B C : Nat} {X Y : World} (h : TopK B X Y) (c : B ≤ C) : TopK C X Y := ⟨h.size, fun i a b => h.same i (Nat.le_trans c a) b⟩
theorem TopK.grown {B : Nat} {W W' : World} {row : Option Nat} (hg : W.grownBy W' row) (hr : ∀ r, row = some r → r < B) : TopK B W W' :=
  ⟨hg.size, fun k a b => hg.block k b (fun e => by have := hr k e.symm; omega)⟩
theorem TopK.setCell {B : Nat} (W : World) (b i : Nat) (v : Value) (h : b < B) : TopK B W (W.setCell ⟨b, i, none⟩ v) := by
  refine ⟨?_, fun k a c => setCell_other (by omega)⟩
  exact ((Below.refl 0 W).setCell (p := ⟨b, i, none⟩) (Nat.zero_le _) v).size
theorem TopK.alloc {B : Nat} (W : World) (o : Obj) : TopK B W (W.alloc o) :=
  ⟨((Below.refl 0 W).alloc (Nat.zero_le _) o).size, fun k a b => Below.heap_alloc W o k b⟩
theorem TopK.putObj {B : Nat} (W : World) (l : Nat) (o : Obj) (h : l < B) : TopK B W (W.putObj l o) := .grown (grownBy_putObj' W l o) (fun r e => by cases e; exact h)
theorem TopK.below {B : Nat} {W W' : World} (h : Below W.heap.size W W') : TopK B W W' := ⟨h.size, fun k a b => h.block k b⟩
theorem TopK.row {B : Nat} {W W' : World} (h : TopK B W W') {k : Nat} {o : Obj} (a : B ≤ k) (hk : W.heap[k]? = some o) : W'.heap[k]? = some o := (h.same k a (Array.getElem?_eq_some_iff.1 hk).1).trans hk
def SeqTop {α : Type} (n : Nat) (P : Program) (g : Nat) (lb : Array Value) (encs : α → Array Value) (n₀ : Nat) (S Sp : List α → Prop) (N : Nat) (w : World) : Prop :=
  ∀ (l : Nat) (J Jx : List α → World → Prop) (W : World), Below w.heap.size w W → OwnFrom W.heap.size J → OwnFrom W.heap.size Jx →
    (∀ pre x V, J pre V → pre.length < N → YieldAt Fence.wide (n - 1) P l (encs x) V fun e V' => TopK W.heap.size V V' ∧
      ((e = .returned (.bool true) ∧ J (pre ++ [x]) V' ∧ Below n₀ V V') ∨ (e = .returned (.bool false) ∧ Jx (pre ++ [x]) V'))) →
    J [] W →
    CallsIn Fence.wide n P g (#[.func (.yield l) #[] #[]] ++ lb) W fun e V => (∃ v, e = .returned v) ∧ ((∃ xs, S xs ∧ J xs V) ∨ (∃ pre, Sp pre ∧ Jx pre V))

def topPost {α : Type} (B n₀ : Nat) (I : List α → World → Prop) (Ix : Code → List α → World → Prop) (xs : List α) (W : World) : Exit → Act → World → Prop
  | .normal, _, W' => TopK B W W' ∧ Below n₀ W W' ∧ I xs W'
  | .ret, _, W' => TopK B W W' ∧ Ix .ret xs W'
  | .exit id, _, W' => TopK B W W' ∧ Ix (.exit id) xs W'
  | .goto t, _, W' => TopK B W W' ∧ Ix (.goto t) xs W'
  | .panic _, _, _ => False
  | .outgrown, _, _ => False

end Go.Proofs.YtfdhglllmhggkaaDoor
namespace Go.Proofs.YtfdhglllmhggkaaDoor
set_option maxRecDepth 100000
set_option maxHeartbeats 40000000
set_option maxRecDepth 100000
open Go.RowKit WMath
set_option linter.unusedVariables false
set_option maxHeartbeats 4000000 in
theorem wp_range_topm {P : Program} {n : Nat} {α : Type} {g : Operand} {ps : Array Tmp} {assign body : Code} {Q : Exit → Act → World → Prop} {a : Act} {w : World} (h1 : 1 ≤ n)
    {gf : Nat} {lb : Array Value} (hg : a.eval g = .func (.func gf) #[] lb) (eg : ∀ args w, (callFunc gf args).run P w = .ok (.enter gf args) w)
    {encs : α → Array Value} {n₀ : Nat} {S Sp : List α → Prop} {N : Nat} {w0 : World} (hseq : SeqTop (n - 1) P gf lb encs n₀ S Sp N w0) (hn : n₀ ≤ w.heap.size) (hb : Below w0.heap.size w0 w) (hps : ∀ x, (encs x).size = ps.size)
    (I : List α → World → Prop) (Ix : Code → List α → World → Prop) (hI : OwnFrom w.heap.size I) (hIx : ∀ c, OwnFrom w.heap.size (Ix c)) (h0 : I [] w) (a₁ : α → Nat → Act) (o : α → Obj)
    (hassign : ∀ (l : Nat) (x : α) (W : World) (K : Act → World → Prop), (∀ V : World, W.grownBy V none → V.heap.size = W.heap.size + 1 → V.heap[W.heap.size]? = some (o x) → K (a₁ x W.heap.size) V) → assign.wpIn (Fence.wide.inRound l) (n - 1 - 1) P (Exit.then K (fun _ _ _ => False)) { tmps := (ps.zip (encs x)).foldl (fun t (p, v) => t.setIfInBounds p v) a.tmps, defers := [] } W)
    (hbody : ∀ (l : Nat) (pre : List α) (x : α) (m : Nat) (W : World), I pre W → pre.length < N → w.heap.size ≤ m → m + 1 = W.heap.size → W.heap[m]? = some (o x) → body.wpIn (Fence.wide.inRound l) (n - 1 - 1) P (topPost w.heap.size n₀ I Ix (pre ++ [x]) W) (a₁ x m) W)
    (hdone : ∀ (D : Nat) (xs : List α) (W : World), w.heap.size ≤ D → S xs → I xs W → W.heap[D]? = some (.deferred (some [])) → Q .normal { a with defers := { target := .collected D, args := #[] } :: a.defers } W)
    (hstop : ∀ (D : Nat) (c : Code) (pre : List α) (W : World), w.heap.size ≤ D → Sp pre → Ix c pre W → W.heap[D]? = some (.deferred (some [])) → c.wpIn Fence.wide n P Q { a with defers := { target := .collected D, args := #[] } :: a.defers } W) :
    (Code.rangeFunc g ps assign body).wpIn Fence.wide n P Q a w := by
  refine wpIn_rangeFunc (fun fn _ => ?_)
  have key : ∀ (L : LoopState → Option Code → Loop), (∀ st pe, L st pe = { state := st, pending := pe, fn, tmps := a.tmps, params := ps, assign, body, defers := w.heap.size }) → ∀ V0 : World, V0 = (w.alloc (.deferred (some []))).alloc (.loop (L .ready none)) →
      CallsIn Fence.wide (n - 1) P gf (#[.func (.yield (w.heap.size + 1)) #[] #[]] ++ lb) V0 (rangePost Fence.wide n P (w.heap.size + 1) Q { a with defers := [{ target := .collected w.heap.size, args := #[] }] ++ a.defers }) := by
    intro L hL V0 hV0
    have sz : V0.heap.size = w.heap.size + 2 := by rw [hV0]; simp only [size_al]
    have b0 : Below w.heap.size w V0 := by rw [hV0]; exact ((Below.refl _ w).alloc (Nat.le_refl _) _).alloc (by simp only [size_al]; omega) _
    have rD : V0.heap[w.heap.size]? = some (.deferred (some [])) := by
      rw [hV0]; exact (Below.heap_alloc _ _ _ (by simp only [size_al]; omega)).trans (World.alloc_heap_new w _)
    have rL : V0.heap[w.heap.size + 1]? = some (.loop (L .ready none)) := by
      have := World.alloc_heap_new (w.alloc (.deferred (some []))) (.loop (L .ready none))
      rw [size_al] at this
      rw [hV0]; exact this
    have i0 : I [] V0 := by rw [hV0]; exact hI.alloc _ (hI.alloc _ h0)
    -- the caller's word between two rounds, and behind one that has left
    have own : ∀ (o o' : Obj) (A : List α → World → Prop), OwnFrom w.heap.size A → OwnFrom V0.heap.size (fun xs W => A xs W ∧ W.heap[w.heap.size + 1]? = some o ∧ W.heap[w.heap.size]? = some o') := by
      intro o o' A hA s X Y row hs hgr hr
      refine ⟨hA s X Y row hs.1 hgr (fun r e => ⟨by have := (hr r e).1; omega, (hr r e).2⟩), ?_, ?_⟩
      · exact (hgr.block _ (Array.getElem?_eq_some_iff.1 hs.2.1).1 (fun e => by have := (hr _ e.symm).1; omega)).trans hs.2.1
      · exact (hgr.block _ (Array.getElem?_eq_some_iff.1 hs.2.2).1 (fun e => by have := (hr _ e.symm).1; omega)).trans hs.2.2
    have ownJ := own (.loop (L .ready none)) (.deferred (some [])) I hI
    have ownX : OwnFrom V0.heap.size (fun (xs : List α) W => ∃ c, Ix c xs W ∧ W.heap[w.heap.size + 1]? = some (.loop (L .done (some c))) ∧ W.heap[w.heap.size]? = some (.deferred (some []))) := by
      rintro s X Y row ⟨c, hs⟩ hgr hr
      exact ⟨c, own (.loop (L .done (some c))) (.deferred (some [])) (Ix c) (hIx c) s X Y row hs hgr hr⟩
    refine (hseq (w.heap.size + 1) _ _ V0 (hb.trans (b0.mono hb.size)) ownJ ownX ?_ ⟨i0, rL, rD⟩).mono ?_
    · rintro pre x V ⟨hi, hl, hd⟩ hlen
      have hl : V.heap[w.heap.size + 1]? = some (.loop (L .ready none)) := hl
      have hd : V.heap[w.heap.size]? = some (.deferred (some [])) := hd
      have hlt := (Array.getElem?_eq_some_iff.1 hl).1
      have hy := run_yield (P := P) (args := encs x) hl (by rw [hL]; exact hps x)
      rw [hL] at hy
      obtain ⟨busy, hbusy⟩ : ∃ o, Obj.loop { L .ready none with state := .busy } = o := ⟨_, rfl⟩
      refine ⟨fn, _, assign, body, hy, roundIn_of_wpIn trivial (hassign _ x V _ (fun V1 gV sV oV => ?_))⟩
      have hl1 : V1.heap[w.heap.size + 1]? = some (.loop (L .ready none)) := (gV.block _ hlt (by simp)).trans hl
      have hd1 : V1.heap[w.heap.size]? = some (.deferred (some [])) := (gV.block _ (by omega) (by simp)).trans hd
      have hlt1 := (Array.getElem?_eq_some_iff.1 hl1).1
      have beg := run_beginRound (P := P) hl1 (by rw [hL])
      rw [hbusy] at beg
      have hl2 : (V1.putObj (w.heap.size + 1) busy).heap[w.heap.size + 1]? = some busy := World.putObj_heap_same hlt1
      have hd2 : (V1.putObj (w.heap.size + 1) busy).heap[w.heap.size]? = some (.deferred (some [])) := (World.putObj_heap_other (by omega)).trans hd1
      have hi1 : I pre V1 := hI _ _ _ none hi gV (fun r e => by cases e)
      have hi2 : I pre (V1.putObj (w.heap.size + 1) busy) := hI.putObj _ hi1 (by omega) hl1 rfl
      have hm2 : (V1.putObj (w.heap.size + 1) busy).heap[V.heap.size]? = some (o x) := (World.putObj_heap_other (by omega)).trans oV
      have hs2 : V.heap.size + 1 = (V1.putObj (w.heap.size + 1) busy).heap.size := by
        have a := (grownBy_putObj' V1 (w.heap.size + 1) busy).size
        have b : (V1.putObj (w.heap.size + 1) busy).heap.size = V1.heap.size := by simp [World.putObj]
        omega
      refine ⟨_, beg, wpIn_mono (hbody _ pre x _ _ hi2 hlen (by omega) hs2 hm2) ?_⟩
      have t0 : TopK (w.heap.size + 2) V V1 := ⟨gV.size, fun k _ b => gV.block k b (by simp)⟩
      have t1 : TopK (w.heap.size + 2) V (V1.putObj (w.heap.size + 1) busy) := t0.trans (TopK.putObj _ _ _ (by omega))
      have b0' : Below n₀ V V1 := (Below.refl n₀ V).grown gV (by omega) (fun k e => by cases e)
      have b1 : Below n₀ V (V1.putObj (w.heap.size + 1) busy) := b0'.trans ((Below.refl n₀ V1).grown (grownBy_putObj' V1 _ _) (by omega) (fun k e => by cases e; omega))
      -- the record at the round's end
      have fin : ∀ (jump : Option Code) (X : World), TopK w.heap.size (V1.putObj (w.heap.size + 1) busy) X → ∃ X', (Instr.endRound (w.heap.size + 1) jump).run P X = .ok (.bool jump.isNone) X' ∧ X' = X.putObj (w.heap.size + 1) (.loop (L (if jump.isNone then .ready else .done) jump)) ∧
          X.heap[w.heap.size + 1]? = some busy ∧ X'.heap[w.heap.size + 1]? = some (.loop (L (if jump.isNone then .ready else .done) jump)) ∧ X'.heap[w.heap.size]? = some (.deferred (some [])) ∧ TopK (w.heap.size + 2) V X' := by
        intro jump X tx
        have r1 := tx.row (Nat.le_succ _) hl2
        have r2 := tx.row (Nat.le_refl _) hd2
        have e := run_endRound (P := P) jump (by rw [hbusy]; exact r1)
        refine ⟨_, e, by rw [hL, hL], r1, ?_, ?_, ?_⟩
        · rw [World.putObj_heap_same (Array.getElem?_eq_some_iff.1 r1).1, hL, hL]
        · exact (World.putObj_heap_other (by omega)).trans r2
        · exact (t1.trans (tx.mono (by omega))).trans (TopK.putObj _ _ _ (by omega))
      have nb : busy.isCells = false := by rw [← hbusy]; rfl
      rintro e a3 X hp
      have left : ∀ c : Code, TopK w.heap.size (V1.putObj (w.heap.size + 1) busy) X → Ix c (pre ++ [x]) X → ∃ v X', (Instr.endRound (w.heap.size + 1) (some c)).run P X = .ok v X' ∧ (TopK V0.heap.size V X' ∧ ((Ending.returned v = .returned (.bool true) ∧ (I (pre ++ [x]) X' ∧ X'.heap[w.heap.size + 1]? = some (.loop (L .ready none)) ∧ X'.heap[w.heap.size]? = some (.deferred (some []))) ∧ Below n₀ V X') ∨ (Ending.returned v = .returned (.bool false) ∧ ∃ c, Ix c (pre ++ [x]) X' ∧ X'.heap[w.heap.size + 1]? = some (.loop (L .done (some c))) ∧ X'.heap[w.heap.size]? = some (.deferred (some []))))) := by
        intro c tx hx
        obtain ⟨X', r, e', q1, q2, q3, q4⟩ := fin (some c) X tx
        refine ⟨_, _, r, by rw [sz]; exact q4, .inr ⟨rfl, c, ?_, q2, q3⟩⟩
        rw [e']
        exact (hIx c).putObj _ hx (by omega) q1 nb
      cases e with
      | normal =>
        obtain ⟨tx, bx, ix⟩ := hp
        obtain ⟨X', r, e', q1, q2, q3, q4⟩ := fin none X tx
        refine ⟨_, _, r, by rw [sz]; exact q4, .inl ⟨rfl, ⟨?_, q2, q3⟩, ?_⟩⟩
        · rw [e']
          exact hI.putObj _ ix (by omega) q1 nb
        · rw [e']
          exact (b1.trans bx).trans ((Below.refl n₀ X).grown (grownBy_putObj' X _ _) (by have := (Array.getElem?_eq_some_iff.1 q1).1; omega) (fun k e => by cases e; omega))
      | ret => exact left .ret hp.1 hp.2
      | exit id => exact left (.exit id) hp.1 hp.2
      | goto t => exact left (.goto t) hp.1 hp.2
      | panic ch => exact hp.elim
      | outgrown => exact hp.elim
    · rintro e X ⟨⟨v, rfl⟩, (⟨xs, hS, hi, hl, hd⟩ | ⟨pre, hSp, c, hi, hl, hd⟩)⟩
      · have hl : X.heap[w.heap.size + 1]? = some (.loop (L .ready none)) := hl
        refine ⟨none, _, by have := run_endLoop (P := P) hl (by rw [hL]; simp); rw [hL] at this; exact this, ?_⟩
        exact hdone _ xs _ (Nat.le_refl _) hS (hI.putObj _ hi (by omega) hl rfl) ((World.putObj_heap_other (by omega)).trans hd)
      · refine ⟨some c, _, by have := run_endLoop (P := P) hl (by rw [hL]; simp); rw [hL] at this; exact this, ?_⟩
        exact hstop _ c pre _ (Nat.le_refl _) hSp ((hIx c).putObj _ hi (by omega) hl rfl) ((World.putObj_heap_other (by omega)).trans hd)
  obtain ⟨V0, hV0⟩ : ∃ V0, (w.alloc (.deferred (some []))).alloc (.loop { state := .ready, pending := none, fn, tmps := a.tmps, params := ps, assign, body, defers := w.heap.size }) = V0 := ⟨_, rfl⟩
  have last := key (fun st pe => { state := st, pending := pe, fn, tmps := a.tmps, params := ps, assign, body, defers := w.heap.size }) (fun _ _ => rfl) V0 hV0.symm
  clear key
  obtain ⟨tg, htg⟩ : ∃ tg : Deferred, tg = { target := .fn (.func gf) lb, args := #[.func (.yield (w.heap.size + 1)) #[] #[]] } := ⟨_, rfl⟩
  have e1 : (Instr.enterLoop fn a.tmps ps assign body none).run P w = .ok (w.heap.size + 1, [{ target := .collected w.heap.size, args := #[] }]) V0 := by
    rw [← hV0]
    exact run_enterLoop_outer _ _ _ _ _
  have e2 : (resolve a.eval (rangeCall g (w.heap.size + 1)) 0).run P V0 = .ok tg V0 := by
    rw [htg]
    simp only [resolve, hg]
    simp [go_sem]
  have e3 : (invoke tg.target tg.args).run P V0 = .ok (.enter gf (#[.func (.yield (w.heap.size + 1)) #[] #[]] ++ lb)) V0 := by
    rw [htg]
    simp [invoke, go_sem, eg]
  exact ⟨_, _, _, _, _, _, _, _, e1, e2, fun _ _ => trivial, e3, fun _ => h1, last⟩
end Go.Proofs.YtfdhglllmhggkaaDoor
