/-
  What the functions that the statement reaches return: part 5 (YR, FrameL).
-/
import Derived.RangeFuncNested
import Derived.RangeFuncBound
import Derived.RangeFuncCalls
import Derived.RangeFuncLeaves
import Derived.RangeFuncFrom
import Derived.Shelf.Abstract
import Derived.Shelf.RegionOpen
import Derived.WalkKit
import Derived.OwnWalkIn
import Derived.TacticsInMore
import Derived.LoopNIn
import Derived.LoopIn
import Derived.LoopN
import Derived.Sort.QuietIn
import Derived.Deep.RegionHeld3
import Derived.Laws.AppendOwn
import Derived.ChangeMaps5
import Derived.OpenShut
import Derived.Carry
import Derived.Test.YtamlcgmipdcgjaaDoorBa04
namespace Go.Proofs.YtamlcgmipdcgjaaDoor
set_option maxRecDepth 100000
set_option maxHeartbeats 40000000
set_option maxRecDepth 100000
open Go.RowKit Go.Shelf WMath
set_option linter.unusedVariables false
set_option linter.unusedSimpArgs false
attribute [local go_sem] Oper.semAt_some

def BFI (w4 : World) (gt gi : Nat) (tn k : Int) (V : World) : Prop := V.heap[gt]? = some (.cells #[.int .i64 tn] 3) ∧ V.heap[gi]? = some (.cells #[.int .i64 k] 3) ∧ Below w4.heap.size w4 V
theorem row_grw {W W' : World} {row : Option Nat} {B g : Nat} {o : Obj} (h : W.heap[g]? = some o) (hg : W.grownBy W' row) (hr : ∀ r, row = some r → B ≤ r) (hb : g < B) : W'.heap[g]? = some o := by
  rw [hg.block g (Array.getElem?_eq_some_iff.1 h).1 (fun e => by have := hr g e.symm; omega)]
  exact h
theorem bfi_grown {w4 : World} {gt gi : Nat} {tn k : Int} {W W' : World} {row : Option Nat} {B : Nat} (h : BFI w4 gt gi tn k W) (hg : W.grownBy W' row) (hr : ∀ r, row = some r → B ≤ r) (h0 : w4.heap.size ≤ B) (h1 : gt < B) (h2 : gi < B) : BFI w4 gt gi tn k W' :=
  ⟨row_grw h.1 hg hr h1, row_grw h.2.1 hg hr h2, h.2.2.grown hg h.2.2.size (fun j e => by have := hr j e; omega)⟩
theorem bfi_set {w4 : World} {gt gi : Nat} {tn k : Int} {W : World} (h : BFI w4 gt gi tn k W) (h0 : w4.heap.size ≤ gi) (h1 : gt < gi) (k' : Int) : BFI w4 gt gi tn k' (W.setCell ⟨gi, 0, none⟩ (.int .i64 k')) :=
  ⟨by rw [setCell_other (by omega)]; exact h.1, by rw [setCell_row h.2.1]; rfl, h.2.2.setCell (p := ⟨gi, 0, none⟩) (by simpa using h0) _⟩
theorem pre_yes' {α : Type} (pre L : List α) (x : α) (hp : pre <+: L) (h : pre.length < L.length) (hx : x = L[pre.length]) : pre ++ [x] <+: L := by
  have e : pre = L.take pre.length := List.prefix_iff_eq_take.1 hp
  have : pre ++ [x] = L.take (pre.length + 1) := by
    rw [List.take_add_one, List.getElem?_eq_getElem h, hx, ← e]
    rfl
  rw [this]
  exact List.take_prefix _ _
theorem pre_no' {α : Type} (pre L : List α) (x : α) (h : ∀ h : pre.length < L.length, ¬ x = L[pre.length]) : ¬ pre ++ [x] <+: L := by
  intro q
  have hl := q.length_le
  rw [List.length_append] at hl
  have hl2 : pre.length < L.length := by simp at hl; omega
  have e := List.prefix_iff_eq_take.1 q
  have e2 : (pre ++ [x])[pre.length]? = some x := by simp
  rw [e, List.getElem?_take, if_pos (by simp), List.getElem?_eq_getElem hl2] at e2
  exact h hl2 (Option.some.inj e2).symm
theorem range_key {P : Program} {c : Code} {Q : Exit → Act → World → Prop} {a : Act} {w : World} {id : Nat} (R : Nat → Int → World → Prop)
    (h1 : c.wp P (fun e a' V => (e = .normal ∨ e = .exit id) ∧ ∃ D m, a' = { a with defers := { target := .collected D, args := #[] } :: a.defers } ∧ R D m V) a w)
    (h2 : ∀ D m V, R D m V → Q .normal { a with defers := { target := .collected D, args := #[] } :: a.defers } V) (h3 : ∀ a V, Q .normal a V → Q (.exit id) a V) : c.wp P Q a w :=
  wp_mono h1 fun e a' V ⟨he, D, m, ha, hr⟩ => by
    subst ha
    rcases he with rfl | rfl
    · exact h2 D m V hr
    · exact h3 _ _ (h2 D m V hr)
theorem heap_ob {W w1 : World} (hb : Below W.heap.size W w1) {b : Nat} {o : Obj} (h : W.heap[b]? = some o) : w1.heap[b]? = some o := by
  rw [hb.block b (Array.getElem?_eq_some_iff.1 h).1, h]
theorem lv2r {P : Program} {fn : Func} {tm : Array Value} {n D D2 r : Nat} {w W : World} (hr : ∀ U : World, U.cell? ⟨r, 0, none⟩ = some (.bool true) → (results fn tm).run P U = .ok (.bool true) U)
    (h2 : W.heap[D2]? = some (.deferred (some []))) (h1 : W.heap[D]? = some (.deferred (some []))) (hd : D ≠ D2) (g1 : w.heap.size ≤ D) (g2 : w.heap.size ≤ D2) (hB : Below w.heap.size w W) (hc : W.cell? ⟨r, 0, none⟩ = some (.bool true)) :
    LeavesInM Fence.wide n P fn tm (fun e w' => e = .returned (.bool true) ∧ Below w.heap.size w w') [{ target := .collected D2, args := #[] }, { target := .collected D, args := #[] }] .returning W := by
  have h1' : (W.putObj D2 (.deferred none)).heap[D]? = some (.deferred (some [])) := (World.putObj_heap_other (fun e => hd e)).trans h1
  have hc1 := cell_kept hc (grownBy_putObj' W D2 (.deferred none)) (fun r e => by cases e; exact ⟨_, h2, rfl⟩)
  have hc2 := cell_kept hc1 (grownBy_putObj' _ D (.deferred none)) (fun r e => by cases e; exact ⟨_, h1', rfl⟩)
  have b1 := hB.trans (belowK_b (w := w) (Nat.le_refl _) W D2 _ (.deferred none) g2 h2 rfl rfl)
  have b2 := b1.trans (belowK_b (w := w) (Nat.le_refl _) _ D _ (.deferred none) g1 h1' rfl rfl)
  exact ⟨by simp, .inl ⟨_, _, rfl, run_takeDeferred h2, by simp, .inl ⟨_, _, rfl, run_takeDeferred h1', ⟨_, hr _ hc2, rfl, b2⟩⟩⟩⟩
theorem bfi_same {w4 : World} {gt gi : Nat} {tn k : Int} {V V2 : World} (h : BFI w4 gt gi tn k V) (b : Below V.heap.size V V2) (hh : V2.heap = V.heap) : BFI w4 gt gi tn k V2 :=
  ⟨by rw [hh]; exact h.1, by rw [hh]; exact h.2.1, btr h.2.2 b⟩
theorem keeps_same {V V2 : World} (hh : V2.heap = V.heap) : KeepsOthers V V2 := ⟨by rw [hh]; exact Nat.le_refl _, fun j o h _ => by rw [hh]; exact h⟩
theorem topk_same {B : Nat} {V V2 : World} (hh : V2.heap = V.heap) : TopK B V V2 := ⟨by rw [hh]; exact Nat.le_refl _, fun k _ _ => by rw [hh]⟩
def NoDefer (o : Oper) : Bool := match o.op with | .defer _ => false | _ => true
theorem noDefer_ne {o : Oper} (h : NoDefer o = true) : ∀ c, o.op ≠ .defer c := fun c e => by
  unfold NoDefer at h
  rw [e] at h
  cases h
section
variable {F : Fence} {n : Nat} {P : Program} {ops : Array Oper} {C : World → Prop}
theorem op_in_round {i : Nat} {a : Act} {K : Act → Prop} {K' : Act → World → Prop} {Q' : Exit → Act → World → Prop} {w : World} (hnd : ∀ o, ops[i]? = some o → NoDefer o = true) (hC : C w) (h : ∀ a w', C w' → K a → K' a w') (hh : qOpIn F n P ops C i K a) : wpOpIn F n P ops Q' i K' a w := by
  unfold qOpIn at hh
  unfold wpOpIn
  cases ho : ops[i]? with
  | none => rw [ho] at hh; exact h _ _ hC hh
  | some o =>
    rw [ho] at hh
    obtain ⟨ha, hh⟩ := hh
    by_cases hw : Region.wanted o (yielded ops a.tmps) = true
    · simp only [hw, if_true] at hh ⊢
      obtain ⟨v, h1, h2⟩ := hh
      refine ⟨ha w hC, ?_⟩
      rw [Oper.semAt_eq _ _ _ (noDefer_ne (hnd o ho))]
      have q := h1 w hC
      unfold Oper.quietAtIn at q
      generalize (execOp a.eval o).run P w = rr at q ⊢
      rcases rr with ⟨x, w'⟩ | ⟨x, w'⟩
      · cases x <;> simp only [Oper.quietUponIn] at q <;> simp only [Oper.uponIn]
        · rw [q.1, q.2]; exact h _ _ hC h2
        · rw [q.1, ← q.2]; exact h _ _ hC h2
        · obtain ⟨q1, q2, q3⟩ := q
          rw [q1]
          refine ⟨q2, q3.mono ?_⟩
          rintro e w2 ⟨rfl, c2⟩
          exact h _ _ c2 h2
      · simp only [Oper.quietUponIn] at q
    · simp only [hw] at hh ⊢
      exact ⟨ha w hC, h _ _ hC hh⟩
theorem any_in_round {md : Region.Mode} {Q : Act → Prop} {Q' : Exit → Act → World → Prop} (hnd : ∀ (i : Nat) o, ops[i]? = some o → NoDefer o = true) (hQ : ∀ a w, C w → Q a → Q' .normal a w) (fuel : Nat) : ∀ (listed : Array Bool) (a : Act) (w : World), C w → wpAnyQIn F n P md ops C Q fuel listed a → wpAnyIn F n P md ops Q' fuel listed a w := by
  induction fuel with
  | zero => exact fun _ a w hw h => ⟨h.1, hQ a w hw h.2⟩
  | succ f ih => exact fun _ a w hw h => ⟨fun z => hQ a w hw (h.1 z), fun i hi => op_in_round (hnd i) hw (fun a' w' hw' => ih _ a' w' hw') (h.2 i hi)⟩
theorem region_in_round {id : Nat} {Q : Exit → Act → World → Prop} {a : Act} {w : World} {l : List Oper} (hnd : l.all NoDefer = true) (hm : P.follows .mixedOrders = true) (hB : Region.lexB .any l.toArray = true)
    (h : wpQuietIn F n P l.toArray (fun w' => ∃ n, w' = w.drewN n) (fun a' => ∀ w', (∃ n, w' = w.drewN n) → Q .normal a' w') l a) : (Code.region id l.toArray true).wpIn F n P Q a w := by
  have hB2 := hB
  simp only [Region.lexB, Bool.and_eq_true] at hB2
  refine wpIn_region_any hm (any_in_round (C := fun w' => ∃ n, w' = w.drewN n) (Q := fun a' => ∀ w', (∃ n, w' = w.drewN n) → Q .normal a' w') (fun i o ho => List.all_eq_true.1 hnd o (by simp at ho; exact List.mem_of_getElem? ho)) (fun _ w' hw' h => h w' hw') _ _ _ _ ⟨1, rfl⟩ ?_)
  have := wpAnyQIn_lex (F := F) (n := n) (C := fun w' => ∃ n, w' = w.drewN n) (md := .any) hB2.1 l.toArray.toList 0 (Array.replicate l.toArray.size false) a (by simp) (by simpa using hB2.2) h
  simpa using this
end
def wdB (bs : List Nat) (k : Nat) : Nat := bs.getD (4 * k) 0 + 256 * bs.getD (4 * k + 1) 0 + 65536 * bs.getD (4 * k + 2) 0 + 16777216 * bs.getD (4 * k + 3) 0
def wsB (bs : List Nat) : List (Int × Int) := (List.range (bs.length / 4)).map fun k => (((4 * k : Nat) : Int), ((wdB bs k : Nat) : Int))
theorem wsB_len (bs : List Nat) : (wsB bs).length = bs.length / 4 := by unfold wsB; rw [List.length_map, List.length_range]
theorem wsB_at (bs : List Nat) (k : Nat) (h : k < bs.length / 4) : (wsB bs)[k]? = some (((4 * k : Nat) : Int), ((wdB bs k : Nat) : Int)) := by
  unfold wsB
  rw [List.getElem?_map, List.getElem?_range h]
  rfl
theorem cut7c {G C : Prop} (h : G → C) (k : G) : C := h k
theorem gen_db {X : Act → World → Prop} {t0 t1 t2 t3 t4 t5 t6 t7 t8 t9 t10 t11 t12 t13 t14 t15 t16 t17 t18 t19 t20 t21 t22 t23 t24 t25 t26 t27 t28 t29 t30 t31 t32 t33 t34 t35 t36 t37 t38 t39 t40 t41 t42 t43 t44 t45 t46 t47 t48 t49 t50 t51 t52 t53 t54 t55 t56 t57 t58 t59 t60 t61 t62 t63 t64 t65 t66 t67 t68 t69 t70 t71 t72 t73 t74 t75 t76 t77 t78 t79 t80 t81 t82 t83 t84 t85 t86 t87 t88 t89 t90 t91 t92 t93 t94 t95 : Value} {d : List Deferred} {W : World} (key : ∀ u80 u81 u82 u83 u84 u85 u86 u87 u88 u89 u90 u91 u92 u93 : Value, X { tmps := #[t0, t1, t2, t3, t4, t5, t6, t7, t8, t9, t10, t11, t12, t13, t14, t15, t16, t17, t18, t19, t20, t21, t22, t23, t24, t25, t26, t27, t28, t29, t30, t31, t32, t33, t34, t35, t36, t37, t38, t39, t40, t41, t42, t43, t44, t45, t46, t47, t48, t49, t50, t51, t52, t53, t54, t55, t56, t57, t58, t59, t60, t61, t62, t63, t64, t65, t66, t67, t68, t69, t70, t71, t72, t73, t74, t75, t76, t77, t78, t79, u80, u81, u82, u83, u84, u85, u86, u87, u88, u89, u90, u91, u92, u93, t94, t95], defers := d } W) : X { tmps := #[t0, t1, t2, t3, t4, t5, t6, t7, t8, t9, t10, t11, t12, t13, t14, t15, t16, t17, t18, t19, t20, t21, t22, t23, t24, t25, t26, t27, t28, t29, t30, t31, t32, t33, t34, t35, t36, t37, t38, t39, t40, t41, t42, t43, t44, t45, t46, t47, t48, t49, t50, t51, t52, t53, t54, t55, t56, t57, t58, t59, t60, t61, t62, t63, t64, t65, t66, t67, t68, t69, t70, t71, t72, t73, t74, t75, t76, t77, t78, t79, t80, t81, t82, t83, t84, t85, t86, t87, t88, t89, t90, t91, t92, t93, t94, t95], defers := d } W := key _ _ _ _ _ _ _ _ _ _ _ _ _ _
set_option maxRecDepth 100000 in
set_option maxHeartbeats 8000000 in
theorem db_law {T : World → Prop} (FB : Box (∀ {w w' : World}, T w → Below w.heap.size w w' → T w')) (bs : List Nat) (n : Nat) (hn : bs.length = n) (hv : Box (∀ x ∈ bs, x < 256)) (hb : n ≤ 20000) (o : Option Addr) (c : Nat) (lv : Int) (gf : Nat) (w : World)
    (HB : Box (1 ≤ n → ∃ g z, o = some ⟨g, z, none⟩ ∧ ∀ W, Below w.heap.size w W → ∀ (k v : Nat), bs[k]? = some v → W.cell? ⟨g, z + k, none⟩ = some (.int .u8 (v : Nat))))
    (KL : Box (∀ w, T w → Calls Tryd.prog 13 #[] w fun r w' => r = .returned (.bool true) ∧ Below w.heap.size w w'))
    (KF : Box (∀ W, T W → Below w.heap.size w W → Calls Tryd.prog 16 #[.slice o n c] W fun r w0 => ∃ lb, r = .returned (.func (.func gf) #[] lb) ∧ Below W.heap.size W w0 ∧ ∀ n', 5 ≤ n' → SeqTop n' Tryd.prog gf lb (fun x : Int × Int => #[Value.int .i64 x.1, Value.int .u32 x.2]) w0.heap.size (fun ys => ys = wsB bs) (fun pre => pre <+: wsB bs) (n / 4) w0))
    (hE : ∀ args w, (callFunc gf args).run Tryd.prog w = .ok (.enter gf args) w)
    (hT : T w) : Calls Tryd.prog 5 #[.slice o n c, .int .i64 lv] w fun r w' => r = .returned (.bool true) ∧ Below w.heap.size w w' := by
  have FF := box hT
  clear hT
  refine (callsIn_wide (n := 6)).1 ?_
  refine callsIn_of_wp_marks Tryd.func5 rfl trivial ?_ rfl
  refine wpIn_wide.2 ?_
  simp only [Tryd.ntmps5, List.size_toArray, List.length_cons, List.length_nil, Nat.reduceAdd, Nat.reduceSub, Array.replicate_succ, Array.replicate_zero, List.push_toArray, List.append_toArray, List.nil_append, List.cons_append]
  have hll := wsB_len bs
  rw [hn] at hll
  have HAt := box (wsB_at bs)
  have HN := box hn
  clear hn
  obtain ⟨L, hL⟩ : ∃ L, wsB bs = L := ⟨_, rfl⟩
  rw [hL] at KF hll HAt
  have hnil : ∀ (lb : Array Value) (w : World), (binOp .eql 46 (.func (.func gf) #[] lb) .nilFunc).run Tryd.prog w = .ok (.bool false) w := fun _ _ => by kernel_rfl
  clear hL
  have d1 : decide ((20000 : Int) < (n : Int)) = false := decide_eq_false (by omega)
  obtain ⟨Rb_0, Rl_0, Rr_0, B0⟩ := opn3 w (Obj.cells #[.slice o n c] 44) (Obj.cells #[.int .i64 lv] 3) (Obj.cells #[.bool false] 4)
  go_wp2_with fail
  refine (KL.out _ (FB.out FF.out B0)).mono ?_
  rintro r w1 ⟨rfl, b1⟩
  have B1 : Below w.heap.size w w1 := btr B0 b1
  have Rb_1 := heap_of b1 _ _ _ Rb_0
  have Rl_1 := heap_of b1 _ _ _ Rl_0
  have Rr_1 := heap_of b1 _ _ _ Rr_0
  clear b1 B0 Rb_0 Rl_0 Rr_0
  have cb_1_0 := cells4 Rb_1 0 _ rfl
  have cl_1_0 := cells4 Rl_1 0 _ rfl
  have cr_1_0 := cells4 Rr_1 0 _ rfl
  go_wp2_with fail
  refine (KF.out _ (FB.out FF.out B1) B1).mono ?_
  rintro _ w4 ⟨lb, rfl, b4, seq⟩
  have B4 := btr B1 b4
  have Rb_4 := heap_of b4 _ _ _ Rb_1
  have Rl_4 := heap_of b4 _ _ _ Rl_1
  have Rr_4 := heap_of b4 _ _ _ Rr_1
  clear cb_1_0 cl_1_0 cr_1_0 B1 Rb_1 Rl_1 Rr_1 b4
  go_wp2_with fail
  refine wp_loop_rounds 3 ?_
  rw [rounds_succ]
  go_wp2_with fail
  obtain ⟨W0, hW0⟩ : ∃ W0, ((w4.alloc (.cells #[.int .i64 0] 3)).alloc (.cells #[.int .i64 0] 3)) = W0 := ⟨_, rfl⟩
  have hs0 : W0.heap.size = w4.heap.size + 1 + 1 := by rw [← hW0]; simp only [size_al]
  have R0 : BFI w4 w4.heap.size (w4.heap.size + 1) 0 0 W0 := by
    rw [← hW0]
    exact ⟨heap_of (bal _ _) _ _ _ (heap_alloc_last _ _), by have := heap_alloc_last (w4.alloc (.cells #[.int .i64 0] 3)) (.cells #[.int .i64 0] 3); simpa only [size_al] using this, btr (bal _ _) (bal _ _)⟩
  rw [hW0]
  clear hW0
  refine range_key (id := 2) (fun D m V => W0.heap.size ≤ D ∧ V.heap[D]? = some (.deferred (some [])) ∧ BFI w4 w4.heap.size (w4.heap.size + 1) 0 m V ∧ (m = L.length ∨ m = lv)) ?loop ?go (fun _ _ h => h)
  case loop =>
    refine (wpIn_wide (n := 6)).1 ?_
    refine wp_range_top (by decide) (gf := gf) (lb := lb) rfl hE (seq 5 (by decide)) (by omega) R0.2.2 (fun _ => rfl)
      (fun pre V => pre <+: L ∧ BFI w4 w4.heap.size (w4.heap.size + 1) 0 (pre.length : Nat) V)
      (fun c pre V => (c = .ret ∧ ¬ pre <+: L) ∨ (c = .exit 2 ∧ ((pre.length : Nat) : Int) = lv ∧ pre <+: L ∧ BFI w4 w4.heap.size (w4.heap.size + 1) 0 (pre.length : Nat) V))
      (fun s A B row hs hg hr => ⟨hs.1, bfi_grown hs.2 hg (fun r e => (hr r e).1) (by omega) (by omega) (by omega)⟩)
      (fun c s A B row hs hg hr => hs.imp id (fun h => ⟨h.1, h.2.1, h.2.2.1, bfi_grown h.2.2.2 hg (fun r e => (hr r e).1) (by omega) (by omega) (by omega)⟩))
      ⟨List.nil_prefix, R0⟩ ?a1 ?assign ?body ?done ?stop
    case assign =>
      intro l x W K hK
      gi_wp2
      exact hK
    case body =>
      rintro l pre ⟨ax, wv⟩ V ⟨hp, hR⟩ hl4
      have hlp : pre.length < n / 4 := hl4
      obtain ⟨k, hk⟩ : ∃ k : Nat, pre.length = k := ⟨_, rfl⟩
      have hk1 : (pre ++ [(ax, wv)]).length = k + 1 := by rw [List.length_append, hk]; rfl
      rw [hk] at hR hlp
      obtain ⟨g, z, rfl, HC⟩ := HB.out (by omega)
      have ci := cells4 hR.2.1 0 _ rfl
      have fi := fz (k := 0) hR.2.1
      have ct := cells4 hR.1 0 _ rfl
      have cb := cells4 (heap_of hR.2.2 _ _ _ Rb_4) 0 _ rfl
      have cl := cells4 (heap_of hR.2.2 _ _ _ Rl_4) 0 _ rfl
      have cr := cells4 (heap_of hR.2.2 _ _ _ Rr_4) 0 _ rfl
      have fr := fz (k := 0) (heap_of hR.2.2 _ _ _ Rr_4)
      have hw : IntKind.i64.wrap ((k : Int) + 1) = ((k + 1 : Nat) : Int) := by rw [IntKind.wrap_i64]; omega
      obtain ⟨p, hp4⟩ : ∃ p, 4 * k = p := ⟨_, rfl⟩
      have hw4 : IntKind.i64.wrap (4 * (k : Int)) = (p : Int) := by rw [IntKind.wrap_i64]; omega
      have hle := HN.out
      have hat := HAt.out k (by omega)
      rw [hp4] at hat
      obtain ⟨v0, h0⟩ : ∃ v, bs[p]? = some v := ⟨_, List.getElem?_eq_getElem (by omega)⟩
      obtain ⟨v1, h1⟩ : ∃ v, bs[p + 1]? = some v := ⟨_, List.getElem?_eq_getElem (by omega)⟩
      obtain ⟨v2, h2⟩ : ∃ v, bs[p + 2]? = some v := ⟨_, List.getElem?_eq_getElem (by omega)⟩
      obtain ⟨v3, h3⟩ : ∃ v, bs[p + 3]? = some v := ⟨_, List.getElem?_eq_getElem (by omega)⟩
      have x0 := hv.out v0 (List.mem_of_getElem? h0)
      have x1 := hv.out v1 (List.mem_of_getElem? h1)
      have x2 := hv.out v2 (List.mem_of_getElem? h2)
      have x3 := hv.out v3 (List.mem_of_getElem? h3)
      have hwd : wdB bs k = v0 + 256 * v1 + 65536 * v2 + 16777216 * v3 := by
        unfold wdB
        rw [hp4, List.getD_eq_getElem?_getD, List.getD_eq_getElem?_getD, List.getD_eq_getElem?_getD, List.getD_eq_getElem?_getD, h0, h1, h2, h3]
        rfl
      rw [hwd] at hat
      have Hat := box hat
      have e0 := HC V (btr B4 hR.2.2) p v0 h0
      have e1 := HC V (btr B4 hR.2.2) (p + 1) v1 h1
      have e2 := HC V (btr B4 hR.2.2) (p + 2) v2 h2
      have e3 := HC V (btr B4 hR.2.2) (p + 3) v3 h3
      have hpn : p + 4 ≤ n := by omega
      clear hat hwd h0 h1 h2 h3 hle hl4
      by_cases ha : ax = (p : Int)
      · have hne : (ax != (p : Int)) = false := by simp [ha]
        have t4 : IntKind.i64.wrap ((p : Int) + 4) = ((p + 4 : Nat) : Int) := by rw [IntKind.wrap_i64]; omega
        have t1 : IntKind.i64.wrap ((p : Int) + 1) = ((p + 1 : Nat) : Int) := by rw [IntKind.wrap_i64]; omega
        have t2 : IntKind.i64.wrap ((p : Int) + 2) = ((p + 2 : Nat) : Int) := by rw [IntKind.wrap_i64]; omega
        have t3 : IntKind.i64.wrap ((p : Int) + 3) = ((p + 3 : Nat) : Int) := by rw [IntKind.wrap_i64]; omega
        have hd : decide ((n : Int) < ((p + 4 : Nat) : Int)) = false := decide_eq_false (by omega)
        have hd2 : decide ((n : Int) < (p : Int) + 4) = false := decide_eq_false (by omega)
        have b0 : (0 : Int) ≤ (p : Int) := by omega
        have b00 : (p : Int) < (n : Int) := by omega
        have b1 : (0 : Int) ≤ ((p + 1 : Nat) : Int) := by omega
        have b11 : ((p + 1 : Nat) : Int) < (n : Int) := by omega
        have b2 : (0 : Int) ≤ ((p + 2 : Nat) : Int) := by omega
        have b22 : ((p + 2 : Nat) : Int) < (n : Int) := by omega
        have b3 : (0 : Int) ≤ ((p + 3 : Nat) : Int) := by omega
        have b33 : ((p + 3 : Nat) : Int) < (n : Int) := by omega
        have c0 : IntKind.u32.wrap ((v0 : Nat) : Int) = (v0 : Nat) := by rw [show ∀ y : Int, IntKind.u32.wrap y = y % 4294967296 from fun _ => rfl]; omega
        have c1 : IntKind.u32.wrap ((v1 : Nat) : Int) = (v1 : Nat) := by rw [show ∀ y : Int, IntKind.u32.wrap y = y % 4294967296 from fun _ => rfl]; omega
        have c2 : IntKind.u32.wrap ((v2 : Nat) : Int) = (v2 : Nat) := by rw [show ∀ y : Int, IntKind.u32.wrap y = y % 4294967296 from fun _ => rfl]; omega
        have c3 : IntKind.u32.wrap ((v3 : Nat) : Int) = (v3 : Nat) := by rw [show ∀ y : Int, IntKind.u32.wrap y = y % 4294967296 from fun _ => rfl]; omega
        clear HC
        by_cases hwv : wv = (v0 : Int) + (v1 : Int) * 256 + (v2 : Int) * 65536 + (v3 : Int) * 16777216
        · have hyes := box (pre_yes' pre L (ax, wv) hp (by omega) (by have e := Hat.out; subst hk; rw [List.getElem?_eq_getElem (by omega)] at e; rw [Option.some.inj e]; exact Prod.ext ha (by show wv = _; omega)))
          have hq0 : (wv != (v0 : Int) + (v1 : Int) * 256 + (v2 : Int) * 65536 + (v3 : Int) * 16777216) = false := by simp [hwv]
          clear hwv
          subst ha
          gi_wp2
          refine region_in_round (by kernel_rfl) (by kernel_rfl) (by kernel_rfl) ?_
          repeat (gi_big_quiet_step (fail))
          refine wpQuietIn_nil ?_
          intro _ hq
          obtain ⟨nq, hq⟩ := hq
          subst hq
          obtain ⟨V2, hV2, bV2, hh⟩ := quiet_world (Below.refl _ V) nq
          rw [hV2]
          clear ci fi ct cb cl cr fr e0 e1 e2 e3
          have KO := box (keeps_same hh)
          have KT := box (fun B => topk_same (B := B) hh)
          have hR2 := bfi_same hR bV2 hh
          have BV := box (bV2.mono hR.2.2.size)
          have hset := box (bfi_set hR2 (by omega) (by omega) ((k + 1 : Nat) : Int))
          have ci := cells4 hR2.2.1 0 _ rfl
          have fi := fz (k := 0) hR2.2.1
          have ct := cells4 hR2.1 0 _ rfl
          have lt4 := (Array.getElem?_eq_some_iff.1 Rl_4).1
          have cl := cells4 (heap_of hR2.2.2 _ _ _ Rl_4) 0 _ rfl
          have cl2 : ∀ u, (V2.setCell ⟨w4.heap.size + 1, 0, none⟩ u).cell? ⟨w.heap.size + 1, 0, none⟩ = some (.int .i64 lv) := fun u => (World.cell?_setCell_other _ _ _ _ (by intro e; injection e with e1; omega)).trans cl
          have cr := cells4 (heap_of hR2.2.2 _ _ _ Rr_4) 0 _ rfl
          have fr := fz (k := 0) (heap_of hR2.2.2 _ _ _ Rr_4)
          clear hR2 hR bV2 hV2 hh
          by_cases hlv : ((k + 1 : Nat) : Int) = lv
          · have hvl : (((k : Int) + 1) == lv) = true := beq_iff_eq.2 (by omega)
            gi_wp2
            refine ⟨(KT.out _).trans (TopK.setCell _ _ _ _ (by have := (Array.getElem?_eq_some_iff.1 Rr_4).1; omega)), .inr ⟨rfl, by rw [hk1]; exact hlv, hyes.out, ?_⟩⟩
            have := hset.out
            rw [hk1]
            rw [hlv] at this ⊢
            exact this
          · have hvl : (((k : Int) + 1) == lv) = false := beq_eq_false_iff_ne.2 (by omega)
            gi_wp2
            refine ⟨(KT.out _).trans (TopK.setCell _ _ _ _ (by have := (Array.getElem?_eq_some_iff.1 Rr_4).1; omega)), BV.out.setCell (p := ⟨w4.heap.size + 1, 0, none⟩) (by simp) _, hyes.out, ?_⟩
            have := hset.out
            rw [hk1]
            exact this
        · have hno := box (pre_no' pre L (ax, wv) (fun h e => by subst hk; have q := Hat.out; rw [List.getElem?_eq_getElem h, ← e] at q; injection q with q; injection q with _ q; omega))
          have hq0 : (wv != (v0 : Int) + (v1 : Int) * 256 + (v2 : Int) * 65536 + (v3 : Int) * 16777216) = true := by simp [hwv]
          clear hwv
          subst ha
          gi_wp2
          refine region_in_round (by kernel_rfl) (by kernel_rfl) (by kernel_rfl) ?_
          repeat (gi_big_quiet_step (fail))
          refine wpQuietIn_nil ?_
          intro _ hq
          obtain ⟨nq, hq⟩ := hq
          subst hq
          obtain ⟨V2, hV2, bV2, hh⟩ := quiet_world (Below.refl _ V) nq
          rw [hV2]
          clear ci fi ct cb cl cr fr e0 e1 e2 e3
          have KO := box (keeps_same hh)
          have KT := box (fun B => topk_same (B := B) hh)
          have hR2 := bfi_same hR bV2 hh
          have BV := box (bV2.mono hR.2.2.size)
          have hset := box (bfi_set hR2 (by omega) (by omega) ((k + 1 : Nat) : Int))
          have ci := cells4 hR2.2.1 0 _ rfl
          have fi := fz (k := 0) hR2.2.1
          have ct := cells4 hR2.1 0 _ rfl
          have lt4 := (Array.getElem?_eq_some_iff.1 Rl_4).1
          have cl := cells4 (heap_of hR2.2.2 _ _ _ Rl_4) 0 _ rfl
          have cl2 : ∀ u, (V2.setCell ⟨w4.heap.size + 1, 0, none⟩ u).cell? ⟨w.heap.size + 1, 0, none⟩ = some (.int .i64 lv) := fun u => (World.cell?_setCell_other _ _ _ _ (by intro e; injection e with e1; omega)).trans cl
          have cr := cells4 (heap_of hR2.2.2 _ _ _ Rr_4) 0 _ rfl
          have fr := fz (k := 0) (heap_of hR2.2.2 _ _ _ Rr_4)
          clear hR2 hR bV2 hV2 hh
          gi_wp2
          exact ⟨(KT.out _).trans (TopK.setCell _ _ _ _ (by have := (Array.getElem?_eq_some_iff.1 Rr_4).1; omega)), .inl ⟨rfl, hno.out⟩⟩
      · have hne : (ax != (p : Int)) = true := by simp [ha]
        have hno := box (pre_no' pre L (ax, wv) (fun h e => by subst hk; have q := Hat.out; rw [List.getElem?_eq_getElem h, ← e] at q; injection q with q; injection q with q _; exact ha q))
        clear HC
        · gi_wp2
          refine region_in_round (by kernel_rfl) (by kernel_rfl) (by kernel_rfl) ?_
          repeat (gi_big_quiet_step (fail))
          refine wpQuietIn_nil ?_
          intro _ hq
          obtain ⟨nq, hq⟩ := hq
          subst hq
          obtain ⟨V2, hV2, bV2, hh⟩ := quiet_world (Below.refl _ V) nq
          rw [hV2]
          clear ci fi ct cb cl cr fr e0 e1 e2 e3
          have KO := box (keeps_same hh)
          have KT := box (fun B => topk_same (B := B) hh)
          have hR2 := bfi_same hR bV2 hh
          have BV := box (bV2.mono hR.2.2.size)
          have hset := box (bfi_set hR2 (by omega) (by omega) ((k + 1 : Nat) : Int))
          have ci := cells4 hR2.2.1 0 _ rfl
          have fi := fz (k := 0) hR2.2.1
          have ct := cells4 hR2.1 0 _ rfl
          have lt4 := (Array.getElem?_eq_some_iff.1 Rl_4).1
          have cl := cells4 (heap_of hR2.2.2 _ _ _ Rl_4) 0 _ rfl
          have cl2 : ∀ u, (V2.setCell ⟨w4.heap.size + 1, 0, none⟩ u).cell? ⟨w.heap.size + 1, 0, none⟩ = some (.int .i64 lv) := fun u => (World.cell?_setCell_other _ _ _ _ (by intro e; injection e with e1; omega)).trans cl
          have cr := cells4 (heap_of hR2.2.2 _ _ _ Rr_4) 0 _ rfl
          have fr := fz (k := 0) (heap_of hR2.2.2 _ _ _ Rr_4)
          clear hR2 hR bV2 hV2 hh
          gi_wp2
          exact ⟨(KT.out _).trans (TopK.setCell _ _ _ _ (by have := (Array.getElem?_eq_some_iff.1 Rr_4).1; omega)), .inl ⟨rfl, hno.out⟩⟩
    case done =>
      rintro D ys V hD rfl ⟨hp, hR⟩ hK
      exact ⟨.inl rfl, D, _, rfl, hD, hK, hR, .inl rfl⟩
    case stop =>
      rintro D c pre V hD hpre hx hK
      rcases hx with ⟨rfl, hno⟩ | ⟨rfl, hv, hp, hR⟩
      · exact absurd hpre hno
      exact wpIn_wide.2 (wp_exit ⟨.inr rfl, D, _, rfl, hD, hK, hR, .inr hv⟩)
  case go =>
    rintro D m V ⟨hD, hK, hR, hm⟩
    have ci := cells4 hR.2.1 0 _ rfl
    have ct := cells4 hR.1 0 _ rfl
    have cb := cells4 (heap_of hR.2.2 _ _ _ Rb_4) 0 _ rfl
    have cl := cells4 (heap_of hR.2.2 _ _ _ Rl_4) 0 _ rfl
    have HM := box hm
    clear hm
    obtain ⟨q, hq⟩ : ∃ q, n / 4 = q := ⟨_, rfl⟩
    have tq : ((n : Nat) : Int).tdiv 4 = (q : Int) := by rw [← hq]; rfl
    have dq : ((n : Nat) : Int) / 4 = (q : Int) := by rw [← hq]; rfl
    have HQ := box hq
    clear hq
    apply cut7c
    · intro key
      by_cases hml : m = (q : Int)
      · have hne : (m != (q : Int)) = false := by simp [hml]
        clear hml
        go_wp2_with fail
        all_goals exact gen_db key
      · have hne : (m != (q : Int)) = true := by simp [hml]
        have hnl : (m != lv) = false := by
          rcases HM.out with h | h
          · exact absurd (h.trans (by rw [hll, HQ.out])) hml
          · simp [h]
        clear hml
        go_wp2_with fail
        all_goals exact gen_db key
    rintro u80 u81 u82 u83 u84 u85 u86 u87 u88 u89 u90 u91 u92 u93
    rw [rounds_succ]
    go_wp2_with fail
    obtain ⟨W1, hW1⟩ : ∃ W1, ((V.alloc (.cells #[.int .i64 1] 3)).alloc (.cells #[.int .i64 0] 3)) = W1 := ⟨_, rfl⟩
    have hs1 : W1.heap.size = V.heap.size + 1 + 1 := by rw [← hW1]; simp only [size_al]
    have hsV : w4.heap.size ≤ V.heap.size := hR.2.2.size
    have hDV : D < V.heap.size := (Array.getElem?_eq_some_iff.1 hK).1
    have R1 : BFI w4 V.heap.size (V.heap.size + 1) 1 0 W1 := by
      rw [← hW1]
      exact ⟨heap_of (bal _ _) _ _ _ (heap_alloc_last _ _), by have := heap_alloc_last (V.alloc (.cells #[.int .i64 1] 3)) (.cells #[.int .i64 0] 3); simpa only [size_al] using this, hR.2.2.trans ((btr (bal _ _) (bal _ _)).mono hsV)⟩
    have hK1 : W1.heap[D]? = some (.deferred (some [])) := by
      rw [← hW1, heap_below _ _ _ (by simp only [size_al]; omega), heap_below _ _ _ hDV]
      exact hK
    rw [hW1]
    clear hW1 ci ct cb cl
    refine range_key (id := 2) (fun D2 m V2 => W1.heap.size ≤ D2 ∧ V2.heap[D2]? = some (.deferred (some [])) ∧ V2.heap[D]? = some (.deferred (some [])) ∧ BFI w4 V.heap.size (V.heap.size + 1) 1 m V2 ∧ m = q) ?loop2 ?go2 (fun _ _ h => h)
    case loop2 =>
      refine (wpIn_wide (n := 6)).1 ?_
      refine wp_range_top (by decide) (gf := gf) (lb := lb) rfl hE (seq 5 (by decide)) (by omega) R1.2.2 (fun _ => rfl)
        (fun pre U => pre <+: L ∧ U.heap[D]? = some (.deferred (some [])) ∧ BFI w4 V.heap.size (V.heap.size + 1) 1 (pre.length : Nat) U)
        (fun c pre U => c = .ret ∧ ¬ pre <+: L)
        (fun s A B row hs hg hr => ⟨hs.1, row_grw hs.2.1 hg (fun r e => (hr r e).1) (by omega), bfi_grown hs.2.2 hg (fun r e => (hr r e).1) (by omega) (by omega) (by omega)⟩)
        (fun c s A B row hs hg hr => hs)
        ⟨List.nil_prefix, hK1, R1⟩ ?a2 ?assign2 ?body2 ?done2 ?stop2
      case assign2 =>
        intro l x W K hK
        gi_wp2
        exact hK
      case body2 =>
        rintro l pre ⟨ax, wv⟩ U ⟨hp, hKU, hR⟩ hl4
        have HKU := box hKU
        clear hKU
        have hlp : pre.length < n / 4 := hl4
        obtain ⟨k, hk⟩ : ∃ k : Nat, pre.length = k := ⟨_, rfl⟩
        have hk1 : (pre ++ [(ax, wv)]).length = k + 1 := by rw [List.length_append, hk]; rfl
        rw [hk] at hR hlp
        obtain ⟨g, z, rfl, HC⟩ := HB.out (by omega)
        have ci := cells4 hR.2.1 0 _ rfl
        have fi := fz (k := 0) hR.2.1
        have ct := cells4 hR.1 0 _ rfl
        have cb := cells4 (heap_of hR.2.2 _ _ _ Rb_4) 0 _ rfl
        have cl := cells4 (heap_of hR.2.2 _ _ _ Rl_4) 0 _ rfl
        have cr := cells4 (heap_of hR.2.2 _ _ _ Rr_4) 0 _ rfl
        have fr := fz (k := 0) (heap_of hR.2.2 _ _ _ Rr_4)
        have hw : IntKind.i64.wrap ((k : Int) + 1) = ((k + 1 : Nat) : Int) := by rw [IntKind.wrap_i64]; omega
        obtain ⟨p, hp4⟩ : ∃ p, 4 * k = p := ⟨_, rfl⟩
        have hw4 : IntKind.i64.wrap (4 * (k : Int)) = (p : Int) := by rw [IntKind.wrap_i64]; omega
        have hle := HN.out
        have hat := HAt.out k (by omega)
        rw [hp4] at hat
        obtain ⟨v0, h0⟩ : ∃ v, bs[p]? = some v := ⟨_, List.getElem?_eq_getElem (by omega)⟩
        obtain ⟨v1, h1⟩ : ∃ v, bs[p + 1]? = some v := ⟨_, List.getElem?_eq_getElem (by omega)⟩
        obtain ⟨v2, h2⟩ : ∃ v, bs[p + 2]? = some v := ⟨_, List.getElem?_eq_getElem (by omega)⟩
        obtain ⟨v3, h3⟩ : ∃ v, bs[p + 3]? = some v := ⟨_, List.getElem?_eq_getElem (by omega)⟩
        have x0 := hv.out v0 (List.mem_of_getElem? h0)
        have x1 := hv.out v1 (List.mem_of_getElem? h1)
        have x2 := hv.out v2 (List.mem_of_getElem? h2)
        have x3 := hv.out v3 (List.mem_of_getElem? h3)
        have hwd : wdB bs k = v0 + 256 * v1 + 65536 * v2 + 16777216 * v3 := by
          unfold wdB
          rw [hp4, List.getD_eq_getElem?_getD, List.getD_eq_getElem?_getD, List.getD_eq_getElem?_getD, List.getD_eq_getElem?_getD, h0, h1, h2, h3]
          rfl
        rw [hwd] at hat
        have Hat := box hat
        have e0 := HC U (btr B4 hR.2.2) p v0 h0
        have e1 := HC U (btr B4 hR.2.2) (p + 1) v1 h1
        have e2 := HC U (btr B4 hR.2.2) (p + 2) v2 h2
        have e3 := HC U (btr B4 hR.2.2) (p + 3) v3 h3
        have hpn : p + 4 ≤ n := by omega
        clear hat hwd h0 h1 h2 h3 hle hl4
        by_cases ha : ax = (p : Int)
        · have hne : (ax != (p : Int)) = false := by simp [ha]
          have t4 : IntKind.i64.wrap ((p : Int) + 4) = ((p + 4 : Nat) : Int) := by rw [IntKind.wrap_i64]; omega
          have t1 : IntKind.i64.wrap ((p : Int) + 1) = ((p + 1 : Nat) : Int) := by rw [IntKind.wrap_i64]; omega
          have t2 : IntKind.i64.wrap ((p : Int) + 2) = ((p + 2 : Nat) : Int) := by rw [IntKind.wrap_i64]; omega
          have t3 : IntKind.i64.wrap ((p : Int) + 3) = ((p + 3 : Nat) : Int) := by rw [IntKind.wrap_i64]; omega
          have hd : decide ((n : Int) < ((p + 4 : Nat) : Int)) = false := decide_eq_false (by omega)
          have hd2 : decide ((n : Int) < (p : Int) + 4) = false := decide_eq_false (by omega)
          have b0 : (0 : Int) ≤ (p : Int) := by omega
          have b00 : (p : Int) < (n : Int) := by omega
          have b1 : (0 : Int) ≤ ((p + 1 : Nat) : Int) := by omega
          have b11 : ((p + 1 : Nat) : Int) < (n : Int) := by omega
          have b2 : (0 : Int) ≤ ((p + 2 : Nat) : Int) := by omega
          have b22 : ((p + 2 : Nat) : Int) < (n : Int) := by omega
          have b3 : (0 : Int) ≤ ((p + 3 : Nat) : Int) := by omega
          have b33 : ((p + 3 : Nat) : Int) < (n : Int) := by omega
          have c0 : IntKind.u32.wrap ((v0 : Nat) : Int) = (v0 : Nat) := by rw [show ∀ y : Int, IntKind.u32.wrap y = y % 4294967296 from fun _ => rfl]; omega
          have c1 : IntKind.u32.wrap ((v1 : Nat) : Int) = (v1 : Nat) := by rw [show ∀ y : Int, IntKind.u32.wrap y = y % 4294967296 from fun _ => rfl]; omega
          have c2 : IntKind.u32.wrap ((v2 : Nat) : Int) = (v2 : Nat) := by rw [show ∀ y : Int, IntKind.u32.wrap y = y % 4294967296 from fun _ => rfl]; omega
          have c3 : IntKind.u32.wrap ((v3 : Nat) : Int) = (v3 : Nat) := by rw [show ∀ y : Int, IntKind.u32.wrap y = y % 4294967296 from fun _ => rfl]; omega
          clear HC
          by_cases hwv : wv = (v0 : Int) + (v1 : Int) * 256 + (v2 : Int) * 65536 + (v3 : Int) * 16777216
          · have hyes := box (pre_yes' pre L (ax, wv) hp (by omega) (by have e := Hat.out; subst hk; rw [List.getElem?_eq_getElem (by omega)] at e; rw [Option.some.inj e]; exact Prod.ext ha (by show wv = _; omega)))
            have hq0 : (wv != (v0 : Int) + (v1 : Int) * 256 + (v2 : Int) * 65536 + (v3 : Int) * 16777216) = false := by simp [hwv]
            clear hwv
            subst ha
            gi_wp2
            refine region_in_round (by kernel_rfl) (by kernel_rfl) (by kernel_rfl) ?_
            repeat (gi_big_quiet_step (fail))
            refine wpQuietIn_nil ?_
            intro _ hq
            obtain ⟨nq, hq⟩ := hq
            subst hq
            obtain ⟨U2, hV2, bV2, hh⟩ := quiet_world (Below.refl _ U) nq
            rw [hV2]
            clear ci fi ct cb cl cr fr e0 e1 e2 e3
            have KO := box (keeps_same hh)
            have KT := box (fun B => topk_same (B := B) hh)
            have hR2 := bfi_same hR bV2 hh
            have BV := box (bV2.mono hR.2.2.size)
            have hset := box (bfi_set hR2 (by omega) (by omega) ((k + 1 : Nat) : Int))
            have ci := cells4 hR2.2.1 0 _ rfl
            have fi := fz (k := 0) hR2.2.1
            have ct := cells4 hR2.1 0 _ rfl
            have lt4 := (Array.getElem?_eq_some_iff.1 Rl_4).1
            have cl := cells4 (heap_of hR2.2.2 _ _ _ Rl_4) 0 _ rfl
            have cl2 : ∀ u, (U2.setCell ⟨V.heap.size + 1, 0, none⟩ u).cell? ⟨w.heap.size + 1, 0, none⟩ = some (.int .i64 lv) := fun u => (World.cell?_setCell_other _ _ _ _ (by intro e; injection e with e1; omega)).trans cl
            have cr := cells4 (heap_of hR2.2.2 _ _ _ Rr_4) 0 _ rfl
            have fr := fz (k := 0) (heap_of hR2.2.2 _ _ _ Rr_4)
            clear hR2 hR bV2 hV2 hh
            gi_wp2
            refine ⟨(KT.out _).trans (TopK.setCell _ _ _ _ (by have := (Array.getElem?_eq_some_iff.1 Rr_4).1; omega)), BV.out.setCell (p := ⟨V.heap.size + 1, 0, none⟩) (by simp; omega) _, hyes.out, (KO.out.trans (KeepsOthers.setCell _ _ _)).same D _ HKU.out rfl, ?_⟩
            have := hset.out
            rw [hk1]
            exact this
          · have hno := box (pre_no' pre L (ax, wv) (fun h e => by subst hk; have q := Hat.out; rw [List.getElem?_eq_getElem h, ← e] at q; injection q with q; injection q with _ q; omega))
            have hq0 : (wv != (v0 : Int) + (v1 : Int) * 256 + (v2 : Int) * 65536 + (v3 : Int) * 16777216) = true := by simp [hwv]
            clear hwv
            subst ha
            gi_wp2
            refine region_in_round (by kernel_rfl) (by kernel_rfl) (by kernel_rfl) ?_
            repeat (gi_big_quiet_step (fail))
            refine wpQuietIn_nil ?_
            intro _ hq
            obtain ⟨nq, hq⟩ := hq
            subst hq
            obtain ⟨U2, hV2, bV2, hh⟩ := quiet_world (Below.refl _ U) nq
            rw [hV2]
            clear ci fi ct cb cl cr fr e0 e1 e2 e3
            have KO := box (keeps_same hh)
            have KT := box (fun B => topk_same (B := B) hh)
            have hR2 := bfi_same hR bV2 hh
            have BV := box (bV2.mono hR.2.2.size)
            have hset := box (bfi_set hR2 (by omega) (by omega) ((k + 1 : Nat) : Int))
            have ci := cells4 hR2.2.1 0 _ rfl
            have fi := fz (k := 0) hR2.2.1
            have ct := cells4 hR2.1 0 _ rfl
            have lt4 := (Array.getElem?_eq_some_iff.1 Rl_4).1
            have cl := cells4 (heap_of hR2.2.2 _ _ _ Rl_4) 0 _ rfl
            have cl2 : ∀ u, (U2.setCell ⟨V.heap.size + 1, 0, none⟩ u).cell? ⟨w.heap.size + 1, 0, none⟩ = some (.int .i64 lv) := fun u => (World.cell?_setCell_other _ _ _ _ (by intro e; injection e with e1; omega)).trans cl
            have cr := cells4 (heap_of hR2.2.2 _ _ _ Rr_4) 0 _ rfl
            have fr := fz (k := 0) (heap_of hR2.2.2 _ _ _ Rr_4)
            clear hR2 hR bV2 hV2 hh
            gi_wp2
            exact ⟨(KT.out _).trans (TopK.setCell _ _ _ _ (by have := (Array.getElem?_eq_some_iff.1 Rr_4).1; omega)), rfl, hno.out⟩
        · have hne : (ax != (p : Int)) = true := by simp [ha]
          have hno := box (pre_no' pre L (ax, wv) (fun h e => by subst hk; have q := Hat.out; rw [List.getElem?_eq_getElem h, ← e] at q; injection q with q; injection q with q _; exact ha q))
          clear HC
          · gi_wp2
            refine region_in_round (by kernel_rfl) (by kernel_rfl) (by kernel_rfl) ?_
            repeat (gi_big_quiet_step (fail))
            refine wpQuietIn_nil ?_
            intro _ hq
            obtain ⟨nq, hq⟩ := hq
            subst hq
            obtain ⟨U2, hV2, bV2, hh⟩ := quiet_world (Below.refl _ U) nq
            rw [hV2]
            clear ci fi ct cb cl cr fr e0 e1 e2 e3
            have KO := box (keeps_same hh)
            have KT := box (fun B => topk_same (B := B) hh)
            have hR2 := bfi_same hR bV2 hh
            have BV := box (bV2.mono hR.2.2.size)
            have hset := box (bfi_set hR2 (by omega) (by omega) ((k + 1 : Nat) : Int))
            have ci := cells4 hR2.2.1 0 _ rfl
            have fi := fz (k := 0) hR2.2.1
            have ct := cells4 hR2.1 0 _ rfl
            have lt4 := (Array.getElem?_eq_some_iff.1 Rl_4).1
            have cl := cells4 (heap_of hR2.2.2 _ _ _ Rl_4) 0 _ rfl
            have cl2 : ∀ u, (U2.setCell ⟨V.heap.size + 1, 0, none⟩ u).cell? ⟨w.heap.size + 1, 0, none⟩ = some (.int .i64 lv) := fun u => (World.cell?_setCell_other _ _ _ _ (by intro e; injection e with e1; omega)).trans cl
            have cr := cells4 (heap_of hR2.2.2 _ _ _ Rr_4) 0 _ rfl
            have fr := fz (k := 0) (heap_of hR2.2.2 _ _ _ Rr_4)
            clear hR2 hR bV2 hV2 hh
            gi_wp2
            exact ⟨(KT.out _).trans (TopK.setCell _ _ _ _ (by have := (Array.getElem?_eq_some_iff.1 Rr_4).1; omega)), rfl, hno.out⟩
      case done2 =>
        rintro D2 ys U hD2 rfl ⟨hp, hKU, hR⟩ hK2
        exact ⟨.inl rfl, D2, _, rfl, hD2, hK2, hKU, hR, by rw [hll, HQ.out]⟩
      case stop2 =>
        rintro D2 c pre U hD2 hpre hx hK2
        exact absurd hpre hx.2
    case go2 =>
      rintro D2 m2 V2 ⟨hD2, hK2, hKD, hR2, rfl⟩
      have ci := cells4 hR2.2.1 0 _ rfl
      have ct := cells4 hR2.1 0 _ rfl
      have cb := cells4 (heap_of hR2.2.2 _ _ _ Rb_4) 0 _ rfl
      have hsV2 : w4.heap.size ≤ V2.heap.size := hR2.2.2.size
      go_wp2_with fail
      rw [rounds_succ]
      obtain ⟨w20, hw20⟩ : ∃ w20, V2.alloc (.cells #[.int .i64 2] 3) = w20 := ⟨_, rfl⟩
      have hBt := hR2.2.2.trans ((bal V2 (.cells #[.int .i64 2] 3)).mono hsV2)
      have hD20 : (V2.alloc (.cells #[.int .i64 2] 3)).heap[D2]? = some (.deferred (some [])) := by rw [heap_below _ _ _ (Array.getElem?_eq_some_iff.1 hK2).1]; exact hK2
      have hE20 : (V2.alloc (.cells #[.int .i64 2] 3)).heap[D]? = some (.deferred (some [])) := by rw [heap_below _ _ _ (Array.getElem?_eq_some_iff.1 hKD).1]; exact hKD
      have hcT : w20.cell? ⟨V2.heap.size, 0, none⟩ = some (.int .i64 2) := by rw [← hw20]; exact cells4 (heap_alloc_last _ _) 0 _ rfl
      rw [hw20] at hBt hD20 hE20 ⊢
      clear hw20 ci ct cb
      have B20 := btr B4 hBt
      have Rr_20 := heap_of hBt _ _ _ Rr_4
      have hge : w.heap.size ≤ D ∧ w.heap.size ≤ D2 ∧ D ≠ D2 := by have := B4.size; omega
      have hge1 := box hge
      clear hge
      go_wp2_with fail
      refine (KL.out _ (FB.out FF.out B20)).mono ?_
      rintro r w21 ⟨rfl, b21⟩
      have B21 := btr B20 b21
      have Rr_21 := heap_of b21 _ _ _ Rr_20
      have hD21 := heap_ob b21 hD20
      have hE21 := heap_ob b21 hE20
      have fr := fz (k := 0) Rr_21
      have cr := cells4 Rr_21 0 _ rfl
      go_wp2
      exact lv2r (r := w.heap.size + 1 + 1) (fun U hU => by simp [results, Tryd.results5, go_sem, hU]) ((KeepsOthers.setCell _ _ _).same D2 _ hD21 rfl) ((KeepsOthers.setCell _ _ _).same D _ hE21 rfl) hge1.out.2.2 hge1.out.1 hge1.out.2.1 (B21.setCell (p := ⟨w.heap.size + 1 + 1, 0, none⟩) (by simp; omega) _) (World.cell?_setCell_same _ _ _ (cells4 Rr_21 0 _ rfl))
end Go.Proofs.YtamlcgmipdcgjaaDoor
namespace Go.Proofs.YtamlcgmipdcgjaaDoor
set_option maxRecDepth 100000
set_option maxHeartbeats 40000000
set_option maxRecDepth 100000
open WMath
open Go.ChangeShapes Go.WideShapes Go.ChangeAt Go.RowKit
set_option linter.unusedVariables false
theorem rd_sliceL {H : Type} {enc : TypeId × Value → H} {P : Program} {w : World} {base : Nat} {spare : Nat → Bool} {held : Bool} {fuel : Nat} {v : Value} {x : DataW H × List MemPlace} {t e : TypeId} (ht : P.underlying t = some (.slice e))
    (h : DataW.trod enc P w base spare held fuel t [v] = some x) :
    (v = .slice none 0 0 ∧ x.1 = .nil) ∨ ∃ (ad : Addr) (L cv m : Nat) (es : List (DataW H × List MemPlace)) (sp : List (DataW H)), v = .slice (some ad) L cv ∧ L ≤ cv ∧ cv ≤ maxLen ∧ x.1 = .slice (es.map (·.1)) sp ∧ es.length = L ∧
      ∀ i, i < L → ∃ cs, w.cells? base (ad.add (i * P.cellsOf e)) (P.cellsOf e) = some cs ∧ DataW.trod enc P w base spare held m e cs = es[i]? := by
  cases fuel with
  | zero => simp [DataW.trod] at h
  | succ m =>
    unfold DataW.trod at h
    rw [ht] at h
    cases v <;> try (simp at h; done)
    case slice p L cv =>
      cases p with
      | none =>
        refine Or.inl ?_
        cases L <;> cases cv <;> simp at h
        rw [← h]
        exact ⟨rfl, rfl⟩
      | some ad =>
        dsimp only at h
        split at h
        · rename_i hb
          obtain ⟨elems, he, hx⟩ := Option.bind_eq_some_iff.1 h
          obtain ⟨rest, _, hx⟩ := Option.map_eq_some_iff.1 hx
          have hlen := mapM_some_length he
          rw [List.length_range] at hlen
          refine Or.inr ⟨ad, L, cv, m, elems, _, rfl, hb.2.1, hb.2.2, by rw [← hx], hlen, fun i hi => ?_⟩
          have g := mapM_some_get he i i (by rw [List.getElem?_range hi])
          rw [List.getElem?_eq_getElem (by omega)] at g ⊢
          obtain ⟨cs, hcs, ht⟩ := Option.bind_eq_some_iff.1 g
          exact ⟨cs, hcs, ht⟩
        · cases h
theorem add_addL (a : Addr) (i j : Nat) : (a.add i).add j = a.add (i + j) := by
  obtain ⟨b, o, s⟩ := a
  unfold Addr.add
  by_cases hi : i = 0 <;> by_cases hj : j = 0 <;> simp [hi, hj, Nat.add_assoc]
def LAtG {α : Type} (w : World) (k : Nat) (C : α → Array Value) (Ok : α → Prop) (v : Value) : Prop := ∃ (ao : Option Addr) (L cv : Nat) (ls : List α), v = .slice ao L cv ∧ L ≤ cv ∧ cv ≤ maxLen ∧ ls.length = L ∧ (∀ x ∈ ls, Ok x) ∧
  ((L = 0 ∧ (v = .slice none 0 0 ∨ ∃ ad, ao = some ad)) ∨ ∃ g z, ao = some ⟨g, z, none⟩ ∧ g < w.heap.size ∧ ∀ i x, ls[i]? = some x → ∀ j u, (C x)[j]? = some u → w.cell? ⟨g, z + (i * k + j), none⟩ = some u)
theorem open_listG {α : Type} {H : Type} {enc : TypeId × Value → H} {P : Program} {w : World} {base b : Nat} {spare : Nat → Bool} {held : Bool} {v : Value} {d : DataW H} {p : List MemPlace} {t e : TypeId} {k : Nat} {C : α → Array Value} {Ok : α → Prop}
    (ht : P.underlying t = some (.slice e)) (hc : P.cellsOf e = k) (hk : 0 < k) (hC : ∀ x, (C x).size = k) (a0 : α)
    (rd : ∀ (m : Nat) (cs : List Value) (y : DataW H × List MemPlace), DataW.trod enc P w b spare held m e cs = some y → ∃ x, Ok x ∧ cs = (C x).toList)
    (hok : Value.okWide P w .any base t v) (h : DataW.Trod enc P w b spare held t v d p) : LAtG w k C Ok v := by
  obtain ⟨ao, len0, cap0, rfl⟩ := okWide_slice ht hok
  obtain ⟨fuel, hf⟩ := h
  rcases rd_sliceL ht (v := .slice ao len0 cap0) (by simpa [Value.cells] using hf) with ⟨e, _⟩ | ⟨ad, L, cv, m, es, sp, e, hL, hm, hx, hl, he⟩
  · rw [e]
    exact ⟨none, 0, 0, [], rfl, Nat.le_refl _, Nat.zero_le _, rfl, (fun x hx => by cases hx), Or.inl ⟨rfl, Or.inl rfl⟩⟩
  · rw [hc] at he
    have each : ∀ i, i < L → ∃ x : α, (∀ j, j < k → w.cell? (ad.add (i * k + j)) = (C x)[j]?) ∧ Ok x := fun i hi => by
      obtain ⟨cs, hcs, ht⟩ := he i hi
      rw [List.getElem?_eq_getElem (by omega)] at ht
      obtain ⟨x, hx, rfl⟩ := rd _ _ _ ht
      exact ⟨x, fun j hj => by rw [← add_addL]; exact ((World.cells?_some hcs).2.2 j hj).trans (by simp), hx⟩
    obtain ⟨f, hf⟩ : ∃ f : Nat → α, ∀ i, i < L → (∀ j, j < k → w.cell? (ad.add (i * k + j)) = (C (f i))[j]?) ∧ Ok (f i) :=
      ⟨fun i => if hi : i < L then (each i hi).choose else a0, fun i hi => by dsimp only; rw [dif_pos hi]; exact (each i hi).choose_spec⟩
    rw [e]
    refine ⟨some ad, L, cv, (List.range L).map f, rfl, hL, hm, by simp, fun x hx => ?_, ?_⟩
    · obtain ⟨i, hi, rfl⟩ := List.mem_map.1 hx
      exact (hf i (List.mem_range.1 hi)).2
    · by_cases z : L = 0
      · exact Or.inl ⟨z, Or.inr ⟨ad, rfl⟩⟩
      · refine Or.inr ?_
        have g := (hf 0 (by omega)).1 0 hk
        have hs := hC (f 0)
        rw [Array.getElem?_eq_getElem (by omega)] at g
        rw [show ad.add (0 * k + 0) = ad from by rw [Nat.zero_mul]; rfl] at g
        have sp0 := World.cell?_spot g
        have bl := World.block_lt_of_cell? w _ g
        obtain ⟨g', o, s0⟩ := ad
        dsimp only at sp0 bl
        subst sp0
        refine ⟨g', o, rfl, bl, fun i x hi j u hj => ?_⟩
        have hi' : i < L := by have := (List.getElem?_eq_some_iff.1 hi).1; simpa using this
        rw [List.getElem?_map, List.getElem?_range hi'] at hi
        cases hi
        have hjk : j < k := by have := (Array.getElem?_eq_some_iff.1 hj).1; rw [hC] at this; exact this
        have := (hf i hi').1 j hjk
        rw [hj] at this
        rw [show (⟨g', o, none⟩ : Addr).add (i * k + j) = ⟨g', o + (i * k + j), none⟩ from by unfold Addr.add; split <;> simp_all] at this
        exact this
theorem nat_u8l {x : Int} (h : (Lit.int .u8 x).wf = true) : ∃ n : Nat, n < 256 ∧ x = (n : Int) := by
  have hb := bounds_u8 h
  obtain ⟨n, rfl⟩ := Int.eq_ofNat_of_zero_le hb.1
  exact ⟨n, by omega, rfl⟩
end Go.Proofs.YtamlcgmipdcgjaaDoor
