/-
  What the functions that the statement reaches return: part 8 (BU, BV, DA).
-/
import Derived.Deep.RegionLaw
import Derived.Deep.AppendLies
import Derived.Test.YtfdhglllmhggkaaDoorAa07
namespace Go.Proofs.YtfdhglllmhggkaaDoor
set_option maxRecDepth 100000
set_option maxHeartbeats 40000000
set_option maxRecDepth 100000
open Go.RowKit Go.Shelf WMath
set_option linter.unusedVariables false
set_option linter.unusedSimpArgs false
attribute [local go_sem] Oper.semAt_some

def rwsC (l : List Rw) : List Value := l.flatMap fun r => (rwC r).toList
theorem rwsC_app (l m : List Rw) : rwsC (l ++ m) = rwsC l ++ rwsC m := by simp [rwsC]
theorem rwsC_at (m : List Rw) (k j : Nat) (p : Rw) (h : m[k]? = some p) (hj : j < 7) : (rwsC m)[k * 7 + j]? = (rwC p).toList[j]? := flat_at (fun r => (rwC r).toList) 7 (fun _ => rfl) m k j p h hj
def wantL (o k : Nat) : List Rw := ((allL.take k).filter fun p => p.1.op == o).map (·.1)
theorem wantL_next {o k : Nat} {p : Nm} (h : allL[k]? = some p) : wantL o (k + 1) = wantL o k ++ (if p.1.op = o then [p.1] else []) := by
  unfold wantL
  rw [List.take_add_one, h, List.filter_append, List.map_append]
  congr 1
  by_cases c : p.1.op = o
  · rw [if_pos c]; simp [c]
  · rw [if_neg c]; simp [c]
theorem wantL_len (o k : Nat) : (wantL o k).length ≤ k := by
  unfold wantL
  rw [List.length_map]
  exact Nat.le_trans (List.length_filter_le _ _) (by rw [List.length_take]; exact Nat.min_le_left _ _)
theorem own_setq {w : World} {base : Nat} {e : TypeId} {size n : Nat} {v : Value} {xs : List Value} {g : Nat} {u : Value} (h : w.ownsRow base e size v n xs) (hg : g < base) : (w.setCell ⟨g, 0, none⟩ u).ownsRow base e size v n xs := by
  refine ⟨h.1, ?_⟩
  rcases h.2 with q | ⟨b, cap, cur, h1, h2, h3, h4⟩
  · exact Or.inl q
  · exact Or.inr ⟨b, cap, cur, h1, h2, by rw [setCell_other (by omega)]; exact h3, h4⟩
theorem nds_setq {w : World} {g b : Nat} {l : List Nm} {u : Value} (h : NdsAt w b l) (hg : g ≠ b) : NdsAt (w.setCell ⟨g, 0, none⟩ u) b l := by
  obtain ⟨cur, h1, h2⟩ := h
  exact ⟨cur, by rw [setCell_other hg]; exact h1, h2⟩
theorem own_heapq {w V : World} {base : Nat} {e : TypeId} {size n : Nat} {v : Value} {xs : List Value} (h : w.ownsRow base e size v n xs) (hh : V.heap = w.heap) : V.ownsRow base e size v n xs := by
  refine ⟨h.1, ?_⟩
  rcases h.2 with q | ⟨b, cap, cur, h1, h2, h3, h4⟩
  · exact Or.inl q
  · exact Or.inr ⟨b, cap, cur, h1, h2, by rw [hh]; exact h3, h4⟩
theorem nds_heapq {w V : World} {b : Nat} {l : List Nm} (h : NdsAt w b l) (hh : V.heap = w.heap) : NdsAt V b l := by
  obtain ⟨cur, h1, h2⟩ := h
  exact ⟨cur, by rw [hh]; exact h1, h2⟩
theorem heap_eqq {w V : World} {b : Nat} {o : Obj} (hh : V.heap = w.heap) (h : w.heap[b]? = some o) : V.heap[b]? = some o := by rw [hh]; exact h
theorem rw_oneq (r : Rw) : ∀ u ∈ (rwC r).toList, u.oneCell' = true := fun x hx => by
  simp [rwC] at hx
  rcases hx with rfl | rfl | rfl | rfl | rfl | rfl | rfl <;> rfl
theorem own_far {w : World} {base : Nat} {e : TypeId} {size n : Nat} {v : Value} {xs : List Value} {g : Nat} (h : w.ownsRow base e size v n xs) (hg : g < base) : v.ownBlock ≠ some g := fun q => by
  have := (h.lt g q).1
  omega
theorem no_panicq {P : Program} {c : Code} {Q : Exit → Act → World → Prop} {a : Act} {w : World} (h : c.wp P (fun e a w => match e with | .normal => Q .normal a w | _ => False) a w) : c.wp P Q a w :=
  wp_mono h (fun e a w h => by cases e <;> first | exact h | exact h.elim)
theorem topk_sameq {B : Nat} {V V2 : World} (hh : V2.heap = V.heap) : TopK B V V2 := ⟨by rw [hh]; exact Nat.le_refl _, fun k _ _ => by rw [hh]⟩
theorem ownsRow_below {w w' : World} {base : Nat} {e : TypeId} {size : Nat} {v : Value} {n : Nat} {xs : List Value} (h : w.ownsRow base e size v n xs) (hb : Below w.heap.size w w') : w'.ownsRow base e size v n xs := by
  refine ⟨h.1, ?_⟩
  rcases h.2 with q | ⟨g, cap, cur, h1, h2, h3, h4⟩
  · exact Or.inl q
  · exact Or.inr ⟨g, cap, cur, h1, h2, heap_of hb _ _ _ h3, h4⟩
theorem rws_cells {w : World} {base : Nat} {g : Nat} {n cap : Nat} {L : List Rw} {k : Nat} {u : Rw} (h : w.ownsRow base 36 7 (.slice (some ⟨g, 0, none⟩) n cap) n (rwsC L)) (hn : n = L.length) (hu : L[k]? = some u) :
    w.cell? ⟨g, k * 7, none⟩ = some (.int .u8 (u.op : Nat)) ∧ w.cell? ⟨g, k * 7 + 1, none⟩ = some (.int .u8 (u.form : Nat)) ∧ w.cell? ⟨g, k * 7 + 2, none⟩ = some (.int .u8 (u.frm : Nat)) ∧ w.cell? ⟨g, k * 7 + 3, none⟩ = some (.int .u8 (u.kind : Nat)) ∧ w.cell? ⟨g, k * 7 + 4, none⟩ = some (.int .u32 (u.mask : Nat)) ∧ w.cell? ⟨g, k * 7 + 5, none⟩ = some (.int .u32 (u.mtch : Nat)) ∧ w.cell? ⟨g, k * 7 + 6, none⟩ = some (.int .u8 (u.lay : Nat)) := by
  have e : ∀ j, j < 7 → ∀ v, (rwC u).toList[j]? = some v → w.cell? ⟨g, k * 7 + j, none⟩ = some v := fun j hj v hv => by
    have c := h.cells (g := g) rfl (k * 7 + j) v ((rwsC_at L k j u hu hj).trans hv)
    rw [show (⟨g, 0, none⟩ : Addr).add (k * 7 + j) = ⟨g, k * 7 + j, none⟩ from by unfold Addr.add; split <;> simp_all] at c
    exact c
  exact ⟨e 0 (by decide) _ rfl, e 1 (by decide) _ rfl, e 2 (by decide) _ rfl, e 3 (by decide) _ rfl, e 4 (by decide) _ rfl, e 5 (by decide) _ rfl, e 6 (by decide) _ rfl⟩
def W1R (w wr : World) (gw ga B : Nat) (X : Array Value) (o k : Nat) (ao : Option Addr) (cv : Nat) : Prop :=
  Below w.heap.size w wr ∧ wr.heap[w.heap.size]? = some (.cells X 50) ∧ wr.heap[w.heap.size + 1]? = some (.cells #[.bool false] 4) ∧ wr.heap[gw]? = some (.cells #[.slice ao (wantL o k).length cv] 24) ∧ wr.ownsRow B 36 7 (.slice ao (wantL o k).length cv) (wantL o k).length (rwsC (wantL o k)) ∧ NdsAt wr ga allL ∧ B ≤ wr.heap.size
theorem w1r_next {w w1 w3 V : World} {gw ga B : Nat} {X : Array Value} {o k g3 cap3 : Nat} {M : List Rw} {r0 : Rw} {row : Option Nat} {u : Value} (h1 : Below w.heap.size w w1) (hx : w1.heap[w.heap.size]? = some (.cells X 50)) (hr : w1.heap[w.heap.size + 1]? = some (.cells #[.bool false] 4)) (hw : w1.heap[gw]? = some (.cells #[u] 24)) (hN : NdsAt w1 ga allL)
    (hsz : B ≤ w1.heap.size) (hV : Below w1.heap.size w1 V) (hgrow : V.grownBy w3 row) (hrow : ∀ q, row = some q → B ≤ q) (hga : ga < B) (hgw : gw < ga) (hw2 : w.heap.size + 1 < gw)
    (hown : w3.ownsRow B 36 7 (.slice (some ⟨g3, 0, none⟩) (M.length + 1) cap3) (M.length + 1) (rwsC M ++ (rwC r0).toList)) (hnx : wantL o (k + 1) = M ++ [r0]) :
    W1R w (w3.setCell ⟨gw, 0, none⟩ (.slice (some ⟨g3, 0, none⟩) (M.length + 1) cap3)) gw ga B X o (k + 1) (some ⟨g3, 0, none⟩) cap3 := by
  have sV := hV.size
  have get : ∀ b ob, b < B → w1.heap[b]? = some ob → w3.heap[b]? = some ob := fun b ob hb h => by
    rw [hgrow.block b (by omega) (fun e => by have := hrow b e.symm; omega), hV.block b (by omega)]
    exact h
  have s3 : V.heap.size ≤ w3.heap.size := hgrow.size
  have hl : (M ++ [r0]).length = M.length + 1 := by simp
  refine ⟨((h1.trans (hV.mono h1.size)).grown hgrow (by have := h1.size; omega) (fun q hq => by have := hrow q hq; omega)).setCell (p := ⟨gw, 0, none⟩) (by show w.heap.size ≤ gw; omega) _, ?_, ?_, ?_, ?_, ?_, ?_⟩
  · rw [setCell_other (by omega)]; exact get _ _ (by omega) hx
  · rw [setCell_other (by omega)]; exact get _ _ (by omega) hr
  · rw [hnx, hl, setCell_row (get _ _ (by omega) hw)]
    rfl
  · rw [hnx, hl, rwsC_app, show rwsC [r0] = (rwC r0).toList from by simp [rwsC]]
    exact own_setq hown (by omega)
  · obtain ⟨cur, c1, c2⟩ := hN
    exact nds_setq ⟨cur, get _ _ hga c1, c2⟩ (by omega)
  · have e : (w3.setCell ⟨gw, 0, none⟩ (.slice (some ⟨g3, 0, none⟩) (M.length + 1) cap3)).heap.size = w3.heap.size := by
      have a := ((Below.refl 0 w3).setCell (p := ⟨gw, 0, none⟩) (Nat.zero_le _) (.slice (some ⟨g3, 0, none⟩) (M.length + 1) cap3)).size
      simp
    omega
theorem gen_ta {X : Act → World → Prop} {t0 t1 t2 t3 t4 t5 t6 t7 t8 t9 t10 t11 t12 t13 t14 t15 t16 t17 t18 t19 t20 t21 t22 t23 t24 t25 t26 t27 t28 t29 t30 t31 t32 t33 t34 t35 t36 t37 t38 t39 t40 t41 t42 t43 t44 t45 t46 t47 t48 t49 t50 t51 t52 t53 t54 t55 t56 t57 t58 t59 t60 t61 t62 t63 t64 t65 t66 t67 t68 t69 t70 t71 t72 t73 t74 t75 t76 t77 t78 t79 t80 t81 t82 t83 t84 t85 t86 t87 t88 t89 t90 t91 t92 t93 t94 t95 t96 t97 t98 t99 t100 t101 t102 t103 t104 t105 t106 t107 t108 t109 t110 t111 t112 t113 t114 t115 t116 t117 t118 t119 t120 t121 t122 t123 t124 t125 t126 t127 t128 t129 t130 t131 t132 t133 t134 t135 t136 t137 t138 t139 t140 t141 t142 t143 t144 t145 t146 t147 t148 t149 t150 t151 t152 t153 t154 t155 t156 t157 t158 t159 t160 t161 t162 t163 t164 t165 t166 t167 t168 t169 t170 t171 t172 t173 : Value} {d : List Deferred} {W : World} (key : ∀ u158 u159 u160 u161 u162 u163 u164 u165 u166 u167 u168 u169 u170 u171 : Value, X { tmps := #[t0, t1, t2, t3, t4, t5, t6, t7, t8, t9, t10, t11, t12, t13, t14, t15, t16, t17, t18, t19, t20, t21, t22, t23, t24, t25, t26, t27, t28, t29, t30, t31, t32, t33, t34, t35, t36, t37, t38, t39, t40, t41, t42, t43, t44, t45, t46, t47, t48, t49, t50, t51, t52, t53, t54, t55, t56, t57, t58, t59, t60, t61, t62, t63, t64, t65, t66, t67, t68, t69, t70, t71, t72, t73, t74, t75, t76, t77, t78, t79, t80, t81, t82, t83, t84, t85, t86, t87, t88, t89, t90, t91, t92, t93, t94, t95, t96, t97, t98, t99, t100, t101, t102, t103, t104, t105, t106, t107, t108, t109, t110, t111, t112, t113, t114, t115, t116, t117, t118, t119, t120, t121, t122, t123, t124, t125, t126, t127, t128, t129, t130, t131, t132, t133, t134, t135, t136, t137, t138, t139, t140, t141, t142, t143, t144, t145, t146, t147, t148, t149, t150, t151, t152, t153, t154, t155, t156, t157, u158, u159, u160, u161, u162, u163, u164, u165, u166, u167, u168, u169, u170, u171, t172, t173], defers := d } W) : X { tmps := #[t0, t1, t2, t3, t4, t5, t6, t7, t8, t9, t10, t11, t12, t13, t14, t15, t16, t17, t18, t19, t20, t21, t22, t23, t24, t25, t26, t27, t28, t29, t30, t31, t32, t33, t34, t35, t36, t37, t38, t39, t40, t41, t42, t43, t44, t45, t46, t47, t48, t49, t50, t51, t52, t53, t54, t55, t56, t57, t58, t59, t60, t61, t62, t63, t64, t65, t66, t67, t68, t69, t70, t71, t72, t73, t74, t75, t76, t77, t78, t79, t80, t81, t82, t83, t84, t85, t86, t87, t88, t89, t90, t91, t92, t93, t94, t95, t96, t97, t98, t99, t100, t101, t102, t103, t104, t105, t106, t107, t108, t109, t110, t111, t112, t113, t114, t115, t116, t117, t118, t119, t120, t121, t122, t123, t124, t125, t126, t127, t128, t129, t130, t131, t132, t133, t134, t135, t136, t137, t138, t139, t140, t141, t142, t143, t144, t145, t146, t147, t148, t149, t150, t151, t152, t153, t154, t155, t156, t157, t158, t159, t160, t161, t162, t163, t164, t165, t166, t167, t168, t169, t170, t171, t172, t173], defers := d } W := key _ _ _ _ _ _ _ _ _ _ _ _ _ _
set_option maxRecDepth 100000 in
set_option maxHeartbeats 8000000 in
theorem ta_law {T : World → Prop} (FB : Box (∀ {w w' : World}, T w → Below w.heap.size w w' → T w')) (xo xf xg xk : Nat) (xr ro rm : Rw) (xs no nn : ByteArray) (lv eo en em : Int) (gf : Nat)
    (KL : Box (∀ w, T w → Calls Tryd.prog 14 #[] w fun r w' => r = .returned (.bool true) ∧ Below w.heap.size w w'))
    (PO : Box (∀ w, T w → Calls Tryd.prog 21 #[.int .u8 (xo : Nat), .int .u8 (xf : Nat), .int .u8 (xg : Nat), .int .u8 (xk : Nat)] w fun r w' => r = .returned (.tuple #[.agg (rwC ro), .int .i64 eo]) ∧ Below w.heap.size w w'))
    (RO : Box (∀ w, Calls Tryd.prog 22 #[.int .u8 (xo : Nat), .int .u8 (xf : Nat), .int .u8 (xg : Nat), .int .u8 (xk : Nat)] w fun r w' => r = .returned (.tuple #[.agg (ndC ro no), .int .i64 eo]) ∧ Below w.heap.size w w'))
    (PN : Box (∀ w, T w → Calls Tryd.prog 12 #[.agg (rwC xr)] w fun r w' => r = .returned (.tuple #[.string nn, .int .i64 en]) ∧ Below w.heap.size w w'))
    (RN : Box (∀ w, Calls Tryd.prog 23 #[.agg (rwC xr)] w fun r w' => r = .returned (.tuple #[.string nn, .int .i64 en]) ∧ Below w.heap.size w w'))
    (PM : Box (∀ w, T w → Calls Tryd.prog 13 #[.string xs] w fun r w' => r = .returned (.tuple #[.agg (rwC rm), .int .i64 em]) ∧ Below w.heap.size w w'))
    (RM : Box (∀ w, Calls Tryd.prog 24 #[.string xs] w fun r w' => r = .returned (.tuple #[.agg (rwC rm), .int .i64 em]) ∧ Below w.heap.size w w'))
    (RA : Box (∀ w, Calls Tryd.prog 9 #[] w fun r w' => ∃ v, r = .returned v ∧ OwnsAll w w' v))
    (PE : Box (∀ W, T W → Calls Tryd.prog 25 #[.int .u8 (xo : Nat)] W fun r w0 => ∃ lb, r = .returned (.func (.func gf) #[] lb) ∧ Below W.heap.size W w0 ∧ ∀ n', 5 ≤ n' → SeqTop n' Tryd.prog gf lb (fun x : Rw => #[Value.agg (rwC x)]) w0.heap.size (fun ys => ys = wantL xo 136) (fun pre => pre <+: wantL xo 136) 136 w0))
    (hE : ∀ args w, (callFunc gf args).run Tryd.prog w = .ok (.enter gf args) w)
    (w : World) (hT : T w) : Calls Tryd.prog 6 #[.agg #[.int .u8 (xo : Nat), .int .u8 (xf : Nat), .int .u8 (xg : Nat), .int .u8 (xk : Nat), .int .u8 (xr.op : Nat), .int .u8 (xr.form : Nat), .int .u8 (xr.frm : Nat), .int .u8 (xr.kind : Nat), .int .u32 (xr.mask : Nat), .int .u32 (xr.mtch : Nat), .int .u8 (xr.lay : Nat), .string xs, .int .i64 lv]] w fun r w' => r = .returned (.bool true) ∧ Below w.heap.size w w' := by
  have FF := box hT
  clear hT
  refine (callsIn_wide (n := 6)).1 ?_
  refine callsIn_of_wp_marks Tryd.func6 rfl trivial ?_ rfl
  refine wpIn_wide.2 ?_
  simp only [Tryd.ntmps6, List.size_toArray, List.length_cons, List.length_nil, Nat.reduceAdd, Nat.reduceSub, Array.replicate_succ, Array.replicate_zero, List.push_toArray, List.append_toArray, List.nil_append, List.cons_append]
  have hrn := rwC_new
  have hdn := ndC_new
  have hrf := rwC_fold xr
  obtain ⟨Rx_0, Rr_0, B0⟩ := opn2 w (Obj.cells #[.int .u8 (xo : Nat), .int .u8 (xf : Nat), .int .u8 (xg : Nat), .int .u8 (xk : Nat), .int .u8 (xr.op : Nat), .int .u8 (xr.form : Nat), .int .u8 (xr.frm : Nat), .int .u8 (xr.kind : Nat), .int .u32 (xr.mask : Nat), .int .u32 (xr.mtch : Nat), .int .u8 (xr.lay : Nat), .string xs, .int .i64 lv] 50) (Obj.cells #[.bool false] 4)
  have cx_0_0 := cells4 Rx_0 0 _ rfl
  have cx_0_1 := cells4 Rx_0 1 _ rfl
  have cx_0_2 := cells4 Rx_0 2 _ rfl
  have cx_0_3 := cells4 Rx_0 3 _ rfl
  have cx_0_4 := cells4 Rx_0 4 _ rfl
  have cx_0_5 := cells4 Rx_0 5 _ rfl
  have cx_0_6 := cells4 Rx_0 6 _ rfl
  have cx_0_7 := cells4 Rx_0 7 _ rfl
  have cx_0_8 := cells4 Rx_0 8 _ rfl
  have cx_0_9 := cells4 Rx_0 9 _ rfl
  have cx_0_10 := cells4 Rx_0 10 _ rfl
  have cx_0_11 := cells4 Rx_0 11 _ rfl
  have cx_0_12 := cells4 Rx_0 12 _ rfl
  have cr_0_0 := cells4 Rr_0 0 _ rfl
  go_wp2_with fail
  refine (KL.out _ (FB.out FF.out B0)).mono ?_
  rintro r w1 ⟨rfl, b1⟩
  have B1 : Below w.heap.size w w1 := btr B0 b1
  have Rx_1 := heap_of b1 _ _ _ Rx_0
  have Rr_1 := heap_of b1 _ _ _ Rr_0
  clear b1 B0 Rx_0 cx_0_0 cx_0_1 cx_0_2 cx_0_3 cx_0_4 cx_0_5 cx_0_6 cx_0_7 cx_0_8 cx_0_9 cx_0_10 cx_0_11 cx_0_12 Rr_0 cr_0_0
  have cx_1_0 := cells4 Rx_1 0 _ rfl
  have cx_1_1 := cells4 Rx_1 1 _ rfl
  have cx_1_2 := cells4 Rx_1 2 _ rfl
  have cx_1_3 := cells4 Rx_1 3 _ rfl
  have cx_1_4 := cells4 Rx_1 4 _ rfl
  have cx_1_5 := cells4 Rx_1 5 _ rfl
  have cx_1_6 := cells4 Rx_1 6 _ rfl
  have cx_1_7 := cells4 Rx_1 7 _ rfl
  have cx_1_8 := cells4 Rx_1 8 _ rfl
  have cx_1_9 := cells4 Rx_1 9 _ rfl
  have cx_1_10 := cells4 Rx_1 10 _ rfl
  have cx_1_11 := cells4 Rx_1 11 _ rfl
  have cx_1_12 := cells4 Rx_1 12 _ rfl
  have cr_1_0 := cells4 Rr_1 0 _ rfl
  go_wp2_with fail
  refine (PO.out _ (FB.out FF.out B1)).mono ?_
  rintro r w2 ⟨rfl, b2⟩
  have B2 : Below w.heap.size w w2 := btr B1 b2
  have Rx_2 := heap_of b2 _ _ _ Rx_1
  have Rr_2 := heap_of b2 _ _ _ Rr_1
  clear b2 B1 Rx_1 cx_1_0 cx_1_1 cx_1_2 cx_1_3 cx_1_4 cx_1_5 cx_1_6 cx_1_7 cx_1_8 cx_1_9 cx_1_10 cx_1_11 cx_1_12 Rr_1 cr_1_0
  have cx_2_0 := cells4 Rx_2 0 _ rfl
  have cx_2_1 := cells4 Rx_2 1 _ rfl
  have cx_2_2 := cells4 Rx_2 2 _ rfl
  have cx_2_3 := cells4 Rx_2 3 _ rfl
  have cx_2_4 := cells4 Rx_2 4 _ rfl
  have cx_2_5 := cells4 Rx_2 5 _ rfl
  have cx_2_6 := cells4 Rx_2 6 _ rfl
  have cx_2_7 := cells4 Rx_2 7 _ rfl
  have cx_2_8 := cells4 Rx_2 8 _ rfl
  have cx_2_9 := cells4 Rx_2 9 _ rfl
  have cx_2_10 := cells4 Rx_2 10 _ rfl
  have cx_2_11 := cells4 Rx_2 11 _ rfl
  have cx_2_12 := cells4 Rx_2 12 _ rfl
  have cr_2_0 := cells4 Rr_2 0 _ rfl
  have S3 := box B2.size
  have Lx_3 : Box (w.heap.size < w2.heap.size) := box (Array.getElem?_eq_some_iff.1 Rx_2).1
  have Lr_3 : Box (w.heap.size + 1 < w2.heap.size) := box (Array.getElem?_eq_some_iff.1 Rr_2).1
  have Ra_3 := heap_alloc_last w2 (Obj.cells (rwC ro) 36)
  have B3 := btr B2 (bal w2 (Obj.cells (rwC ro) 36))
  have Rx_3 := heap_of (bal w2 (Obj.cells (rwC ro) 36)) _ _ _ Rx_2
  have Rr_3 := heap_of (bal w2 (Obj.cells (rwC ro) 36)) _ _ _ Rr_2
  clear B2 Rx_2 cx_2_0 cx_2_1 cx_2_2 cx_2_3 cx_2_4 cx_2_5 cx_2_6 cx_2_7 cx_2_8 cx_2_9 cx_2_10 cx_2_11 cx_2_12 Rr_2 cr_2_0
  have cx_3_0 := cells4 Rx_3 0 _ rfl
  have cx_3_1 := cells4 Rx_3 1 _ rfl
  have cx_3_2 := cells4 Rx_3 2 _ rfl
  have cx_3_3 := cells4 Rx_3 3 _ rfl
  have cx_3_4 := cells4 Rx_3 4 _ rfl
  have cx_3_5 := cells4 Rx_3 5 _ rfl
  have cx_3_6 := cells4 Rx_3 6 _ rfl
  have cx_3_7 := cells4 Rx_3 7 _ rfl
  have cx_3_8 := cells4 Rx_3 8 _ rfl
  have cx_3_9 := cells4 Rx_3 9 _ rfl
  have cx_3_10 := cells4 Rx_3 10 _ rfl
  have cx_3_11 := cells4 Rx_3 11 _ rfl
  have cx_3_12 := cells4 Rx_3 12 _ rfl
  have cr_3_0 := cells4 Rr_3 0 _ rfl
  obtain ⟨ca_3_0, ca_3_1, ca_3_2, ca_3_3, ca_3_4, ca_3_5, ca_3_6⟩ := rwC_cells Ra_3
  clear ca_3_0 ca_3_1 ca_3_2 ca_3_3 ca_3_4 ca_3_5 ca_3_6
  go_wp2_with fail
  refine (RO.out _).mono ?_
  rintro r w4 ⟨rfl, b4⟩
  have B4 : Below w.heap.size w w4 := btr B3 b4
  have Rx_4 := heap_of b4 _ _ _ Rx_3
  have Rr_4 := heap_of b4 _ _ _ Rr_3
  have Ra_4 := heap_of b4 _ _ _ Ra_3
  clear b4 B3 Rx_3 cx_3_0 cx_3_1 cx_3_2 cx_3_3 cx_3_4 cx_3_5 cx_3_6 cx_3_7 cx_3_8 cx_3_9 cx_3_10 cx_3_11 cx_3_12 Rr_3 cr_3_0 Ra_3
  have cx_4_0 := cells4 Rx_4 0 _ rfl
  have cx_4_1 := cells4 Rx_4 1 _ rfl
  have cx_4_2 := cells4 Rx_4 2 _ rfl
  have cx_4_3 := cells4 Rx_4 3 _ rfl
  have cx_4_4 := cells4 Rx_4 4 _ rfl
  have cx_4_5 := cells4 Rx_4 5 _ rfl
  have cx_4_6 := cells4 Rx_4 6 _ rfl
  have cx_4_7 := cells4 Rx_4 7 _ rfl
  have cx_4_8 := cells4 Rx_4 8 _ rfl
  have cx_4_9 := cells4 Rx_4 9 _ rfl
  have cx_4_10 := cells4 Rx_4 10 _ rfl
  have cx_4_11 := cells4 Rx_4 11 _ rfl
  have cx_4_12 := cells4 Rx_4 12 _ rfl
  have cr_4_0 := cells4 Rr_4 0 _ rfl
  have S5 := box B4.size
  have Lx_5 : Box (w.heap.size < w4.heap.size) := box (Array.getElem?_eq_some_iff.1 Rx_4).1
  have Lr_5 : Box (w.heap.size + 1 < w4.heap.size) := box (Array.getElem?_eq_some_iff.1 Rr_4).1
  have La_5 : Box (w2.heap.size < w4.heap.size) := box (Array.getElem?_eq_some_iff.1 Ra_4).1
  have Rb_5 := heap_alloc_last w4 (Obj.cells (ndC ro no) 38)
  have B5 := btr B4 (bal w4 (Obj.cells (ndC ro no) 38))
  have Rx_5 := heap_of (bal w4 (Obj.cells (ndC ro no) 38)) _ _ _ Rx_4
  have Rr_5 := heap_of (bal w4 (Obj.cells (ndC ro no) 38)) _ _ _ Rr_4
  have Ra_5 := heap_of (bal w4 (Obj.cells (ndC ro no) 38)) _ _ _ Ra_4
  clear B4 Rx_4 cx_4_0 cx_4_1 cx_4_2 cx_4_3 cx_4_4 cx_4_5 cx_4_6 cx_4_7 cx_4_8 cx_4_9 cx_4_10 cx_4_11 cx_4_12 Rr_4 cr_4_0 Ra_4
  have cx_5_0 := cells4 Rx_5 0 _ rfl
  have cx_5_1 := cells4 Rx_5 1 _ rfl
  have cx_5_2 := cells4 Rx_5 2 _ rfl
  have cx_5_3 := cells4 Rx_5 3 _ rfl
  have cx_5_4 := cells4 Rx_5 4 _ rfl
  have cx_5_5 := cells4 Rx_5 5 _ rfl
  have cx_5_6 := cells4 Rx_5 6 _ rfl
  have cx_5_7 := cells4 Rx_5 7 _ rfl
  have cx_5_8 := cells4 Rx_5 8 _ rfl
  have cx_5_9 := cells4 Rx_5 9 _ rfl
  have cx_5_10 := cells4 Rx_5 10 _ rfl
  have cx_5_11 := cells4 Rx_5 11 _ rfl
  have cx_5_12 := cells4 Rx_5 12 _ rfl
  have cr_5_0 := cells4 Rr_5 0 _ rfl
  obtain ⟨cb_5_0, cb_5_1, cb_5_2, cb_5_3, cb_5_4, cb_5_5, cb_5_6, cb_5_7⟩ := ndC_cells Rb_5
  clear cb_5_0 cb_5_1 cb_5_2 cb_5_3 cb_5_4 cb_5_5 cb_5_6 cb_5_7
  go_wp2_with fail
  refine (PN.out _ (FB.out FF.out B5)).mono ?_
  rintro r w6 ⟨rfl, b6⟩
  have B6 : Below w.heap.size w w6 := btr B5 b6
  have Rx_6 := heap_of b6 _ _ _ Rx_5
  have Rr_6 := heap_of b6 _ _ _ Rr_5
  have Ra_6 := heap_of b6 _ _ _ Ra_5
  have Rb_6 := heap_of b6 _ _ _ Rb_5
  clear b6 B5 Rx_5 cx_5_0 cx_5_1 cx_5_2 cx_5_3 cx_5_4 cx_5_5 cx_5_6 cx_5_7 cx_5_8 cx_5_9 cx_5_10 cx_5_11 cx_5_12 Rr_5 cr_5_0 Ra_5 Rb_5
  have cx_6_0 := cells4 Rx_6 0 _ rfl
  have cx_6_1 := cells4 Rx_6 1 _ rfl
  have cx_6_2 := cells4 Rx_6 2 _ rfl
  have cx_6_3 := cells4 Rx_6 3 _ rfl
  have cx_6_4 := cells4 Rx_6 4 _ rfl
  have cx_6_5 := cells4 Rx_6 5 _ rfl
  have cx_6_6 := cells4 Rx_6 6 _ rfl
  have cx_6_7 := cells4 Rx_6 7 _ rfl
  have cx_6_8 := cells4 Rx_6 8 _ rfl
  have cx_6_9 := cells4 Rx_6 9 _ rfl
  have cx_6_10 := cells4 Rx_6 10 _ rfl
  have cx_6_11 := cells4 Rx_6 11 _ rfl
  have cx_6_12 := cells4 Rx_6 12 _ rfl
  have cr_6_0 := cells4 Rr_6 0 _ rfl
  go_wp2_with fail
  refine (RN.out _).mono ?_
  rintro r w7 ⟨rfl, b7⟩
  have B7 : Below w.heap.size w w7 := btr B6 b7
  have Rx_7 := heap_of b7 _ _ _ Rx_6
  have Rr_7 := heap_of b7 _ _ _ Rr_6
  have Ra_7 := heap_of b7 _ _ _ Ra_6
  have Rb_7 := heap_of b7 _ _ _ Rb_6
  clear b7 B6 Rx_6 cx_6_0 cx_6_1 cx_6_2 cx_6_3 cx_6_4 cx_6_5 cx_6_6 cx_6_7 cx_6_8 cx_6_9 cx_6_10 cx_6_11 cx_6_12 Rr_6 cr_6_0 Ra_6 Rb_6
  have cx_7_0 := cells4 Rx_7 0 _ rfl
  have cx_7_1 := cells4 Rx_7 1 _ rfl
  have cx_7_2 := cells4 Rx_7 2 _ rfl
  have cx_7_3 := cells4 Rx_7 3 _ rfl
  have cx_7_4 := cells4 Rx_7 4 _ rfl
  have cx_7_5 := cells4 Rx_7 5 _ rfl
  have cx_7_6 := cells4 Rx_7 6 _ rfl
  have cx_7_7 := cells4 Rx_7 7 _ rfl
  have cx_7_8 := cells4 Rx_7 8 _ rfl
  have cx_7_9 := cells4 Rx_7 9 _ rfl
  have cx_7_10 := cells4 Rx_7 10 _ rfl
  have cx_7_11 := cells4 Rx_7 11 _ rfl
  have cx_7_12 := cells4 Rx_7 12 _ rfl
  have cr_7_0 := cells4 Rr_7 0 _ rfl
  go_wp2_with fail
  refine (PM.out _ (FB.out FF.out B7)).mono ?_
  rintro r w8 ⟨rfl, b8⟩
  have B8 : Below w.heap.size w w8 := btr B7 b8
  have Rx_8 := heap_of b8 _ _ _ Rx_7
  have Rr_8 := heap_of b8 _ _ _ Rr_7
  have Ra_8 := heap_of b8 _ _ _ Ra_7
  have Rb_8 := heap_of b8 _ _ _ Rb_7
  clear b8 B7 Rx_7 cx_7_0 cx_7_1 cx_7_2 cx_7_3 cx_7_4 cx_7_5 cx_7_6 cx_7_7 cx_7_8 cx_7_9 cx_7_10 cx_7_11 cx_7_12 Rr_7 cr_7_0 Ra_7 Rb_7
  have cx_8_0 := cells4 Rx_8 0 _ rfl
  have cx_8_1 := cells4 Rx_8 1 _ rfl
  have cx_8_2 := cells4 Rx_8 2 _ rfl
  have cx_8_3 := cells4 Rx_8 3 _ rfl
  have cx_8_4 := cells4 Rx_8 4 _ rfl
  have cx_8_5 := cells4 Rx_8 5 _ rfl
  have cx_8_6 := cells4 Rx_8 6 _ rfl
  have cx_8_7 := cells4 Rx_8 7 _ rfl
  have cx_8_8 := cells4 Rx_8 8 _ rfl
  have cx_8_9 := cells4 Rx_8 9 _ rfl
  have cx_8_10 := cells4 Rx_8 10 _ rfl
  have cx_8_11 := cells4 Rx_8 11 _ rfl
  have cx_8_12 := cells4 Rx_8 12 _ rfl
  have cr_8_0 := cells4 Rr_8 0 _ rfl
  have S9 := box B8.size
  have Lx_9 : Box (w.heap.size < w8.heap.size) := box (Array.getElem?_eq_some_iff.1 Rx_8).1
  have Lr_9 : Box (w.heap.size + 1 < w8.heap.size) := box (Array.getElem?_eq_some_iff.1 Rr_8).1
  have La_9 : Box (w2.heap.size < w8.heap.size) := box (Array.getElem?_eq_some_iff.1 Ra_8).1
  have Lb_9 : Box (w4.heap.size < w8.heap.size) := box (Array.getElem?_eq_some_iff.1 Rb_8).1
  have Ri_9 := heap_alloc_last w8 (Obj.cells (rwC rm) 36)
  have B9 := btr B8 (bal w8 (Obj.cells (rwC rm) 36))
  have Rx_9 := heap_of (bal w8 (Obj.cells (rwC rm) 36)) _ _ _ Rx_8
  have Rr_9 := heap_of (bal w8 (Obj.cells (rwC rm) 36)) _ _ _ Rr_8
  have Ra_9 := heap_of (bal w8 (Obj.cells (rwC rm) 36)) _ _ _ Ra_8
  have Rb_9 := heap_of (bal w8 (Obj.cells (rwC rm) 36)) _ _ _ Rb_8
  clear B8 Rx_8 cx_8_0 cx_8_1 cx_8_2 cx_8_3 cx_8_4 cx_8_5 cx_8_6 cx_8_7 cx_8_8 cx_8_9 cx_8_10 cx_8_11 cx_8_12 Rr_8 cr_8_0 Ra_8 Rb_8
  have cx_9_0 := cells4 Rx_9 0 _ rfl
  have cx_9_1 := cells4 Rx_9 1 _ rfl
  have cx_9_2 := cells4 Rx_9 2 _ rfl
  have cx_9_3 := cells4 Rx_9 3 _ rfl
  have cx_9_4 := cells4 Rx_9 4 _ rfl
  have cx_9_5 := cells4 Rx_9 5 _ rfl
  have cx_9_6 := cells4 Rx_9 6 _ rfl
  have cx_9_7 := cells4 Rx_9 7 _ rfl
  have cx_9_8 := cells4 Rx_9 8 _ rfl
  have cx_9_9 := cells4 Rx_9 9 _ rfl
  have cx_9_10 := cells4 Rx_9 10 _ rfl
  have cx_9_11 := cells4 Rx_9 11 _ rfl
  have cx_9_12 := cells4 Rx_9 12 _ rfl
  have cr_9_0 := cells4 Rr_9 0 _ rfl
  obtain ⟨ci_9_0, ci_9_1, ci_9_2, ci_9_3, ci_9_4, ci_9_5, ci_9_6⟩ := rwC_cells Ri_9
  clear ci_9_0 ci_9_1 ci_9_2 ci_9_3 ci_9_4 ci_9_5 ci_9_6
  go_wp2_with fail
  refine (RM.out _).mono ?_
  rintro r w10 ⟨rfl, b10⟩
  have B10 : Below w.heap.size w w10 := btr B9 b10
  have Rx_10 := heap_of b10 _ _ _ Rx_9
  have Rr_10 := heap_of b10 _ _ _ Rr_9
  have Ra_10 := heap_of b10 _ _ _ Ra_9
  have Rb_10 := heap_of b10 _ _ _ Rb_9
  have Ri_10 := heap_of b10 _ _ _ Ri_9
  clear b10 B9 Rx_9 cx_9_0 cx_9_1 cx_9_2 cx_9_3 cx_9_4 cx_9_5 cx_9_6 cx_9_7 cx_9_8 cx_9_9 cx_9_10 cx_9_11 cx_9_12 Rr_9 cr_9_0 Ra_9 Rb_9 Ri_9
  have cx_10_0 := cells4 Rx_10 0 _ rfl
  have cx_10_1 := cells4 Rx_10 1 _ rfl
  have cx_10_2 := cells4 Rx_10 2 _ rfl
  have cx_10_3 := cells4 Rx_10 3 _ rfl
  have cx_10_4 := cells4 Rx_10 4 _ rfl
  have cx_10_5 := cells4 Rx_10 5 _ rfl
  have cx_10_6 := cells4 Rx_10 6 _ rfl
  have cx_10_7 := cells4 Rx_10 7 _ rfl
  have cx_10_8 := cells4 Rx_10 8 _ rfl
  have cx_10_9 := cells4 Rx_10 9 _ rfl
  have cx_10_10 := cells4 Rx_10 10 _ rfl
  have cx_10_11 := cells4 Rx_10 11 _ rfl
  have cx_10_12 := cells4 Rx_10 12 _ rfl
  have cr_10_0 := cells4 Rr_10 0 _ rfl
  have S11 := box B10.size
  have Lx_11 : Box (w.heap.size < w10.heap.size) := box (Array.getElem?_eq_some_iff.1 Rx_10).1
  have Lr_11 : Box (w.heap.size + 1 < w10.heap.size) := box (Array.getElem?_eq_some_iff.1 Rr_10).1
  have La_11 : Box (w2.heap.size < w10.heap.size) := box (Array.getElem?_eq_some_iff.1 Ra_10).1
  have Lb_11 : Box (w4.heap.size < w10.heap.size) := box (Array.getElem?_eq_some_iff.1 Rb_10).1
  have Li_11 : Box (w8.heap.size < w10.heap.size) := box (Array.getElem?_eq_some_iff.1 Ri_10).1
  have Rl_11 := heap_alloc_last w10 (Obj.cells (rwC rm) 36)
  have B11 := btr B10 (bal w10 (Obj.cells (rwC rm) 36))
  have Rx_11 := heap_of (bal w10 (Obj.cells (rwC rm) 36)) _ _ _ Rx_10
  have Rr_11 := heap_of (bal w10 (Obj.cells (rwC rm) 36)) _ _ _ Rr_10
  have Ra_11 := heap_of (bal w10 (Obj.cells (rwC rm) 36)) _ _ _ Ra_10
  have Rb_11 := heap_of (bal w10 (Obj.cells (rwC rm) 36)) _ _ _ Rb_10
  have Ri_11 := heap_of (bal w10 (Obj.cells (rwC rm) 36)) _ _ _ Ri_10
  clear B10 Rx_10 cx_10_0 cx_10_1 cx_10_2 cx_10_3 cx_10_4 cx_10_5 cx_10_6 cx_10_7 cx_10_8 cx_10_9 cx_10_10 cx_10_11 cx_10_12 Rr_10 cr_10_0 Ra_10 Rb_10 Ri_10
  have cx_11_0 := cells4 Rx_11 0 _ rfl
  have cx_11_1 := cells4 Rx_11 1 _ rfl
  have cx_11_2 := cells4 Rx_11 2 _ rfl
  have cx_11_3 := cells4 Rx_11 3 _ rfl
  have cx_11_4 := cells4 Rx_11 4 _ rfl
  have cx_11_5 := cells4 Rx_11 5 _ rfl
  have cx_11_6 := cells4 Rx_11 6 _ rfl
  have cx_11_7 := cells4 Rx_11 7 _ rfl
  have cx_11_8 := cells4 Rx_11 8 _ rfl
  have cx_11_9 := cells4 Rx_11 9 _ rfl
  have cx_11_10 := cells4 Rx_11 10 _ rfl
  have cx_11_11 := cells4 Rx_11 11 _ rfl
  have cx_11_12 := cells4 Rx_11 12 _ rfl
  have cr_11_0 := cells4 Rr_11 0 _ rfl
  obtain ⟨cl_11_0, cl_11_1, cl_11_2, cl_11_3, cl_11_4, cl_11_5, cl_11_6⟩ := rwC_cells Rl_11
  obtain ⟨ca_11_0, ca_11_1, ca_11_2, ca_11_3, ca_11_4, ca_11_5, ca_11_6⟩ := rwC_cells Ra_11
  obtain ⟨cb_11_0, cb_11_1, cb_11_2, cb_11_3, cb_11_4, cb_11_5, cb_11_6, cb_11_7⟩ := ndC_cells Rb_11
  obtain ⟨ci_11_0, ci_11_1, ci_11_2, ci_11_3, ci_11_4, ci_11_5, ci_11_6⟩ := rwC_cells Ri_11
  obtain ⟨cl_11_0, cl_11_1, cl_11_2, cl_11_3, cl_11_4, cl_11_5, cl_11_6⟩ := rwC_cells Rl_11
  have heq := eqr
  have he1 : rwE ro ro = true := by rw [rwE_is]; exact decide_eq_true rfl
  have he2 : rwE rm rm = true := by rw [rwE_is]; exact decide_eq_true rfl
  have hss : (nn.toList == nn.toList) = true := by simp
  go_wp2_with fail
  have Rx := Rx_11
  have Rr := Rr_11
  have Bq := B11
  clear hrn hdn hrf heq he1 he2 hss
  have ba := bal (w10.alloc (Obj.cells (rwC rm) 36)) (Obj.cells #[.slice none 0 0] 24)
  have Rwb := last7 (w10.alloc (Obj.cells (rwC rm) 36)) (Obj.cells #[.slice none 0 0] 24)
  have Rx := heap_obq ba Rx
  have Rr := heap_obq ba Rr
  have Bq := btr Bq ba
  obtain ⟨gw, hgw⟩ : ∃ gw, (w10.alloc (Obj.cells (rwC rm) 36)).heap.size = gw := ⟨_, rfl⟩
  have hgw2 : w10.heap.size + 1 = gw := by rw [← hgw]; simp only [size_al]
  have Sgw : w.heap.size + 1 < gw := by have := Lr_11.out; omega
  refine (RA.out _).mono ?_
  rintro _ w11 ⟨v, rfl, ga, cap, rfl, hga, hN, hb⟩
  have Rwb := heap_obq hb Rwb
  rw [hgw] at Rwb
  rw [hgw2]
  have Rx := heap_obq hb Rx
  have Rr := heap_obq hb Rr
  have Bq := btr Bq hb
  have Lga : gw < ga := by
    have := hga
    simp only [size_al] at this
    omega
  clear ba hb hga hgw hgw2
  have HX := box (And.intro Lga Sgw)
  have S11 := box (show ga < w11.heap.size by obtain ⟨cur, h1, _⟩ := hN; exact (Array.getElem?_eq_some_iff.1 h1).1)
  have R0 : W1R w w11 gw ga w11.heap.size #[.int .u8 (xo : Nat), .int .u8 (xf : Nat), .int .u8 (xg : Nat), .int .u8 (xk : Nat), .int .u8 (xr.op : Nat), .int .u8 (xr.form : Nat), .int .u8 (xr.frm : Nat), .int .u8 (xr.kind : Nat), .int .u32 (xr.mask : Nat), .int .u32 (xr.mtch : Nat), .int .u8 (xr.lay : Nat), .string xs, .int .i64 lv] xo 0 none 0 := ⟨Bq, Rx, Rr, Rwb, World.ownsRow_nil _ _ _ _, hN, Nat.le_refl _⟩
  clear Rx Rr Bq Rwb hN Lga Sgw
  obtain ⟨i0, hi, hz0, hz1, hz2⟩ := info_parts (show (Tryd.prog.info? 36).map (fun i => (i.zero, i.size, i.bytes)) = some (some (.agg #[.int .u8 0, .int .u8 0, .int .u8 0, .int .u8 0, .int .u32 0, .int .u32 0, .int .u8 0]), 7, 16) by kernel_rfl)
  go_wp2_with fail
  go_loopw [17] (fun iv wr => ∃ (k : Nat) (ao : Option Addr) (cv : Nat), k ≤ 136 ∧ iv = .int .i64 (k : Int) ∧ W1R w wr gw ga w11.heap.size #[.int .u8 (xo : Nat), .int .u8 (xf : Nat), .int .u8 (xg : Nat), .int .u8 (xk : Nat), .int .u8 (xr.op : Nat), .int .u8 (xr.form : Nat), .int .u8 (xr.frm : Nat), .int .u8 (xr.kind : Nat), .int .u32 (xr.mask : Nat), .int .u32 (xr.mtch : Nat), .int .u8 (xr.lay : Nat), .string xs, .int .i64 lv] xo k ao cv) (fun iv _ => 136 - (intOf iv).toNat)
  case atStart => exact ⟨0, none, 0, Nat.zero_le _, rfl, R0⟩
  case round =>
    clear R0
    obtain ⟨k, ao, cv, hk, rfl, hB, hx, hr, hw, ho, hN, hsz⟩ := hrel
    have hlen := wantL_len xo k
    have cw := cells4 hw 0 _ rfl
    have fw := fz (k := 0) hw
    have cx := cells4 hx 0 _ rfl
    by_cases hlk : k < 136
    · have dk : decide ((k : Int) < 136) = true := decide_eq_true (by omega)
      have hwk : IntKind.i64.wrap ((k : Int) + 1) = ((k + 1 : Nat) : Int) := by rw [IntKind.wrap_i64]; omega
      obtain ⟨⟨r0, s0⟩, hp⟩ : ∃ p, allL[k]? = some p := ⟨_, List.getElem?_eq_getElem (by rw [allL_len]; exact hlk)⟩
      have hnx := wantL_next (o := xo) hp
      have HP := box hp
      clear hp
      obtain ⟨c0, c1, c2, c3, c4, c5, c6, c7⟩ := hN.cells HP.out
      have hb0 : (0 : Int) ≤ (k : Int) := Int.natCast_nonneg _
      have hb1 : (k : Int) < 136 := by omega
      by_cases q : r0.op = xo
      · have d : (((r0.op : Nat) : Int) == ((xo : Nat) : Int)) = true := by rw [q]; simp
        rw [if_pos q] at hnx
        clear q
        go_wp2_with fail
        go_quiet (fail)
        obtain ⟨w1, hw1, B1, hh⟩ := quiet_world (Below.refl _ wr) nq
        rw [hw1]
        have hh9 := hh
        have hB1 := hB.trans (B1.mono hB.size)
        have hx1 := heap_eqq hh hx
        have hr1 := heap_eqq hh hr
        have hwv1 := heap_eqq hh hw
        have ho1 := own_heapq ho hh
        have hN1 := nds_heapq hN hh
        clear hw1 B1 hB hx hr hw ho hN cw fw cx c0 c1 c2 c3 c4 c5 c6 c7 hh
        have hsz1 : w11.heap.size ≤ w1.heap.size := by rw [hh9]; exact hsz
        clear hh9
        have HS := box (And.intro hB1 (And.intro hx1 (And.intro hr1 (And.intro hwv1 (And.intro hN1 hsz1)))))
        have HO := box ho1
        have cw := cells4 hwv1 0 _ rfl
        have lw := (Array.getElem?_eq_some_iff.1 hwv1).1
        obtain ⟨c0, c1, c2, c3, c4, c5, c6, c7⟩ := hN1.cells HP.out
        clear hB1 hx1 hr1 hN1 c7 ho1
        obtain ⟨M, hM⟩ : ∃ M, wantL xo k = M := ⟨_, rfl⟩
        rw [hM] at HO cw hnx hlen hwv1
        have HM := box hM
        have HNX := box hnx
        clear hnx
        try rw [hM]
        clear hM
        have HF := box hwv1
        clear hwv1
        have oneR := box (rw_oneq r0)
        have hne : Box ((.slice ao M.length cv : Value).ownBlock ≠ some gw) := box (own_far HO.out (by have := HX.out; have := S11.out; omega))
        have cwA := cells4 (row_al HF.out (Obj.cells #[.int .u8 (r0.op : Nat), .int .u8 (r0.form : Nat), .int .u8 (r0.frm : Nat), .int .u8 (r0.kind : Nat), .int .u32 (r0.mask : Nat), .int .u32 (r0.mtch : Nat), .int .u8 (r0.lay : Nat)] 36)) 0 _ rfl
        go_wp2_with fail
        refine no_panicq ?_
        go_region_law ((refine step_append_lies _ (by rfl) _ _ _ (by rfl) w11.heap.size 36 i0 _ 7 16 Tryd.underlying24 hi hz0 hz1 hz2 rfl (by omega) (.slice ao M.length cv) M.length (rwsC M) (by rfl) (by first | exact (HO.out.alloc _).drew | exact (HO.out.drew).alloc _) ⟨w1.heap.size, 0, none⟩ 1 1 (rwC r0).toList (by rfl) (by rfl) (World.news_of_block (cs := rwC r0) (t := 36) (fr := (0, 0)) (by first | exact heap_alloc_new w1 _ | exact heap_alloc_new w1.drew _)) oneR.out (by omega) (by unfold maxLen; omega) (by omega) (by have := HS.out.2.2.2.2.2; simp; omega) (w1.heap.size + 1) (by simp) ?_; intro g3 cap3 w3 hown3 hgrow3 hat3 hlt3; have cw3 : w3.cell? ⟨gw, 0, none⟩ = some (.slice ao M.length cv) := (hgrow3.cell_far _ (by simp; omega) (fun e => hne.out e.symm)).trans (by first | exact cells4 (row_al HF.out _) 0 _ rfl | exact cells4 HF.out 0 _ rfl); have fw3 : w3.frozen? ⟨gw, 0, none⟩ = false := (hgrow3.frozen_far _ (by simp; omega) (fun e => hne.out e.symm)).trans (by first | exact fz (k := 0) (row_al HF.out _) | exact fz (k := 0) HF.out)))
        all_goals
          have key := w1r_next (V := (w1.alloc (Obj.cells #[.int .u8 (r0.op : Nat), .int .u8 (r0.form : Nat), .int .u8 (r0.frm : Nat), .int .u8 (r0.kind : Nat), .int .u32 (r0.mask : Nat), .int .u32 (r0.mtch : Nat), .int .u8 (r0.lay : Nat)] 36)).drew) HS.out.1 HS.out.2.1 HS.out.2.2.1 HF.out HS.out.2.2.2.2.1 HS.out.2.2.2.2.2 (bal w1 _).drew hgrow3 (fun q e => (HO.out.lt q e).1) S11.out HX.out.1 HX.out.2 hown3 HNX.out
          have KEY := box key
          clear key hown3 hgrow3 hat3 hlt3 cw3 fw3
          go_wp2
          go_roundw
          case rel => exact ⟨k + 1, _, _, by omega, by first | rfl | simp, KEY.out⟩
          case measure => simp [intOf]; omega
      · have d : (((r0.op : Nat) : Int) == ((xo : Nat) : Int)) = false := by rw [beq_eq_false_iff_ne]; omega
        rw [if_neg q, List.append_nil] at hnx
        clear q
        go_wp2_with fail
        go_quiet (fail)
        obtain ⟨w1, hw1, B1, hh⟩ := quiet_world (Below.refl _ wr) nq
        rw [hw1]
        have key : W1R w w1 gw ga w11.heap.size #[.int .u8 (xo : Nat), .int .u8 (xf : Nat), .int .u8 (xg : Nat), .int .u8 (xk : Nat), .int .u8 (xr.op : Nat), .int .u8 (xr.form : Nat), .int .u8 (xr.frm : Nat), .int .u8 (xr.kind : Nat), .int .u32 (xr.mask : Nat), .int .u32 (xr.mtch : Nat), .int .u8 (xr.lay : Nat), .string xs, .int .i64 lv] xo (k + 1) ao cv := by
          unfold W1R
          rw [hnx]
          exact ⟨hB.trans (B1.mono hB.size), heap_eqq hh hx, heap_eqq hh hr, heap_eqq hh hw, own_heapq ho hh, nds_heapq hN hh, by rw [hh]; exact hsz⟩
        have KEY := box key
        clear key hw1 B1 hB hx hr hw ho hN cw fw cx c0 c1 c2 c3 c4 c5 c6 c7 hh hsz
        go_wp2
        go_roundw
        case rel => exact ⟨k + 1, _, _, by omega, by first | rfl | simp, KEY.out⟩
        case measure => simp [intOf]; omega
    · have k136 : k = 136 := by omega
      subst k136
      clear hlk hlen
      go_wp2_with fail
      refine (PE.out _ (FB.out FF.out hB)).mono ?_
      rintro _ w4 ⟨lb, rfl, b4, seq⟩
      obtain ⟨L, hL⟩ : ∃ L, wantL xo 136 = L := ⟨_, rfl⟩
      rw [hL] at seq hw ho
      have hpl := wantL_len xo 136
      rw [hL] at hpl
      have B4 := btr hB b4
      have Rx_4 := heap_of b4 _ _ _ hx
      have Rr_4 := heap_of b4 _ _ _ hr
      have Rw_4 := heap_of b4 _ _ _ hw
      have own4 := ownsRow_below ho b4
      have hnil : ∀ (lb : Array Value) (w : World), (binOp .eql 55 (.func (.func gf) #[] lb) .nilFunc).run Tryd.prog w = .ok (.bool false) w := fun _ _ => by kernel_rfl
      have HXg := HX.out
      clear hL b4 hB hx hr hw ho hN hsz cw fw cx RA PE hi hz0 hz1 hz2 i0
      go_wp2_with fail
      refine wp_loop_rounds 3 ?_
      rw [rounds_succ]
      go_wp2_with fail
      obtain ⟨W0, hW0⟩ : ∃ W0, ((w4.alloc (.cells #[.int .i64 0] 3)).alloc (.cells #[.int .i64 0] 3)) = W0 := ⟨_, rfl⟩
      have hs0 : W0.heap.size = w4.heap.size + 1 + 1 := by rw [← hW0]; simp only [size_al]
      have R0 : BFQ w4 w4.heap.size (w4.heap.size + 1) 0 0 W0 := by
        rw [← hW0]
        exact ⟨heap_of (bal _ _) _ _ _ (heap_alloc_last _ _), by have := heap_alloc_last (w4.alloc (.cells #[.int .i64 0] 3)) (.cells #[.int .i64 0] 3); simpa only [size_al] using this, btr (bal _ _) (bal _ _)⟩
      rw [hW0]
      clear hW0
      refine range_keyq (id := 4) (fun D m V => W0.heap.size ≤ D ∧ V.heap[D]? = some (.deferred (some [])) ∧ BFQ w4 w4.heap.size (w4.heap.size + 1) 0 m V ∧ (m = L.length ∨ m = lv)) ?loop ?go (fun _ _ h => h)
      case loop =>
        refine (wpIn_wide (n := 6)).1 ?_
        refine wp_range_topm (by decide) (gf := gf) (lb := lb) rfl hE (seq 5 (by decide)) (by omega) R0.2.2 (fun _ => rfl)
          (fun pre V => pre <+: L ∧ BFQ w4 w4.heap.size (w4.heap.size + 1) 0 (pre.length : Nat) V)
          (fun c pre V => (c = .ret ∧ ¬ pre <+: L) ∨ (c = .exit 4 ∧ ((pre.length : Nat) : Int) = lv ∧ pre <+: L ∧ BFQ w4 w4.heap.size (w4.heap.size + 1) 0 (pre.length : Nat) V))
          (fun s A B row hs hg hr => ⟨hs.1, bfq_grown hs.2 hg (fun r e => (hr r e).1) (by omega) (by omega) (by omega)⟩)
          (fun c s A B row hs hg hr => hs.imp id (fun h => ⟨h.1, h.2.1, h.2.2.1, bfq_grown h.2.2.2 hg (fun r e => (hr r e).1) (by omega) (by omega) (by omega)⟩))
          ⟨List.nil_prefix, R0⟩ ?a1 (fun x => Obj.cells (rwC x) 36) ?assign ?body ?done ?stop
        case assign =>
          intro l x W K hK
          have hrn := rwC_new
          obtain ⟨m, hm⟩ : ∃ m, W.heap.size = m := ⟨_, rfl⟩
          have hK := hK (W.alloc (Obj.cells (rwC x) 36)) (World.grownBy_alloc W _ none) (by simp only [size_al]) (last7 W _)
          rw [hm] at hK
          gi_wp2
          exact hK
        case body =>
          rintro l pre xx mm V ⟨hp, hR⟩ hl4 hm0 hm1 hmx
          have hlp : pre.length < 136 := hl4
          obtain ⟨k, hk⟩ : ∃ k : Nat, pre.length = k := ⟨_, rfl⟩
          have hk1 : (pre ++ [xx]).length = k + 1 := by rw [List.length_append, hk]; rfl
          rw [hk] at hR hlp
          have vx := rwC_cells hmx
          have ci := cells4 hR.2.1 0 _ rfl
          have fi := fz (k := 0) hR.2.1
          have ct := cells4 hR.1 0 _ rfl
          have cw := cells4 (heap_of hR.2.2 _ _ _ Rw_4) 0 _ rfl
          have cl := cells4 (heap_of hR.2.2 _ _ _ Rx_4) 12 _ rfl
          have cr := cells4 (heap_of hR.2.2 _ _ _ Rr_4) 0 _ rfl
          have fr := fz (k := 0) (heap_of hR.2.2 _ _ _ Rr_4)
          have ow := ownsRow_below own4 hR.2.2
          have hwn : IntKind.i64.wrap ((k : Int) + 1) = ((k + 1 : Nat) : Int) := by rw [IntKind.wrap_i64]; omega
          obtain ⟨v0, v1, v2, v3, v4, v5, v6⟩ := vx
          have hrn := rwC_new
          have hrfx := rwC_fold xx
          have heq := eqr
          by_cases hlt : k < L.length
          · have hd : decide ((L.length : Int) ≤ (k : Int)) = false := by simp; omega
            have hd2 : decide (L.length ≤ k) = false := by simp; omega
            obtain ⟨g, rfl⟩ : ∃ g, ao = some ⟨g, 0, none⟩ := by
              rcases own4.2 with ⟨_, h0⟩ | ⟨g, _, _, h, _⟩
              · omega
              · injection h with h1; exact ⟨g, h1⟩
            obtain ⟨u, hu⟩ : ∃ u, L[k] = u := ⟨_, rfl⟩
            obtain ⟨z0, z1, z2, z3, z4, z5, z6⟩ := rws_cells ow rfl (show L[k]? = some u by rw [List.getElem?_eq_getElem hlt, hu])
            have hli0 : (0 : Int) ≤ (k : Int) := Int.natCast_nonneg _
            have hli : (k : Int) < (L.length : Int) := by omega
            have hrfu := rwC_fold u
            clear ow
            by_cases hxu : xx = u
            · have hne : rwE xx u = true := by rw [rwE_is]; exact decide_eq_true hxu
              have hyes := box (pre_yesq pre L xx hp (by omega) (by subst hk; exact hxu.trans hu.symm))
              clear hxu hu
              gi_wp2
              refine region_in_roundq (by kernel_rfl) (by kernel_rfl) (by kernel_rfl) ?_
              repeat (gi_big_quiet_step (fail))
              refine wpQuietIn_nil ?_
              intro _ hq
              obtain ⟨nq, hq⟩ := hq
              subst hq
              obtain ⟨V2, hV2, bV2, hh⟩ := quiet_world (Below.refl _ V) nq
              rw [hV2]
              have KO := box (topk_sameq (B := W0.heap.size) hh)
              have hR2 := bfq_same hR bV2 hh
              have BV := box (bV2.mono hR.2.2.size)
              have hset := box (bfq_set hR2 (by omega) (by omega) ((k + 1 : Nat) : Int))
              clear ci fi ct cw cl cr fr v0 v1 v2 v3 v4 v5 v6
              (try clear z0 z1 z2 z3 z4 z5 z6)
              have ci := cells4 hR2.2.1 0 _ rfl
              have fi := fz (k := 0) hR2.2.1
              have ct := cells4 hR2.1 0 _ rfl
              have lt4 := (Array.getElem?_eq_some_iff.1 Rx_4).1
              have cl := cells4 (heap_of hR2.2.2 _ _ _ Rx_4) 12 _ rfl
              have cl2 : ∀ u, (V2.setCell ⟨(w4.heap.size + 1), 0, none⟩ u).cell? ⟨w.heap.size, 12, none⟩ = some (.int .i64 lv) := fun u => (World.cell?_setCell_other _ _ _ _ (by intro e; injection e with e1; omega)).trans cl
              have cr := cells4 (heap_of hR2.2.2 _ _ _ Rr_4) 0 _ rfl
              have fr := fz (k := 0) (heap_of hR2.2.2 _ _ _ Rr_4)
              have HH2 := box hh
              clear hR2 hR bV2 hV2 hh
              by_cases hlv : ((k + 1 : Nat) : Int) = lv
              · have hvl : (((k : Int) + 1) == lv) = true := beq_iff_eq.2 (by omega)
                gi_wp2
                refine ⟨KO.out.trans (TopK.setCell _ _ _ _ (by omega)), .inr ⟨rfl, by rw [hk1]; exact hlv, hyes.out, ?_⟩⟩
                have := hset.out
                rw [hk1]
                rw [hlv] at this ⊢
                exact this
              · have hvl : (((k : Int) + 1) == lv) = false := beq_eq_false_iff_ne.2 (by omega)
                gi_wp2
                refine ⟨KO.out.trans (TopK.setCell _ _ _ _ (by omega)), BV.out.setCell (p := ⟨(w4.heap.size + 1), 0, none⟩) (by simp) _, hyes.out, ?_⟩
                have := hset.out
                rw [hk1]
                exact this
            · have hne : rwE xx u = false := by rw [rwE_is]; exact decide_eq_false hxu
              have hno := box (pre_noq pre L xx (fun h => by subst hk; rw [hu]; exact hxu))
              clear hxu hu
              gi_wp2
              refine region_in_roundq (by kernel_rfl) (by kernel_rfl) (by kernel_rfl) ?_
              repeat (gi_big_quiet_step (fail))
              refine wpQuietIn_nil ?_
              intro _ hq
              obtain ⟨nq, hq⟩ := hq
              subst hq
              obtain ⟨V2, hV2, bV2, hh⟩ := quiet_world (Below.refl _ V) nq
              rw [hV2]
              have KO := box (topk_sameq (B := W0.heap.size) hh)
              have hR2 := bfq_same hR bV2 hh
              have BV := box (bV2.mono hR.2.2.size)
              have hset := box (bfq_set hR2 (by omega) (by omega) ((k + 1 : Nat) : Int))
              clear ci fi ct cw cl cr fr v0 v1 v2 v3 v4 v5 v6
              (try clear z0 z1 z2 z3 z4 z5 z6)
              have ci := cells4 hR2.2.1 0 _ rfl
              have fi := fz (k := 0) hR2.2.1
              have ct := cells4 hR2.1 0 _ rfl
              have lt4 := (Array.getElem?_eq_some_iff.1 Rx_4).1
              have cl := cells4 (heap_of hR2.2.2 _ _ _ Rx_4) 12 _ rfl
              have cl2 : ∀ u, (V2.setCell ⟨(w4.heap.size + 1), 0, none⟩ u).cell? ⟨w.heap.size, 12, none⟩ = some (.int .i64 lv) := fun u => (World.cell?_setCell_other _ _ _ _ (by intro e; injection e with e1; omega)).trans cl
              have cr := cells4 (heap_of hR2.2.2 _ _ _ Rr_4) 0 _ rfl
              have fr := fz (k := 0) (heap_of hR2.2.2 _ _ _ Rr_4)
              have HH2 := box hh
              clear hR2 hR bV2 hV2 hh
              gi_wp2
              exact ⟨KO.out.trans (TopK.setCell _ _ _ _ (by have := (Array.getElem?_eq_some_iff.1 Rr_4).1; omega)), .inl ⟨rfl, hno.out⟩⟩
          · have hd : decide ((L.length : Int) ≤ (k : Int)) = true := by simp; omega
            have hd2 : decide (L.length ≤ k) = true := by simp; omega
            have hno := box (pre_noq pre L xx (fun h => by omega))
            clear ow
            gi_wp2
            refine region_in_roundq (by kernel_rfl) (by kernel_rfl) (by kernel_rfl) ?_
            repeat (gi_big_quiet_step (fail))
            refine wpQuietIn_nil ?_
            intro _ hq
            obtain ⟨nq, hq⟩ := hq
            subst hq
            obtain ⟨V2, hV2, bV2, hh⟩ := quiet_world (Below.refl _ V) nq
            rw [hV2]
            have KO := box (topk_sameq (B := W0.heap.size) hh)
            have hR2 := bfq_same hR bV2 hh
            have BV := box (bV2.mono hR.2.2.size)
            have hset := box (bfq_set hR2 (by omega) (by omega) ((k + 1 : Nat) : Int))
            clear ci fi ct cw cl cr fr v0 v1 v2 v3 v4 v5 v6
            (try clear z0 z1 z2 z3 z4 z5 z6)
            have ci := cells4 hR2.2.1 0 _ rfl
            have fi := fz (k := 0) hR2.2.1
            have ct := cells4 hR2.1 0 _ rfl
            have lt4 := (Array.getElem?_eq_some_iff.1 Rx_4).1
            have cl := cells4 (heap_of hR2.2.2 _ _ _ Rx_4) 12 _ rfl
            have cl2 : ∀ u, (V2.setCell ⟨(w4.heap.size + 1), 0, none⟩ u).cell? ⟨w.heap.size, 12, none⟩ = some (.int .i64 lv) := fun u => (World.cell?_setCell_other _ _ _ _ (by intro e; injection e with e1; omega)).trans cl
            have cr := cells4 (heap_of hR2.2.2 _ _ _ Rr_4) 0 _ rfl
            have fr := fz (k := 0) (heap_of hR2.2.2 _ _ _ Rr_4)
            have HH2 := box hh
            clear hR2 hR bV2 hV2 hh
            gi_wp2
            exact ⟨KO.out.trans (TopK.setCell _ _ _ _ (by have := (Array.getElem?_eq_some_iff.1 Rr_4).1; omega)), .inl ⟨rfl, hno.out⟩⟩
        case done =>
          rintro D ys V hD rfl ⟨hp, hR⟩ hK
          exact ⟨.inl rfl, D, _, rfl, hD, hK, hR, .inl rfl⟩
        case stop =>
          rintro D c pre V hD hpre hx hK
          rcases hx with ⟨rfl, hno⟩ | ⟨rfl, hv, hp, hR⟩
          · exact absurd hpre hno
          exact wpIn_wide.2 (wp_exit ⟨.inr rfl, D, _, rfl, hD, hK, hR, .inr hv⟩)
      case go =>
        rintro D m V ⟨hD, hK, hR, hm⟩
        have ci := cells4 hR.2.1 0 _ rfl
        have ct := cells4 hR.1 0 _ rfl
        have cw := cells4 (heap_of hR.2.2 _ _ _ Rw_4) 0 _ rfl
        have cl := cells4 (heap_of hR.2.2 _ _ _ Rx_4) 12 _ rfl
        have HM := box hm
        clear hm
        apply cutq
        · intro key
          by_cases hml : m = (L.length : Int)
          · have hne : (m != (L.length : Int)) = false := by simp [hml]
            clear hml
            go_wp2_with fail
            all_goals exact gen_ta key
          · have hne : (m != (L.length : Int)) = true := by simp [hml]
            have hnl : (m != lv) = false := by
              rcases HM.out with h | h
              · exact absurd h hml
              · simp [h]
            clear hml
            go_wp2_with fail
            all_goals exact gen_ta key
        rintro u158 u159 u160 u161 u162 u163 u164 u165 u166 u167 u168 u169 u170 u171
        rw [rounds_succ]
        go_wp2_with fail
        obtain ⟨W1, hW1⟩ : ∃ W1, ((V.alloc (.cells #[.int .i64 1] 3)).alloc (.cells #[.int .i64 0] 3)) = W1 := ⟨_, rfl⟩
        have hs1 : W1.heap.size = V.heap.size + 1 + 1 := by rw [← hW1]; simp only [size_al]
        have hsV : w4.heap.size ≤ V.heap.size := hR.2.2.size
        have hDV : D < V.heap.size := (Array.getElem?_eq_some_iff.1 hK).1
        have R1 : BFQ w4 V.heap.size (V.heap.size + 1) 1 0 W1 := by
          rw [← hW1]
          exact ⟨heap_of (bal _ _) _ _ _ (heap_alloc_last _ _), by have := heap_alloc_last (V.alloc (.cells #[.int .i64 1] 3)) (.cells #[.int .i64 0] 3); simpa only [size_al] using this, hR.2.2.trans ((btr (bal _ _) (bal _ _)).mono hsV)⟩
        have hK1 : W1.heap[D]? = some (.deferred (some [])) := by
          rw [← hW1]
          exact row_al (row_al hK _) _
        rw [hW1]
        clear hW1 ci ct cw cl
        refine range_keyq (id := 4) (fun D2 m V2 => W1.heap.size ≤ D2 ∧ V2.heap[D2]? = some (.deferred (some [])) ∧ V2.heap[D]? = some (.deferred (some [])) ∧ BFQ w4 V.heap.size (V.heap.size + 1) 1 m V2 ∧ m = L.length) ?loop2 ?go2 (fun _ _ h => h)
        case loop2 =>
          refine (wpIn_wide (n := 6)).1 ?_
          refine wp_range_topm (by decide) (gf := gf) (lb := lb) rfl hE (seq 5 (by decide)) (by omega) R1.2.2 (fun _ => rfl)
            (fun pre U => pre <+: L ∧ U.heap[D]? = some (.deferred (some [])) ∧ BFQ w4 V.heap.size (V.heap.size + 1) 1 (pre.length : Nat) U)
            (fun c pre U => c = .ret ∧ ¬ pre <+: L)
            (fun s A B row hs hg hr => ⟨hs.1, row_grq hs.2.1 hg (fun r e => (hr r e).1) (by omega), bfq_grown hs.2.2 hg (fun r e => (hr r e).1) (by omega) (by omega) (by omega)⟩)
            (fun c s A B row hs hg hr => hs)
            ⟨List.nil_prefix, hK1, R1⟩ ?a2 (fun x => Obj.cells (rwC x) 36) ?assign2 ?body2 ?done2 ?stop2
          case assign2 =>
            intro l x W K hK
            have hrn := rwC_new
            obtain ⟨m, hm⟩ : ∃ m, W.heap.size = m := ⟨_, rfl⟩
            have hK := hK (W.alloc (Obj.cells (rwC x) 36)) (World.grownBy_alloc W _ none) (by simp only [size_al]) (last7 W _)
            rw [hm] at hK
            gi_wp2
            exact hK
          case body2 =>
            rintro l pre xx mm U ⟨hp, hKU, hR⟩ hl4 hm0 hm1 hmx
            have HKU := box hKU
            clear hKU
            have hlp : pre.length < 136 := hl4
            obtain ⟨k, hk⟩ : ∃ k : Nat, pre.length = k := ⟨_, rfl⟩
            have hk1 : (pre ++ [xx]).length = k + 1 := by rw [List.length_append, hk]; rfl
            rw [hk] at hR hlp
            have vx := rwC_cells hmx
            have ci := cells4 hR.2.1 0 _ rfl
            have fi := fz (k := 0) hR.2.1
            have ct := cells4 hR.1 0 _ rfl
            have cw := cells4 (heap_of hR.2.2 _ _ _ Rw_4) 0 _ rfl
            have cl := cells4 (heap_of hR.2.2 _ _ _ Rx_4) 12 _ rfl
            have cr := cells4 (heap_of hR.2.2 _ _ _ Rr_4) 0 _ rfl
            have fr := fz (k := 0) (heap_of hR.2.2 _ _ _ Rr_4)
            have ow := ownsRow_below own4 hR.2.2
            have hwn : IntKind.i64.wrap ((k : Int) + 1) = ((k + 1 : Nat) : Int) := by rw [IntKind.wrap_i64]; omega
            obtain ⟨v0, v1, v2, v3, v4, v5, v6⟩ := vx
            have hrn := rwC_new
            have hrfx := rwC_fold xx
            have heq := eqr
            by_cases hlt : k < L.length
            · have hd : decide ((L.length : Int) ≤ (k : Int)) = false := by simp; omega
              have hd2 : decide (L.length ≤ k) = false := by simp; omega
              obtain ⟨g, rfl⟩ : ∃ g, ao = some ⟨g, 0, none⟩ := by
                rcases own4.2 with ⟨_, h0⟩ | ⟨g, _, _, h, _⟩
                · omega
                · injection h with h1; exact ⟨g, h1⟩
              obtain ⟨u, hu⟩ : ∃ u, L[k] = u := ⟨_, rfl⟩
              obtain ⟨z0, z1, z2, z3, z4, z5, z6⟩ := rws_cells ow rfl (show L[k]? = some u by rw [List.getElem?_eq_getElem hlt, hu])
              have hli0 : (0 : Int) ≤ (k : Int) := Int.natCast_nonneg _
              have hli : (k : Int) < (L.length : Int) := by omega
              have hrfu := rwC_fold u
              clear ow
              by_cases hxu : xx = u
              · have hne : rwE xx u = true := by rw [rwE_is]; exact decide_eq_true hxu
                have hyes := box (pre_yesq pre L xx hp (by omega) (by subst hk; exact hxu.trans hu.symm))
                clear hxu hu
                gi_wp2
                refine region_in_roundq (by kernel_rfl) (by kernel_rfl) (by kernel_rfl) ?_
                repeat (gi_big_quiet_step (fail))
                refine wpQuietIn_nil ?_
                intro _ hq
                obtain ⟨nq, hq⟩ := hq
                subst hq
                obtain ⟨V2, hV2, bV2, hh⟩ := quiet_world (Below.refl _ U) nq
                rw [hV2]
                have KO := box (topk_sameq (B := W1.heap.size) hh)
                have hR2 := bfq_same hR bV2 hh
                have BV := box (bV2.mono hR.2.2.size)
                have hset := box (bfq_set hR2 (by omega) (by omega) ((k + 1 : Nat) : Int))
                clear ci fi ct cw cl cr fr v0 v1 v2 v3 v4 v5 v6
                (try clear z0 z1 z2 z3 z4 z5 z6)
                have ci := cells4 hR2.2.1 0 _ rfl
                have fi := fz (k := 0) hR2.2.1
                have ct := cells4 hR2.1 0 _ rfl
                have lt4 := (Array.getElem?_eq_some_iff.1 Rx_4).1
                have cl := cells4 (heap_of hR2.2.2 _ _ _ Rx_4) 12 _ rfl
                have cl2 : ∀ u, (V2.setCell ⟨(V.heap.size + 1), 0, none⟩ u).cell? ⟨w.heap.size, 12, none⟩ = some (.int .i64 lv) := fun u => (World.cell?_setCell_other _ _ _ _ (by intro e; injection e with e1; omega)).trans cl
                have cr := cells4 (heap_of hR2.2.2 _ _ _ Rr_4) 0 _ rfl
                have fr := fz (k := 0) (heap_of hR2.2.2 _ _ _ Rr_4)
                have HH2 := box hh
                clear hR2 hR bV2 hV2 hh
                gi_wp2
                refine ⟨KO.out.trans (TopK.setCell _ _ _ _ (by omega)), BV.out.setCell (p := ⟨(V.heap.size + 1), 0, none⟩) (by simp; omega) _, hyes.out, (KeepsOthers.setCell _ _ _).same D _ ((keeps_sameq HH2.out).same D _ HKU.out rfl) rfl, ?_⟩
                have := hset.out
                rw [hk1]
                exact this
              · have hne : rwE xx u = false := by rw [rwE_is]; exact decide_eq_false hxu
                have hno := box (pre_noq pre L xx (fun h => by subst hk; rw [hu]; exact hxu))
                clear hxu hu
                gi_wp2
                refine region_in_roundq (by kernel_rfl) (by kernel_rfl) (by kernel_rfl) ?_
                repeat (gi_big_quiet_step (fail))
                refine wpQuietIn_nil ?_
                intro _ hq
                obtain ⟨nq, hq⟩ := hq
                subst hq
                obtain ⟨V2, hV2, bV2, hh⟩ := quiet_world (Below.refl _ U) nq
                rw [hV2]
                have KO := box (topk_sameq (B := W1.heap.size) hh)
                have hR2 := bfq_same hR bV2 hh
                have BV := box (bV2.mono hR.2.2.size)
                have hset := box (bfq_set hR2 (by omega) (by omega) ((k + 1 : Nat) : Int))
                clear ci fi ct cw cl cr fr v0 v1 v2 v3 v4 v5 v6
                (try clear z0 z1 z2 z3 z4 z5 z6)
                have ci := cells4 hR2.2.1 0 _ rfl
                have fi := fz (k := 0) hR2.2.1
                have ct := cells4 hR2.1 0 _ rfl
                have lt4 := (Array.getElem?_eq_some_iff.1 Rx_4).1
                have cl := cells4 (heap_of hR2.2.2 _ _ _ Rx_4) 12 _ rfl
                have cl2 : ∀ u, (V2.setCell ⟨(V.heap.size + 1), 0, none⟩ u).cell? ⟨w.heap.size, 12, none⟩ = some (.int .i64 lv) := fun u => (World.cell?_setCell_other _ _ _ _ (by intro e; injection e with e1; omega)).trans cl
                have cr := cells4 (heap_of hR2.2.2 _ _ _ Rr_4) 0 _ rfl
                have fr := fz (k := 0) (heap_of hR2.2.2 _ _ _ Rr_4)
                have HH2 := box hh
                clear hR2 hR bV2 hV2 hh
                gi_wp2
                exact ⟨KO.out.trans (TopK.setCell _ _ _ _ (by have := (Array.getElem?_eq_some_iff.1 Rr_4).1; omega)), rfl, hno.out⟩
            · have hd : decide ((L.length : Int) ≤ (k : Int)) = true := by simp; omega
              have hd2 : decide (L.length ≤ k) = true := by simp; omega
              have hno := box (pre_noq pre L xx (fun h => by omega))
              clear ow
              gi_wp2
              refine region_in_roundq (by kernel_rfl) (by kernel_rfl) (by kernel_rfl) ?_
              repeat (gi_big_quiet_step (fail))
              refine wpQuietIn_nil ?_
              intro _ hq
              obtain ⟨nq, hq⟩ := hq
              subst hq
              obtain ⟨V2, hV2, bV2, hh⟩ := quiet_world (Below.refl _ U) nq
              rw [hV2]
              have KO := box (topk_sameq (B := W1.heap.size) hh)
              have hR2 := bfq_same hR bV2 hh
              have BV := box (bV2.mono hR.2.2.size)
              have hset := box (bfq_set hR2 (by omega) (by omega) ((k + 1 : Nat) : Int))
              clear ci fi ct cw cl cr fr v0 v1 v2 v3 v4 v5 v6
              (try clear z0 z1 z2 z3 z4 z5 z6)
              have ci := cells4 hR2.2.1 0 _ rfl
              have fi := fz (k := 0) hR2.2.1
              have ct := cells4 hR2.1 0 _ rfl
              have lt4 := (Array.getElem?_eq_some_iff.1 Rx_4).1
              have cl := cells4 (heap_of hR2.2.2 _ _ _ Rx_4) 12 _ rfl
              have cl2 : ∀ u, (V2.setCell ⟨(V.heap.size + 1), 0, none⟩ u).cell? ⟨w.heap.size, 12, none⟩ = some (.int .i64 lv) := fun u => (World.cell?_setCell_other _ _ _ _ (by intro e; injection e with e1; omega)).trans cl
              have cr := cells4 (heap_of hR2.2.2 _ _ _ Rr_4) 0 _ rfl
              have fr := fz (k := 0) (heap_of hR2.2.2 _ _ _ Rr_4)
              have HH2 := box hh
              clear hR2 hR bV2 hV2 hh
              gi_wp2
              exact ⟨KO.out.trans (TopK.setCell _ _ _ _ (by have := (Array.getElem?_eq_some_iff.1 Rr_4).1; omega)), rfl, hno.out⟩
          case done2 =>
            rintro D2 ys U hD2 rfl ⟨hp, hKU, hR⟩ hK2
            exact ⟨.inl rfl, D2, _, rfl, hD2, hK2, hKU, hR, rfl⟩
          case stop2 =>
            rintro D2 c pre U hD2 hpre hx hK2
            exact absurd hpre hx.2
        case go2 =>
          rintro D2 m2 V2 ⟨hD2, hK2, hKD, hR2, rfl⟩
          have ci := cells4 hR2.2.1 0 _ rfl
          have ct := cells4 hR2.1 0 _ rfl
          have cw := cells4 (heap_of hR2.2.2 _ _ _ Rw_4) 0 _ rfl
          have hsV2 : w4.heap.size ≤ V2.heap.size := hR2.2.2.size
          go_wp2_with fail
          rw [rounds_succ]
          obtain ⟨w20, hw20⟩ : ∃ w20, V2.alloc (.cells #[.int .i64 2] 3) = w20 := ⟨_, rfl⟩
          have hBt := hR2.2.2.trans ((bal V2 (.cells #[.int .i64 2] 3)).mono hsV2)
          have hD20 : (V2.alloc (.cells #[.int .i64 2] 3)).heap[D2]? = some (.deferred (some [])) := row_al hK2 _
          have hE20 : (V2.alloc (.cells #[.int .i64 2] 3)).heap[D]? = some (.deferred (some [])) := row_al hKD _
          have hcT : w20.cell? ⟨V2.heap.size, 0, none⟩ = some (.int .i64 2) := by rw [← hw20]; exact cells4 (heap_alloc_last _ _) 0 _ rfl
          rw [hw20] at hBt hD20 hE20 ⊢
          clear hw20
          have B20 := btr B4 hBt
          have Rr_20 := heap_of hBt _ _ _ Rr_4
          have hge1 := box (show w.heap.size ≤ D ∧ w.heap.size ≤ D2 ∧ D ≠ D2 by have := B4.size; omega)
          clear ci ct cw hR hR2 R1 hK hK1 hK2 hKD
          go_wp2_with fail
          refine (KL.out _ (FB.out FF.out B20)).mono ?_
          rintro r w21 ⟨rfl, b21⟩
          have B21 : Below w.heap.size w w21 := btr B20 b21
          replace hD20 := heap_obq b21 hD20
          replace hE20 := heap_obq b21 hE20
          have Rr_21 := heap_of b21 _ _ _ Rr_20
          have cr_21_0 := cells4 Rr_21 0 _ rfl
          have fr := fz (k := 0) Rr_21
          go_wp2
          exact lvq2 (r := w.heap.size + 1) (fun U hU => by simp [results, Tryd.results6, go_sem, hU]) ((KeepsOthers.setCell _ _ _).same D2 _ hD20 rfl) ((KeepsOthers.setCell _ _ _).same D _ hE20 rfl) hge1.out.2.2 hge1.out.1 hge1.out.2.1 (B21.setCell (p := ⟨w.heap.size + 1, 0, none⟩) (by simp) _) (World.cell?_setCell_same _ _ _ (cells4 Rr_21 0 _ rfl))
end Go.Proofs.YtfdhglllmhggkaaDoor
namespace Go.Proofs.YtfdhglllmhggkaaDoor
set_option maxRecDepth 100000
set_option maxHeartbeats 40000000
set_option maxRecDepth 100000
open Go.RowKit Go.Shelf WMath
set_option linter.unusedVariables false
theorem asks24 {T : World → Prop} (FB : Box (∀ {w w' : World}, T w → Below w.heap.size w w' → T w')) (gf : Nat)
    (CO : ∀ o f g k : Nat, o < 256 → f < 256 → g < 256 → k < 256 → Box (∀ w, T w → Calls Tryd.prog 21 #[.int .u8 (o : Nat), .int .u8 (f : Nat), .int .u8 (g : Nat), .int .u8 (k : Nat)] w fun r w' => r = .returned (.tuple #[.agg (rwC (ndO (ofR24 o f g k)).1), .int .i64 (erF o f g k)]) ∧ Below w.heap.size w w'))
    (CN : ∀ q : Rw, RwOk q → Box (∀ w, T w → Calls Tryd.prog 12 #[.agg (rwC q)] w fun r w' => r = .returned (.tuple #[.string ⟨(ndO (nmR24 q)).2.toArray⟩, .int .i64 (erO (nmR24 q))]) ∧ Below w.heap.size w w'))
    (CD : ∀ s : ByteArray, s.size ≤ maxLen → Box (∀ w, T w → Calls Tryd.prog 13 #[.string s] w fun r w' => r = .returned (.tuple #[.agg (rwC (ndO (byR24 s)).1), .int .i64 (erO (byR24 s))]) ∧ Below w.heap.size w w'))
    (CE : ∀ o : Nat, o < 256 → Box (∀ W, T W → Calls Tryd.prog 25 #[.int .u8 (o : Nat)] W fun r w0 => ∃ lb, r = .returned (.func (.func gf) #[] lb) ∧ Below W.heap.size W w0 ∧ ∀ n', 5 ≤ n' → SeqTop n' Tryd.prog gf lb (fun x : Rw => #[Value.agg (rwC x)]) w0.heap.size (fun ys => ys = wantL o 136) (fun pre => pre <+: wantL o 136) 136 w0))
    (hE : ∀ args w, (callFunc gf args).run Tryd.prog w = .ok (.enter gf args) w)
    (KL : Box (∀ w, T w → Calls Tryd.prog 14 #[] w fun r w' => r = .returned (.bool true) ∧ Below w.heap.size w w'))
    (o f g k : Nat) (r : Rw) (s : ByteArray) (lv : Int) (ho : o < 256) (hf : f < 256) (hg : g < 256) (hk : k < 256) (hr : RwOk r) (hs : s.size ≤ maxLen) (w : World) (hT : T w) :
    Calls Tryd.prog 6 #[.agg (askC o f g k r s lv)] w fun r w' => r = .returned (.bool true) ∧ Below w.heap.size w w' :=
  ta_law FB o f g k r _ _ s _ _ lv _ _ _ gf KL (CO o f g k ho hf hg hk) (box fun w => rOf24 o f g k _ _ _ rfl rfl w) (CN r hr) (box fun w => rName24 r _ _ rfl rfl w) (CD s hs) (box fun w => rByName24 s _ _ rfl rfl w) (box rAll24) (CE o ho) hE w hT
end Go.Proofs.YtfdhglllmhggkaaDoor
namespace Go.Proofs.YtfdhglllmhggkaaDoor
set_option maxRecDepth 100000
set_option maxHeartbeats 40000000
set_option maxRecDepth 100000
set_option linter.unusedVariables false
structure Pl where
  nm : List UInt8
  opc : Nat
  rs3 : Nat
  rm : Nat
  lay : Nat
deriving DecidableEq
def plL : List Pl := [
  ⟨[], 0, 0, 0, 0⟩,
  ⟨[102, 108, 77], 7, 0, 0, 1⟩,
  ⟨[102, 115, 77], 39, 0, 0, 2⟩,
  ⟨[102, 109, 97, 100, 100, 46, 70], 67, 0, 0, 3⟩,
  ⟨[102, 109, 115, 117, 98, 46, 70], 71, 0, 0, 3⟩,
  ⟨[102, 110, 109, 115, 117, 98, 46, 70], 75, 0, 0, 3⟩,
  ⟨[102, 110, 109, 97, 100, 100, 46, 70], 79, 0, 0, 3⟩,
  ⟨[102, 97, 100, 100, 46, 70], 83, 0, 0, 4⟩,
  ⟨[102, 115, 117, 98, 46, 70], 83, 1, 0, 4⟩,
  ⟨[102, 109, 117, 108, 46, 70], 83, 2, 0, 4⟩,
  ⟨[102, 100, 105, 118, 46, 70], 83, 3, 0, 4⟩,
  ⟨[102, 115, 113, 114, 116, 46, 70], 83, 11, 0, 6⟩,
  ⟨[102, 115, 103, 110, 106, 46, 70], 83, 4, 0, 5⟩,
  ⟨[102, 115, 103, 110, 106, 110, 46, 70], 83, 4, 1, 5⟩,
  ⟨[102, 115, 103, 110, 106, 120, 46, 70], 83, 4, 2, 5⟩,
  ⟨[102, 109, 105, 110, 46, 70], 83, 5, 0, 5⟩,
  ⟨[102, 109, 97, 120, 46, 70], 83, 5, 1, 5⟩,
  ⟨[102, 99, 118, 116, 46, 70, 46, 71], 83, 8, 0, 6⟩,
  ⟨[102, 101, 113, 46, 70], 83, 20, 2, 5⟩,
  ⟨[102, 108, 116, 46, 70], 83, 20, 1, 5⟩,
  ⟨[102, 108, 101, 46, 70], 83, 20, 0, 5⟩,
  ⟨[102, 99, 118, 116, 46, 75, 46, 70], 83, 24, 0, 6⟩,
  ⟨[102, 99, 118, 116, 46, 70, 46, 75], 83, 26, 0, 6⟩,
  ⟨[102, 109, 118, 46, 120, 46, 77], 83, 28, 0, 7⟩,
  ⟨[102, 99, 108, 97, 115, 115, 46, 70], 83, 28, 1, 7⟩,
  ⟨[102, 109, 118, 46, 77, 46, 120], 83, 30, 0, 7⟩,
  ⟨[99, 115, 114, 114, 119], 115, 0, 1, 8⟩,
  ⟨[99, 115, 114, 114, 115], 115, 0, 2, 8⟩,
  ⟨[99, 115, 114, 114, 99], 115, 0, 3, 8⟩,
  ⟨[99, 115, 114, 114, 119, 105], 115, 0, 5, 9⟩,
  ⟨[99, 115, 114, 114, 115, 105], 115, 0, 6, 9⟩,
  ⟨[99, 115, 114, 114, 99, 105], 115, 0, 7, 9⟩]
def plZ : Pl := ⟨[], 0, 0, 0, 0⟩
def plN (o : Nat) : Pl := plL[o]?.getD plZ
def fxL : List Nat := [0, 28799, 28799, 100663423, 4261412991, 4261441663, 4293918847, 4293947519, 28799, 28799]
def fxN (l : Nat) : Nat := fxL[l]?.getD 0
def wdL : List Nat := [2, 3, 1, 4]
def wdN (f : Nat) : Nat := wdL[f]?.getD 0
structure Fd where
  opc : Nat
  rm : Nat
  rs2 : Nat
  form : Nat
  rs3 : Nat
deriving DecidableEq
def cutF (w : Nat) : Fd := ⟨w % 128, w / 4096 % 8, w / 1048576 % 32, w / 33554432 % 4, w / 134217728 % 32⟩
def wordF (f : Fd) : Nat := (((f.opc ||| f.rm * 4096) ||| f.rs2 * 1048576) ||| f.form * 33554432) ||| f.rs3 * 134217728
def cnQ (o : Nat) : Nat × Nat × Nat :=
  if (plN o).lay = 0 then (0, 0, 0) else if (plN o).lay = 8 ∨ (plN o).lay = 9 then (1, 1, 1) else if o = 23 ∨ o = 25 then (3, 1, 1) else if o = 17 then (4, 4, 1) else if o = 21 ∨ o = 22 then (4, 1, 4) else (4, 1, 1)
def rmP (o f : Nat) : Nat := if (plN o).lay = 1 ∨ (plN o).lay = 2 then wdN f else (plN o).rm
def fdP (o f g k : Nat) : Fd := ⟨(plN o).opc, rmP o f, g ||| k, f, (plN o).rs3⟩
def rwP24 (o f g k : Nat) : Rw := ⟨o, f, g, k, fxN (plN o).lay, wordF (fdP o f g k) &&& fxN (plN o).lay, (plN o).lay⟩
def inP24 (o f g k : Nat) : List Rw := if o = 17 ∧ g = f then [] else [rwP24 o f g k]
def kP24 (o f g k : Nat) : List Rw := (List.range k).flatMap (inP24 o f g)
def gP24 (o f g : Nat) : List Rw := (List.range g).flatMap fun g => kP24 o f g (cnQ o).2.2
def fP24 (o f : Nat) : List Rw := (List.range f).flatMap fun f => gP24 o f (cnQ o).2.1
def rwsO (o : Nat) : List Rw := fP24 o (cnQ o).1
theorem rwsO_all : (List.range 32).flatMap rwsO = allL.map (·.1) := by decide +kernel
theorem rwsO_out {o : Nat} (h : 32 ≤ o) : rwsO o = [] := by
  have e : plN o = plZ := by unfold plN; rw [List.getElem?_eq_none (by show 32 ≤ o; exact h)]; rfl
  simp [rwsO, cnQ, e, plZ, fP24]
theorem fP24_next (o f : Nat) : fP24 o (f + 1) = fP24 o f ++ gP24 o f (cnQ o).2.1 := by simp [fP24, List.range_succ]
theorem gP_next (o f g : Nat) : gP24 o f (g + 1) = gP24 o f g ++ kP24 o f g (cnQ o).2.2 := by simp [gP24, List.range_succ]
theorem kP_next (o f g k : Nat) : kP24 o f g (k + 1) = kP24 o f g k ++ inP24 o f g k := by simp [kP24, List.range_succ]
theorem rws_op : ((List.range 32).all fun o => (rwsO o).all fun r => decide (r.op = o ∧ r.form < 4 ∧ r.frm < 4 ∧ r.kind < 4)) = true := by decide +kernel
theorem cnQ_le : ((List.range 32).all fun o => decide ((cnQ o).1 ≤ 4 ∧ (cnQ o).2.1 ≤ 4 ∧ (cnQ o).2.2 ≤ 4)) = true := by decide +kernel
end Go.Proofs.YtfdhglllmhggkaaDoor
