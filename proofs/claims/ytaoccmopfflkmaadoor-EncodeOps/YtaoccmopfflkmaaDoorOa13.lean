/-
  What the functions that the statement reaches return: part 13 (WH, WI).
-/
import Derived.Deep.RegionLaw
import Derived.Deep.AppendLies
import Derived.Test.YtaoccmopfflkmaaDoorOa12
namespace Go.Proofs.YtaoccmopfflkmaaDoor
set_option maxRecDepth 100000
set_option maxHeartbeats 40000000
set_option maxRecDepth 100000
open Go.RowKit Go.Shelf WMath
set_option linter.unusedVariables false
set_option linter.unusedSimpArgs false
attribute [local go_sem] Oper.semAt_some

def eoI (r : Rw) : In := ⟨r.op, r.form, r.frm, r.kind, 0, 0, 0, 0, 0, 0, if r.lay = 8 ∨ r.lay = 9 then 1 else 0⟩
def wantI (o k : Nat) : List In := ((allL.take k).filter fun p => p.1.op == o).map fun p => eoI p.1
theorem wantI_next {o k : Nat} {p : Nm} (h : allL[k]? = some p) : wantI o (k + 1) = wantI o k ++ (if p.1.op = o then [eoI p.1] else []) := by
  unfold wantI
  rw [List.take_add_one, h, List.filter_append, List.map_append]
  congr 1
  by_cases c : p.1.op = o
  · rw [if_pos c]; simp [c]
  · rw [if_neg c]; simp [c]
theorem wantI_len (o k : Nat) : (wantI o k).length ≤ k := by
  unfold wantI
  rw [List.length_map]
  exact Nat.le_trans (List.length_filter_le _ _) (by rw [List.length_take]; exact Nat.min_le_left _ _)
theorem insI_app (l m : List In) : insI (l ++ m) = insI l ++ insI m := by simp [insI]
theorem ins_cells {w : World} {base : Nat} {g : Nat} {n cap : Nat} {L : List In} {k : Nat} {u : In} (h : w.ownsRow base 27 11 (.slice (some ⟨g, 0, none⟩) n cap) n (insI L)) (hn : n = L.length) (hu : L[k]? = some u) : CAt w g (k * 11) u :=
  cat_of (fun j v hv => by
    have hj : j < 11 := (Array.getElem?_eq_some_iff.1 hv).1
    have c := h.cells (g := g) rfl (k * 11 + j) v ((insI_at L k j u hu hj).trans hv)
    rw [show (⟨g, 0, none⟩ : Addr).add (k * 11 + j) = ⟨g, k * 11 + j, none⟩ from by unfold Addr.add; split <;> simp_all] at c
    exact c)
def W1E (w wr : World) (gw ga B : Nat) (lv : Int) (o k : Nat) (ao : Option Addr) (cv : Nat) : Prop :=
  Below w.heap.size w wr ∧ wr.heap[w.heap.size]? = some (.cells #[.int .i64 lv] 3) ∧ wr.heap[w.heap.size + 1]? = some (.cells #[.bool false] 4) ∧ wr.heap[gw]? = some (.cells #[.slice ao (wantI o k).length cv] 34) ∧ wr.ownsRow B 27 11 (.slice ao (wantI o k).length cv) (wantI o k).length (insI (wantI o k)) ∧ NdsAt wr ga allL ∧ B ≤ wr.heap.size
theorem nds_alE {w : World} {b : Nat} {l : List Nm} (h : NdsAt w b l) (o : Obj) : NdsAt (w.alloc o) b l := by
  obtain ⟨cur, h1, h2⟩ := h
  exact ⟨cur, row_al h1 o, h2⟩
theorem w1e_next {w w1 w3 V : World} {gw ga B : Nat} {lv : Int} {o k g3 cap3 : Nat} {M : List In} {r0 : In} {row : Option Nat} {u : Value} (h1 : Below w.heap.size w w1) (hx : w1.heap[w.heap.size]? = some (.cells #[.int .i64 lv] 3)) (hr : w1.heap[w.heap.size + 1]? = some (.cells #[.bool false] 4)) (hw : w1.heap[gw]? = some (.cells #[u] 34)) (hN : NdsAt w1 ga allL)
    (hsz : B ≤ w1.heap.size) (hV : Below w1.heap.size w1 V) (hgrow : V.grownBy w3 row) (hrow : ∀ q, row = some q → B ≤ q) (hga : ga < B) (hgw : gw < ga) (hw2 : w.heap.size + 1 < gw)
    (hown : w3.ownsRow B 27 11 (.slice (some ⟨g3, 0, none⟩) (M.length + 1) cap3) (M.length + 1) (insI M ++ (inC r0).toList)) (hnx : wantI o (k + 1) = M ++ [r0]) :
    W1E w (w3.setCell ⟨gw, 0, none⟩ (.slice (some ⟨g3, 0, none⟩) (M.length + 1) cap3)) gw ga B lv o (k + 1) (some ⟨g3, 0, none⟩) cap3 := by
  have sV := hV.size
  have get : ∀ b ob, b < B → w1.heap[b]? = some ob → w3.heap[b]? = some ob := fun b ob hb h => by
    rw [hgrow.block b (by omega) (fun e => by have := hrow b e.symm; omega), hV.block b (by omega)]
    exact h
  have s3 : V.heap.size ≤ w3.heap.size := hgrow.size
  have hl : (M ++ [r0]).length = M.length + 1 := by simp
  refine ⟨((h1.trans (hV.mono h1.size)).grown hgrow (by have := h1.size; omega) (fun q hq => by have := hrow q hq; omega)).setCell (p := ⟨gw, 0, none⟩) (by show w.heap.size ≤ gw; omega) _, ?_, ?_, ?_, ?_, ?_, ?_⟩
  · rw [setCell_other (by omega)]; exact get _ _ (by omega) hx
  · rw [setCell_other (by omega)]; exact get _ _ (by omega) hr
  · rw [hnx, hl, setCell_row (get _ _ (by omega) hw)]
    rfl
  · rw [hnx, hl, insI_app, show insI [r0] = (inC r0).toList from by simp [insI]]
    exact own_setq hown (by omega)
  · obtain ⟨cur, c1, c2⟩ := hN
    exact nds_setq ⟨cur, get _ _ hga c1, c2⟩ (by omega)
  · have e : (w3.setCell ⟨gw, 0, none⟩ (.slice (some ⟨g3, 0, none⟩) (M.length + 1) cap3)).heap.size = w3.heap.size := by
      have a := ((Below.refl 0 w3).setCell (p := ⟨gw, 0, none⟩) (Nat.zero_le _) (.slice (some ⟨g3, 0, none⟩) (M.length + 1) cap3)).size
      simp
    omega
theorem gen_eo {X : Act → World → Prop} {t0 t1 t2 t3 t4 t5 t6 t7 t8 t9 t10 t11 t12 t13 t14 t15 t16 t17 t18 t19 t20 t21 t22 t23 t24 t25 t26 t27 t28 t29 t30 t31 t32 t33 t34 t35 t36 t37 t38 t39 t40 t41 t42 t43 t44 t45 t46 t47 t48 t49 t50 t51 t52 t53 t54 t55 t56 t57 t58 t59 t60 t61 t62 t63 t64 t65 t66 t67 t68 t69 t70 t71 t72 t73 t74 t75 t76 t77 t78 t79 t80 t81 t82 t83 t84 t85 t86 t87 t88 t89 t90 t91 t92 t93 t94 t95 t96 t97 t98 t99 : Value} {d : List Deferred} {W : World} (key : ∀ u85 u86 u87 u88 u89 u90 u91 u92 u93 u94 u95 u96 : Value, X { tmps := #[t0, t1, t2, t3, t4, t5, t6, t7, t8, t9, t10, t11, t12, t13, t14, t15, t16, t17, t18, t19, t20, t21, t22, t23, t24, t25, t26, t27, t28, t29, t30, t31, t32, t33, t34, t35, t36, t37, t38, t39, t40, t41, t42, t43, t44, t45, t46, t47, t48, t49, t50, t51, t52, t53, t54, t55, t56, t57, t58, t59, t60, t61, t62, t63, t64, t65, t66, t67, t68, t69, t70, t71, t72, t73, t74, t75, t76, t77, t78, t79, t80, t81, t82, t83, t84, u85, u86, u87, u88, u89, u90, u91, u92, u93, u94, u95, u96, t97, t98, t99], defers := d } W) : X { tmps := #[t0, t1, t2, t3, t4, t5, t6, t7, t8, t9, t10, t11, t12, t13, t14, t15, t16, t17, t18, t19, t20, t21, t22, t23, t24, t25, t26, t27, t28, t29, t30, t31, t32, t33, t34, t35, t36, t37, t38, t39, t40, t41, t42, t43, t44, t45, t46, t47, t48, t49, t50, t51, t52, t53, t54, t55, t56, t57, t58, t59, t60, t61, t62, t63, t64, t65, t66, t67, t68, t69, t70, t71, t72, t73, t74, t75, t76, t77, t78, t79, t80, t81, t82, t83, t84, t85, t86, t87, t88, t89, t90, t91, t92, t93, t94, t95, t96, t97, t98, t99], defers := d } W := key _ _ _ _ _ _ _ _ _ _ _ _
set_option maxRecDepth 100000 in
set_option maxHeartbeats 8000000 in
theorem eo_law {T : World → Prop} (FB : Box (∀ {w w' : World}, T w → Below w.heap.size w w' → T w')) (xo : Nat) (lv : Int) (gf : Nat)
    (KL : Box (∀ w, T w → Calls Tryd.prog 13 #[] w fun r w' => r = .returned (.bool true) ∧ Below w.heap.size w w'))
    (RA : Box (∀ w, Calls Tryd.prog 18 #[] w fun r w' => ∃ v, r = .returned v ∧ OwnsAll w w' v))
    (PE : Box (∀ W, T W → Calls Tryd.prog 19 #[.int .u8 (xo : Nat)] W fun r w0 => ∃ lb, r = .returned (.func (.func gf) #[] lb) ∧ Below W.heap.size W w0 ∧ ∀ n', 5 ≤ n' → SeqTop n' Tryd.prog gf lb (fun x : In => #[Value.agg (inC x)]) w0.heap.size (fun ys => ys = wantI xo 136) (fun pre => pre <+: wantI xo 136) 136 w0))
    (hE : ∀ args w, (callFunc gf args).run Tryd.prog w = .ok (.enter gf args) w)
    (w : World) (hT : T w) : Calls Tryd.prog 6 #[.int .u8 (xo : Nat), .int .i64 lv] w fun r w' => r = .returned (.bool true) ∧ Below w.heap.size w w' := by
  have FF := box hT
  clear hT
  refine (callsIn_wide (n := 6)).1 ?_
  refine callsIn_of_wp_marks Tryd.func6 rfl trivial ?_ rfl
  refine wpIn_wide.2 ?_
  simp only [Tryd.ntmps6, List.size_toArray, List.length_cons, List.length_nil, Nat.reduceAdd, Nat.reduceSub, Array.replicate_succ, Array.replicate_zero, List.push_toArray, List.append_toArray, List.nil_append, List.cons_append]
  obtain ⟨Rx_0, Rr_0, B0⟩ := opn2 w (Obj.cells #[.int .i64 lv] 3) (Obj.cells #[.bool false] 4)
  go_wp2_with fail
  refine (KL.out _ (FB.out FF.out B0)).mono ?_
  rintro r w1 ⟨rfl, b1⟩
  have B1 : Below w.heap.size w w1 := btr B0 b1
  have Rx_1 := heap_of b1 _ _ _ Rx_0
  have Rr_1 := heap_of b1 _ _ _ Rr_0
  clear b1 B0 Rx_0 Rr_0
  have cx_1_0 := cells4 Rx_1 0 _ rfl
  have cr_1_0 := cells4 Rr_1 0 _ rfl
  go_wp2_with fail
  have Rx := Rx_1
  have Rr := Rr_1
  have Bq := B1
  have Lr := box (Array.getElem?_eq_some_iff.1 Rr).1
  have ba := bal w1 (Obj.cells #[.slice none 0 0] 34)
  have Rwb := last7 w1 (Obj.cells #[.slice none 0 0] 34)
  have Rx := heap_obq ba Rx
  have Rr := heap_obq ba Rr
  have Bq := btr Bq ba
  obtain ⟨gw, hgw⟩ : ∃ gw, w1.heap.size = gw := ⟨_, rfl⟩
  have Sgw : w.heap.size + 1 < gw := by have := Lr.out; omega
  refine (RA.out _).mono ?_
  rintro _ w11 ⟨v, rfl, ga, cap, rfl, hga, hN, hb⟩
  have Rwb := heap_obq hb Rwb
  rw [hgw] at Rwb
  rw [hgw]
  have Rx := heap_obq hb Rx
  have Rr := heap_obq hb Rr
  have Bq := btr Bq hb
  have Lga : gw < ga := by
    have := hga
    simp only [size_al] at this
    omega
  clear ba hb hga hgw
  have HX := box (And.intro Lga Sgw)
  have S11 := box (show ga < w11.heap.size by obtain ⟨cur, h1, _⟩ := hN; exact (Array.getElem?_eq_some_iff.1 h1).1)
  have R0 : W1E w w11 gw ga w11.heap.size lv xo 0 none 0 := ⟨Bq, Rx, Rr, Rwb, World.ownsRow_nil _ _ _ _, hN, Nat.le_refl _⟩
  clear Rx Rr Bq Rwb hN Lga Sgw
  obtain ⟨i0, hi, hz0, hz1, hz2⟩ := info_parts (show (Tryd.prog.info? 27).map (fun i => (i.zero, i.size, i.bytes)) = some (some (.agg #[.int .u8 0, .int .u8 0, .int .u8 0, .int .u8 0, .int .u8 0, .int .u8 0, .int .u8 0, .int .u8 0, .int .u8 0, .int .i16 0, .int .u8 0]), 11, 14) by kernel_rfl)
  go_wp2_with fail
  go_loopw [7] (fun iv wr => ∃ (k : Nat) (ao : Option Addr) (cv : Nat), k ≤ 136 ∧ iv = .int .i64 (k : Int) ∧ W1E w wr gw ga w11.heap.size lv xo k ao cv) (fun iv _ => 136 - (intOf iv).toNat)
  case atStart => exact ⟨0, none, 0, Nat.zero_le _, rfl, R0⟩
  case round =>
    clear R0
    obtain ⟨k, ao, cv, hk, rfl, hB, hx, hr, hw, ho, hN, hsz⟩ := hrel
    have hlen := wantI_len xo k
    have cw := cells4 hw 0 _ rfl
    have fw := fz (k := 0) hw
    have cx := cells4 hx 0 _ rfl
    by_cases hlk : k < 136
    · have dk : decide ((k : Int) < 136) = true := decide_eq_true (by omega)
      have hwk : IntKind.i64.wrap ((k : Int) + 1) = ((k + 1 : Nat) : Int) := by rw [IntKind.wrap_i64]; omega
      obtain ⟨⟨r0, s0⟩, hp⟩ : ∃ p, allL[k]? = some p := ⟨_, List.getElem?_eq_getElem (by rw [allL_len]; exact hlk)⟩
      have hnx := wantI_next (o := xo) hp
      have HP := box hp
      clear hp
      obtain ⟨c0, c1, c2, c3, c4, c5, c6, c7⟩ := hN.cells HP.out
      have hb0 : (0 : Int) ≤ (k : Int) := Int.natCast_nonneg _
      have hb1 : (k : Int) < 136 := by omega
      have hnr := nd_row
      have hrn := rwC_new
      have hrf := rwC_fold r0
      have hin := inC_new
      obtain ⟨I0, hI0⟩ : ∃ I0 : In, I0 = ⟨r0.op, r0.form, r0.frm, r0.kind, 0, 0, 0, 0, 0, 0, 0⟩ := ⟨_, rfl⟩
      have hif : #[Value.int .u8 (r0.op : Nat), .int .u8 (r0.form : Nat), .int .u8 (r0.frm : Nat), .int .u8 (r0.kind : Nat), .int .u8 0, .int .u8 0, .int .u8 0, .int .u8 0, .int .u8 0, .int .i16 0, .int .u8 0] = inC I0 := by rw [hI0]; rfl
      have Rz1 := last7 wr (Obj.cells (rwC r0) 45)
      obtain ⟨z0, z1, z2, z3, z4, z5, z6⟩ := rwC_cells Rz1
      have Rz2 := row_al Rz1 (Obj.cells (inC I0) 27)
      obtain ⟨y0, y1, y2, y3, y4, y5, y6⟩ := rwC_cells Rz2
      have Ri2 := last7 (wr.alloc (Obj.cells (rwC r0) 45)) (Obj.cells (inC I0) 27)
      simp only [size_al] at Ri2
      have h8 : r0.lay = 8 ∨ (r0.lay ≠ 8 ∧ r0.lay = 9) ∨ (r0.lay ≠ 8 ∧ r0.lay ≠ 9) := by omega
      have hr0 := rw_at0
      have hr1 := rw_at1
      have hr2 := rw_at2
      have hr3 := rw_at3
      have hr4 := rw_at4
      have hr5 := rw_at5
      have hr6 := rw_at6
      rcases h8 with q8 | ⟨q8, q9⟩ | ⟨q8, q9⟩
      · -- LayCsr
        have d8 : (((r0.lay : Nat) : Int) == 8) = true := by rw [q8]; rfl
        obtain ⟨I9, hI9⟩ : ∃ I9 : In, I9 = ⟨r0.op, r0.form, r0.frm, r0.kind, 0, 0, 0, 0, 0, 0, 1⟩ := ⟨_, rfl⟩
        have he : eoI r0 = I9 := by
          rw [hI9]
          show (⟨r0.op, r0.form, r0.frm, r0.kind, 0, 0, 0, 0, 0, 0, if r0.lay = 8 ∨ r0.lay = 9 then 1 else 0⟩ : In) = _
          rw [if_pos (.inl q8)]
        have hst9 : (inC I0).setIfInBounds 10 (.int .u8 1) = inC ⟨r0.op, r0.form, r0.frm, r0.kind, 0, 0, 0, 0, 0, 0, 1⟩ := by rw [hI0]; rfl
        rw [← hI9] at hst9
        clear hI9 hI0 q8
        have B2 := hB.trans ((btr (bal wr (Obj.cells (rwC r0) 45)) (bal _ (Obj.cells (inC I9) 27))).mono hB.size)
        have HS3 := box (show Below w.heap.size w ((wr.alloc (Obj.cells (rwC r0) 45)).alloc (Obj.cells (inC I9) 27)) ∧ ((wr.alloc (Obj.cells (rwC r0) 45)).alloc (Obj.cells (inC I9) 27)).heap[w.heap.size]? = some (.cells #[.int .i64 lv] 3) ∧ ((wr.alloc (Obj.cells (rwC r0) 45)).alloc (Obj.cells (inC I9) 27)).heap[w.heap.size + 1]? = some (.cells #[.bool false] 4) ∧ ((wr.alloc (Obj.cells (rwC r0) 45)).alloc (Obj.cells (inC I9) 27)).heap[gw]? = some (.cells #[.slice ao (wantI xo k).length cv] 34) ∧ NdsAt ((wr.alloc (Obj.cells (rwC r0) 45)).alloc (Obj.cells (inC I9) 27)) ga allL ∧ w11.heap.size ≤ ((wr.alloc (Obj.cells (rwC r0) 45)).alloc (Obj.cells (inC I9) 27)).heap.size from ⟨B2, row_al (row_al hx _) _, row_al (row_al hr _) _, row_al (row_al hw _) _, nds_alE (nds_alE hN _) _, by simp only [size_al]; omega⟩)
        have HO3 := box (show ((wr.alloc (Obj.cells (rwC r0) 45)).alloc (Obj.cells (inC I9) 27)).ownsRow w11.heap.size 27 11 (.slice ao (wantI xo k).length cv) (wantI xo k).length (insI (wantI xo k)) from (ho.alloc _).alloc _)
        have RI3 : ((wr.alloc (Obj.cells (rwC r0) 45)).alloc (Obj.cells (inC I9) 27)).heap[wr.heap.size + 1]? = some (.cells (inC I9) 27) := by have := last7 (wr.alloc (Obj.cells (rwC r0) 45)) (Obj.cells (inC I9) 27); simpa only [size_al] using this
        have RR3 : ((wr.alloc (Obj.cells (rwC r0) 45)).alloc (Obj.cells (inC I9) 27)).heap[wr.heap.size]? = some (.cells (rwC r0) 45) := row_al Rz1 _
        obtain ⟨t0, t1, t2, t3, t4, t5, t6⟩ := rwC_cells RR3
        obtain ⟨s0, s1, s2, s3, s4, s5, s6, s7, s8, s9, s10⟩ := inC_cells RI3
        have hfo9 := inC_fold I9
        have cg := cells4 HS3.out.2.2.2.1 0 _ rfl
        have fg := fz (k := 0) HS3.out.2.2.2.1
        have cgA := cells4 (row_al HS3.out.2.2.2.1 (Obj.cells (inC I9) 27)) 0 _ rfl
        have hne : Box ((.slice ao (wantI xo k).length cv : Value).ownBlock ≠ some gw) := box (own_far HO3.out (by have := HX.out; have := S11.out; omega))
        have lg3 := (Array.getElem?_eq_some_iff.1 HS3.out.2.2.2.1).1
        have R5 : Box (∀ w6 : World, (((wr.alloc (Obj.cells (rwC r0) 45)).alloc (Obj.cells (inC I9) 27)).alloc (Obj.cells (inC I9) 27)).grownBy w6 (.slice ao (wantI xo k).length cv : Value).ownBlock → w6.heap[gw]? = some (.cells #[.slice ao (wantI xo k).length cv] 34)) := box (fun w6 hg => (hg.block gw (by simp only [size_al] at *; omega) (fun e => hne.out e.symm)).trans (row_al HS3.out.2.2.2.1 _))
        clear lg3
        by_cases q : r0.op = xo
        · have d : (((r0.op : Nat) : Int) == ((xo : Nat) : Int)) = true := by rw [q]; simp
          rw [if_pos q, he] at hnx
          clear q
          have HNX := box hnx
          clear hnx hB hx hr hw ho hN B2 he
          go_wp2_with (first | (refine wpl_one25 rfl _ rfl _ rfl I9 rfl ?_) | (at_builtin; refine wpList_append_own_at _ rfl _ _ 34 rfl w11.heap.size 27 i0 (.agg #[.int .u8 0, .int .u8 0, .int .u8 0, .int .u8 0, .int .u8 0, .int .u8 0, .int .u8 0, .int .u8 0, .int .u8 0, .int .i16 0, .int .u8 0]) 11 14 Tryd.underlying34 hi hz0 hz1 hz2 rfl (by decide) _ _ _ rfl (HO3.out.alloc _) ⟨((wr.alloc (Obj.cells (rwC r0) 45)).alloc (Obj.cells (inC I9) 27)).heap.size, 0, none⟩ 1 1 ((inC I9).toList) rfl rfl (new_cells24 _ (inC I9) _) (in_one I9) (by unfold maxLen; omega) (by omega) (by have := HS3.out.2.2.2.2.2; simp only [size_al] at *; omega) ?_; intro v9 w6 hown9 hgrow9 hnil9 hblk9; obtain ⟨g9, cap9, e9⟩ := own_slice24 hown9 (Nat.succ_pos _); subst e9; have c9 := cells4 (R5.out w6 hgrow9) 0 _ rfl; have f9 := fz (k := 0) (R5.out w6 hgrow9)))
          have key := w1e_next (V := ((wr.alloc (Obj.cells (rwC r0) 45)).alloc (Obj.cells (inC I9) 27)).alloc (Obj.cells (inC I9) 27)) HS3.out.1 HS3.out.2.1 HS3.out.2.2.1 HS3.out.2.2.2.1 HS3.out.2.2.2.2.1 HS3.out.2.2.2.2.2 (bal _ _) hgrow9 (fun q e => (HO3.out.lt q e).1) S11.out HX.out.1 HX.out.2 hown9 HNX.out
          go_roundw
          case rel => exact ⟨k + 1, _, _, by omega, by first | rfl | simp, key⟩
          case measure => simp [intOf]; omega
        · have d : (((r0.op : Nat) : Int) == ((xo : Nat) : Int)) = false := by rw [beq_eq_false_iff_ne]; omega
          rw [if_neg q, List.append_nil] at hnx
          clear q
          have key : W1E w ((wr.alloc (Obj.cells (rwC r0) 45)).alloc (Obj.cells (inC I9) 27)) gw ga w11.heap.size lv xo (k + 1) ao cv := by
            unfold W1E
            rw [hnx]
            exact ⟨HS3.out.1, HS3.out.2.1, HS3.out.2.2.1, HS3.out.2.2.2.1, HO3.out, HS3.out.2.2.2.2.1, HS3.out.2.2.2.2.2⟩
          have KEY := box key
          clear key hnx hB hx hr hw ho hN B2 he
          go_wp2
          go_roundw
          case rel => exact ⟨k + 1, _, _, by omega, by first | rfl | simp, KEY.out⟩
          case measure => simp [intOf]; omega
      · -- LayCsrI
        have d8 : (((r0.lay : Nat) : Int) == 8) = false := by rw [beq_eq_false_iff_ne]; omega
        have d9 : (((r0.lay : Nat) : Int) == 9) = true := by rw [q9]; rfl
        obtain ⟨I9, hI9⟩ : ∃ I9 : In, I9 = ⟨r0.op, r0.form, r0.frm, r0.kind, 0, 0, 0, 0, 0, 0, 1⟩ := ⟨_, rfl⟩
        have he : eoI r0 = I9 := by
          rw [hI9]
          show (⟨r0.op, r0.form, r0.frm, r0.kind, 0, 0, 0, 0, 0, 0, if r0.lay = 8 ∨ r0.lay = 9 then 1 else 0⟩ : In) = _
          rw [if_pos (.inr q9)]
        have hst9 : (inC I0).setIfInBounds 10 (.int .u8 1) = inC ⟨r0.op, r0.form, r0.frm, r0.kind, 0, 0, 0, 0, 0, 0, 1⟩ := by rw [hI0]; rfl
        rw [← hI9] at hst9
        clear hI9 hI0 q8 q9
        have B2 := hB.trans ((btr (bal wr (Obj.cells (rwC r0) 45)) (bal _ (Obj.cells (inC I9) 27))).mono hB.size)
        have HS3 := box (show Below w.heap.size w ((wr.alloc (Obj.cells (rwC r0) 45)).alloc (Obj.cells (inC I9) 27)) ∧ ((wr.alloc (Obj.cells (rwC r0) 45)).alloc (Obj.cells (inC I9) 27)).heap[w.heap.size]? = some (.cells #[.int .i64 lv] 3) ∧ ((wr.alloc (Obj.cells (rwC r0) 45)).alloc (Obj.cells (inC I9) 27)).heap[w.heap.size + 1]? = some (.cells #[.bool false] 4) ∧ ((wr.alloc (Obj.cells (rwC r0) 45)).alloc (Obj.cells (inC I9) 27)).heap[gw]? = some (.cells #[.slice ao (wantI xo k).length cv] 34) ∧ NdsAt ((wr.alloc (Obj.cells (rwC r0) 45)).alloc (Obj.cells (inC I9) 27)) ga allL ∧ w11.heap.size ≤ ((wr.alloc (Obj.cells (rwC r0) 45)).alloc (Obj.cells (inC I9) 27)).heap.size from ⟨B2, row_al (row_al hx _) _, row_al (row_al hr _) _, row_al (row_al hw _) _, nds_alE (nds_alE hN _) _, by simp only [size_al]; omega⟩)
        have HO3 := box (show ((wr.alloc (Obj.cells (rwC r0) 45)).alloc (Obj.cells (inC I9) 27)).ownsRow w11.heap.size 27 11 (.slice ao (wantI xo k).length cv) (wantI xo k).length (insI (wantI xo k)) from (ho.alloc _).alloc _)
        have RI3 : ((wr.alloc (Obj.cells (rwC r0) 45)).alloc (Obj.cells (inC I9) 27)).heap[wr.heap.size + 1]? = some (.cells (inC I9) 27) := by have := last7 (wr.alloc (Obj.cells (rwC r0) 45)) (Obj.cells (inC I9) 27); simpa only [size_al] using this
        have RR3 : ((wr.alloc (Obj.cells (rwC r0) 45)).alloc (Obj.cells (inC I9) 27)).heap[wr.heap.size]? = some (.cells (rwC r0) 45) := row_al Rz1 _
        obtain ⟨t0, t1, t2, t3, t4, t5, t6⟩ := rwC_cells RR3
        obtain ⟨s0, s1, s2, s3, s4, s5, s6, s7, s8, s9, s10⟩ := inC_cells RI3
        have hfo9 := inC_fold I9
        have cg := cells4 HS3.out.2.2.2.1 0 _ rfl
        have fg := fz (k := 0) HS3.out.2.2.2.1
        have cgA := cells4 (row_al HS3.out.2.2.2.1 (Obj.cells (inC I9) 27)) 0 _ rfl
        have hne : Box ((.slice ao (wantI xo k).length cv : Value).ownBlock ≠ some gw) := box (own_far HO3.out (by have := HX.out; have := S11.out; omega))
        have lg3 := (Array.getElem?_eq_some_iff.1 HS3.out.2.2.2.1).1
        have R5 : Box (∀ w6 : World, (((wr.alloc (Obj.cells (rwC r0) 45)).alloc (Obj.cells (inC I9) 27)).alloc (Obj.cells (inC I9) 27)).grownBy w6 (.slice ao (wantI xo k).length cv : Value).ownBlock → w6.heap[gw]? = some (.cells #[.slice ao (wantI xo k).length cv] 34)) := box (fun w6 hg => (hg.block gw (by simp only [size_al] at *; omega) (fun e => hne.out e.symm)).trans (row_al HS3.out.2.2.2.1 _))
        clear lg3
        by_cases q : r0.op = xo
        · have d : (((r0.op : Nat) : Int) == ((xo : Nat) : Int)) = true := by rw [q]; simp
          rw [if_pos q, he] at hnx
          clear q
          have HNX := box hnx
          clear hnx hB hx hr hw ho hN B2 he
          go_wp2_with (first | (refine wpl_one25 rfl _ rfl _ rfl I9 rfl ?_) | (at_builtin; refine wpList_append_own_at _ rfl _ _ 34 rfl w11.heap.size 27 i0 (.agg #[.int .u8 0, .int .u8 0, .int .u8 0, .int .u8 0, .int .u8 0, .int .u8 0, .int .u8 0, .int .u8 0, .int .u8 0, .int .i16 0, .int .u8 0]) 11 14 Tryd.underlying34 hi hz0 hz1 hz2 rfl (by decide) _ _ _ rfl (HO3.out.alloc _) ⟨((wr.alloc (Obj.cells (rwC r0) 45)).alloc (Obj.cells (inC I9) 27)).heap.size, 0, none⟩ 1 1 ((inC I9).toList) rfl rfl (new_cells24 _ (inC I9) _) (in_one I9) (by unfold maxLen; omega) (by omega) (by have := HS3.out.2.2.2.2.2; simp only [size_al] at *; omega) ?_; intro v9 w6 hown9 hgrow9 hnil9 hblk9; obtain ⟨g9, cap9, e9⟩ := own_slice24 hown9 (Nat.succ_pos _); subst e9; have c9 := cells4 (R5.out w6 hgrow9) 0 _ rfl; have f9 := fz (k := 0) (R5.out w6 hgrow9)))
          have key := w1e_next (V := ((wr.alloc (Obj.cells (rwC r0) 45)).alloc (Obj.cells (inC I9) 27)).alloc (Obj.cells (inC I9) 27)) HS3.out.1 HS3.out.2.1 HS3.out.2.2.1 HS3.out.2.2.2.1 HS3.out.2.2.2.2.1 HS3.out.2.2.2.2.2 (bal _ _) hgrow9 (fun q e => (HO3.out.lt q e).1) S11.out HX.out.1 HX.out.2 hown9 HNX.out
          go_roundw
          case rel => exact ⟨k + 1, _, _, by omega, by first | rfl | simp, key⟩
          case measure => simp [intOf]; omega
        · have d : (((r0.op : Nat) : Int) == ((xo : Nat) : Int)) = false := by rw [beq_eq_false_iff_ne]; omega
          rw [if_neg q, List.append_nil] at hnx
          clear q
          have key : W1E w ((wr.alloc (Obj.cells (rwC r0) 45)).alloc (Obj.cells (inC I9) 27)) gw ga w11.heap.size lv xo (k + 1) ao cv := by
            unfold W1E
            rw [hnx]
            exact ⟨HS3.out.1, HS3.out.2.1, HS3.out.2.2.1, HS3.out.2.2.2.1, HO3.out, HS3.out.2.2.2.2.1, HS3.out.2.2.2.2.2⟩
          have KEY := box key
          clear key hnx hB hx hr hw ho hN B2 he
          go_wp2
          go_roundw
          case rel => exact ⟨k + 1, _, _, by omega, by first | rfl | simp, KEY.out⟩
          case measure => simp [intOf]; omega
      · -- none of them
        have d8 : (((r0.lay : Nat) : Int) == 8) = false := by rw [beq_eq_false_iff_ne]; omega
        have d9 : (((r0.lay : Nat) : Int) == 9) = false := by rw [beq_eq_false_iff_ne]; omega
        obtain ⟨I9, hI9⟩ : ∃ I9 : In, I9 = I0 := ⟨_, rfl⟩
        have he : eoI r0 = I9 := by
          rw [hI9]
          show (⟨r0.op, r0.form, r0.frm, r0.kind, 0, 0, 0, 0, 0, 0, if r0.lay = 8 ∨ r0.lay = 9 then 1 else 0⟩ : In) = _
          rw [hI0, if_neg (by omega)]
        have hst9 : (inC I0).setIfInBounds 10 (.int .u8 1) = inC ⟨r0.op, r0.form, r0.frm, r0.kind, 0, 0, 0, 0, 0, 0, 1⟩ := by rw [hI0]; rfl
        clear hst9
        subst hI9
        clear hI0 q8 q9
        have B2 := hB.trans ((btr (bal wr (Obj.cells (rwC r0) 45)) (bal _ (Obj.cells (inC I9) 27))).mono hB.size)
        have HS3 := box (show Below w.heap.size w ((wr.alloc (Obj.cells (rwC r0) 45)).alloc (Obj.cells (inC I9) 27)) ∧ ((wr.alloc (Obj.cells (rwC r0) 45)).alloc (Obj.cells (inC I9) 27)).heap[w.heap.size]? = some (.cells #[.int .i64 lv] 3) ∧ ((wr.alloc (Obj.cells (rwC r0) 45)).alloc (Obj.cells (inC I9) 27)).heap[w.heap.size + 1]? = some (.cells #[.bool false] 4) ∧ ((wr.alloc (Obj.cells (rwC r0) 45)).alloc (Obj.cells (inC I9) 27)).heap[gw]? = some (.cells #[.slice ao (wantI xo k).length cv] 34) ∧ NdsAt ((wr.alloc (Obj.cells (rwC r0) 45)).alloc (Obj.cells (inC I9) 27)) ga allL ∧ w11.heap.size ≤ ((wr.alloc (Obj.cells (rwC r0) 45)).alloc (Obj.cells (inC I9) 27)).heap.size from ⟨B2, row_al (row_al hx _) _, row_al (row_al hr _) _, row_al (row_al hw _) _, nds_alE (nds_alE hN _) _, by simp only [size_al]; omega⟩)
        have HO3 := box (show ((wr.alloc (Obj.cells (rwC r0) 45)).alloc (Obj.cells (inC I9) 27)).ownsRow w11.heap.size 27 11 (.slice ao (wantI xo k).length cv) (wantI xo k).length (insI (wantI xo k)) from (ho.alloc _).alloc _)
        have RI3 : ((wr.alloc (Obj.cells (rwC r0) 45)).alloc (Obj.cells (inC I9) 27)).heap[wr.heap.size + 1]? = some (.cells (inC I9) 27) := by have := last7 (wr.alloc (Obj.cells (rwC r0) 45)) (Obj.cells (inC I9) 27); simpa only [size_al] using this
        have RR3 : ((wr.alloc (Obj.cells (rwC r0) 45)).alloc (Obj.cells (inC I9) 27)).heap[wr.heap.size]? = some (.cells (rwC r0) 45) := row_al Rz1 _
        obtain ⟨t0, t1, t2, t3, t4, t5, t6⟩ := rwC_cells RR3
        obtain ⟨s0, s1, s2, s3, s4, s5, s6, s7, s8, s9, s10⟩ := inC_cells RI3
        have hfo9 := inC_fold I9
        have cg := cells4 HS3.out.2.2.2.1 0 _ rfl
        have fg := fz (k := 0) HS3.out.2.2.2.1
        have cgA := cells4 (row_al HS3.out.2.2.2.1 (Obj.cells (inC I9) 27)) 0 _ rfl
        have hne : Box ((.slice ao (wantI xo k).length cv : Value).ownBlock ≠ some gw) := box (own_far HO3.out (by have := HX.out; have := S11.out; omega))
        have lg3 := (Array.getElem?_eq_some_iff.1 HS3.out.2.2.2.1).1
        have R5 : Box (∀ w6 : World, (((wr.alloc (Obj.cells (rwC r0) 45)).alloc (Obj.cells (inC I9) 27)).alloc (Obj.cells (inC I9) 27)).grownBy w6 (.slice ao (wantI xo k).length cv : Value).ownBlock → w6.heap[gw]? = some (.cells #[.slice ao (wantI xo k).length cv] 34)) := box (fun w6 hg => (hg.block gw (by simp only [size_al] at *; omega) (fun e => hne.out e.symm)).trans (row_al HS3.out.2.2.2.1 _))
        clear lg3
        by_cases q : r0.op = xo
        · have d : (((r0.op : Nat) : Int) == ((xo : Nat) : Int)) = true := by rw [q]; simp
          rw [if_pos q, he] at hnx
          clear q
          have HNX := box hnx
          clear hnx hB hx hr hw ho hN B2 he
          go_wp2_with (first | (refine wpl_one25 rfl _ rfl _ rfl I9 rfl ?_) | (at_builtin; refine wpList_append_own_at _ rfl _ _ 34 rfl w11.heap.size 27 i0 (.agg #[.int .u8 0, .int .u8 0, .int .u8 0, .int .u8 0, .int .u8 0, .int .u8 0, .int .u8 0, .int .u8 0, .int .u8 0, .int .i16 0, .int .u8 0]) 11 14 Tryd.underlying34 hi hz0 hz1 hz2 rfl (by decide) _ _ _ rfl (HO3.out.alloc _) ⟨((wr.alloc (Obj.cells (rwC r0) 45)).alloc (Obj.cells (inC I9) 27)).heap.size, 0, none⟩ 1 1 ((inC I9).toList) rfl rfl (new_cells24 _ (inC I9) _) (in_one I9) (by unfold maxLen; omega) (by omega) (by have := HS3.out.2.2.2.2.2; simp only [size_al] at *; omega) ?_; intro v9 w6 hown9 hgrow9 hnil9 hblk9; obtain ⟨g9, cap9, e9⟩ := own_slice24 hown9 (Nat.succ_pos _); subst e9; have c9 := cells4 (R5.out w6 hgrow9) 0 _ rfl; have f9 := fz (k := 0) (R5.out w6 hgrow9)))
          have key := w1e_next (V := ((wr.alloc (Obj.cells (rwC r0) 45)).alloc (Obj.cells (inC I9) 27)).alloc (Obj.cells (inC I9) 27)) HS3.out.1 HS3.out.2.1 HS3.out.2.2.1 HS3.out.2.2.2.1 HS3.out.2.2.2.2.1 HS3.out.2.2.2.2.2 (bal _ _) hgrow9 (fun q e => (HO3.out.lt q e).1) S11.out HX.out.1 HX.out.2 hown9 HNX.out
          go_roundw
          case rel => exact ⟨k + 1, _, _, by omega, by first | rfl | simp, key⟩
          case measure => simp [intOf]; omega
        · have d : (((r0.op : Nat) : Int) == ((xo : Nat) : Int)) = false := by rw [beq_eq_false_iff_ne]; omega
          rw [if_neg q, List.append_nil] at hnx
          clear q
          have key : W1E w ((wr.alloc (Obj.cells (rwC r0) 45)).alloc (Obj.cells (inC I9) 27)) gw ga w11.heap.size lv xo (k + 1) ao cv := by
            unfold W1E
            rw [hnx]
            exact ⟨HS3.out.1, HS3.out.2.1, HS3.out.2.2.1, HS3.out.2.2.2.1, HO3.out, HS3.out.2.2.2.2.1, HS3.out.2.2.2.2.2⟩
          have KEY := box key
          clear key hnx hB hx hr hw ho hN B2 he
          go_wp2
          go_roundw
          case rel => exact ⟨k + 1, _, _, by omega, by first | rfl | simp, KEY.out⟩
          case measure => simp [intOf]; omega
    · have k136 : k = 136 := by omega
      subst k136
      clear hlk hlen
      go_wp2_with fail
      refine (PE.out _ (FB.out FF.out hB)).mono ?_
      rintro _ w4 ⟨lb, rfl, b4, seq⟩
      obtain ⟨L, hL⟩ : ∃ L, wantI xo 136 = L := ⟨_, rfl⟩
      rw [hL] at seq hw ho
      have hpl := wantI_len xo 136
      rw [hL] at hpl
      have B4 := btr hB b4
      have Rx_4 := heap_of b4 _ _ _ hx
      have Rr_4 := heap_of b4 _ _ _ hr
      have Rw_4 := heap_of b4 _ _ _ hw
      have own4 := ownsRow_below ho b4
      have hnil : ∀ (lb : Array Value) (w : World), (binOp .eql 54 (.func (.func gf) #[] lb) .nilFunc).run Tryd.prog w = .ok (.bool false) w := fun _ _ => by kernel_rfl
      have HXg := HX.out
      clear hL b4 hB hx hr hw ho hN hsz cw fw cx RA PE hi hz0 hz1 hz2 i0
      go_wp2_with fail
      refine wp_loop_rounds 3 ?_
      rw [rounds_succ]
      go_wp2_with fail
      obtain ⟨W0, hW0⟩ : ∃ W0, ((w4.alloc (.cells #[.int .i64 0] 3)).alloc (.cells #[.int .i64 0] 3)) = W0 := ⟨_, rfl⟩
      have hs0 : W0.heap.size = w4.heap.size + 1 + 1 := by rw [← hW0]; simp only [size_al]
      have R0 : BFQ w4 w4.heap.size (w4.heap.size + 1) 0 0 W0 := by
        rw [← hW0]
        exact ⟨heap_of (bal _ _) _ _ _ (heap_alloc_last _ _), by have := heap_alloc_last (w4.alloc (.cells #[.int .i64 0] 3)) (.cells #[.int .i64 0] 3); simpa only [size_al] using this, btr (bal _ _) (bal _ _)⟩
      rw [hW0]
      clear hW0
      refine range_keyq (id := 4) (fun D m V => W0.heap.size ≤ D ∧ V.heap[D]? = some (.deferred (some [])) ∧ BFQ w4 w4.heap.size (w4.heap.size + 1) 0 m V ∧ (m = L.length ∨ m = lv)) ?loop ?go (fun _ _ h => h)
      case loop =>
        refine (wpIn_wide (n := 6)).1 ?_
        refine wp_range_topm (by decide) (gf := gf) (lb := lb) rfl hE (seq 5 (by decide)) (by omega) R0.2.2 (fun _ => rfl)
          (fun pre V => pre <+: L ∧ BFQ w4 w4.heap.size (w4.heap.size + 1) 0 (pre.length : Nat) V)
          (fun c pre V => (c = .ret ∧ ¬ pre <+: L) ∨ (c = .exit 4 ∧ ((pre.length : Nat) : Int) = lv ∧ pre <+: L ∧ BFQ w4 w4.heap.size (w4.heap.size + 1) 0 (pre.length : Nat) V))
          (fun s A B row hs hg hr => ⟨hs.1, bfq_grown hs.2 hg (fun r e => (hr r e).1) (by omega) (by omega) (by omega)⟩)
          (fun c s A B row hs hg hr => hs.imp id (fun h => ⟨h.1, h.2.1, h.2.2.1, bfq_grown h.2.2.2 hg (fun r e => (hr r e).1) (by omega) (by omega) (by omega)⟩))
          ⟨List.nil_prefix, R0⟩ ?a1 (fun x => Obj.cells (inC x) 27) ?assign ?body ?done ?stop
        case assign =>
          intro l x W K hK
          have hrn := inC_new
          obtain ⟨m, hm⟩ : ∃ m, W.heap.size = m := ⟨_, rfl⟩
          have hK := hK (W.alloc (Obj.cells (inC x) 27)) (World.grownBy_alloc W _ none) (by simp only [size_al]) (last7 W _)
          rw [hm] at hK
          gi_wp2
          exact hK
        case body =>
          rintro l pre xx mm V ⟨hp, hR⟩ hl4 hm0 hm1 hmx
          have hlp : pre.length < 136 := hl4
          obtain ⟨k, hk⟩ : ∃ k : Nat, pre.length = k := ⟨_, rfl⟩
          have hk1 : (pre ++ [xx]).length = k + 1 := by rw [List.length_append, hk]; rfl
          rw [hk] at hR hlp
          have vx := inC_cells hmx
          have ci := cells4 hR.2.1 0 _ rfl
          have fi := fz (k := 0) hR.2.1
          have ct := cells4 hR.1 0 _ rfl
          have cw := cells4 (heap_of hR.2.2 _ _ _ Rw_4) 0 _ rfl
          have cl := cells4 (heap_of hR.2.2 _ _ _ Rx_4) 0 _ rfl
          have cr := cells4 (heap_of hR.2.2 _ _ _ Rr_4) 0 _ rfl
          have fr := fz (k := 0) (heap_of hR.2.2 _ _ _ Rr_4)
          have ow := ownsRow_below own4 hR.2.2
          have hwn : IntKind.i64.wrap ((k : Int) + 1) = ((k + 1 : Nat) : Int) := by rw [IntKind.wrap_i64]; omega
          obtain ⟨v0, v1, v2, v3, v4, v5, v6, v7, v8, v9, v10⟩ := vx
          have hrn := inC_new
          have hrfx := inC_fold xx
          have heq := eqin
          by_cases hlt : k < L.length
          · have hd : decide ((L.length : Int) ≤ (k : Int)) = false := by simp; omega
            have hd2 : decide (L.length ≤ k) = false := by simp; omega
            obtain ⟨g, rfl⟩ : ∃ g, ao = some ⟨g, 0, none⟩ := by
              rcases own4.2 with ⟨_, h0⟩ | ⟨g, _, _, h, _⟩
              · omega
              · injection h with h1; exact ⟨g, h1⟩
            obtain ⟨u, hu⟩ : ∃ u, L[k] = u := ⟨_, rfl⟩
            obtain ⟨z0, z1, z2, z3, z4, z5, z6, z7, z8, z9, z10⟩ := ins_cells ow rfl (show L[k]? = some u by rw [List.getElem?_eq_getElem hlt, hu])
            have hli0 : (0 : Int) ≤ (k : Int) := Int.natCast_nonneg _
            have hli : (k : Int) < (L.length : Int) := by omega
            have hrfu := inC_fold u
            clear ow
            by_cases hxu : xx = u
            · have hne : inCE xx u = true := by rw [inCE_is]; exact decide_eq_true hxu
              have hyes := box (pre_yesq pre L xx hp (by omega) (by subst hk; exact hxu.trans hu.symm))
              clear hxu hu
              gi_wp2
              refine region_in_roundq (by kernel_rfl) (by kernel_rfl) (by kernel_rfl) ?_
              repeat (gi_big_quiet_step (fail))
              refine wpQuietIn_nil ?_
              intro _ hq
              obtain ⟨nq, hq⟩ := hq
              subst hq
              obtain ⟨V2, hV2, bV2, hh⟩ := quiet_world (Below.refl _ V) nq
              rw [hV2]
              have KO := box (topk_sameq (B := W0.heap.size) hh)
              have hR2 := bfq_same hR bV2 hh
              have BV := box (bV2.mono hR.2.2.size)
              have hset := box (bfq_set hR2 (by omega) (by omega) ((k + 1 : Nat) : Int))
              clear ci fi ct cw cl cr fr v0 v1 v2 v3 v4 v5 v6 v7 v8 v9 v10
              (try clear z0 z1 z2 z3 z4 z5 z6 z7 z8 z9 z10)
              have ci := cells4 hR2.2.1 0 _ rfl
              have fi := fz (k := 0) hR2.2.1
              have ct := cells4 hR2.1 0 _ rfl
              have lt4 := (Array.getElem?_eq_some_iff.1 Rx_4).1
              have cl := cells4 (heap_of hR2.2.2 _ _ _ Rx_4) 0 _ rfl
              have cl2 : ∀ u, (V2.setCell ⟨(w4.heap.size + 1), 0, none⟩ u).cell? ⟨w.heap.size, 0, none⟩ = some (.int .i64 lv) := fun u => (World.cell?_setCell_other _ _ _ _ (by intro e; injection e with e1; omega)).trans cl
              have cr := cells4 (heap_of hR2.2.2 _ _ _ Rr_4) 0 _ rfl
              have fr := fz (k := 0) (heap_of hR2.2.2 _ _ _ Rr_4)
              have HH2 := box hh
              clear hR2 hR bV2 hV2 hh
              by_cases hlv : ((k + 1 : Nat) : Int) = lv
              · have hvl : (((k : Int) + 1) == lv) = true := beq_iff_eq.2 (by omega)
                gi_wp2
                refine ⟨KO.out.trans (TopK.setCell _ _ _ _ (by omega)), .inr ⟨rfl, by rw [hk1]; exact hlv, hyes.out, ?_⟩⟩
                have := hset.out
                rw [hk1]
                rw [hlv] at this ⊢
                exact this
              · have hvl : (((k : Int) + 1) == lv) = false := beq_eq_false_iff_ne.2 (by omega)
                gi_wp2
                refine ⟨KO.out.trans (TopK.setCell _ _ _ _ (by omega)), BV.out.setCell (p := ⟨(w4.heap.size + 1), 0, none⟩) (by simp) _, hyes.out, ?_⟩
                have := hset.out
                rw [hk1]
                exact this
            · have hne : inCE xx u = false := by rw [inCE_is]; exact decide_eq_false hxu
              have hno := box (pre_noq pre L xx (fun h => by subst hk; rw [hu]; exact hxu))
              clear hxu hu
              gi_wp2
              refine region_in_roundq (by kernel_rfl) (by kernel_rfl) (by kernel_rfl) ?_
              repeat (gi_big_quiet_step (fail))
              refine wpQuietIn_nil ?_
              intro _ hq
              obtain ⟨nq, hq⟩ := hq
              subst hq
              obtain ⟨V2, hV2, bV2, hh⟩ := quiet_world (Below.refl _ V) nq
              rw [hV2]
              have KO := box (topk_sameq (B := W0.heap.size) hh)
              have hR2 := bfq_same hR bV2 hh
              have BV := box (bV2.mono hR.2.2.size)
              have hset := box (bfq_set hR2 (by omega) (by omega) ((k + 1 : Nat) : Int))
              clear ci fi ct cw cl cr fr v0 v1 v2 v3 v4 v5 v6 v7 v8 v9 v10
              (try clear z0 z1 z2 z3 z4 z5 z6 z7 z8 z9 z10)
              have ci := cells4 hR2.2.1 0 _ rfl
              have fi := fz (k := 0) hR2.2.1
              have ct := cells4 hR2.1 0 _ rfl
              have lt4 := (Array.getElem?_eq_some_iff.1 Rx_4).1
              have cl := cells4 (heap_of hR2.2.2 _ _ _ Rx_4) 0 _ rfl
              have cl2 : ∀ u, (V2.setCell ⟨(w4.heap.size + 1), 0, none⟩ u).cell? ⟨w.heap.size, 0, none⟩ = some (.int .i64 lv) := fun u => (World.cell?_setCell_other _ _ _ _ (by intro e; injection e with e1; omega)).trans cl
              have cr := cells4 (heap_of hR2.2.2 _ _ _ Rr_4) 0 _ rfl
              have fr := fz (k := 0) (heap_of hR2.2.2 _ _ _ Rr_4)
              have HH2 := box hh
              clear hR2 hR bV2 hV2 hh
              gi_wp2
              exact ⟨KO.out.trans (TopK.setCell _ _ _ _ (by have := (Array.getElem?_eq_some_iff.1 Rr_4).1; omega)), .inl ⟨rfl, hno.out⟩⟩
          · have hd : decide ((L.length : Int) ≤ (k : Int)) = true := by simp; omega
            have hd2 : decide (L.length ≤ k) = true := by simp; omega
            have hno := box (pre_noq pre L xx (fun h => by omega))
            clear ow
            gi_wp2
            refine region_in_roundq (by kernel_rfl) (by kernel_rfl) (by kernel_rfl) ?_
            repeat (gi_big_quiet_step (fail))
            refine wpQuietIn_nil ?_
            intro _ hq
            obtain ⟨nq, hq⟩ := hq
            subst hq
            obtain ⟨V2, hV2, bV2, hh⟩ := quiet_world (Below.refl _ V) nq
            rw [hV2]
            have KO := box (topk_sameq (B := W0.heap.size) hh)
            have hR2 := bfq_same hR bV2 hh
            have BV := box (bV2.mono hR.2.2.size)
            have hset := box (bfq_set hR2 (by omega) (by omega) ((k + 1 : Nat) : Int))
            clear ci fi ct cw cl cr fr v0 v1 v2 v3 v4 v5 v6 v7 v8 v9 v10
            (try clear z0 z1 z2 z3 z4 z5 z6 z7 z8 z9 z10)
            have ci := cells4 hR2.2.1 0 _ rfl
            have fi := fz (k := 0) hR2.2.1
            have ct := cells4 hR2.1 0 _ rfl
            have lt4 := (Array.getElem?_eq_some_iff.1 Rx_4).1
            have cl := cells4 (heap_of hR2.2.2 _ _ _ Rx_4) 0 _ rfl
            have cl2 : ∀ u, (V2.setCell ⟨(w4.heap.size + 1), 0, none⟩ u).cell? ⟨w.heap.size, 0, none⟩ = some (.int .i64 lv) := fun u => (World.cell?_setCell_other _ _ _ _ (by intro e; injection e with e1; omega)).trans cl
            have cr := cells4 (heap_of hR2.2.2 _ _ _ Rr_4) 0 _ rfl
            have fr := fz (k := 0) (heap_of hR2.2.2 _ _ _ Rr_4)
            have HH2 := box hh
            clear hR2 hR bV2 hV2 hh
            gi_wp2
            exact ⟨KO.out.trans (TopK.setCell _ _ _ _ (by have := (Array.getElem?_eq_some_iff.1 Rr_4).1; omega)), .inl ⟨rfl, hno.out⟩⟩
        case done =>
          rintro D ys V hD rfl ⟨hp, hR⟩ hK
          exact ⟨.inl rfl, D, _, rfl, hD, hK, hR, .inl rfl⟩
        case stop =>
          rintro D c pre V hD hpre hx hK
          rcases hx with ⟨rfl, hno⟩ | ⟨rfl, hv, hp, hR⟩
          · exact absurd hpre hno
          exact wpIn_wide.2 (wp_exit ⟨.inr rfl, D, _, rfl, hD, hK, hR, .inr hv⟩)
      case go =>
        rintro D m V ⟨hD, hK, hR, hm⟩
        have ci := cells4 hR.2.1 0 _ rfl
        have ct := cells4 hR.1 0 _ rfl
        have cw := cells4 (heap_of hR.2.2 _ _ _ Rw_4) 0 _ rfl
        have cl := cells4 (heap_of hR.2.2 _ _ _ Rx_4) 0 _ rfl
        have HM := box hm
        clear hm
        apply cutq
        · intro key
          by_cases hml : m = (L.length : Int)
          · have hne : (m != (L.length : Int)) = false := by simp [hml]
            clear hml
            go_wp2_with fail
            all_goals exact gen_eo key
          · have hne : (m != (L.length : Int)) = true := by simp [hml]
            have hnl : (m != lv) = false := by
              rcases HM.out with h | h
              · exact absurd h hml
              · simp [h]
            clear hml
            go_wp2_with fail
            all_goals exact gen_eo key
        rintro u85 u86 u87 u88 u89 u90 u91 u92 u93 u94 u95 u96
        rw [rounds_succ]
        go_wp2_with fail
        obtain ⟨W1, hW1⟩ : ∃ W1, ((V.alloc (.cells #[.int .i64 1] 3)).alloc (.cells #[.int .i64 0] 3)) = W1 := ⟨_, rfl⟩
        have hs1 : W1.heap.size = V.heap.size + 1 + 1 := by rw [← hW1]; simp only [size_al]
        have hsV : w4.heap.size ≤ V.heap.size := hR.2.2.size
        have hDV : D < V.heap.size := (Array.getElem?_eq_some_iff.1 hK).1
        have R1 : BFQ w4 V.heap.size (V.heap.size + 1) 1 0 W1 := by
          rw [← hW1]
          exact ⟨heap_of (bal _ _) _ _ _ (heap_alloc_last _ _), by have := heap_alloc_last (V.alloc (.cells #[.int .i64 1] 3)) (.cells #[.int .i64 0] 3); simpa only [size_al] using this, hR.2.2.trans ((btr (bal _ _) (bal _ _)).mono hsV)⟩
        have hK1 : W1.heap[D]? = some (.deferred (some [])) := by
          rw [← hW1]
          exact row_al (row_al hK _) _
        rw [hW1]
        clear hW1 ci ct cw cl
        refine range_keyq (id := 4) (fun D2 m V2 => W1.heap.size ≤ D2 ∧ V2.heap[D2]? = some (.deferred (some [])) ∧ V2.heap[D]? = some (.deferred (some [])) ∧ BFQ w4 V.heap.size (V.heap.size + 1) 1 m V2 ∧ m = L.length) ?loop2 ?go2 (fun _ _ h => h)
        case loop2 =>
          refine (wpIn_wide (n := 6)).1 ?_
          refine wp_range_topm (by decide) (gf := gf) (lb := lb) rfl hE (seq 5 (by decide)) (by omega) R1.2.2 (fun _ => rfl)
            (fun pre U => pre <+: L ∧ U.heap[D]? = some (.deferred (some [])) ∧ BFQ w4 V.heap.size (V.heap.size + 1) 1 (pre.length : Nat) U)
            (fun c pre U => c = .ret ∧ ¬ pre <+: L)
            (fun s A B row hs hg hr => ⟨hs.1, row_grq hs.2.1 hg (fun r e => (hr r e).1) (by omega), bfq_grown hs.2.2 hg (fun r e => (hr r e).1) (by omega) (by omega) (by omega)⟩)
            (fun c s A B row hs hg hr => hs)
            ⟨List.nil_prefix, hK1, R1⟩ ?a2 (fun x => Obj.cells (inC x) 27) ?assign2 ?body2 ?done2 ?stop2
          case assign2 =>
            intro l x W K hK
            have hrn := inC_new
            obtain ⟨m, hm⟩ : ∃ m, W.heap.size = m := ⟨_, rfl⟩
            have hK := hK (W.alloc (Obj.cells (inC x) 27)) (World.grownBy_alloc W _ none) (by simp only [size_al]) (last7 W _)
            rw [hm] at hK
            gi_wp2
            exact hK
          case body2 =>
            rintro l pre xx mm U ⟨hp, hKU, hR⟩ hl4 hm0 hm1 hmx
            have HKU := box hKU
            clear hKU
            have hlp : pre.length < 136 := hl4
            obtain ⟨k, hk⟩ : ∃ k : Nat, pre.length = k := ⟨_, rfl⟩
            have hk1 : (pre ++ [xx]).length = k + 1 := by rw [List.length_append, hk]; rfl
            rw [hk] at hR hlp
            have vx := inC_cells hmx
            have ci := cells4 hR.2.1 0 _ rfl
            have fi := fz (k := 0) hR.2.1
            have ct := cells4 hR.1 0 _ rfl
            have cw := cells4 (heap_of hR.2.2 _ _ _ Rw_4) 0 _ rfl
            have cl := cells4 (heap_of hR.2.2 _ _ _ Rx_4) 0 _ rfl
            have cr := cells4 (heap_of hR.2.2 _ _ _ Rr_4) 0 _ rfl
            have fr := fz (k := 0) (heap_of hR.2.2 _ _ _ Rr_4)
            have ow := ownsRow_below own4 hR.2.2
            have hwn : IntKind.i64.wrap ((k : Int) + 1) = ((k + 1 : Nat) : Int) := by rw [IntKind.wrap_i64]; omega
            obtain ⟨v0, v1, v2, v3, v4, v5, v6, v7, v8, v9, v10⟩ := vx
            have hrn := inC_new
            have hrfx := inC_fold xx
            have heq := eqin
            by_cases hlt : k < L.length
            · have hd : decide ((L.length : Int) ≤ (k : Int)) = false := by simp; omega
              have hd2 : decide (L.length ≤ k) = false := by simp; omega
              obtain ⟨g, rfl⟩ : ∃ g, ao = some ⟨g, 0, none⟩ := by
                rcases own4.2 with ⟨_, h0⟩ | ⟨g, _, _, h, _⟩
                · omega
                · injection h with h1; exact ⟨g, h1⟩
              obtain ⟨u, hu⟩ : ∃ u, L[k] = u := ⟨_, rfl⟩
              obtain ⟨z0, z1, z2, z3, z4, z5, z6, z7, z8, z9, z10⟩ := ins_cells ow rfl (show L[k]? = some u by rw [List.getElem?_eq_getElem hlt, hu])
              have hli0 : (0 : Int) ≤ (k : Int) := Int.natCast_nonneg _
              have hli : (k : Int) < (L.length : Int) := by omega
              have hrfu := inC_fold u
              clear ow
              by_cases hxu : xx = u
              · have hne : inCE xx u = true := by rw [inCE_is]; exact decide_eq_true hxu
                have hyes := box (pre_yesq pre L xx hp (by omega) (by subst hk; exact hxu.trans hu.symm))
                clear hxu hu
                gi_wp2
                refine region_in_roundq (by kernel_rfl) (by kernel_rfl) (by kernel_rfl) ?_
                repeat (gi_big_quiet_step (fail))
                refine wpQuietIn_nil ?_
                intro _ hq
                obtain ⟨nq, hq⟩ := hq
                subst hq
                obtain ⟨V2, hV2, bV2, hh⟩ := quiet_world (Below.refl _ U) nq
                rw [hV2]
                have KO := box (topk_sameq (B := W1.heap.size) hh)
                have hR2 := bfq_same hR bV2 hh
                have BV := box (bV2.mono hR.2.2.size)
                have hset := box (bfq_set hR2 (by omega) (by omega) ((k + 1 : Nat) : Int))
                clear ci fi ct cw cl cr fr v0 v1 v2 v3 v4 v5 v6 v7 v8 v9 v10
                (try clear z0 z1 z2 z3 z4 z5 z6 z7 z8 z9 z10)
                have ci := cells4 hR2.2.1 0 _ rfl
                have fi := fz (k := 0) hR2.2.1
                have ct := cells4 hR2.1 0 _ rfl
                have lt4 := (Array.getElem?_eq_some_iff.1 Rx_4).1
                have cl := cells4 (heap_of hR2.2.2 _ _ _ Rx_4) 0 _ rfl
                have cl2 : ∀ u, (V2.setCell ⟨(V.heap.size + 1), 0, none⟩ u).cell? ⟨w.heap.size, 0, none⟩ = some (.int .i64 lv) := fun u => (World.cell?_setCell_other _ _ _ _ (by intro e; injection e with e1; omega)).trans cl
                have cr := cells4 (heap_of hR2.2.2 _ _ _ Rr_4) 0 _ rfl
                have fr := fz (k := 0) (heap_of hR2.2.2 _ _ _ Rr_4)
                have HH2 := box hh
                clear hR2 hR bV2 hV2 hh
                gi_wp2
                refine ⟨KO.out.trans (TopK.setCell _ _ _ _ (by omega)), BV.out.setCell (p := ⟨(V.heap.size + 1), 0, none⟩) (by simp; omega) _, hyes.out, (KeepsOthers.setCell _ _ _).same D _ ((keeps_sameq HH2.out).same D _ HKU.out rfl) rfl, ?_⟩
                have := hset.out
                rw [hk1]
                exact this
              · have hne : inCE xx u = false := by rw [inCE_is]; exact decide_eq_false hxu
                have hno := box (pre_noq pre L xx (fun h => by subst hk; rw [hu]; exact hxu))
                clear hxu hu
                gi_wp2
                refine region_in_roundq (by kernel_rfl) (by kernel_rfl) (by kernel_rfl) ?_
                repeat (gi_big_quiet_step (fail))
                refine wpQuietIn_nil ?_
                intro _ hq
                obtain ⟨nq, hq⟩ := hq
                subst hq
                obtain ⟨V2, hV2, bV2, hh⟩ := quiet_world (Below.refl _ U) nq
                rw [hV2]
                have KO := box (topk_sameq (B := W1.heap.size) hh)
                have hR2 := bfq_same hR bV2 hh
                have BV := box (bV2.mono hR.2.2.size)
                have hset := box (bfq_set hR2 (by omega) (by omega) ((k + 1 : Nat) : Int))
                clear ci fi ct cw cl cr fr v0 v1 v2 v3 v4 v5 v6 v7 v8 v9 v10
                (try clear z0 z1 z2 z3 z4 z5 z6 z7 z8 z9 z10)
                have ci := cells4 hR2.2.1 0 _ rfl
                have fi := fz (k := 0) hR2.2.1
                have ct := cells4 hR2.1 0 _ rfl
                have lt4 := (Array.getElem?_eq_some_iff.1 Rx_4).1
                have cl := cells4 (heap_of hR2.2.2 _ _ _ Rx_4) 0 _ rfl
                have cl2 : ∀ u, (V2.setCell ⟨(V.heap.size + 1), 0, none⟩ u).cell? ⟨w.heap.size, 0, none⟩ = some (.int .i64 lv) := fun u => (World.cell?_setCell_other _ _ _ _ (by intro e; injection e with e1; omega)).trans cl
                have cr := cells4 (heap_of hR2.2.2 _ _ _ Rr_4) 0 _ rfl
                have fr := fz (k := 0) (heap_of hR2.2.2 _ _ _ Rr_4)
                have HH2 := box hh
                clear hR2 hR bV2 hV2 hh
                gi_wp2
                exact ⟨KO.out.trans (TopK.setCell _ _ _ _ (by have := (Array.getElem?_eq_some_iff.1 Rr_4).1; omega)), rfl, hno.out⟩
            · have hd : decide ((L.length : Int) ≤ (k : Int)) = true := by simp; omega
              have hd2 : decide (L.length ≤ k) = true := by simp; omega
              have hno := box (pre_noq pre L xx (fun h => by omega))
              clear ow
              gi_wp2
              refine region_in_roundq (by kernel_rfl) (by kernel_rfl) (by kernel_rfl) ?_
              repeat (gi_big_quiet_step (fail))
              refine wpQuietIn_nil ?_
              intro _ hq
              obtain ⟨nq, hq⟩ := hq
              subst hq
              obtain ⟨V2, hV2, bV2, hh⟩ := quiet_world (Below.refl _ U) nq
              rw [hV2]
              have KO := box (topk_sameq (B := W1.heap.size) hh)
              have hR2 := bfq_same hR bV2 hh
              have BV := box (bV2.mono hR.2.2.size)
              have hset := box (bfq_set hR2 (by omega) (by omega) ((k + 1 : Nat) : Int))
              clear ci fi ct cw cl cr fr v0 v1 v2 v3 v4 v5 v6 v7 v8 v9 v10
              (try clear z0 z1 z2 z3 z4 z5 z6 z7 z8 z9 z10)
              have ci := cells4 hR2.2.1 0 _ rfl
              have fi := fz (k := 0) hR2.2.1
              have ct := cells4 hR2.1 0 _ rfl
              have lt4 := (Array.getElem?_eq_some_iff.1 Rx_4).1
              have cl := cells4 (heap_of hR2.2.2 _ _ _ Rx_4) 0 _ rfl
              have cl2 : ∀ u, (V2.setCell ⟨(V.heap.size + 1), 0, none⟩ u).cell? ⟨w.heap.size, 0, none⟩ = some (.int .i64 lv) := fun u => (World.cell?_setCell_other _ _ _ _ (by intro e; injection e with e1; omega)).trans cl
              have cr := cells4 (heap_of hR2.2.2 _ _ _ Rr_4) 0 _ rfl
              have fr := fz (k := 0) (heap_of hR2.2.2 _ _ _ Rr_4)
              have HH2 := box hh
              clear hR2 hR bV2 hV2 hh
              gi_wp2
              exact ⟨KO.out.trans (TopK.setCell _ _ _ _ (by have := (Array.getElem?_eq_some_iff.1 Rr_4).1; omega)), rfl, hno.out⟩
          case done2 =>
            rintro D2 ys U hD2 rfl ⟨hp, hKU, hR⟩ hK2
            exact ⟨.inl rfl, D2, _, rfl, hD2, hK2, hKU, hR, rfl⟩
          case stop2 =>
            rintro D2 c pre U hD2 hpre hx hK2
            exact absurd hpre hx.2
        case go2 =>
          rintro D2 m2 V2 ⟨hD2, hK2, hKD, hR2, rfl⟩
          have ci := cells4 hR2.2.1 0 _ rfl
          have ct := cells4 hR2.1 0 _ rfl
          have cw := cells4 (heap_of hR2.2.2 _ _ _ Rw_4) 0 _ rfl
          have hsV2 : w4.heap.size ≤ V2.heap.size := hR2.2.2.size
          go_wp2_with fail
          rw [rounds_succ]
          obtain ⟨w20, hw20⟩ : ∃ w20, V2.alloc (.cells #[.int .i64 2] 3) = w20 := ⟨_, rfl⟩
          have hBt := hR2.2.2.trans ((bal V2 (.cells #[.int .i64 2] 3)).mono hsV2)
          have hD20 : (V2.alloc (.cells #[.int .i64 2] 3)).heap[D2]? = some (.deferred (some [])) := row_al hK2 _
          have hE20 : (V2.alloc (.cells #[.int .i64 2] 3)).heap[D]? = some (.deferred (some [])) := row_al hKD _
          have hcT : w20.cell? ⟨V2.heap.size, 0, none⟩ = some (.int .i64 2) := by rw [← hw20]; exact cells4 (heap_alloc_last _ _) 0 _ rfl
          rw [hw20] at hBt hD20 hE20 ⊢
          clear hw20
          have B20 := btr B4 hBt
          have Rr_20 := heap_of hBt _ _ _ Rr_4
          have hge1 := box (show w.heap.size ≤ D ∧ w.heap.size ≤ D2 ∧ D ≠ D2 by have := B4.size; omega)
          clear ci ct cw hR hR2 R1 hK hK1 hK2 hKD
          go_wp2_with fail
          refine (KL.out _ (FB.out FF.out B20)).mono ?_
          rintro r w21 ⟨rfl, b21⟩
          have B21 : Below w.heap.size w w21 := btr B20 b21
          replace hD20 := heap_obq b21 hD20
          replace hE20 := heap_obq b21 hE20
          have Rr_21 := heap_of b21 _ _ _ Rr_20
          have cr_21_0 := cells4 Rr_21 0 _ rfl
          have fr := fz (k := 0) Rr_21
          go_wp2
          exact lvq2 (r := w.heap.size + 1) (fun U hU => by simp [results, Tryd.results6, go_sem, hU]) ((KeepsOthers.setCell _ _ _).same D2 _ hD20 rfl) ((KeepsOthers.setCell _ _ _).same D _ hE20 rfl) hge1.out.2.2 hge1.out.1 hge1.out.2.1 (B21.setCell (p := ⟨w.heap.size + 1, 0, none⟩) (by simp) _) (World.cell?_setCell_same _ _ _ (cells4 Rr_21 0 _ rfl))
end Go.Proofs.YtaoccmopfflkmaaDoor
namespace Go.Proofs.YtaoccmopfflkmaaDoor
set_option maxRecDepth 100000
set_option maxHeartbeats 40000000
set_option maxRecDepth 100000
open Go.RowKit Go.Shelf WMath
set_option linter.unusedSimpArgs false
set_option linter.unusedVariables false
theorem enR_yes {x : In} (h : mayI x = true) : ∃ p, ofR24 x.op x.form x.frm x.kind = some p ∧ p ∈ allL ∧ enR x = (encW p.1 x, 0) ∧ encW p.1 x < 4294967296 ∧ fdL (encW p.1 x) = some p ∧ dcI p.1 (encW p.1 x) = x := by
  obtain ⟨p, hp, hm, hlt, hf, hd⟩ := enc_dec h
  exact ⟨p, hp, hm, by unfold enR; rw [h, hp]; rfl, hlt, hf, hd⟩
theorem enR_no {x : In} (h : mayI x = false) : enR x = (0, 260) := by unfold enR; rw [h]; rfl
theorem enR_may {x : In} : (enR x).2 = 0 ↔ mayI x = true := by
  cases h : mayI x with
  | false => rw [enR_no h]; simp
  | true => obtain ⟨p, _, _, e, _⟩ := enR_yes h; rw [e]; simp
theorem l26a : enR ⟨7, 0, 0, 0, 1, 2, 3, 0, 0, 0, 0⟩ = (3211475, 0) := by decide +kernel
theorem l26b : enR ⟨2, 0, 0, 0, 0, 2, 1, 0, 0, -4, 0⟩ = (4262538791, 0) := by decide +kernel
theorem l26c : (enR ⟨7, 0, 0, 0, 0, 0, 0, 0, 5, 0, 0⟩).2 = 260 := by decide +kernel
theorem l26d : mayI ⟨23, 3, 0, 0, 0, 0, 0, 0, 0, 0, 0⟩ = false := by decide +kernel
theorem lives26 {T : World → Prop} (FB : Box (∀ {w w' : World}, T w → Below w.heap.size w w' → T w')) (CE : ∀ x : In, InOk x → Box (∀ w, T w → Calls Tryd.prog 9 #[.agg (inC x)] w fun r w' => r = .returned (.tuple #[.int .u32 ((enR x).1 : Nat), .int .i64 (enR x).2]) ∧ Below w.heap.size w w')) (CM : ∀ x : In, InOk x → Box (∀ w, T w → Calls Tryd.prog 11 #[.agg (inC x)] w fun r w' => r = .returned (.bool (mayI x)) ∧ Below w.heap.size w w')) (w : World) (hT : T w) : Calls Tryd.prog 13 #[] w fun r w' => r = .returned (.bool true) ∧ Below w.heap.size w w' := by
  have F1 := CE ⟨7, 0, 0, 0, 1, 2, 3, 0, 0, 0, 0⟩ (by unfold InOk; decide)
  have F2 := CE ⟨2, 0, 0, 0, 0, 2, 1, 0, 0, -4, 0⟩ (by unfold InOk; decide)
  have F3 := CE ⟨7, 0, 0, 0, 0, 0, 0, 0, 5, 0, 0⟩ (by unfold InOk; decide)
  have F4 := CM ⟨23, 3, 0, 0, 0, 0, 0, 0, 0, 0, 0⟩ (by unfold InOk; decide)
  rw [l26a] at F1
  rw [l26b] at F2
  rw [l26c] at F3
  rw [l26d] at F4
  exact en_lives FB F1 F2 _ F3 F4 w hT
end Go.Proofs.YtaoccmopfflkmaaDoor
