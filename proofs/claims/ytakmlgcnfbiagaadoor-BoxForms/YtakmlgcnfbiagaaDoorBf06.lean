/-
  What the functions that the statement reaches return: part 6 (JN, FrameF2).
-/
import Derived.Test.YtakmlgcnfbiagaaDoorBf05
namespace Go.Proofs.YtakmlgcnfbiagaaDoor
set_option maxRecDepth 100000
set_option maxHeartbeats 40000000
set_option maxRecDepth 100000
open Go.RowKit Go.Shelf WMath
set_option linter.unusedVariables false
set_option linter.unusedSimpArgs false
attribute [local go_sem] Oper.semAt_some

def goneN (N : Nat) (l : List F4) : List Int := (l.filter (fun x => isN x.1 N)).map (·.1)
theorem gone_len (N : Nat) (l : List F4) : (goneN N l).length ≤ l.length := by
  unfold goneN
  rw [List.length_map]
  exact List.length_filter_le _ _
theorem gone_yes {N : Nat} (l : List F4) (x : F4) (h : isN x.1 N = true) : goneN N (l ++ [x]) = goneN N l ++ [x.1] := by
  unfold goneN
  rw [List.filter_append, List.map_append, List.filter_cons, if_pos h]
  rfl
theorem gone_no {N : Nat} (l : List F4) (x : F4) (h : isN x.1 N = false) : goneN N (l ++ [x]) = goneN N l := by
  unfold goneN
  rw [List.filter_append, List.map_append, List.filter_cons, if_neg (by rw [h]; decide)]
  exact List.append_nil _
theorem gone_all (N : Nat) : goneN N fL = fmK N 4 := by
  have a0 : allF 0 = 2 := rfl
  have a1 : allF 1 = 0 := rfl
  have a2 : allF 2 = 1 := rfl
  have a3 : allF 3 = 3 := rfl
  simp only [goneN, fL, fmK, a0, a1, a2, a3, List.filter_cons, List.filter_nil]
  cases isN 2 N <;> cases isN 0 N <;> cases isN 1 N <;> cases isN 3 N <;> rfl
theorem gone_pre {N : Nat} {l : List F4} (h : l <+: fL) : goneN N l <+: fmK N 4 := by
  rw [← gone_all]
  exact (h.filter _).map _
theorem below_grown {V V' : World} (h : Below V.heap.size V V') : V.grownBy V' none := ⟨h.os, h.tape, h.output, h.size, fun k hk _ => h.block k hk⟩
theorem own_calls {β : Type} {B : Nat} {I : β → World → Prop} (h : OwnFrom B I) {s : β} {V V' : World} (hs : I s V) (b : Below V.heap.size V V') : I s V' := h s V V' none hs (below_grown b) (fun r e => by cases e)
theorem round_any {F : Fence} (hd : F.depth = none) {n m l0 : Nat} {P : Program} {l f : Nat} {tmps : Array Value} {assign body : Code} {w : World} {R : Ending → World → Prop} (h : RoundIn F n P l f tmps assign body w R) : RoundIn (F.inRound l0) m P l f tmps assign body w R :=
  ⟨h.1, fun c cs _ => h.2 c cs (fun d e => by rw [hd] at e; cases e)⟩
set_option maxRecDepth 100000 in
set_option maxHeartbeats 4000000 in
theorem forms1_top (x y N : Nat) (hx : x < 18446744073709551616) (hy : y < 18446744073709551616) (hN : y + 18446744073709551616 * x = N) (B : Nat) (w0 : World) (hT : FAt w0) (hr : w0.heap[B]? = some (.cells #[.int .u64 (x : Nat), .int .u64 (y : Nat)] 25)) (n : Nat) (hn : 5 ≤ n) :
    SeqTop n Tryd.prog 32 #[.pointer (some ⟨B, 0, none⟩)] (fun x : Int => #[Value.int .u8 x]) w0.heap.size (fun ys => ys = fmK N 4) (fun pre => pre <+: fmK N 4) 4 w0 := fun l J Jx W hW hJ hJx hY h0 => by
  have FF := box hT
  have KI : Box (∀ f : F4, ∀ w, FAt w → Calls Tryd.prog 12 #[.int .u8 f.1, .agg #[.int .u64 (x : Nat), .int .u64 (y : Nat)]] w fun r w' => r = .returned (.bool (isN f.1 N)) ∧ Below w.heap.size w w') := box (fun f w h => (kIsb f.1 x y N (by obtain ⟨f, hf⟩ := f; rcases hf with rfl | rfl | rfl | rfl <;> decide) (by obtain ⟨f, hf⟩ := f; rcases hf with rfl | rfl | rfl | rfl <;> decide) hx hy hN).out w h)
  have hB : B < w0.heap.size := (Array.getElem?_eq_some_iff.1 hr).1
  clear hT hx hy hN
  obtain ⟨F, hF⟩ : ∃ F, F = Fence.wide := ⟨_, rfl⟩
  have hfn : ∀ f, F.fn f := fun f => by rw [hF]; trivial
  have hro : F.round = none := by rw [hF]; rfl
  have hdp : F.depth = none := by rw [hF]; rfl
  have hCI : Box (∀ {m k : Nat} {av : Array Value} {V : World} {R : Ending → World → Prop}, Calls Tryd.prog k av V R → CallsIn F m Tryd.prog k av V R) := box (fun h => by rw [hF]; exact callsIn_wide.2 h)
  simp only [← hF] at hY ⊢
  clear hF
  have h1' : 1 ≤ n - 1 - 1 := by omega
  have hn1 : 1 ≤ n := by omega
  refine callsIn_of_wp_marks Tryd.func32 rfl (hfn _) ?_ hro
  simp only [Tryd.ntmps32, List.size_toArray, List.length_cons, List.length_nil, Nat.reduceAdd, Nat.reduceSub, Array.replicate_succ, Array.replicate_zero, List.push_toArray, List.append_toArray, List.nil_append, List.cons_append]
  gi_wp2_with (gi_at_call 33; refine (all_in F (n - 1) (hfn _) hro _).mono ?_; rintro e w' ⟨rfl, rfl⟩)
  obtain ⟨tb, htb⟩ : ∃ o, Obj.cells #[.func (.yield l) #[] #[]] 49 = o := ⟨_, rfl⟩
  obtain ⟨W1, hW1⟩ : ∃ W1, W.alloc (.cells #[.func (.yield l) #[] #[]] 49) = W1 := ⟨_, rfl⟩
  have s1 : W1.heap.size = W.heap.size + 1 := by rw [← hW1, size_al]
  have j1 : J [] W1 := by rw [← hW1]; exact hJ.alloc _ h0
  have b1 : Below w0.heap.size w0 W1 := by rw [← hW1]; exact hW.alloc hW.size _
  have r1 : W1.heap[W.heap.size]? = some (.cells #[.func (.yield l) #[] #[]] 49) := by rw [← hW1]; exact heap_alloc_last _ _
  rw [hW1]
  clear hW1 h0 hW htb tb
  refine wpIn_rangeFunc_ownG hro hn1 (gf := 40) (lb := #[]) rfl (hfn _) (enters_of Tryd.func40 (by kernel_rfl) rfl) (all1_stops F (n - 1) (hfn _) hro (by omega) W1) (fun _ _ => trivial) (fun _ _ _ _ _ _ _ _ => trivial) (Below.refl _ _) (fun _ => rfl)
    (fun pre V => J (goneN N pre) V ∧ Below w0.heap.size w0 V ∧ V.heap[W.heap.size]? = some (.cells #[.func (.yield l) #[] #[]] 49))
    (fun c pre V => c = .ret ∧ Jx (goneN N pre) V)
    (fun s X Y row hs hg hr => ⟨hJ _ X Y row hs.1 hg (fun r e => ⟨by have := (hr r e).1; omega, (hr r e).2⟩), hs.2.1.grown hg hs.2.1.size (fun k e => by have := (hr k e).1; have := b1.size; omega), (hg.block _ (Array.getElem?_eq_some_iff.1 hs.2.2).1 (fun e => by have := (hr _ e.symm).1; omega)).trans hs.2.2⟩)
    (fun c s X Y row hs hg hr => ⟨hs.1, hJx _ X Y row hs.2 hg (fun r e => ⟨by have := (hr r e).1; omega, (hr r e).2⟩)⟩)
    ⟨j1, b1, r1⟩ ?a1 ?assign ?body ?done ?stop
  case assign =>
    intro l x W K hK
    gi_wp2
    exact hK
  case body =>
    rintro l1 pre f V ⟨hj, hb, ht⟩ hlen
    have cr0 := cells4 (heap_of hb _ _ _ hr) 0 _ rfl
    have cr1 := cells4 (heap_of hb _ _ _ hr) 1 _ rfl
    have K := KI.out f V (fatB FF.out hb)
    have sz : W1.heap.size ≤ V.heap.size + 1 := by have := (Array.getElem?_eq_some_iff.1 ht).1; omega
    gi_wp2_with fail
    refine (CallsIn.inRound l1 (hCI.out K)).mono ?_
    rintro r V2 ⟨rfl, b2⟩
    have hj2 := own_calls hJ hj b2
    have hb2 := hb.trans (b2.mono hb.size)
    have ht2 := heap_of b2 _ _ _ ht
    have ct2 := cells4 ht2 0 _ rfl
    cases c : isN f.1 N
    · have g := gone_no pre f c
      gi_wp2
      exact ⟨(TopK.below b2).keeps, trivial, by rw [g]; exact hj2, hb2, ht2⟩
    · have g := gone_yes pre f c
      obtain ⟨fn, tmps, assign, body, hyl, hR⟩ := hY (goneN N pre) f.1 V2 hj2 (Nat.lt_of_le_of_lt (gone_len N pre) hlen)
      try dsimp only at hyl
      gi_wp2
      refine (round_any hdp hR).mono ?_
      rintro e V3 ⟨tk, (⟨rfl, hj3, b3⟩ | ⟨rfl, hx3⟩)⟩
      · gi_wp2
        exact ⟨((TopK.below b2).trans (tk.mono (by omega))).keeps, trivial, by rw [g]; exact hj3, hb2.trans b3, tk.row (Nat.le_refl _) ht2⟩
      · gi_wp2
        exact ⟨((TopK.below b2).trans (tk.mono (by omega))).keeps, rfl, by rw [g]; exact hx3⟩
  case done =>
    rintro D ys V hD rfl ⟨hj, hb, ht⟩ hK
    gi_wp2
    refine ⟨by simp, .inl ⟨_, _, rfl, run_takeDeferred hK, ?_⟩⟩
    exact ⟨_, results_none rfl _ _ _, ⟨_, rfl⟩, .inl ⟨_, gone_all N, hJ.putObj _ hj (by omega) hK rfl⟩⟩
  case stop =>
    rintro D c pre V hD hp ⟨rfl, hx⟩ hK
    gi_wp2
    refine ⟨by simp, .inl ⟨_, _, rfl, run_takeDeferred hK, ?_⟩⟩
    exact ⟨_, results_none rfl _ _ _, ⟨_, rfl⟩, .inr ⟨_, gone_pre hp, hJx.putObj _ hx (by omega) hK rfl⟩⟩
theorem forms_is (x y N : Nat) (hx : x < 18446744073709551616) (hy : y < 18446744073709551616) (hN : y + 18446744073709551616 * x = N) (w : World) (hT : FAt w) : Calls Tryd.prog 21 #[.agg #[.int .u64 (x : Nat), .int .u64 (y : Nat)]] w fun r w0 => ∃ lb, r = .returned (.func (.func 32) #[] lb) ∧ Below w.heap.size w w0 ∧ ∀ n, 5 ≤ n → SeqTop n Tryd.prog 32 lb (fun x : Int => #[Value.int .u8 x]) w0.heap.size (fun ys => ys = fmK N 4) (fun pre => pre <+: fmK N 4) 4 w0 := by
  have b0 := bal w (.cells #[.int .u64 (x : Nat), .int .u64 (y : Nat)] 25)
  have r0 := heap_alloc_last w (.cells #[.int .u64 (x : Nat), .int .u64 (y : Nat)] 25)
  have H := box (fun n hn => forms1_top x y N hx hy hN w.heap.size _ (fatB hT b0) r0 n hn)
  go_enter Tryd.func21, Tryd.ntmps21
  go_wp2
  go_ret
  exact ⟨_, rfl, b0, H.out⟩
theorem boxForms_fin (f0 f1 lv : Int) (h0 : 0 ≤ f0) (h1 : f0 ≤ 255) (g0 : 0 ≤ f1) (g1 : f1 ≤ 255) (x y N : Nat) (hx : x < 18446744073709551616) (hy : y < 18446744073709551616) (hN : y + 18446744073709551616 * x = N) (w : World) (hT : FAt w) : Calls Tryd.prog 4 #[.agg #[.int .u64 (x : Nat), .int .u64 (y : Nat)], .agg #[.int .u8 f0, .int .u8 f1], .int .i64 lv] w fun r w' => r = .returned (.bool true) ∧ Below w.heap.size w w' := by
  have KL : Box (∀ w, FAt w → Calls Tryd.prog 14 #[] w fun r w' => r = .returned (.bool true) ∧ Below w.heap.size w w') := box (fun w hT => lives22 w hT)
  have KF := box (fun w hT => forms_is x y N hx hy hN w hT)
  have R0 := box (fun w => bel_st (r22_w f0 w))
  have R1 := box (fun w => bel_st (r22_w f1 w))
  have hE : ∀ args w, (callFunc 32 args).run Tryd.prog w = .ok (.enter 32 args) w := enters_of Tryd.func32 (by kernel_rfl) rfl
  have FB : Box (∀ {w w' : World}, FAt w → Below w.heap.size w w' → FAt w') := box (fun h b => fatB h b)
  by_cases c : f0 ≤ 3
  · have p0 : (((wdF f0 : Nat) : Int) == 0) = false := beq_eq_false_iff_ne.2 (by have := wdF_pos h0 c; omega)
    by_cases d : f1 ≤ 3
    · have p1 : (((wdF f1 : Nat) : Int) == 0) = false := beq_eq_false_iff_ne.2 (by have := wdF_pos g0 d; omega)
      have uf := ub_fit h0 c N
      obtain ⟨r1, _, _, _⟩ := box_isN h0 c uf
      obtain ⟨u, v, e⟩ : ∃ u v, bv7 (ubN f0 N) = (u, v) := ⟨_, _, rfl⟩
      obtain ⟨u', v', e2⟩ : ∃ u v, bv7 (ubN f0 N + abN f0) = (u, v) := ⟨_, _, rfl⟩
      obtain ⟨p, q, e3⟩ : ∃ u v, bv7 (ubN f1 (ubN f0 N + abN f0)) = (u, v) := ⟨_, _, rfl⟩
      obtain ⟨l1, l2, l3⟩ := bv_of e (fit128 uf)
      obtain ⟨m1, m2, m3⟩ := bv_of e2 (by rw [← p128]; exact r1)
      exact bf_law FB x y N hx hy hN f0 f1 lv _ p q u v u' v' _ _ 0 KL KF (kWit_is f0 x y N f1 h0 c g0 d hx hy hN p q e3) R0 R1 (box (.inr (.inr ⟨p0, p1, rfl, box (fun w => rUbx_is f0 h0 c x y N hx hy hN u v e w), box (fun w => rBox_is f0 u v _ l1 l2 l3 uf u' v' e2 w), box (fun w => rUbx_is f1 g0 d u' v' _ m1 m2 m3 p q e3 w)⟩))) hE w hT
    · have p1 : (((wdF f1 : Nat) : Int) == 0) = true := by rw [wdF_none d]; rfl
      exact bf_law FB x y N hx hy hN f0 f1 lv _ 0 0 0 0 0 0 _ _ 2 KL KF (kWit_no2 f0 f1 x y N h0 c (by omega) g1 hx hy hN) R0 R1 (box (.inr (.inl ⟨p0, p1, rfl, rfl, rfl⟩))) hE w hT
  · have p0 : (((wdF f0 : Nat) : Int) == 0) = true := by rw [wdF_none c]; rfl
    exact bf_law FB x y N hx hy hN f0 f1 lv _ 0 0 0 0 0 0 _ _ 2 KL KF (kWit_no1 f0 f1 x y N (by omega) h1 hx hy hN) R0 R1 (box (.inl ⟨p0, rfl, rfl, rfl⟩)) hE w hT
end Go.Proofs.YtakmlgcnfbiagaaDoor
namespace Go.Proofs.YtakmlgcnfbiagaaDoor
set_option maxRecDepth 100000
set_option maxHeartbeats 40000000
set_option maxRecDepth 100000
open WMath
open Go.ChangeShapes Go.WideShapes Go.ChangeAt Go.RowKit
theorem list2f {α : Type} (l : List α) (h : (⟨l⟩ : Array α).size = 2) : ∃ a b, l = [a, b] := by
  match l, h with
  | [a, b], _ => exact ⟨a, b, rfl⟩
def dF2 (H : Type) (a b : Int) : DataW H := .agg [.lit (.int .u8 a), .lit (.int .u8 b)]
theorem open_f2 {H : Type} {enc : TypeId × Value → H} {w : World} {base b : Nat} {spare : Nat → Bool} {held : Bool} {v : Value} {d : DataW H} {p : List MemPlace}
    (hok : Value.okWide Tryd.prog w .any base 35 v) (h : DataW.Trod enc Tryd.prog w b spare held 35 v d p) : ∃ x y, v = .agg #[.int .u8 x, .int .u8 y] ∧ d = dF2 H x y ∧ p = [] ∧ (Lit.int .u8 x).wf = true ∧ (Lit.int .u8 y).wf = true := by
  have hc : Tryd.prog.cellsOf 35 = 2 := by kernel_rfl
  have hce : Tryd.prog.cellsOf 22 = 1 := by kernel_rfl
  obtain ⟨cs, rfl, hsz, _⟩ : ∃ cs, v = .agg cs ∧ cs.size = Tryd.prog.cellsOf 35 ∧ Row.okWide Tryd.prog w .any base 35 cs := by
    simpa [Value.okWide, Tryd.underlying35] using hok
  rw [hc] at hsz
  obtain ⟨l⟩ := cs
  obtain ⟨c0, c1, rfl⟩ := list2f l hsz
  obtain ⟨fuel, hf⟩ := h
  obtain ⟨xs, m, _, hx, hl, hxl, hel⟩ := DataW.trod_array Tryd.underlying35 hf
  rw [hce] at hel
  match xs, hxl with
  | [y0, y1], _ =>
    have q0 := hel 0 (by decide)
    have q1 := hel 1 (by decide)
    simp [Value.cells] at q0 q1
    obtain ⟨x0, e0, k0, w0⟩ := DataW.trod_int Tryd.underlying22 q0
    obtain ⟨x1, e1, k1, w1⟩ := DataW.trod_int Tryd.underlying22 q1
    simp at e0 e1
    subst e0 e1
    rw [k0, k1] at hx
    simp at hx
    exact ⟨x0, x1, rfl, hx.1, hx.2, w0, w1⟩
theorem shut_f2 {H : Type} {enc : TypeId × Value → H} {w : World} {b : Nat} {spare : Nat → Bool} {held : Bool} {x y : Int} (h : (Lit.int .u8 x).wf = true ∧ (Lit.int .u8 y).wf = true) :
    DataW.Trod enc Tryd.prog w b spare held 35 (.agg #[.int .u8 x, .int .u8 y]) (dF2 H x y) [] := by
  have hc : Tryd.prog.cellsOf 35 = 2 := by kernel_rfl
  have hce : Tryd.prog.cellsOf 22 = 1 := by kernel_rfl
  refine ⟨2, ?_⟩
  simp [DataW.trod, Value.cells, Tryd.underlying35, Tryd.underlying22, hc, hce, h.1, h.2, dF2, show List.range 2 = [0, 1] from rfl]
end Go.Proofs.YtakmlgcnfbiagaaDoor
