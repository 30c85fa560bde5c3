/-
  ShapeNames returns true for every format, whether it is one or not, every text and every number of rounds: names are the document's; the formats come one by one in the document's order, left early, and again.
-/
import Derived.Test.YtjbefkceieklmaaDoorRows
import Derived.Test.YtjbefkceieklmaaDoorTie
import Derived.Test.YtjbefkceieklmaaDoorCards
import Derived.WalkKit
import Derived.ProofKit
import Derived.OpenShut
import Derived.LaidMore
import Derived.Stop.Joined
import Derived.Lib.LaidTab
import Derived.SevenTiedAt
import Derived.Test.YtjbefkceieklmaaDoorFrame6
import Derived.Test.YtjbefkceieklmaaDoorSL
import Derived.RangeFuncNested
import Derived.RangeFuncBound
import Derived.RangeFuncCalls
import Derived.RangeFuncLeaves
import Derived.RangeFuncFrom
import Derived.Shelf.Abstract
import Derived.Shelf.RegionOpen
import Derived.OwnWalkIn
import Derived.TacticsInMore
import Derived.LoopNIn
import Derived.LoopIn
import Derived.Test.YtjbefkceieklmaaDoorN3
import Derived.Test.YtjbefkceieklmaaDoorFrameB
import Derived.ChangeMaps5
namespace Go.Proofs.YtjbefkceieklmaaDoor.shapeNames
open WMath
open Go.ChangeShapes Go.WideShapes Go.ChangeAt Go.RowKit
open Go.ChangeMaps (open_string shut_string)
open Go.Shelf
set_option linter.unusedSimpArgs false
attribute [local go_sem] Oper.semAt_some
set_option linter.unusedVariables false

theorem own : ownKnob Tryd.prog.godebug = none := by kernel_rfl

set_option maxRecDepth 100000 in
set_option maxHeartbeats 4000000 in
theorem walk (a0 : Int) (a1 : ByteArray) (a2 : Int) (h0 : (Lit.int .u8 a0).wf = true) (h1 : a1.size ≤ maxLen) (h2 : (Lit.int .i64 a2).wf = true) (w : World) (hT : FAt w) :
    Calls Tryd.prog 5 #[.int .u8 a0, .string a1, .int .i64 a2] w fun e w' => e = .returned (.bool true) ∧ Below w.heap.size w w' := by
  have TT := box hT
  clear hT
  have b0 := bounds_u8 h0
  obtain ⟨c, hc⟩ : ∃ c : Int, fC a0 = c := ⟨_, rfl⟩
  obtain ⟨nm, hnm⟩ : ∃ v : ByteArray, fN a0 = v := ⟨_, rfl⟩
  obtain ⟨⟨x0, e0⟩, hv⟩ : ∃ p, nV a1 = p := ⟨_, rfl⟩
  have KA := box s_alive
  have K1 := box (s_name a0 c nm b0.1 b0.2 hnm hc)
  have K2 := box (r_name a0 c nm b0.1 hnm hc)
  have K3 := box (s_named a1 x0 e0 hv)
  have K4 := box (r_named a1 x0 e0 hv)
  clear hc hnm hv h0 b0 h1
  refine (callsIn_wide (n := 6)).1 ?_
  obtain ⟨F, hF⟩ : ∃ F, Fence.wide = F := ⟨_, rfl⟩
  have hro : F.round = none := by rw [← hF]; rfl
  have hfn : ∀ f, F.fn f := by rw [← hF]; exact fun _ => trivial
  have cwF : Box (∀ {n : Nat} {P : Program} {f : FuncId} {args : Array Value} {w : World} {R : Ending → World → Prop}, Calls P f args w R → CallsIn F n P f args w R) := box (by rw [← hF]; exact fun h => callsIn_wide.2 h)
  rw [hF]
  clear hF
  refine callsIn_of_wp_marks Tryd.func5 rfl (hfn _) ?_ hro
  simp only [Tryd.ntmps5, List.size_toArray, List.length_cons, List.length_nil, Nat.reduceAdd, Nat.reduceSub, Array.replicate_succ, Array.replicate_zero, List.push_toArray, List.append_toArray, List.nil_append, List.cons_append]
  have hnil : ∀ w : World, (binOp .eql 50 (.func (.func 56) #[] #[]) .nilFunc).run Tryd.prog w = .ok (.bool false) w := fun _ => by kernel_rfl
  have Rs0 : ((w.alloc (.cells #[.int .i64 a2] 3)).alloc (.cells #[.bool false] 4)).heap[w.heap.size]? = some (.cells #[.int .i64 a2] 3) := row_al (last7 _ _) _
  have Rr0 : ((w.alloc (.cells #[.int .i64 a2] 3)).alloc (.cells #[.bool false] 4)).heap[w.heap.size + 1]? = some (.cells #[.bool false] 4) := row_last (by simp only [size_al])
  have B0 : Below w.heap.size w ((w.alloc (.cells #[.int .i64 a2] 3)).alloc (.cells #[.bool false] 4)) := bel_al (bal7 _ _) _
  gi_wp2
  refine (cwF.out (KA.out _ (fatB TT.out B0))).mono ?_
  rintro r w1 ⟨rfl, b1⟩
  have B1 := btr7 B0 b1
  have Rs1 := heap_of b1 _ _ _ Rs0
  have Rr1 := heap_of b1 _ _ _ Rr0
  clear B0 Rs0 Rr0 b1
  gi_wp2
  refine (cwF.out (K1.out _ (fatB TT.out B1))).mono ?_
  rintro r w2 ⟨rfl, b2⟩
  have B2 := btr7 B1 b2
  have Rs2 := heap_of b2 _ _ _ Rs1
  have Rr2 := heap_of b2 _ _ _ Rr1
  clear B1 Rs1 Rr1 b2
  gi_wp2
  refine (cwF.out (K2.out _)).mono ?_
  rintro r w' ⟨rfl, hw'⟩
  obtain rfl := hw'.symm
  clear hw'
  gi_wp2
  refine (cwF.out (K3.out _ (fatB TT.out B2))).mono ?_
  rintro r w3 ⟨rfl, b3⟩
  have B3 := btr7 B2 b3
  have Rs3 := heap_of b3 _ _ _ Rs2
  have Rr3 := heap_of b3 _ _ _ Rr2
  clear B2 Rs2 Rr2 b3
  gi_wp2
  refine (cwF.out (K4.out _)).mono ?_
  rintro r w4 ⟨rfl, b4⟩
  have B4 := btr7 B3 b4
  have Rs4 := heap_of b4 _ _ _ Rs3
  have Rr4 := heap_of b4 _ _ _ Rr3
  clear B3 Rs3 Rr3 b4
  have nn : (nm.toList == nm.toList) = true := by simp
  gi_wp2
  refine (cwF.out (r_all _)).mono ?_
  rintro r w' ⟨rfl, hw'⟩
  obtain rfl := hw'.symm
  clear hw'
  gi_wp2
  refine (all_in F _ (hfn _) hro _).mono ?_
  rintro r w' ⟨rfl, hw'⟩
  obtain rfl := hw'.symm
  clear hw'
  gi_wp2
  obtain ⟨W0, hW0⟩ : ∃ W0, (((w4.alloc (.cells lst7 22)).alloc (.cells #[.slice (some ⟨w4.heap.size, 0, none⟩) 4 4] 47)).alloc (.cells #[.int .i64 0] 3)) = W0 := ⟨_, rfl⟩
  have hz : w.heap.size + 1 < w4.heap.size := (Array.getElem?_eq_some_iff.1 Rr4).1
  have RN0 : RN w w4.heap.size a2 0 W0 := by
    rw [← hW0]
    exact ⟨bel_al (bel_al (bel_al B4 _) _) _, row_al (row_al (row_al Rs4 _) _) _, row_al (row_al (row_al Rr4 _) _) _, row_al (row_al (last7 _ _) _) _, row_al (row_last (by simp only [size_al])) _, row_last (by simp only [size_al])⟩
  have hsz : w4.heap.size + 1 + 1 < W0.heap.size := (Array.getElem?_eq_some_iff.1 RN0.2.2.2.2.2).1
  rw [hW0]
  clear hW0 Rs4 Rr4 B4
  rename_i K2 hK2
  have key : Box (∀ (D : Nat) (W : World) (q : Int), RN w w4.heap.size a2 q W → W.heap[D]? = some (.deferred (some [])) → W0.heap.size ≤ D → K2 { tmps := #[.int .u8 a0, .string a1, .int .i64 a2, undef, undef, .pointer (some ⟨w.heap.size, 0, none⟩), .pointer (some ⟨w.heap.size + 1, 0, none⟩), .string nm, .int .i64 c, .string nm, .int .i64 c, .int .u8 x0, .int .i64 e0, .int .u8 x0, .int .i64 e0, .pointer (some ⟨w4.heap.size + 1, 0, none⟩), .func (.func 56) #[] #[], .pointer (some ⟨w4.heap.size + 1 + 1, 0, none⟩), undef, undef, .bool true, .bool false, .tuple #[.string nm, .int .i64 c], .int .u8 a0, .tuple #[.string nm, .int .i64 c], .string nm, .int .i64 c, .tuple #[.string nm, .int .i64 c], .int .u8 a0, .tuple #[.string nm, .int .i64 c], .string nm, .int .i64 c, .tuple #[.int .u8 x0, .int .i64 e0], .string a1, .tuple #[.int .u8 x0, .int .i64 e0], .int .u8 x0, .int .i64 e0, .tuple #[.int .u8 x0, .int .i64 e0], .string a1, .tuple #[.int .u8 x0, .int .i64 e0], .int .u8 x0, .int .i64 e0, .string nm, .string nm, .bool false, .bool false, .int .i64 c, .int .i64 c, .bool false, .bool false, .bool false, .int .u8 x0, .int .u8 x0, .bool false, .bool false, .bool false, .int .i64 e0, .int .i64 e0, .bool false, .bool false, .slice (some ⟨w4.heap.size, 0, none⟩) 4 4, .func (.func 56) #[] #[], .func (.func 56) #[] #[], .bool false, .func (.func 56) #[] #[], undef, undef, undef, undef, undef, undef, undef, undef, undef, undef, undef, undef, undef, undef, undef, undef, undef, undef, undef, undef, undef, undef, undef, undef, undef, undef, undef, undef, undef, undef, undef, undef, undef, undef, undef, undef, undef, undef, undef, undef, undef], defers := [{ target := .collected D, args := #[] }] } W) := box (by
    intro D W q hR hK hD
    apply hK2
    obtain ⟨hB, r1, r2, r3, r4, r5⟩ := hR
    have hR : RN w w4.heap.size a2 q W := ⟨hB, r1, r2, r3, r4, r5⟩
    have q5 := fz (k := 0) r5
    have c5 := cell7 r5 0 (.int .i64 q) rfl
    clear hK2
    gi_wp2
    obtain ⟨W1, hW1⟩ : ∃ W1, W.setCell ⟨w4.heap.size + 1 + 1, 0, none⟩ (.int .i64 0) = W1 := ⟨_, rfl⟩
    have R1 : RN w w4.heap.size a2 0 W1 := by rw [← hW1]; exact rn_set hR hz 0
    have hK1 : W1.heap[D]? = some (.deferred (some [])) := by rw [← hW1]; exact (KeepsOthers.setCell W ⟨w4.heap.size + 1 + 1, 0, none⟩ (.int .i64 0)).same D _ hK rfl
    have hs1 : w4.heap.size + 1 + 1 < W1.heap.size := (Array.getElem?_eq_some_iff.1 R1.2.2.2.2.2).1
    have hsD : D < W1.heap.size := (Array.getElem?_eq_some_iff.1 hK1).1
    rw [hW1]
    clear hW1 hR hB r1 r2 r3 r4 r5 q5 c5 hK
    refine wpIn_rangeFunc_ownF hro (by decide) (gf := 56) (lb := #[]) rfl (hfn _) (enters_of Tryd.func56 (by kernel_rfl) rfl)
      (all1_stops F _ (hfn _) hro (by decide) W1) (fun _ _ => trivial) (fun _ _ _ _ _ _ _ _ => trivial) (Below.refl _ _) (fun _ => rfl)
      (fun pre V => pre <+: fL ∧ RN w w4.heap.size a2 (pre.length : Nat) V ∧ V.heap[D]? = some (.deferred (some [])))
      (fun c pre V => c = .ret ∧ ¬ pre <+: fL)
      (fun s A B row hs hg hr => ⟨hs.1, rn_grown hs.2.1 hg (fun r e => (hr r e).1) hz hs1, row_grown hs.2.2 hg (fun r e => (hr r e).1) hsD⟩)
      (fun c s A B row hs hg hr => hs)
      ⟨List.nil_prefix, R1, hK1⟩
      (fun x => { tmps := #[.int .u8 a0, .string a1, .int .i64 a2, undef, undef, .pointer (some ⟨w.heap.size, 0, none⟩), .pointer (some ⟨w.heap.size + 1, 0, none⟩), .string nm, .int .i64 c, .string nm, .int .i64 c, .int .u8 x0, .int .i64 e0, .int .u8 x0, .int .i64 e0, .pointer (some ⟨w4.heap.size + 1, 0, none⟩), .func (.func 56) #[] #[], .pointer (some ⟨w4.heap.size + 1 + 1, 0, none⟩), undef, .int .u8 x.1, .bool true, .bool false, .tuple #[.string nm, .int .i64 c], .int .u8 a0, .tuple #[.string nm, .int .i64 c], .string nm, .int .i64 c, .tuple #[.string nm, .int .i64 c], .int .u8 a0, .tuple #[.string nm, .int .i64 c], .string nm, .int .i64 c, .tuple #[.int .u8 x0, .int .i64 e0], .string a1, .tuple #[.int .u8 x0, .int .i64 e0], .int .u8 x0, .int .i64 e0, .tuple #[.int .u8 x0, .int .i64 e0], .string a1, .tuple #[.int .u8 x0, .int .i64 e0], .int .u8 x0, .int .i64 e0, .string nm, .string nm, .bool false, .bool false, .int .i64 c, .int .i64 c, .bool false, .bool false, .bool false, .int .u8 x0, .int .u8 x0, .bool false, .bool false, .bool false, .int .i64 e0, .int .i64 e0, .bool false, .bool false, .slice (some ⟨w4.heap.size, 0, none⟩) 4 4, .func (.func 56) #[] #[], .func (.func 56) #[] #[], .bool false, .func (.func 56) #[] #[], undef, undef, undef, undef, undef, undef, undef, undef, undef, undef, undef, undef, undef, undef, undef, undef, undef, undef, .func (.func 56) #[] #[], .int .u8 x.1, undef, undef, undef, undef, undef, undef, undef, undef, undef, undef, undef, undef, undef, undef, undef, undef, undef, undef, undef, undef, undef], defers := [] }) ?assign ?body ?done ?stop
    case assign =>
      intro l x V K hK
      gi_wp2
      exact hK
    case body =>
      rintro l pre x V ⟨hp, hR, hKD⟩ hl4
      obtain ⟨k, hk⟩ : ∃ k : Nat, pre.length = k := ⟨_, rfl⟩
      rw [hk] at hl4 hR
      obtain ⟨hB, r1, r2, r3, r4, r5⟩ := hR
      have hR : RN w w4.heap.size a2 k V := ⟨hB, r1, r2, r3, r4, r5⟩
      have c2 := cell7 r2 0 (.bool false) rfl
      have q2 := fz (k := 0) r2
      have c3 := cell7 r3 k (.int .u8 (vL k)) (lst_at k hl4)
      have c4 := cell7 r4 0 (.slice (some ⟨w4.heap.size, 0, none⟩) 4 4) rfl
      have c5 := cell7 r5 0 (.int .i64 (k : Nat)) rfl
      have q5 := fz (k := 0) r5
      have d4 : decide (4 ≤ k) = false := by simp; omega
      have d4i : decide ((4 : Int) ≤ (k : Int)) = false := by simp; omega
      have hki : (k : Int) < 4 := by omega
      have hw : IntKind.i64.wrap ((k : Int) + 1) = ((k + 1 : Nat) : Int) := by rw [IntKind.wrap_i64]; omega
      have HKD := box hKD
      by_cases hx : x.1 = vL k
      · have hxv : (x.1 != vL k) = false := by simp [hx]
        have hyes := box (pre_yes pre x k hl4 hp hk hx)
        have hlen : (pre ++ [x]).length = k + 1 := by simp [hk]
        gi_wp2
        refine ⟨KeepsOthers.setCell _ _ _, trivial, hyes.out, ?_, (KeepsOthers.setCell V _ _).same D _ HKD.out rfl⟩
        rw [hlen]
        exact rn_set hR hz _
      · have hxv : (x.1 != vL k) = true := by simp [hx]
        have hno := box (pre_no pre x k hl4 hk hx)
        gi_wp2
        exact ⟨KeepsOthers.setCell _ _ _, rfl, hno.out⟩
    case done =>
      rintro D2 ys V hD2 rfl ⟨hp, hR, hKD⟩ hK3
      obtain ⟨hB, r1, r2, r3, r4, r5⟩ := hR
      have c2 := cell7 r2 0 (.bool false) rfl
      have q2 := fz (k := 0) r2
      have c4 := cell7 r4 0 (.slice (some ⟨w4.heap.size, 0, none⟩) 4 4) rfl
      have c5 := cell7 r5 0 (.int .i64 4) rfl
      gi_wp2
      refine (cwF.out (KA.out _ (fatB TT.out hB))).mono ?_
      rintro r w6 ⟨rfl, b6⟩
      have B6 := btr7 hB b6
      have k1 := (b6.block D (Array.getElem?_eq_some_iff.1 hKD).1).trans hKD
      have k2 := (b6.block D2 (Array.getElem?_eq_some_iff.1 hK3).1).trans hK3
      have r6 := heap_of b6 _ _ _ r2
      have nD : D ≠ D2 := by omega
      clear hKD hK3 b6 c2 q2 c4 c5
      have c2 := cell7 r6 0 (.bool false) rfl
      have q2 := fz (k := 0) r6
      gi_wp2
      have hk2 := (KeepsOthers.setCell w6 ⟨w.heap.size + 1, 0, none⟩ (.bool true)).same D2 _ k2 rfl
      have hk1 := (KeepsOthers.setCell w6 ⟨w.heap.size + 1, 0, none⟩ (.bool true)).same D _ k1 rfl
      have hB7 : Below w.heap.size w (w6.setCell ⟨w.heap.size + 1, 0, none⟩ (.bool true)) := B6.setCell (p := ⟨w.heap.size + 1, 0, none⟩) (by simp) _
      refine ⟨by simp, .inl ⟨_, _, rfl, run_takeDeferred hk2, ?_⟩⟩
      have hk1' : ((w6.setCell ⟨w.heap.size + 1, 0, none⟩ (.bool true)).putObj D2 (.deferred none)).heap[D]? = some (.deferred (some [])) := (World.putObj_heap_other nD).trans hk1
      refine ⟨by simp, .inl ⟨_, _, rfl, run_takeDeferred hk1', ?_⟩⟩
      have hc : (w6.setCell ⟨w.heap.size + 1, 0, none⟩ (.bool true)).cell? ⟨w.heap.size + 1, 0, none⟩ = some (.bool true) := World.cell?_setCell_same _ _ _ c2
      have hc5 := cell_kept hc (grownBy_putObj' _ D2 (.deferred none)) (fun r e => by cases e; exact ⟨_, hk2, rfl⟩)
      have hc6 := cell_kept hc5 (grownBy_putObj' _ D (.deferred none)) (fun r e => by cases e; exact ⟨_, hk1', rfl⟩)
      refine ⟨.bool true, ?_, rfl, (hB7.trans (belowK_b (w := w) (Nat.le_refl _) _ D2 _ _ (by omega) hk2 rfl rfl)).trans (belowK_b (w := w) (Nat.le_refl _) _ D _ _ (by omega) hk1' rfl rfl)⟩
      simp [results, Tryd.f5, go_sem, hc6]
    case stop =>
      rintro D2 c pre V hD2 hpre ⟨rfl, hn⟩ hK3
      exact absurd hpre hn)
  clear hK2
  · refine wpIn_rangeFunc_ownF hro (by decide) (gf := 56) (lb := #[]) rfl (hfn _) (enters_of Tryd.func56 (by kernel_rfl) rfl)
      (all1_stops F _ (hfn _) hro (by decide) W0) (fun _ _ => trivial) (fun _ _ _ _ _ _ _ _ => trivial) (Below.refl _ _) (fun _ => rfl)
      (fun pre W => pre <+: fL ∧ RN w w4.heap.size a2 (pre.length : Nat) W)
      (fun c pre W => (c = .ret ∧ ¬ pre <+: fL) ∨ (c = .exit 0 ∧ ∃ q, RN w w4.heap.size a2 q W))
      (fun s A B row hs hg hr => ⟨hs.1, rn_grown hs.2 hg (fun r e => (hr r e).1) hz hsz⟩)
      (fun c s A B row hs hg hr => hs.elim Or.inl (fun h => Or.inr ⟨h.1, by obtain ⟨q, hq⟩ := h.2; exact ⟨q, rn_grown hq hg (fun r e => (hr r e).1) hz hsz⟩⟩))
      ⟨List.nil_prefix, RN0⟩
      (fun x => { tmps := #[.int .u8 a0, .string a1, .int .i64 a2, undef, undef, .pointer (some ⟨w.heap.size, 0, none⟩), .pointer (some ⟨w.heap.size + 1, 0, none⟩), .string nm, .int .i64 c, .string nm, .int .i64 c, .int .u8 x0, .int .i64 e0, .int .u8 x0, .int .i64 e0, .pointer (some ⟨w4.heap.size + 1, 0, none⟩), .func (.func 56) #[] #[], .pointer (some ⟨w4.heap.size + 1 + 1, 0, none⟩), .int .u8 x.1, undef, .bool true, .bool false, .tuple #[.string nm, .int .i64 c], .int .u8 a0, .tuple #[.string nm, .int .i64 c], .string nm, .int .i64 c, .tuple #[.string nm, .int .i64 c], .int .u8 a0, .tuple #[.string nm, .int .i64 c], .string nm, .int .i64 c, .tuple #[.int .u8 x0, .int .i64 e0], .string a1, .tuple #[.int .u8 x0, .int .i64 e0], .int .u8 x0, .int .i64 e0, .tuple #[.int .u8 x0, .int .i64 e0], .string a1, .tuple #[.int .u8 x0, .int .i64 e0], .int .u8 x0, .int .i64 e0, .string nm, .string nm, .bool false, .bool false, .int .i64 c, .int .i64 c, .bool false, .bool false, .bool false, .int .u8 x0, .int .u8 x0, .bool false, .bool false, .bool false, .int .i64 e0, .int .i64 e0, .bool false, .bool false, .slice (some ⟨w4.heap.size, 0, none⟩) 4 4, .func (.func 56) #[] #[], .func (.func 56) #[] #[], .bool false, .func (.func 56) #[] #[], .int .u8 x.1, undef, undef, undef, undef, undef, undef, undef, undef, undef, undef, undef, undef, undef, undef, undef, undef, undef, undef, undef, undef, undef, undef, undef, undef, undef, undef, undef, undef, undef, undef, undef, undef, undef, undef, undef, undef, undef, undef, undef, undef], defers := [] }) ?assign ?body ?done ?stop
    case assign =>
      intro l x W K hK
      gi_wp2
      exact hK
    case body =>
      rintro l pre x W ⟨hp, hR⟩ hl4
      obtain ⟨k, hk⟩ : ∃ k : Nat, pre.length = k := ⟨_, rfl⟩
      rw [hk] at hl4 hR
      obtain ⟨hB, r1, r2, r3, r4, r5⟩ := hR
      have hR : RN w w4.heap.size a2 k W := ⟨hB, r1, r2, r3, r4, r5⟩
      have c1 := cell7 r1 0 (.int .i64 a2) rfl
      have c2 := cell7 r2 0 (.bool false) rfl
      have q2 := fz (k := 0) r2
      have c3 := cell7 r3 k (.int .u8 (vL k)) (lst_at k hl4)
      have c4 := cell7 r4 0 (.slice (some ⟨w4.heap.size, 0, none⟩) 4 4) rfl
      have c5 := cell7 r5 0 (.int .i64 (k : Nat)) rfl
      have q5 := fz (k := 0) r5
      have d4 : decide (4 ≤ k) = false := by simp; omega
      have d4i : decide ((4 : Int) ≤ (k : Int)) = false := by simp; omega
      have hki : (k : Int) < 4 := by omega
      have hw : IntKind.i64.wrap ((k : Int) + 1) = ((k + 1 : Nat) : Int) := by rw [IntKind.wrap_i64]; omega
      by_cases hx : x.1 = vL k
      · have hxv : (x.1 != vL k) = false := by simp [hx]
        have hyes := box (pre_yes pre x k hl4 hp hk hx)
        have hlen : (pre ++ [x]).length = k + 1 := by simp [hk]
        by_cases hs : ((k + 1 : Nat) : Int) = a2
        · have hse : (((k + 1 : Nat) : Int) == a2) = true := by rw [beq_iff_eq]; exact hs
          gi_wp2
          exact ⟨KeepsOthers.setCell _ _ _, Or.inr ⟨rfl, _, rn_set hR hz _⟩⟩
        · have hse : (((k + 1 : Nat) : Int) == a2) = false := by rw [beq_eq_false_iff_ne]; exact hs
          gi_wp2
          all_goals (refine ⟨KeepsOthers.setCell _ _ _, trivial, hyes.out, ?_⟩; rw [hlen]; exact rn_set hR hz _)
      · have hxv : (x.1 != vL k) = true := by simp [hx]
        have hno := box (pre_no pre x k hl4 hk hx)
        gi_wp2
        exact ⟨KeepsOthers.setCell _ _ _, Or.inl ⟨rfl, hno.out⟩⟩
    case done =>
      rintro D ys W hD rfl ⟨hp, hR⟩ hK
      exact key.out D W _ hR hK hD
    case stop =>
      rintro D c pre W hD hpre h hK
      rcases h with ⟨rfl, hn⟩ | ⟨rfl, q, hR⟩
      · exact absurd hpre hn
      · refine wpIn_exit ?_
        exact key.out D W q hR hK hD

set_option maxRecDepth 100000 in
theorem lifted (os : Os) (started : os.Started) (H : Type) (enc : TypeId × Value → H) :
    ReturnsInHanded {} Tryd.checked os 5 .any (fun w args => (Rows.shapeNamesSpec.pre enc Tryd.prog Tryd.f5 [] false w args ∧ laidMetH Tryd.prog laid7 w) ∧ sizedMet enc Tryd.prog Tryd.f5 (OpenSpec.ofChange Rows.shapeNamesSpec) false w args)
      (Rows.shapeNamesSpec.post enc Tryd.prog Tryd.f5 false true false false) := by
  refine returnsInHanded_of_change_and (C := Tryd.checked) (X := fun w _ => laidMetH Tryd.prog laid7 w) (fun _ _ _ hh h => h.of_heap hh) own started (by kernel_rfl) Tryd.func5
    (ChangeSpec.witness_shaped (enc := enc) (C := Tryd.checked) (os := os) (X := fun w _ => laidMetH Tryd.prog laid7 w) false (World.doorLaid Tryd.prog 400 os) #[.int .u8 0, .string ⟨#[]⟩, .int .i64 0] 8 rfl (World.shaped_of_RefB (by kernel_rfl) (by kernel_rfl)) (by kernel_rfl) (by kernel_rfl) (by kernel_rfl) (door_met7 os _)) ?_
  intro W base args ds gs before hval0 hW _ _ hL _
  have hval : ∀ (j : Nat) t v, Tryd.f5.params[j]? = some t → args[j]? = some v → Value.okWide Tryd.prog W .any base t v := hval0
  have hW' := hW
  obtain ⟨p, q, hA0, hV, rfl, hfz, hnd⟩ := hW
  have hA : DataW.TrodAll enc Tryd.prog W 0 (fun _ => true) true Tryd.f5.params.toList args.toList ds p := hA0
  rw [Tryd.params5] at hA hval
  obtain ⟨v0, vs0, d0, ds0, p0, q0, hargs, rfl, rfl, k0, r0⟩ := trodAll_cons hA
  obtain ⟨v1, vs1, d1, ds1, p1, q1, rfl, rfl, rfl, k1, r1⟩ := trodAll_cons r0
  obtain ⟨v2, vs2, d2, ds2, p2, q2, rfl, rfl, rfl, k2, r2⟩ := trodAll_cons r1
  obtain ⟨rfl, rfl, rfl⟩ := trodAll_nil r2
  obtain rfl : args = #[v0, v1, v2] := by cases args; simp_all
  obtain ⟨rfl, rfl⟩ := trodVars_none hV
  obtain ⟨a0, rfl, rfl, rfl, h0⟩ := open_int Tryd.underlying22 (hval 0 22 v0 rfl rfl) k0
  obtain ⟨a1, rfl, rfl, rfl, h1⟩ := open_string Tryd.underlying9 (hval 1 9 v1 rfl rfl) k1
  obtain ⟨a2, rfl, rfl, rfl, h2⟩ := open_int Tryd.underlying3 (hval 2 3 v2 rfl rfl) k2
  clear hA0 hval0
  simp only [List.append_nil] at hW'
  refine (walk a0 a1 a2 h0 h1 h2 W (of_laid7 hL)).mono fun e W' ⟨he, hg⟩ => ?_
  subst he
  exact ⟨_, rfl, post_plain hW' (fun _ _ _ => trodAll_mk1 (shut_bool Tryd.underlying4 _)) (fun sp => (trodAll_cons_mk (shut_int Tryd.underlying22 h0) (trodAll_cons_mk (shut_string Tryd.underlying9 h1) (trodAll_cons_mk (shut_int Tryd.underlying3 h2) trodAll_mk0)))) (fun _ => rfl) hg (ok_one (by kernel_rfl) rfl (okWide_bool_mk Tryd.underlying4 _))⟩

theorem over : Rows.ShapeNamesSaid :=
  OpenClaim.holds_of_wide 5 Tryd.f5 rfl rfl rfl rfl rfl rfl rfl ⟨rfl, rfl, rfl, rfl, rfl⟩ rfl rfl rfl rfl rfl (by kernel_rfl) Tryd.func5 (by kernel_rfl)
    (of_decide_eq_true (by kernel_rfl)) (by unfold Func.isWrapper; first | (rw [if_pos (by decide +kernel)]; kernel_rfl) | (rw [if_neg (by decide +kernel)]; exact ⟨rfl, rfl⟩))
    (fun os started H enc _ => lifted os started H enc)

theorem proved : Rows.ShapeNamesCardSaid :=
  Claim7.holds_tied_plain_at .later [] [.data] true (true, "c37990678c10b719edc1d93dd120d60deda3d1b1059eb7dbc9831a082f9c81fc") false
    over (fun _ h => by cases h) (by kernel_rfl) (fun _ h => by cases h) shapeNames_row_tie rfl ⟨rfl, rfl⟩ (by kernel_rfl) rfl
    (fun f fn hf hfn => by
      obtain rfl : f = 5 := Option.some.inj ((show Tryd.prog.funcNamed "abacus/abacuslaw07.ShapeNames" = some 5 by kernel_rfl).symm.trans hf) |>.symm
      obtain rfl : fn = Tryd.f5 := (Option.some.inj (Tryd.func5.symm.trans hfn)).symm
      exact ⟨by kernel_rfl, fun j t ht => by
        rw [Tryd.params5] at ht
        have h3 : t = 22 ∨ t = 9 ∨ t = 3 := by
          rcases j with _ | _ | _ | j
          · exact (Or.inl (by simpa using ht.symm))
          · exact (Or.inr (Or.inl (by simpa using ht.symm)))
          · exact (Or.inr (Or.inr (by simpa using ht.symm)))
          · simp at ht
        rcases h3 with rfl | rfl | rfl
        · exact (show Tryd.prog.wantsStandIn 22 = false by kernel_rfl)
        · exact (show Tryd.prog.wantsStandIn 9 = false by kernel_rfl)
        · exact (show Tryd.prog.wantsStandIn 3 = false by kernel_rfl)⟩)
    (by kernel_rfl)
#print axioms proved
end Go.Proofs.YtjbefkceieklmaaDoor.shapeNames
