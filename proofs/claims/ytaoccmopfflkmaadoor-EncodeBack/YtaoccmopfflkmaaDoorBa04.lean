/-
  What the functions that the statement reaches return: part 4 (DH, DI, DJ, DK, YA, YC, YD, YE, YF, YG, YJ, YM).
-/
import Derived.DeepKeys4
import Derived.Maps.OwnIn
import Derived.Maps.OwnSet
import Derived.Stop.RegionWithIn
import Derived.Deep.RegionWith
import Derived.Laws.IdiomStrings
import Derived.Lib.AppendStr
import Derived.Test.YtaoccmopfflkmaaDoorBa03
namespace Go.Proofs.YtaoccmopfflkmaaDoor
set_option maxRecDepth 100000
set_option maxHeartbeats 40000000
set_option maxRecDepth 100000
open Go.RowKit Go.Shelf WMath
open Go.Maps (Keyed)
set_option linter.unusedVariables false
set_option linter.unusedSimpArgs false
attribute [local go_sem] Oper.semAt_some

theorem laid24 : laidOutB Tryd.prog = true := by kernel_rfl
theorem rowF24 : (98 : TypeId) < Tryd.prog.types.size := of_decide_eq_true (by kernel_rfl)
theorem wideF24 : (match Tryd.prog.underlying 98 with | some (.array _ _) | some (.struct _) => true | _ => false) = true := by rw [Tryd.underlying98]
theorem keyF24 : Keyed Tryd.prog 98 := Keyed.of_law (deep_law_laid laid24 (m := 2) (by omega) rowF24 (by kernel_rfl) wideF24)
def FdsOk (F : FdS) : Prop := F.opc < 256 ∧ F.rm < 256 ∧ F.rs2 < 256 ∧ F.form < 256 ∧ F.rs3 < 256
theorem fdC_inj {F G : FdS} (h : Value.agg (fdC F) = .agg (fdC G)) : F = G := by
  obtain ⟨a, b, c, d, e⟩ := F
  obtain ⟨a', b', c', d', e'⟩ := G
  simp only [fdC, Value.agg.injEq, Array.mk.injEq, List.cons.injEq, Value.int.injEq, true_and, and_true] at h
  obtain ⟨h1, h2, h3, h4, h5⟩ := h
  simp only [FdS.mk.injEq]
  omega
theorem key_fd (F : FdS) (h : FdsOk F) : ∃ kl, keyOf Tryd.prog 98 (.agg (fdC F)) = some kl := by
  obtain ⟨h0, h1, h2, h3, h4⟩ := h
  have hk : Tryd.prog.keyType 98 = true := by kernel_rfl
  have hc : Tryd.prog.cellsOf 98 = 5 := by kernel_rfl
  have hc5 : Tryd.prog.cellsOf 5 = 1 := by kernel_rfl
  have hf : (Value.agg (fdC F)).formed Tryd.prog 98 = true := by simp [Value.formed, Tryd.underlying98, hc, fdC]
  have hn : ∃ m, Tryd.prog.types.size + 1 = m + 2 := ⟨Tryd.prog.types.size - 1, by have h : (98 : Nat) < Tryd.prog.types.size := rowF24; omega⟩
  obtain ⟨m, hm⟩ := hn
  have w : ∀ a : Nat, a < 256 → (Lit.int .u8 (a : Int)).wf = true := fun a ha => by
    have e1 : IntKind.u8.min = 0 := by decide
    have e2 : IntKind.u8.max = 255 := by decide
    show (decide (IntKind.u8.min ≤ (a : Int)) && decide ((a : Int) ≤ IntKind.u8.max)) = true
    rw [e1, e2, decide_eq_true (by omega), decide_eq_true (by omega)]
    rfl
  have q : ∃ ls, Tryd.prog.keyLits (m + 2) 98 (fdC F).toList = some ls := by
    simp [Program.keyLits, Tryd.underlying98, Tryd.underlying5, hc, hc5, fdC, w _ h0, w _ h1, w _ h2, w _ h3, w _ h4]
  obtain ⟨ls, q⟩ := q
  refine ⟨.string (keyBytes ls), ?_⟩
  unfold keyOf
  rw [Tryd.underlying98, hk, hf, hm]
  simp only [Bool.and_self, if_true]
  show (Tryd.prog.keyLits (m + 2) 98 (fdC F).toList).map _ = _
  rw [q]
  rfl
def datR (r : Rw) : DataW Unit := .agg [.lit (.int .u8 (r.op : Nat)), .lit (.int .u8 (r.form : Nat)), .lit (.int .u8 (r.frm : Nat)), .lit (.int .u8 (r.kind : Nat)), .lit (.int .u32 (r.mask : Nat)), .lit (.int .u32 (r.mtch : Nat)), .lit (.int .u8 (r.lay : Nat))]
def R24 (v : Value) : Option (DataW Unit × List MemPlace) := match v with
  | .agg ⟨[.int .u8 a, .int .u8 b, .int .u8 c, .int .u8 d, .int .u32 e, .int .u32 f, .int .u8 g]⟩ => some (.agg [.lit (.int .u8 a), .lit (.int .u8 b), .lit (.int .u8 c), .lit (.int .u8 d), .lit (.int .u32 e), .lit (.int .u32 f), .lit (.int .u8 g)], [])
  | _ => none
theorem R24_of (r : Rw) : R24 (.agg (rwC r)) = some (datR r, []) := rfl
theorem R24_inv {v : Value} {r : Rw} {ps : List MemPlace} (h : R24 v = some (datR r, ps)) : v = .agg (rwC r) := by
  unfold R24 at h
  split at h
  · rename_i a b c d e f g
    simp only [datR, Option.some.injEq, Prod.mk.injEq, DataW.agg.injEq, List.cons.injEq, DataW.lit.injEq, Lit.int.injEq, true_and, and_true] at h
    obtain ⟨⟨h0, h1, h2, h3, h4, h5, h6⟩, _⟩ := h
    rw [h0, h1, h2, h3, h4, h5, h6]
    rfl
  · cases h
def keyR (r : Rw) : FdS := fdB (cutF r.mtch)
def lastR (L : List Rw) (F : FdS) : Option Rw := L.reverse.find? fun r => decide (keyR r = F)
theorem lastR_next (L : List Rw) (r : Rw) (F : FdS) : lastR (L ++ [r]) F = if keyR r = F then some r else lastR L F := by
  unfold lastR
  rw [List.reverse_append]
  by_cases h : keyR r = F
  · simp [h]
  · simp [h]
theorem keyR_ok (r : Rw) : FdsOk (keyR r) := by
  refine ⟨?_, ?_, ?_, ?_, ?_⟩ <;> simp only [keyR, fdB, cutF] <;> omega
def MapR (V : World) (b : Nat) (L : List Rw) : Prop := ∃ n D, V.ownsMap Tryd.prog 98 R24 b n D ∧ n ≤ L.length ∧ Maps.IsMap D ∧ ∀ F kl, keyOf Tryd.prog 98 (.agg (fdC F)) = some kl → Maps.has D kl = (lastR L F).isSome ∧ D.atKey kl (datR rwZ) = datR ((lastR L F).getD rwZ)
theorem MapR.start (w : World) : MapR (w.alloc (.map #[] 0)) w.heap.size [] := ⟨0, .map [], World.ownsMap_made w _ _ _, Nat.le_refl _, Maps.isMap_empty, fun F kl h => ⟨rfl, rfl⟩⟩
theorem MapR.kept {V V' : World} {b : Nat} {L : List Rw} {row : Option Nat} (h : MapR V b L) (hg : V.grownBy V' row) (hne : some b ≠ row) : MapR V' b L := by
  obtain ⟨n, D, h1, h2, h3, h4⟩ := h
  exact ⟨n, D, h1.kept hg hne, h2, h3, h4⟩
theorem MapR.below {V V' : World} {b : Nat} {L : List Rw} (h : MapR V b L) (hb : Below V.heap.size V V') : MapR V' b L := h.kept (below_grown24 hb) (by simp)
theorem MapR.lt {V : World} {b : Nat} {L : List Rw} (h : MapR V b L) : b < V.heap.size := by
  obtain ⟨n, D, h1, _⟩ := h
  exact h1.lt
theorem MapR.drew {V : World} {b : Nat} {L : List Rw} (h : MapR V b L) : MapR V.drew b L := h
theorem MapR.look {V : World} {b : Nat} {L : List Rw} (h : MapR V b L) (F : FdS) (hF : FdsOk F) : (Instr.lookup 103 (.map (some b)) (.agg (fdC F)) true).run Tryd.prog V = .ok (.tuple #[.agg (rwC ((lastR L F).getD rwZ)), .bool (lastR L F).isSome]) V := by
  obtain ⟨n, D, h1, h2, h3, h4⟩ := h
  obtain ⟨kl, hk⟩ := key_fd F hF
  have hz : (zeroValue 45).run Tryd.prog V = .ok (.agg (rwC rwZ)) V := by kernel_rfl
  obtain ⟨v, ps, hrun, hv⟩ := h1.look_ok keyF24 Tryd.underlying103 hz (R24_of rwZ) hk
  obtain ⟨q1, q2⟩ := h4 F kl hk
  rw [q2] at hv
  rw [hrun, q1, R24_inv hv]
theorem MapR.put {V : World} {b : Nat} {L : List Rw} (h : MapR V b L) (hl : L.length < 1000) (r : Rw) : ∃ V', (Instr.mapUpdate 103 (.map (some b)) (.agg (fdC (keyR r))) (.agg (rwC r))).run Tryd.prog V = .ok () V' ∧ MapR V' b (L ++ [r]) ∧ V.grownBy V' (some b) := by
  obtain ⟨n, D, h1, h2, h3, h4⟩ := h
  obtain ⟨kl, hk⟩ := key_fd (keyR r) (keyR_ok r)
  obtain ⟨V', hrun, o1, g1⟩ := h1.update keyF24 Tryd.underlying103 (by unfold maxLen; omega) hk (R24_of r)
  refine ⟨V', hrun, ⟨n + 1, D.put kl (datR r), o1, by simp; omega, h3.put _ _, fun F kl' hk' => ?_⟩, g1⟩
  rw [lastR_next]
  by_cases e : keyR r = F
  · subst e
    obtain rfl : kl = kl' := Option.some.inj (hk.symm.trans hk')
    rw [if_pos rfl]
    exact ⟨Maps.has_put_same h3 (keyF24.key hk) _, Maps.atKey_put_same h3 (keyF24.key hk) _ _⟩
  · have hne : kl' ≠ kl := fun z => e (fdC_inj (keyF24.inj hk (z ▸ hk')))
    rw [if_neg e, Maps.has_put_other hne, Maps.atKey_put_other hne]
    exact h4 F kl' hk'
structure BfK (w W0 : World) (o gm bm B : Nat) (pre : List Rw) (V : World) : Prop where
  b : Below w.heap.size w V
  z : W0.heap.size ≤ V.heap.size
  g : V.heap[gm]? = some (.cells #[.map (some bm)] 103)
  m : MapR V bm pre
  e : V.heap[B]? = some (.cells #[.int .u8 (o : Nat)] 22)
theorem BfK.grown {w W0 : World} {o gm bm B : Nat} {pre : List Rw} {X Y : World} {row : Option Nat} (h : BfK w W0 o gm bm B pre X) (hg0 : gm < W0.heap.size) (hB0 : B < W0.heap.size) (hb0 : bm < W0.heap.size) (hw : w.heap.size ≤ W0.heap.size) (hg : X.grownBy Y row) (hr : ∀ r, row = some r → W0.heap.size ≤ r ∧ ∃ o : Obj, X.heap[r]? = some o ∧ o.isCells = false) : BfK w W0 o gm bm B pre Y :=
  ⟨h.b.grown hg h.b.size (fun r e => by have := (hr r e).1; omega), Nat.le_trans h.z hg.size, row_grq h.g hg (fun r e => (hr r e).1) hg0, h.m.kept hg (fun e => by have := (hr bm e.symm).1; omega), row_grq h.e hg (fun r e => (hr r e).1) hB0⟩
theorem BfK.step {w W0 : World} {o bm B M : Nat} {pre : List Rw} {x : Rw} {V V2 V' : World} (h : BfK w W0 o (bm + 1) bm B pre V) (hM : M ≤ V.heap.size) (hM0 : W0.heap.size ≤ M) (b2 : Below V.heap.size V V2) (mp : MapR V' bm (pre ++ [x])) (gr : V2.grownBy V' (some bm)) (hb0 : bm < W0.heap.size) (hw : w.heap.size ≤ bm) (hB : B ≠ bm) (hV : W0.heap.size ≤ V.heap.size) :
    TopM W0.heap.size M V V' ∧ BfK w W0 o (bm + 1) bm B (pre ++ [x]) V' := by
  have s1 := b2.size
  have s2 := gr.size
  have keep : ∀ q o, V.heap[q]? = some o → q ≠ bm → V'.heap[q]? = some o := fun q o hq hn => (gr.block q (Nat.lt_of_lt_of_le (Array.getElem?_eq_some_iff.1 hq).1 s1) (fun e => hn (Option.some.inj e))).trans ((b2.block q (Array.getElem?_eq_some_iff.1 hq).1).trans hq)
  refine ⟨⟨by omega, fun q a b => ?_⟩, ⟨?_, ?_, keep _ _ h.g (by omega), mp, keep _ _ h.e hB⟩⟩
  · rw [gr.block q (by omega) (fun e => by have := Option.some.inj e; omega), b2.block q (by omega)]
  · exact (h.b.trans (b2.mono h.b.size)).grown gr (by have := h.b.size; omega) (fun k e => by cases e; omega)
  · omega
theorem mt_all : ((List.range 32).all fun o => (rwsO o).all fun r => decide (r.mtch < 4294967296 ∧ r.mask < 4294967296)) = true := by decide +kernel
theorem mtch24 {o : Nat} {pre : List Rw} {x : Rw} (h : pre ++ [x] <+: rwsO o) : x.mtch < 4294967296 := by
  have hx : x ∈ rwsO o := h.subset (by simp)
  by_cases ho : o < 32
  · exact (of_decide_eq_true (List.all_eq_true.1 (List.all_eq_true.1 mt_all o (List.mem_range.2 ho)) x hx)).1
  · rw [rwsO_out (by omega)] at hx
    cases hx
theorem MapR.put24 {V : World} {b D : Nat} {L : List Rw} {o : Obj} (h : MapR V b L) (hd : V.heap[D]? = some (.deferred (some []))) : MapR (V.putObj D o) b L := h.kept (grownBy_putObj' V D o) (fun e => by
  injection e with e
  obtain ⟨n, D2, h1, _⟩ := h
  obtain ⟨es, clock, hb, _⟩ := h1
  rw [e, hd] at hb
  cases hb)
set_option maxRecDepth 100000 in
set_option maxHeartbeats 8000000 in
theorem t_byFields (o : Nat) (ho : o < 256) (hE : ∀ args w, (callFunc 48 args).run Tryd.prog w = .ok (.enter 48 args) w) (w : World) (hT : T24 w) : Calls Tryd.prog 42 #[.int .u8 (o : Nat)] w fun r w' => ∃ b, r = .returned (.map (some b)) ∧ MapR w' b (rwsO o) ∧ Below w.heap.size w w' ∧ w.heap.size ≤ b := by
  have FF := box hT
  have KE := k_each o ho
  have KC := k_counts o ho
  obtain ⟨c1, hc1⟩ : ∃ c, (cnQ o).1 = c := ⟨_, rfl⟩
  obtain ⟨c2, hc2⟩ : ∃ c, (cnQ o).2.1 = c := ⟨_, rfl⟩
  obtain ⟨c3, hc3⟩ : ∃ c, (cnQ o).2.2 = c := ⟨_, rfl⟩
  rw [hc1, hc2, hc3] at KC
  clear hc1 hc2 hc3
  refine (callsIn_wide (n := 6)).1 ?_
  refine callsIn_of_wp_marks Tryd.func42 rfl trivial ?_ rfl
  refine wpIn_wide.2 ?_
  simp only [Tryd.ntmps42, List.size_toArray, List.length_cons, List.length_nil, Nat.reduceAdd, Nat.reduceSub, Array.replicate_succ, Array.replicate_zero, List.push_toArray, List.append_toArray, List.nil_append, List.cons_append]
  go_wp2_with fail
  refine (KC.out w hT).mono ?_
  rintro r w1 ⟨rfl, b1⟩
  have hmk : ∀ (z : Int) (V : World), (Instr.makeMap 103 (some (.int .i64 z))).run Tryd.prog V = .ok (.map (some V.heap.size)) (V.alloc (.map #[] 0)) := fun z V => by first | rfl | kernel_rfl
  have M0 := MapR.start w1
  have B1 := (bal w1 (.map #[] 0))
  have B2 := (bal (w1.alloc (.map #[] 0)) (.cells #[.map (some w1.heap.size)] 103))
  have R2 := last7 (w1.alloc (.map #[] 0)) (.cells #[.map (some w1.heap.size)] 103)
  have M2 := M0.below B2
  have BB := b1.trans ((B1.trans (B2.mono B1.size)).mono b1.size)
  have hsz : (w1.alloc (.map #[] 0)).heap.size = w1.heap.size + 1 := by simp only [size_al]
  have hbm := b1.size
  rw [hsz] at R2
  clear B1 B2 M0 hsz b1
  go_wp2_with fail
  refine (KE.out _ (t24B FF.out BB)).mono ?_
  rintro r W0 ⟨lb, B, rfl, hb0, hB1, hB2, seq⟩
  have RM0 := heap_of hb0 _ _ _ R2
  have MM0 := M2.below hb0
  have BW0 := BB.trans (hb0.mono BB.size)
  have hlg := (Array.getElem?_eq_some_iff.1 RM0).1
  have hlB := (Array.getElem?_eq_some_iff.1 hB2).1
  have hBg : B ≠ w1.heap.size ∧ B ≠ w1.heap.size + 1 := by
    have := (Array.getElem?_eq_some_iff.1 R2).1
    omega
  obtain ⟨bm, hbmE⟩ : ∃ x, w1.heap.size = x := ⟨_, rfl⟩
  rw [hbmE] at RM0 MM0 hlg hBg hbm
  rw [hbmE]
  have SEQ := box seq
  clear seq hb0 M2 R2 BB hmk hbmE
  go_wp2_with fail
  refine (wpIn_wide (n := 6)).1 ?_
  refine wp_range_topM (by decide) (gf := 48) (lb := lb) rfl hE (SEQ.out 5 (by decide)) (fun _ => rfl)
    (fun M pre V => BfK w W0 o (bm + 1) bm B pre V)
    (fun M c pre V => False)
    (fun M pre X Y row hs hg hr => hs.grown hlg hlB (by omega) (by omega) hg hr)
    (fun M c s X Y row hs hg hr => hs)
    (fun M pre V hv => ⟨t24B FF.out hv.b, hv.e⟩) (fun M hM => ⟨BW0, Nat.le_refl _, RM0, MM0, hB2⟩) ?a1 (fun x => Obj.cells (rwC x) 45) ?assign ?body ?done ?stop
  case assign =>
    intro l x W K hK
    have hrn := rwC_new
    obtain ⟨m, hm⟩ : ∃ m, W.heap.size = m := ⟨_, rfl⟩
    have hK := hK (W.alloc (Obj.cells (rwC x) 45)) (World.grownBy_alloc W _ none) (by simp only [size_al]) (last7 W _)
    rw [hm] at hK
    gi_wp2
    exact hK
  case body =>
    rintro M l pre xx mm V hM0 hM1 HK hl4 hsp hm0 hm1 hmx
    have hx32 : xx.mtch < 4294967296 := mtch24 hsp
    have KU : Box (∀ W, Calls Tryd.prog 40 #[.int .u32 (xx.mtch : Nat)] W fun r w' => r = .returned (.agg (fdC (keyR xx))) ∧ Below W.heap.size W w') := box (fun W => t_cut xx.mtch hx32 _ rfl W)
    have cg := pcell24 HK.g
    obtain ⟨x0, x1, x2, x3, x4, x5, x6⟩ := rwC_cells hmx
    have hfo := rwC_fold xx
    have HKB := box HK
    have HMX := box hmx
    have UPD : Box (∀ V2, Below V.heap.size V V2 → V2.cell? ⟨bm + 1, 0, none⟩ = some (.map (some bm)) ∧ (V2.cell? ⟨mm, 0, none⟩ = some (.int .u8 (xx.op : Nat)) ∧ V2.cell? ⟨mm, 1, none⟩ = some (.int .u8 (xx.form : Nat)) ∧ V2.cell? ⟨mm, 2, none⟩ = some (.int .u8 (xx.frm : Nat)) ∧ V2.cell? ⟨mm, 3, none⟩ = some (.int .u8 (xx.kind : Nat)) ∧ V2.cell? ⟨mm, 4, none⟩ = some (.int .u32 (xx.mask : Nat)) ∧ V2.cell? ⟨mm, 5, none⟩ = some (.int .u32 (xx.mtch : Nat)) ∧ V2.cell? ⟨mm, 6, none⟩ = some (.int .u8 (xx.lay : Nat))) ∧ ∃ V', (Instr.mapUpdate 103 (.map (some bm)) (.agg (fdC (keyR xx))) (.agg (rwC xx))).run Tryd.prog V2 = .ok () V' ∧ TopM W0.heap.size M V V' ∧ BfK w W0 o (bm + 1) bm B (pre ++ [xx]) V') := box (fun V2 b2 => by
      refine ⟨pcell24 (heap_of b2 _ _ _ HKB.out.g), rwC_cells (heap_of b2 _ _ _ HMX.out), ?_⟩
      obtain ⟨V', hrun, mp, gr⟩ := (HKB.out.m.below b2).put (by omega) xx
      exact ⟨V', hrun, HKB.out.step (by omega) (by omega) b2 mp gr (by omega) (by omega) (by omega) (by omega)⟩)
    clear HK hmx
    have hfw : ∀ f, Fence.wide.fn f := fun _ => trivial
    gi_wp2_with fail
    gi_region_with (first | (gi_at_call 40; refine (CallsIn.inRound l (callsIn_wide.2 (KU.out _))).mono ?_; rintro r w5 ⟨rfl, b5⟩; have b6 : Below V.heap.size V w5 := ((Below.refl V.heap.size V).drew).trans b5; obtain ⟨d0, ⟨d1, d2, d3, d4, d5, d6, d7⟩, w7, hup, tk, st⟩ := UPD.out w5 b6) | fail)
    all_goals first | exact ⟨tk, st⟩ | (gi_wp2; exact ⟨tk, st⟩)
  case done =>
    rintro M D ys V hM hD rfl HK hK
    have cg := pcell24 HK.g
    go_wp2
    refine leaves_marks (base := w.heap.size) (fun V => MapR V bm (rwsO o) ∧ Below w.heap.size w V) (fun V D hv hD hd => ⟨hv.1.put24 hd, below_put24 hv.2 hD⟩) (fun V hv => ⟨.map (some bm), by simp [results, Tryd.results42, go_sem], bm, rfl, hv.1, hv.2, by omega⟩) [D] V (Marks.cons (Marks.nil _ _) (by omega) (fun E h => by cases h) hK) ⟨HK.m, HK.b⟩
  case stop =>
    rintro M D c pre V hM hD hpre hf hK
    exact hf.elim
end Go.Proofs.YtaoccmopfflkmaaDoor
namespace Go.Proofs.YtaoccmopfflkmaaDoor
set_option maxRecDepth 100000
set_option maxHeartbeats 40000000
set_option maxRecDepth 100000
open Go.RowKit Go.Shelf WMath
set_option linter.unusedVariables false
set_option linter.unusedSimpArgs false
def leadsP (k x : Nat) : Bool := decide (x % 128 = (plN k).opc) && (decide ((cutF (x &&& fxN (plN k).lay)).rs3 = (plN k).rs3) && (decide ((cutF (x &&& fxN (plN k).lay)).rm = (plN k).rm) || (decide ((plN k).lay = 1) || decide ((plN k).lay = 2))))
theorem k_leads (k x : Nat) (hk : k < 32) (hx : x < 4294967296) : Box (∀ w, T24 w → Calls Tryd.prog 41 #[.agg (plV (plB (plN k))), .int .u32 (x : Nat)] w fun r w' => r = .returned (.bool (leadsP k x)) ∧ Below w.heap.size w w') := box (fun w hT => by
  unfold leadsP
  have hf := fxLt (plOk hk).1
  have hy : x &&& fxN (plN k).lay < 4294967296 := Nat.lt_of_le_of_lt Nat.and_le_left hx
  by_cases h : x % 128 = (plN k).opc
  · rw [decide_eq_true h, Bool.true_and]
    have hne : (((x % 128 : Nat) : Int) != ((plN k).opc : Nat)) = false := by rw [bne, beqN24, decide_eq_true h]; rfl
    exact t_leads_y (plB (plN k)) x (x &&& fxN (plN k).lay) (fxN (plN k).lay) (fdB (cutF x)) (fdB (cutF (x &&& fxN (plN k).lay))) _ _ _ rfl (plOk hk).1 hne (and32t x _ hx hf) (beqN24 _ _) (beqN24 _ _) (box (fun w => t_cut x hx _ rfl w)) (box (fun w => t_cut _ hy _ rfl w)) (k_isMem k) w hT
  · rw [decide_eq_false h, Bool.false_and]
    have hne : (((x % 128 : Nat) : Int) != ((plN k).opc : Nat)) = true := by rw [bne, beqN24, decide_eq_false h]; rfl
    exact t_leads_n (plB (plN k)) x (fdB (cutF x)) hne (box (fun w => t_cut x hx _ rfl w)) w)
theorem fd_all : ((List.range 32).all fun k => (rwsO k).all fun r => decide (r.mask = fxN (plN k).lay ∧ r.mtch &&& r.mask = r.mtch ∧ r.mask % 128 = 127 ∧ r.mtch % 128 = (plN k).opc ∧ (cutF r.mtch).rs3 = (plN k).rs3 ∧ ((cutF r.mtch).rm = (plN k).rm ∨ (plN k).lay = 1 ∨ (plN k).lay = 2) ∧ lastR (rwsO k) (keyR r) = some r)) = true := by decide +kernel
theorem fd_row {k x : Nat} {r : Rw} (hk : k < 32) (hr : r ∈ rwsO k) (hf : fitsL r x = true) : leadsP k x = true ∧ lastR (rwsO k) (fdB (cutF (x &&& fxN (plN k).lay))) = some r := by
  obtain ⟨h1, h2, h3, h4, h5, h6, h7⟩ := of_decide_eq_true (List.all_eq_true.1 (List.all_eq_true.1 fd_all k (List.mem_range.2 hk)) r hr)
  have hm : x &&& r.mask = r.mtch := by
    unfold fitsL at hf
    simp only [Bool.and_eq_true, decide_eq_true_eq] at hf
    rw [hf.1.1, h2]
  rw [← h1, hm]
  refine ⟨?_, h7⟩
  unfold leadsP
  rw [← h1, hm, decide_eq_true h5, Bool.true_and]
  have hx : x % 128 = (plN k).opc := by
    have q : (x &&& r.mask) % 2 ^ 7 = x % 2 ^ 7 &&& r.mask % 2 ^ 7 := Nat.and_mod_two_pow
    rw [hm] at q
    have q1 : r.mask % 2 ^ 7 = 2 ^ 7 - 1 := h3
    rw [q1, Nat.and_two_pow_sub_one_eq_mod] at q
    have q2 : r.mtch % 2 ^ 7 = x % 2 ^ 7 % 2 ^ 7 := q
    have q3 : r.mtch % 128 = x % 128 % 128 := q2
    omega
  rw [decide_eq_true hx, Bool.true_and]
  rcases h6 with h | h | h <;> simp [h]
theorem preR_mem {k : Nat} {r : Rw} (hk : k ≤ 32) (h : r ∈ preR k) : ∃ p ∈ allL, p.1 = r := by
  have q : r ∈ preR 32 := (fm_pre rwsO (range_pre hk)).subset h
  rw [preR_all] at q
  obtain ⟨p, hp, e⟩ := List.mem_map.1 q
  exact ⟨p, hp, e⟩
theorem one_fit24 {x : Nat} {p q : Nm} (hp : p ∈ allL) (hq : q ∈ allL) (h1 : fitsL p.1 x = true) (h2 : fitsL q.1 x = true) : p.1 = q.1 := by
  obtain ⟨j, hj⟩ := List.mem_iff_getElem?.1 hp
  obtain ⟨k, hk⟩ := List.mem_iff_getElem?.1 hq
  have e := one24 hj hk h1 h2
  subst e
  rw [hj] at hk
  cases hk
  rfl
theorem res_rb {fn : Func} {z y : Tmp} (h : fn.results = #[.cell z 45, .tmp y]) {tmps : Array Value} {w : World} {b : Nat} {r : Rw} {v : Bool} {T : TypeId} (hz : tmps.getD z undef = .pointer (some ⟨b, 0, none⟩)) (hy : tmps.getD y undef = .bool v)
    (hr : w.heap[b]? = some (.cells (rwC r) T)) : (results fn tmps).run Tryd.prog w = .ok (.tuple #[.agg (rwC r), .bool v]) w := by
  have q := rwC_lv hr
  have hz2 : tmps[z]?.getD undef = .pointer (some ⟨b, 0, none⟩) := by rw [← Array.getD_eq_getD_getElem?]; exact hz
  have hy2 : tmps[y]?.getD undef = .bool v := by rw [← Array.getD_eq_getD_getElem?]; exact hy
  simp [results, h, hz2, hy2, asAddr, q, Result.andThen]
theorem fdk_some {x : Nat} {p : Nm} (hp : p ∈ allL) (hf : fitsL p.1 x = true) : ∃ s, fdL x = some (p.1, s) := by
  unfold fdL fstL
  cases z : allL.find? (fun p => fitsL p.1 x) with
  | none => exact absurd hf (by have := List.find?_eq_none.1 z p hp; simpa using this)
  | some q =>
    have hq := List.find?_some z
    have hm := List.mem_of_find?_eq_some z
    obtain ⟨q1, q2⟩ := q
    have e : q1 = p.1 := one_fit24 hm hp hq hf
    exact ⟨q2, by rw [e]⟩
theorem fdk_none {x : Nat} (h : ∀ r ∈ preR 32, fitsL r x = false) : fdL x = none := by
  unfold fdL fstL
  refine List.find?_eq_none.2 (fun p hp => ?_)
  rw [h p.1 (by rw [preR_all]; exact List.mem_map.2 ⟨p, hp, rfl⟩)]
  decide
theorem cut7i {G C : Prop} (h : G → C) (k : G) : C := h k
structure FdK (w : World) (r : Rw) (V : World) : Prop where
  b : Below w.heap.size w V
  z : V.heap[w.heap.size]? = some (.cells (rwC r) 45)
theorem FdK.below {w : World} {r : Rw} {V V' : World} (h : FdK w r V) (b : Below V.heap.size V V') : FdK w r V' := ⟨h.b.trans (b.mono h.b.size), heap_of b _ _ _ h.z⟩
set_option maxRecDepth 100000 in
set_option maxHeartbeats 8000000 in
theorem t_find (x : Nat) (hx : x < 4294967296) (hE : ∀ args w, (callFunc 48 args).run Tryd.prog w = .ok (.enter 48 args) w) (rr : Rw) (ok : Bool) (hv : (rr, ok) = ((ndO (fdL x)).1, (fdL x).isSome)) (w : World) (hT : T24 w) : Calls Tryd.prog 29 #[.int .u32 (x : Nat)] w fun r w' => r = .returned (.tuple #[.agg (rwC rr), .bool ok]) ∧ Below w.heap.size w w' := by
  have FF := box hT
  have HV := box hv
  have HX := box hx
  clear hv
  have B0 := bal w (.cells #[.int .u8 0, .int .u8 0, .int .u8 0, .int .u8 0, .int .u32 0, .int .u32 0, .int .u8 0] 45)
  have R0 := last7 w (.cells #[.int .u8 0, .int .u8 0, .int .u8 0, .int .u8 0, .int .u32 0, .int .u32 0, .int .u8 0] 45)
  have I0 : FdK w rwZ (w.alloc (.cells #[.int .u8 0, .int .u8 0, .int .u8 0, .int .u8 0, .int .u32 0, .int .u32 0, .int .u8 0] 45)) := ⟨B0, R0⟩
  obtain ⟨_, _, _, b, a, cap, hs, hp⟩ := hT
  have HS : Box (∀ V, Below w.heap.size w V → V.cell? ⟨0, 0, none⟩ = some (.slice (some ⟨b, a, none⟩) 32 cap)) := box (fun V hb => cellB hb hs)
  have HP : Box (∀ V, Below w.heap.size w V → ∀ i, i < 32 → PlAt V b (a + i * 5) (plB (plN i))) := box (fun V hb i hi => let h := hp i hi; ⟨cellB hb h.1, cellB hb h.2.1, cellB hb h.2.2.1, cellB hb h.2.2.2.1, cellB hb h.2.2.2.2⟩)
  have hs0 := HS.out _ B0
  clear hs hp B0 R0
  go_enter Tryd.func29, Tryd.ntmps29
  go_wp2
  go_loopw [8] (fun kv wr => ∃ (k : Nat) (q : Rw), k ≤ 32 ∧ kv = .int .i64 (k : Int) ∧ FdK w q wr ∧ Box (∀ r ∈ preR k, fitsL r x = false)) (fun kv _ => 32 - (intOf kv).toNat)
  case atStart => exact ⟨0, rwZ, by omega, rfl, I0, box (fun r h => by cases h)⟩
  case round =>
    clear I0 hs0
    obtain ⟨k, q, hk, rfl, HI, HN⟩ := hrel
    obtain ⟨wo, rfl⟩ : ∃ wo, wo = wr := ⟨_, rfl⟩
    by_cases hlt : k < 32
    case neg =>
      have ke : k = 32 := by omega
      subst ke
      have hv := HV.out
      rw [fdk_none HN.out] at hv
      obtain ⟨rfl, rfl⟩ := hv
      have hzf := rwz_fold
      have hst := rwC_storeG (r := rwZ) HI.z rfl
      have rz := setRow_row (c' := rwC rwZ) HI.z
      have bz : Below w.heap.size w (wo.setRow w.heap.size (rwC rwZ)) := Below.setRow HI.b (Nat.le_refl _)
      obtain ⟨VZ, hVZ⟩ : ∃ X, wo.setRow w.heap.size (rwC rwZ) = X := ⟨_, rfl⟩
      rw [hVZ] at hst rz bz
      clear hVZ
      go_wp2
      exact bodyPost_ret (v := .tuple #[.agg (rwC rwZ), .bool false]) (res_rb Tryd.results29 rfl rfl rz) rfl ⟨rfl, bz⟩
    have d1 : decide ((k : Int) < 32) = true := decide_eq_true (by omega)
    have d2 : decide ((32 : Int) ≤ (k : Int)) = false := decide_eq_false (by omega)
    have hw1 : IntKind.i64.wrap ((k : Int) + 1) = ((k + 1 : Nat) : Int) := by rw [IntKind.wrap_i64]; omega
    have w8 : (k : Int) % 256 = (k : Int) := by omega
    have w8b : IntKind.u8.wrap (k : Int) = (k : Int) := by rw [IntKind.wrap_u8]; omega
    obtain ⟨P, hP⟩ : ∃ P, plB (plN k) = P := ⟨_, rfl⟩
    have hpl := HP.out wo HI.b k hlt
    have KL := k_leads k x hlt HX.out
    rw [hP] at hpl KL
    obtain ⟨c0, c1, c2, c3, c4⟩ := hpl
    have hfo := plV_fold P
    have hnew := plV_new
    have HIa := HI.below (bal wo (.cells (plV P) 101))
    have RPa := last7 wo (.cells (plV P) 101)
    obtain ⟨p0, p1, p2, p3, p4⟩ := plV_cells RPa
    go_wp2_with fail
    refine (KL.out _ (t24B FF.out HIa.b)).mono ?_
    rintro r w2 ⟨rfl, b2⟩
    have HI2 := HIa.below b2
    have RP2 := heap_of b2 _ _ _ RPa
    obtain ⟨p0', p1', p2', p3', p4'⟩ := plV_cells RP2
    clear p0 p1 p2 p3 p4 c0 c1 c2 c3 c4 b2 HI HIa RPa hnew
    have HNX := box (preR_next k)
    cases hld : leadsP k x
    · go_wp2
      go_roundw
      case rel => exact ⟨k + 1, q, by omega, by first | rfl | (simp; done) | (simp; omega), HI2, box (fun r hr => by
        rw [HNX.out] at hr
        rcases List.mem_append.1 hr with h | h
        · exact HN.out r h
        · cases hf : fitsL r x
          · rfl
          · rw [(fd_row hlt h hf).1] at hld; cases hld)⟩
      case measure => simp [intOf]; omega
    · go_wp2_with fail
      obtain ⟨Y, hY⟩ : ∃ Y, x &&& fxN (plN k).lay = Y := ⟨_, rfl⟩
      have hYl : Y < 4294967296 := by rw [← hY]; exact Nat.lt_of_le_of_lt Nat.and_le_left HX.out
      obtain ⟨Fk, hFk⟩ : ∃ F, fdB (cutF Y) = F := ⟨_, rfl⟩
      have hFo : FdsOk Fk := by rw [← hFk]; refine ⟨?_, ?_, ?_, ?_, ?_⟩ <;> simp only [fdB, cutF] <;> omega
      have KB : Box (∀ W, T24 W → Calls Tryd.prog 42 #[.int .u8 (k : Nat)] W fun r w' => ∃ b, r = .returned (.map (some b)) ∧ MapR w' b (rwsO k) ∧ Below W.heap.size W w' ∧ W.heap.size ≤ b) := box (fun W h => t_byFields k (by omega) hE W h)
      have KU : Box (∀ W, Calls Tryd.prog 40 #[.int .u32 (Y : Nat)] W fun r w' => r = .returned (.agg (fdC Fk)) ∧ Below W.heap.size W w') := box (fun W => t_cut Y hYl Fk hFk W)
      obtain ⟨rk, hrk⟩ : ∃ r, (lastR (rwsO k) Fk).getD rwZ = r := ⟨_, rfl⟩
      obtain ⟨bk, hbk⟩ : ∃ b, (lastR (rwsO k) Fk).isSome = b := ⟨_, rfl⟩
      have hlay : P.lay < 10 := by rw [← hP]; exact (plOk hlt).1
      have hlay2 : P.lay = (plN k).lay := by rw [← hP]; rfl
      have e1 : decide (((P.lay : Nat) : Int) < 10) = true := decide_eq_true (by omega)
      have e2 : decide ((10 : Int) ≤ ((P.lay : Nat) : Int)) = false := decide_eq_false (by omega)
      have hia : ∀ V : World, (Instr.indexAt 105 (.pointer (some ⟨1, 0, none⟩)) (.int .u8 ((P.lay : Nat) : Int))).run Tryd.prog V = .ok (.pointer (some ⟨1, P.lay, none⟩)) V := fun V => by
        rcases (show P.lay = 0 ∨ P.lay = 1 ∨ P.lay = 2 ∨ P.lay = 3 ∨ P.lay = 4 ∨ P.lay = 5 ∨ P.lay = 6 ∨ P.lay = 7 ∨ P.lay = 8 ∨ P.lay = 9 by omega) with h | h | h | h | h | h | h | h | h | h <;> rw [h] <;> kernel_rfl
      have hM : bits .and .u32 (x : Int) ((fxN P.lay : Nat) : Int) = (Y : Nat) := by rw [hlay2, and32t x _ HX.out (fxLt (by omega)), hY]
      have HFx : Box (∀ V2, Below w2.heap.size w2 V2 → (V2.cell? ⟨1, P.lay, none⟩ = some (.int .u32 (fxN P.lay : Nat)) ∧ V2.cell? ⟨wo.heap.size, 4, none⟩ = some (.int .u8 (P.lay : Nat)) ∧ T24 V2) ∧ (storeCells ⟨w.heap.size, 0, none⟩ (rwC rk).toList 0).run Tryd.prog V2 = .ok () (V2.setRow w.heap.size (rwC rk)) ∧ FdK w rk (V2.setRow w.heap.size (rwC rk))) := box (fun V2 b2 => by
        have h2 := HI2.below b2
        have t2 := t24B FF.out h2.b
        obtain ⟨_, _, _, _, q4⟩ := plV_cells (heap_of b2 _ _ _ RP2)
        exact ⟨⟨t2.fx _ hlay, q4, t2⟩, rwC_storeG (r := rk) h2.z rfl, ⟨Below.setRow h2.b (Nat.le_refl _), setRow_row h2.z⟩⟩)
      have HMk : Box (∀ V2 bm, MapR V2 bm (rwsO k) → (Instr.lookup 103 (.map (some bm)) (.agg (fdC Fk)) true).run Tryd.prog V2 = .ok (.tuple #[.agg (rwC rk), .bool bk]) V2) := box (fun V2 bm hm => by rw [hm.look Fk hFo, hrk, hbk])
      obtain ⟨⟨f0, f1, ft⟩, f2, f3⟩ := HFx.out w2 (Below.refl _ _)
      have HLR : Box (∀ r ∈ rwsO k, fitsL r x = true → bk = true ∧ rk = r) := box (fun r hr hf => by
        have q := (fd_row hlt hr hf).2
        rw [hY, hFk] at q
        rw [q] at hrk hbk
        exact ⟨hbk.symm, hrk.symm⟩)
      have HRK : Box (bk = true → rk ∈ rwsO k) := box (fun h => by
        rw [h] at hbk
        obtain ⟨r9, h9⟩ := Option.isSome_iff_exists.1 hbk
        rw [h9] at hrk
        obtain rfl : r9 = rk := hrk
        have := List.mem_of_find?_eq_some h9
        exact List.mem_reverse.1 this)
      clear hY hYl hFk hFo hrk hbk hlay2 hld HI2 RP2 p0' p1' p2' p3' p4' hfo
      apply cut7i
      · intro key
        have bq : Below w2.heap.size w2 w2.drew := (Below.refl _ _).drew
        have ftq : T24 w2.drew := t24B ft bq
        have hrs : (rwC rk).size = 7 := rfl
        go_region_with (first
          | (go_at_call 42; refine (KB.out _ ftq).mono ?_; rintro r wq ⟨bm, rfl, mp, bz, _⟩; have bq := bq.trans (bz.mono bq.size); obtain ⟨⟨f0, f1, ftq⟩, f2, f3⟩ := HFx.out wq bq; have lk := HMk.out wq bm mp)
          | (go_at_call 40; refine (KU.out _).mono ?_; rintro r wq ⟨rfl, bz⟩; have bq := bq.trans (bz.mono bq.size); obtain ⟨⟨f0, f1, ftq⟩, f2, f3⟩ := HFx.out wq bq; (first | (have mp := mp.below bz; have lk := HMk.out wq bm mp) | skip))
          | fail)
        all_goals
          clear f2
          obtain ⟨W9, hW9⟩ : ∃ X, wq.setRow w.heap.size (rwC rk) = X := ⟨_, rfl⟩
          rw [hW9] at f3 ⊢
          clear hW9
          obtain ⟨vm, hvm⟩ : ∃ v, Value.map (some bm) = v := ⟨_, rfl⟩
          rw [hvm]
          clear hvm
          revert W9 vm
          exact key
      · intro W9 f3 vm
        clear f0 f1 ft f2
        obtain ⟨x0, x1, x2, x3, x4, x5, x6⟩ := rwC_cells f3.z
        have hfr := rwC_fold rk
        have no : (bk = true → fitsL rk x = false) → ∀ r ∈ preR (k + 1), fitsL r x = false := fun h r hr => by
          rw [HNX.out] at hr
          rcases List.mem_append.1 hr with h1 | h1
          · exact HN.out r h1
          · cases hf : fitsL r x
            · rfl
            · obtain ⟨g1, g2⟩ := HLR.out r h1 hf
              have := h g1
              rw [g2, hf] at this
              cases this
        have NO := box no
        clear no
        cases hb : bk
        · go_wp2
          go_roundw
          case rel => exact ⟨k + 1, rk, by omega, by first | rfl | (simp; done) | (simp; omega), f3, box (NO.out (fun h => by rw [hb] at h; cases h))⟩
          case measure => simp [intOf]; omega
        · have hmem := HRK.out hb
          obtain ⟨pp, hpp, hpe⟩ := preR_mem (k := k + 1) (by omega) (show rk ∈ preR (k + 1) by rw [HNX.out]; exact List.mem_append_right _ hmem)
          have hok := ok24 hpp
          rw [hpe] at hok
          have KF := k_fits rk hok.2.2.2.2.1 hok.2.2.2.2.2.1 x HX.out
          have HPP := box hpp
          have HPE := box hpe
          clear hmem hpp hpe hok
          go_wp2_with fail
          refine (KF.out _).mono ?_
          rintro r w10 ⟨rfl, b10⟩
          have f10 := f3.below b10
          clear x0 x1 x2 x3 x4 x5 x6
          obtain ⟨x0, x1, x2, x3, x4, x5, x6⟩ := rwC_cells f10.z
          cases hff : fitsL rk x
          · go_wp2
            go_roundw
            case rel => exact ⟨k + 1, rk, by omega, by first | rfl | (simp; done) | (simp; omega), f10, box (NO.out (fun _ => hff))⟩
            case measure => simp [intOf]; omega
          · have hv := HV.out
            obtain ⟨s9, hs9⟩ := fdk_some HPP.out (by rw [HPE.out]; exact hff)
            rw [hs9, HPE.out] at hv
            obtain ⟨rfl, rfl⟩ := hv
            have hst := rwC_storeG (r := rk) f10.z rfl
            have rz := setRow_row (c' := rwC rk) f10.z
            have bz : Below w.heap.size w (w10.setRow w.heap.size (rwC rk)) := Below.setRow f10.b (Nat.le_refl _)
            obtain ⟨VZ, hVZ⟩ : ∃ X, w10.setRow w.heap.size (rwC rk) = X := ⟨_, rfl⟩
            rw [hVZ] at hst rz bz
            clear hVZ
            go_wp2
            exact bodyPost_ret (v := .tuple #[.agg (rwC rk), .bool true]) (res_rb Tryd.results29 rfl rfl rz) rfl ⟨rfl, bz⟩
def bcs (L : List UInt8) : List Value := L.map fun b => Value.int .u8 (b.toNat : Int)
theorem cell_same24 {V V' : World} {g i : Nat} (h : V'.heap[g]? = V.heap[g]?) : V'.cell? ⟨g, i, none⟩ = V.cell? ⟨g, i, none⟩ := by
  simp only [World.cell?, h]
structure NmK (w : World) (q : Rw) (g : Nat) (nm : List UInt8) (v : Value) (L : List UInt8) (V : World) : Prop where
  b : Below w.heap.size w V
  r : V.heap[w.heap.size]? = some (.cells (rwC q) 45)
  c : ∀ i (h : i < nm.length), V.cell? ⟨g, i, none⟩ = some (.int .u8 (nm[i].toNat : Int))
  l : g < V.heap.size
  o : V.ownsRow (g + 1) 5 1 v L.length (bcs L)
theorem NmK.start {w w1 : World} {q : Rw} {nm : List UInt8} {cp : Nat} (B : Below w.heap.size w w1) (R : w1.heap[w.heap.size]? = some (.cells (rwC q) 45)) : NmK w q w1.heap.size nm (.slice none 0 0) [] (w1.drew.alloc (.cells (bytesRow ⟨nm.toArray⟩ cp) 5 ((bytesRow ⟨nm.toArray⟩ cp).size, (bytesRow ⟨nm.toArray⟩ cp).size + 1))) := by
  have hb : Below w1.heap.size w1 (w1.drew.alloc (.cells (bytesRow ⟨nm.toArray⟩ cp) 5 ((bytesRow ⟨nm.toArray⟩ cp).size, (bytesRow ⟨nm.toArray⟩ cp).size + 1))) := ((Below.refl _ w1).drew).alloc (Nat.le_refl _) _
  have hl : (w1.drew.alloc (.cells (bytesRow ⟨nm.toArray⟩ cp) 5 ((bytesRow ⟨nm.toArray⟩ cp).size, (bytesRow ⟨nm.toArray⟩ cp).size + 1))).heap[w1.heap.size]? = some (.cells (bytesRow ⟨nm.toArray⟩ cp) 5 ((bytesRow ⟨nm.toArray⟩ cp).size, (bytesRow ⟨nm.toArray⟩ cp).size + 1)) := heap_alloc_last w1.drew _
  refine ⟨B.trans (hb.mono B.size), heap_of hb _ _ _ R, fun i hi => ?_, (Array.getElem?_eq_some_iff.1 hl).1, World.ownsRow_nil _ _ _ _⟩
  have hx := bytesRow_at ⟨nm.toArray⟩ cp i (by simpa using hi)
  simp only [World.cell?, hl]
  simpa using hx
theorem NmK.below {w : World} {q : Rw} {g : Nat} {nm : List UInt8} {v : Value} {L : List UInt8} {V V' : World} (h : NmK w q g nm v L V) (b : Below V.heap.size V V') : NmK w q g nm v L V' :=
  ⟨h.b.trans (b.mono h.b.size), heap_of b _ _ _ h.r, fun i hi => cellB b (h.c i hi), Nat.lt_of_lt_of_le h.l b.size, own_below24 h.o b⟩
theorem NmK.grown {w : World} {q : Rw} {g : Nat} {nm : List UInt8} {v v' : Value} {L L' : List UInt8} {V V' : World} (h : NmK w q g nm v L V) (hg : w.heap.size < g) (gr : V.grownBy V' v.ownBlock) (o : V'.ownsRow (g + 1) 5 1 v' L'.length (bcs L')) : NmK w q g nm v' L' V' := by
  have hne : ∀ k, k < g + 1 → some k ≠ v.ownBlock := fun k hk e => by have := (h.o.lt k e.symm).1; omega
  refine ⟨h.b.grown gr h.b.size (fun k e => by have := (h.o.lt k e).1; omega), (gr.block _ (Array.getElem?_eq_some_iff.1 h.r).1 (hne _ (by omega))).trans h.r, fun i hi => ?_, Nat.lt_of_lt_of_le h.l gr.size, o⟩
  rw [← h.c i hi]
  exact cell_same24 (gr.block g h.l (hne g (by omega)))
theorem rws_flt : ((List.range 32).all fun o => decide (rwsO o = (allL.map (·.1)).filter (fun r => decide (r.op = o)))) = true := by decide +kernel
structure HhK (w : World) (g : Nat) (nm : List UInt8) (V : World) : Prop where
  b : Below w.heap.size w V
  c : ∀ i (h : i < nm.length), V.cell? ⟨g, i, none⟩ = some (.int .u8 (nm[i].toNat : Int))
theorem HhK.below {w : World} {g : Nat} {nm : List UInt8} {V V' : World} (h : HhK w g nm V) (b : Below V.heap.size V V') : HhK w g nm V' := ⟨h.b.trans (b.mono h.b.size), fun i hi => cellB b (h.c i hi)⟩
theorem HhK.start {w w1 : World} {nm : List UInt8} {cp : Nat} (B : Below w.heap.size w w1) : HhK w w1.heap.size nm (w1.drew.alloc (.cells (bytesRow ⟨nm.toArray⟩ cp) 5 ((bytesRow ⟨nm.toArray⟩ cp).size, (bytesRow ⟨nm.toArray⟩ cp).size + 1))) := by
  have hb : Below w1.heap.size w1 (w1.drew.alloc (.cells (bytesRow ⟨nm.toArray⟩ cp) 5 ((bytesRow ⟨nm.toArray⟩ cp).size, (bytesRow ⟨nm.toArray⟩ cp).size + 1))) := ((Below.refl _ w1).drew).alloc (Nat.le_refl _) _
  have hl : (w1.drew.alloc (.cells (bytesRow ⟨nm.toArray⟩ cp) 5 ((bytesRow ⟨nm.toArray⟩ cp).size, (bytesRow ⟨nm.toArray⟩ cp).size + 1))).heap[w1.heap.size]? = some (.cells (bytesRow ⟨nm.toArray⟩ cp) 5 ((bytesRow ⟨nm.toArray⟩ cp).size, (bytesRow ⟨nm.toArray⟩ cp).size + 1)) := heap_alloc_last w1.drew _
  refine ⟨B.trans (hb.mono B.size), fun i hi => ?_⟩
  have hx := bytesRow_at ⟨nm.toArray⟩ cp i (by simpa using hi)
  simp only [World.cell?, hl]
  simpa using hx
theorem ofP_of (o f g k : Nat) (h1 : 1 ≤ o) (h2 : o < 32) : (ofR24 o f g k).map (·.1) = ofP o f g k := by
  unfold ofR24 ofP fstL
  rw [if_neg (by omega)]
  have e : rwsO o = (allL.map (·.1)).filter (fun r => decide (r.op = o)) := by
    have := List.all_eq_true.1 rws_flt o (List.mem_range.2 h2)
    exact of_decide_eq_true this
  rw [e, List.find?_filter, List.find?_map]
  congr 2
  funext p
  show ofB o f g k p = _
  simp only [Function.comp]
  rw [Bool.eq_iff_iff]
  unfold ofB ofQ
  simp
  omega
theorem k_of (o f g k : Nat) (ho : o < 256) (hE : ∀ args w, (callFunc 48 args).run Tryd.prog w = .ok (.enter 48 args) w) : Box (∀ w, T24 w → Calls Tryd.prog 22 #[.int .u8 (o : Nat), .int .u8 (f : Nat), .int .u8 (g : Nat), .int .u8 (k : Nat)] w fun r w' => r = .returned (.tuple #[.agg (rwC (ndO (ofR24 o f g k)).1), .int .i64 (erF o f g k)]) ∧ Below w.heap.size w w') := box (fun w hT => by
  by_cases h : o = 0 ∨ 32 ≤ o
  · have e1 : ofR24 o f g k = none := by unfold ofR24; rw [if_pos (by omega)]
    have e2 : erF o f g k = 2 := by unfold erF; rw [if_pos (by omega)]
    rw [e1, e2]
    exact t_of_no o f g k ho h w hT
  · have q := ofP_of o f g k (by omega) (by omega)
    refine t_of_go o f g k ho (by omega) (by omega) _ _ ?_ hE w hT
    have e2 : erF o f g k = erO (ofR24 o f g k) := by unfold erF ofR24; rw [if_neg (by omega), if_neg (by omega)]
    rw [e2]
    cases z : ofR24 o f g k with
    | none => rw [z] at q; rw [← q]; rfl
    | some p => rw [z] at q; rw [← q]; rfl)
end Go.Proofs.YtaoccmopfflkmaaDoor
namespace Go.Proofs.YtaoccmopfflkmaaDoor
set_option maxRecDepth 100000
set_option maxHeartbeats 40000000
set_option maxRecDepth 100000
open Go.RowKit WMath
set_option linter.unusedSimpArgs false
set_option linter.unusedVariables false
def fld (w low n : Nat) : Nat := w / 2 ^ low % 2 ^ n
theorem fld_lt (w low n : Nat) : fld w low n < 2 ^ n := Nat.mod_lt _ (Nat.two_pow_pos n)
def sg12 (x : Nat) : Int := if 2048 ≤ x then (x : Int) - 4096 else (x : Int)
structure In where
  op : Nat
  form : Nat
  frm : Nat
  kind : Nat
  rd : Nat
  rs1 : Nat
  rs2 : Nat
  rs3 : Nat
  rm : Nat
  imm : Int
  csr : Nat
deriving DecidableEq
def inC (i : In) : Array Value := #[.int .u8 (i.op : Nat), .int .u8 (i.form : Nat), .int .u8 (i.frm : Nat), .int .u8 (i.kind : Nat), .int .u8 (i.rd : Nat), .int .u8 (i.rs1 : Nat), .int .u8 (i.rs2 : Nat), .int .u8 (i.rs3 : Nat), .int .u8 (i.rm : Nat), .int .i16 i.imm, .int .u8 (i.csr : Nat)]
theorem inC_cells {w : World} {b : Nat} {x : In} {T : TypeId} (h : w.heap[b]? = some (.cells (inC x) T)) : w.cell? ⟨b, 0, none⟩ = some (.int .u8 (x.op : Nat)) ∧ w.cell? ⟨b, 1, none⟩ = some (.int .u8 (x.form : Nat)) ∧ w.cell? ⟨b, 2, none⟩ = some (.int .u8 (x.frm : Nat)) ∧ w.cell? ⟨b, 3, none⟩ = some (.int .u8 (x.kind : Nat)) ∧ w.cell? ⟨b, 4, none⟩ = some (.int .u8 (x.rd : Nat)) ∧ w.cell? ⟨b, 5, none⟩ = some (.int .u8 (x.rs1 : Nat)) ∧ w.cell? ⟨b, 6, none⟩ = some (.int .u8 (x.rs2 : Nat)) ∧ w.cell? ⟨b, 7, none⟩ = some (.int .u8 (x.rs3 : Nat)) ∧ w.cell? ⟨b, 8, none⟩ = some (.int .u8 (x.rm : Nat)) ∧ w.cell? ⟨b, 9, none⟩ = some (.int .i16 x.imm) ∧ w.cell? ⟨b, 10, none⟩ = some (.int .u8 (x.csr : Nat)) :=
  ⟨cell7 h 0 _ rfl, cell7 h 1 _ rfl, cell7 h 2 _ rfl, cell7 h 3 _ rfl, cell7 h 4 _ rfl, cell7 h 5 _ rfl, cell7 h 6 _ rfl, cell7 h 7 _ rfl, cell7 h 8 _ rfl, cell7 h 9 _ rfl, cell7 h 10 _ rfl⟩
theorem inC_fold (x : In) : #[Value.int .u8 (x.op : Nat), .int .u8 (x.form : Nat), .int .u8 (x.frm : Nat), .int .u8 (x.kind : Nat), .int .u8 (x.rd : Nat), .int .u8 (x.rs1 : Nat), .int .u8 (x.rs2 : Nat), .int .u8 (x.rs3 : Nat), .int .u8 (x.rm : Nat), .int .i16 x.imm, .int .u8 (x.csr : Nat)] = inC x := rfl
theorem inC_store {w : World} {b : Nat} {x : In} {c : Array Value} {T : TypeId} (h : w.heap[b]? = some (.cells c T)) (hc : c.size = 11) : (storeCells ⟨b, 0, none⟩ (inC x).toList 0).run Tryd.prog w = .ok () (w.setRow b (inC x)) := by
  have := run_storeCells_from (P := Tryd.prog) b T (inC x).toList 0 c w h (by simp [inC, hc]) (fun v hv => by
    simp [inC] at hv
    rcases hv with rfl | rfl | rfl | rfl | rfl | rfl | rfl | rfl | rfl | rfl | rfl <;> rfl)
  have e : List.drop 11 c.toList = [] := List.drop_eq_nil_of_le (by rw [Array.length_toList, hc]; exact Nat.le_refl _)
  simpa [inC, e] using this
theorem in_lv {w : World} {b : Nat} {x : In} {T : TypeId} (h : w.heap[b]? = some (.cells (inC x) T)) : (loadVar 27 ⟨b, 0, none⟩).run Tryd.prog w = .ok (.agg (inC x)) w := by
  have ha : (isAgg 27).run Tryd.prog w = .ok true w := by kernel_rfl
  have hs : (sizeOf 27).run Tryd.prog w = .ok 11 w := by kernel_rfl
  have q := run_loadCells_list (P := Tryd.prog) w ⟨b, 0, none⟩ (inC x).toList (fun j v hv => by
    have hadd : (⟨b, 0, none⟩ : Addr).add j = ⟨b, j, none⟩ := by unfold Addr.add; split <;> simp_all
    rw [hadd]
    exact cell7 h j v (by simpa using hv))
  rw [Array.length_toList, show (inC x).size = 11 from rfl] at q
  simp only [Sem.run_bind, Sem.run_pure, Result.andThen, loadVar, ha, hs, if_true, q]
theorem res_inC {fn : Func} {z t : Tmp} (h : fn.results = #[.cell z 27, .tmp t]) {tmps : Array Value} {w : World} {b : Nat} {x : In} {T : TypeId} (hz : tmps.getD z undef = .pointer (some ⟨b, 0, none⟩)) (hr : w.heap[b]? = some (.cells (inC x) T)) : (results fn tmps).run Tryd.prog w = .ok (.tuple #[.agg (inC x), tmps.getD t undef]) w := by
  have q := in_lv hr
  have hz2 : tmps[z]?.getD undef = .pointer (some ⟨b, 0, none⟩) := by rw [← Array.getD_eq_getD_getElem?]; exact hz
  simp [results, h, hz2, asAddr, q, Result.andThen]
theorem inC_new (w : World) (b : Nat) (x : In) (hb : b = w.heap.size) : (storeCells ⟨b, 0, none⟩ (inC x).toList 0).run Tryd.prog (w.alloc (.cells #[.int .u8 0, .int .u8 0, .int .u8 0, .int .u8 0, .int .u8 0, .int .u8 0, .int .u8 0, .int .u8 0, .int .u8 0, .int .i16 0, .int .u8 0] 27)) = .ok () (w.alloc (.cells (inC x) 27)) := by
  subst hb
  exact run_storeCells_new (P := Tryd.prog) w 27 #[.int .u8 0, .int .u8 0, .int .u8 0, .int .u8 0, .int .u8 0, .int .u8 0, .int .u8 0, .int .u8 0, .int .u8 0, .int .i16 0, .int .u8 0] (inC x) (by kernel_rfl) rfl (by simp [inC]; exact ⟨rfl, rfl, rfl, rfl, rfl, rfl, rfl, rfl, rfl, rfl, rfl⟩)
def inZ : In := ⟨0, 0, 0, 0, 0, 0, 0, 0, 0, 0, 0⟩
def dcI (r : Rw) (w : Nat) : In := ⟨r.op, r.form, r.frm, r.kind, if r.lay = 2 then 0 else fld w 7 5, fld w 15 5, if r.lay = 2 ∨ r.lay = 3 ∨ r.lay = 4 ∨ r.lay = 5 then fld w 20 5 else 0, if r.lay = 3 then fld w 27 5 else 0, if r.lay = 3 ∨ r.lay = 4 ∨ r.lay = 6 then fld w 12 3 else 0, if r.lay = 1 then sg12 (fld w 20 12) else if r.lay = 2 then sg12 (32 * fld w 25 7 + fld w 7 5) else 0, if r.lay = 8 ∨ r.lay = 9 then fld w 20 12 % 256 else 0⟩
def dcR (w : Nat) : In × Int := match fdL w with | some p => (dcI p.1 w, 0) | none => (inZ, 250)
theorem in_fold0 (a b c d : Nat) : #[Value.int .u8 (a : Nat), .int .u8 (b : Nat), .int .u8 (c : Nat), .int .u8 (d : Nat), .int .u8 0, .int .u8 0, .int .u8 0, .int .u8 0, .int .u8 0, .int .i16 0, .int .u8 0] = inC ⟨a, b, c, d, 0, 0, 0, 0, 0, 0, 0⟩ := rfl
theorem rw_at0 (r : Rw) (h : 0 < (rwC r).size) : (rwC r)[0] = .int .u8 (r.op : Nat) := rfl
theorem rw_at1 (r : Rw) (h : 1 < (rwC r).size) : (rwC r)[1] = .int .u8 (r.form : Nat) := rfl
theorem rw_at2 (r : Rw) (h : 2 < (rwC r).size) : (rwC r)[2] = .int .u8 (r.frm : Nat) := rfl
theorem rw_at3 (r : Rw) (h : 3 < (rwC r).size) : (rwC r)[3] = .int .u8 (r.kind : Nat) := rfl
theorem rw_at4 (r : Rw) (h : 4 < (rwC r).size) : (rwC r)[4] = .int .u32 (r.mask : Nat) := rfl
theorem rw_at5 (r : Rw) (h : 5 < (rwC r).size) : (rwC r)[5] = .int .u32 (r.mtch : Nat) := rfl
theorem rw_at6 (r : Rw) (h : 6 < (rwC r).size) : (rwC r)[6] = .int .u8 (r.lay : Nat) := rfl
theorem in_zero : #[Value.int .u8 0, .int .u8 0, .int .u8 0, .int .u8 0, .int .u8 0, .int .u8 0, .int .u8 0, .int .u8 0, .int .u8 0, .int .i16 0, .int .u8 0] = inC inZ := rfl
theorem layL : allL.all (fun p => decide (1 ≤ p.1.lay ∧ p.1.lay ≤ 9 ∧ 1 ≤ p.1.op ∧ p.1.op ≤ 31 ∧ p.1.form < 4 ∧ p.1.frm < 4 ∧ p.1.kind < 4)) = true := by decide +kernel
theorem lay24 {p : Nm} (hp : p ∈ allL) : 1 ≤ p.1.lay ∧ p.1.lay ≤ 9 ∧ 1 ≤ p.1.op ∧ p.1.op ≤ 31 ∧ p.1.form < 4 ∧ p.1.frm < 4 ∧ p.1.kind < 4 := by
  have := List.all_eq_true.1 layL p hp
  simpa only [decide_eq_true_iff] using this
theorem fd_mem {x : Nat} {p : Nm} (h : fdL x = some p) : p ∈ allL ∧ fitsL p.1 x = true := by
  unfold fdL fstL at h
  exact ⟨List.mem_of_find?_eq_some h, by simpa using List.find?_some h⟩
structure Hs where
  rd : Bool
  rs2 : Bool
  rs3 : Bool
  rm : Bool
  imm : Bool
  csr : Bool
deriving DecidableEq
def hsL (l : Nat) : Hs := if l = 1 then ⟨true, false, false, false, true, false⟩ else if l = 2 then ⟨false, true, false, false, true, false⟩ else if l = 3 then ⟨true, true, true, true, false, false⟩ else if l = 4 then ⟨true, true, false, true, false, false⟩ else if l = 5 then ⟨true, true, false, false, false, false⟩ else if l = 6 then ⟨true, false, false, true, false, false⟩ else if l = 8 then ⟨true, false, false, false, false, true⟩ else if l = 9 then ⟨true, false, false, false, false, true⟩ else ⟨true, false, false, false, false, false⟩
def mkL (l : Nat) : Nat := if l = 1 then 4294938496 else if l = 2 then 4294938496 else if l = 3 then 4194303872 else if l = 4 then 33554304 else if l = 5 then 33525632 else if l = 6 then 1048448 else if l = 7 then 1019776 else if l = 8 then 4294938496 else 4294938496
def inCE (r q : In) : Bool := (((r.op : Nat) : Int) == ((q.op : Nat) : Int)) && (((r.form : Nat) : Int) == ((q.form : Nat) : Int)) && (((r.frm : Nat) : Int) == ((q.frm : Nat) : Int)) && (((r.kind : Nat) : Int) == ((q.kind : Nat) : Int)) && (((r.rd : Nat) : Int) == ((q.rd : Nat) : Int)) && (((r.rs1 : Nat) : Int) == ((q.rs1 : Nat) : Int)) && (((r.rs2 : Nat) : Int) == ((q.rs2 : Nat) : Int)) && (((r.rs3 : Nat) : Int) == ((q.rs3 : Nat) : Int)) && (((r.rm : Nat) : Int) == ((q.rm : Nat) : Int)) && (r.imm == q.imm) && (((r.csr : Nat) : Int) == ((q.csr : Nat) : Int))
theorem inCE_is (r q : In) : inCE r q = decide (r = q) := by
  unfold inCE
  rw [Bool.eq_iff_iff, decide_eq_true_iff]
  simp only [Bool.and_eq_true, beq_iff_eq]
  constructor
  · intro h
    cases r; cases q
    simp only at h
    simp only [In.mk.injEq]
    omega
  · rintro rfl
    simp
set_option maxRecDepth 100000 in
theorem eqin (r q : In) (w : World) : (Op.equalIn 10000 27 (.agg (inC r)) (.agg (inC q))).run Tryd.prog w = .ok (inCE r q) w := by
  have q0 : ∀ (r : In), (part 22 (inC r) 0).run Tryd.prog w = .ok (.int .u8 ((r.op : Nat) : Int)) w := fun r => by kernel_rfl
  have i0 : (Op.equalIn 9999 22 (.int .u8 ((r.op : Nat) : Int)) (.int .u8 ((q.op : Nat) : Int))).run Tryd.prog w = .ok (((r.op : Nat) : Int) == ((q.op : Nat) : Int)) w := run_equalIn_int w 9998 22 .u8 .u8 _ _ Tryd.underlying22
  have n0 : ("Op" = "_") = False := by simp
  have q1 : ∀ (r : In), (part 23 (inC r) 1).run Tryd.prog w = .ok (.int .u8 ((r.form : Nat) : Int)) w := fun r => by kernel_rfl
  have i1 : (Op.equalIn 9999 23 (.int .u8 ((r.form : Nat) : Int)) (.int .u8 ((q.form : Nat) : Int))).run Tryd.prog w = .ok (((r.form : Nat) : Int) == ((q.form : Nat) : Int)) w := run_equalIn_int w 9998 23 .u8 .u8 _ _ Tryd.underlying23
  have n1 : ("Form" = "_") = False := by simp
  have q2 : ∀ (r : In), (part 23 (inC r) 2).run Tryd.prog w = .ok (.int .u8 ((r.frm : Nat) : Int)) w := fun r => by kernel_rfl
  have i2 : (Op.equalIn 9999 23 (.int .u8 ((r.frm : Nat) : Int)) (.int .u8 ((q.frm : Nat) : Int))).run Tryd.prog w = .ok (((r.frm : Nat) : Int) == ((q.frm : Nat) : Int)) w := run_equalIn_int w 9998 23 .u8 .u8 _ _ Tryd.underlying23
  have n2 : ("From" = "_") = False := by simp
  have q3 : ∀ (r : In), (part 24 (inC r) 3).run Tryd.prog w = .ok (.int .u8 ((r.kind : Nat) : Int)) w := fun r => by kernel_rfl
  have i3 : (Op.equalIn 9999 24 (.int .u8 ((r.kind : Nat) : Int)) (.int .u8 ((q.kind : Nat) : Int))).run Tryd.prog w = .ok (((r.kind : Nat) : Int) == ((q.kind : Nat) : Int)) w := run_equalIn_int w 9998 24 .u8 .u8 _ _ Tryd.underlying24
  have n3 : ("Kind" = "_") = False := by simp
  have q4 : ∀ (r : In), (part 5 (inC r) 4).run Tryd.prog w = .ok (.int .u8 ((r.rd : Nat) : Int)) w := fun r => by kernel_rfl
  have i4 : (Op.equalIn 9999 5 (.int .u8 ((r.rd : Nat) : Int)) (.int .u8 ((q.rd : Nat) : Int))).run Tryd.prog w = .ok (((r.rd : Nat) : Int) == ((q.rd : Nat) : Int)) w := run_equalIn_int w 9998 5 .u8 .u8 _ _ Tryd.underlying5
  have n4 : ("Rd" = "_") = False := by simp
  have q5 : ∀ (r : In), (part 5 (inC r) 5).run Tryd.prog w = .ok (.int .u8 ((r.rs1 : Nat) : Int)) w := fun r => by kernel_rfl
  have i5 : (Op.equalIn 9999 5 (.int .u8 ((r.rs1 : Nat) : Int)) (.int .u8 ((q.rs1 : Nat) : Int))).run Tryd.prog w = .ok (((r.rs1 : Nat) : Int) == ((q.rs1 : Nat) : Int)) w := run_equalIn_int w 9998 5 .u8 .u8 _ _ Tryd.underlying5
  have n5 : ("Rs1" = "_") = False := by simp
  have q6 : ∀ (r : In), (part 5 (inC r) 6).run Tryd.prog w = .ok (.int .u8 ((r.rs2 : Nat) : Int)) w := fun r => by kernel_rfl
  have i6 : (Op.equalIn 9999 5 (.int .u8 ((r.rs2 : Nat) : Int)) (.int .u8 ((q.rs2 : Nat) : Int))).run Tryd.prog w = .ok (((r.rs2 : Nat) : Int) == ((q.rs2 : Nat) : Int)) w := run_equalIn_int w 9998 5 .u8 .u8 _ _ Tryd.underlying5
  have n6 : ("Rs2" = "_") = False := by simp
  have q7 : ∀ (r : In), (part 5 (inC r) 7).run Tryd.prog w = .ok (.int .u8 ((r.rs3 : Nat) : Int)) w := fun r => by kernel_rfl
  have i7 : (Op.equalIn 9999 5 (.int .u8 ((r.rs3 : Nat) : Int)) (.int .u8 ((q.rs3 : Nat) : Int))).run Tryd.prog w = .ok (((r.rs3 : Nat) : Int) == ((q.rs3 : Nat) : Int)) w := run_equalIn_int w 9998 5 .u8 .u8 _ _ Tryd.underlying5
  have n7 : ("Rs3" = "_") = False := by simp
  have q8 : ∀ (r : In), (part 5 (inC r) 8).run Tryd.prog w = .ok (.int .u8 ((r.rm : Nat) : Int)) w := fun r => by kernel_rfl
  have i8 : (Op.equalIn 9999 5 (.int .u8 ((r.rm : Nat) : Int)) (.int .u8 ((q.rm : Nat) : Int))).run Tryd.prog w = .ok (((r.rm : Nat) : Int) == ((q.rm : Nat) : Int)) w := run_equalIn_int w 9998 5 .u8 .u8 _ _ Tryd.underlying5
  have n8 : ("Rm" = "_") = False := by simp
  have q9 : ∀ (r : In), (part 25 (inC r) 9).run Tryd.prog w = .ok (.int .i16 r.imm) w := fun r => by kernel_rfl
  have i9 : (Op.equalIn 9999 25 (.int .i16 r.imm) (.int .i16 q.imm)).run Tryd.prog w = .ok (r.imm == q.imm) w := run_equalIn_int w 9998 25 .i16 .i16 _ _ Tryd.underlying25
  have n9 : ("Imm" = "_") = False := by simp
  have q10 : ∀ (r : In), (part 5 (inC r) 10).run Tryd.prog w = .ok (.int .u8 ((r.csr : Nat) : Int)) w := fun r => by kernel_rfl
  have i10 : (Op.equalIn 9999 5 (.int .u8 ((r.csr : Nat) : Int)) (.int .u8 ((q.csr : Nat) : Int))).run Tryd.prog w = .ok (((r.csr : Nat) : Int) == ((q.csr : Nat) : Int)) w := run_equalIn_int w 9998 5 .u8 .u8 _ _ Tryd.underlying5
  have n10 : ("Csr" = "_") = False := by simp
  have st : Tryd.prog.stoodInHeld 27 = false := by kernel_rfl
  rw [show (10000 : Nat) = 9999 + 1 from rfl]
  unfold Op.equalIn
  simp only [Sem.run_bind, run_underlying Tryd.underlying27, Result.andThen_ok]
  rw [show (Sem.run Tryd.prog program w) = .ok Tryd.prog w from rfl]
  simp only [Result.andThen_ok, st, Bool.false_eq_true, if_false]
  have fo : ∀ (l : List Field) (b : Field → (Option Bool × Unit) → Sem (ForInStep (Option Bool × Unit))), (forIn l.toArray (none, ()) b : Sem (Option Bool × Unit)) = forIn l (none, ()) b := fun l b => by simp
  simp only [fo, List.forIn_cons, List.forIn_nil, ne_eq, n0, n1, n2, n3, n4, n5, n6, n7, n8, n9, n10, not_false_eq_true, if_true]
  unfold inCE
  obtain ⟨b0, h0⟩ : ∃ x, (((r.op : Nat) : Int) == ((q.op : Nat) : Int)) = x := ⟨_, rfl⟩
  rw [h0] at i0
  obtain ⟨b1, h1⟩ : ∃ x, (((r.form : Nat) : Int) == ((q.form : Nat) : Int)) = x := ⟨_, rfl⟩
  rw [h1] at i1
  obtain ⟨b2, h2⟩ : ∃ x, (((r.frm : Nat) : Int) == ((q.frm : Nat) : Int)) = x := ⟨_, rfl⟩
  rw [h2] at i2
  obtain ⟨b3, h3⟩ : ∃ x, (((r.kind : Nat) : Int) == ((q.kind : Nat) : Int)) = x := ⟨_, rfl⟩
  rw [h3] at i3
  obtain ⟨b4, h4⟩ : ∃ x, (((r.rd : Nat) : Int) == ((q.rd : Nat) : Int)) = x := ⟨_, rfl⟩
  rw [h4] at i4
  obtain ⟨b5, h5⟩ : ∃ x, (((r.rs1 : Nat) : Int) == ((q.rs1 : Nat) : Int)) = x := ⟨_, rfl⟩
  rw [h5] at i5
  obtain ⟨b6, h6⟩ : ∃ x, (((r.rs2 : Nat) : Int) == ((q.rs2 : Nat) : Int)) = x := ⟨_, rfl⟩
  rw [h6] at i6
  obtain ⟨b7, h7⟩ : ∃ x, (((r.rs3 : Nat) : Int) == ((q.rs3 : Nat) : Int)) = x := ⟨_, rfl⟩
  rw [h7] at i7
  obtain ⟨b8, h8⟩ : ∃ x, (((r.rm : Nat) : Int) == ((q.rm : Nat) : Int)) = x := ⟨_, rfl⟩
  rw [h8] at i8
  obtain ⟨b9, h9⟩ : ∃ x, (r.imm == q.imm) = x := ⟨_, rfl⟩
  rw [h9] at i9
  obtain ⟨b10, h10⟩ : ∃ x, (((r.csr : Nat) : Int) == ((q.csr : Nat) : Int)) = x := ⟨_, rfl⟩
  rw [h10] at i10
  rw [h0, h1, h2, h3, h4, h5, h6, h7, h8, h9, h10]
  cases b0
  · simp only [Sem.run_bind, Sem.run_pure, Result.andThen_ok, Bool.not_false, Bool.not_true, Bool.false_eq_true, if_false, if_true, Bool.false_and, Bool.true_and, q0, i0]
  cases b1
  · simp only [Sem.run_bind, Sem.run_pure, Result.andThen_ok, Bool.not_false, Bool.not_true, Bool.false_eq_true, if_false, if_true, Bool.false_and, Bool.true_and, q0, i0, q1, i1]
  cases b2
  · simp only [Sem.run_bind, Sem.run_pure, Result.andThen_ok, Bool.not_false, Bool.not_true, Bool.false_eq_true, if_false, if_true, Bool.false_and, Bool.true_and, q0, i0, q1, i1, q2, i2]
  cases b3
  · simp only [Sem.run_bind, Sem.run_pure, Result.andThen_ok, Bool.not_false, Bool.not_true, Bool.false_eq_true, if_false, if_true, Bool.false_and, Bool.true_and, q0, i0, q1, i1, q2, i2, q3, i3]
  cases b4
  · simp only [Sem.run_bind, Sem.run_pure, Result.andThen_ok, Bool.not_false, Bool.not_true, Bool.false_eq_true, if_false, if_true, Bool.false_and, Bool.true_and, q0, i0, q1, i1, q2, i2, q3, i3, q4, i4]
  cases b5
  · simp only [Sem.run_bind, Sem.run_pure, Result.andThen_ok, Bool.not_false, Bool.not_true, Bool.false_eq_true, if_false, if_true, Bool.false_and, Bool.true_and, q0, i0, q1, i1, q2, i2, q3, i3, q4, i4, q5, i5]
  cases b6
  · simp only [Sem.run_bind, Sem.run_pure, Result.andThen_ok, Bool.not_false, Bool.not_true, Bool.false_eq_true, if_false, if_true, Bool.false_and, Bool.true_and, q0, i0, q1, i1, q2, i2, q3, i3, q4, i4, q5, i5, q6, i6]
  cases b7
  · simp only [Sem.run_bind, Sem.run_pure, Result.andThen_ok, Bool.not_false, Bool.not_true, Bool.false_eq_true, if_false, if_true, Bool.false_and, Bool.true_and, q0, i0, q1, i1, q2, i2, q3, i3, q4, i4, q5, i5, q6, i6, q7, i7]
  cases b8
  · simp only [Sem.run_bind, Sem.run_pure, Result.andThen_ok, Bool.not_false, Bool.not_true, Bool.false_eq_true, if_false, if_true, Bool.false_and, Bool.true_and, q0, i0, q1, i1, q2, i2, q3, i3, q4, i4, q5, i5, q6, i6, q7, i7, q8, i8]
  cases b9
  · simp only [Sem.run_bind, Sem.run_pure, Result.andThen_ok, Bool.not_false, Bool.not_true, Bool.false_eq_true, if_false, if_true, Bool.false_and, Bool.true_and, q0, i0, q1, i1, q2, i2, q3, i3, q4, i4, q5, i5, q6, i6, q7, i7, q8, i8, q9, i9]
  cases b10
  · simp only [Sem.run_bind, Sem.run_pure, Result.andThen_ok, Bool.not_false, Bool.not_true, Bool.false_eq_true, if_false, if_true, Bool.false_and, Bool.true_and, q0, i0, q1, i1, q2, i2, q3, i3, q4, i4, q5, i5, q6, i6, q7, i7, q8, i8, q9, i9, q10, i10]
  simp only [Sem.run_bind, Sem.run_pure, Result.andThen_ok, Bool.not_false, Bool.not_true, Bool.false_eq_true, if_false, if_true, Bool.false_and, Bool.true_and, q0, i0, q1, i1, q2, i2, q3, i3, q4, i4, q5, i5, q6, i6, q7, i7, q8, i8, q9, i9, q10, i10]
theorem fld_bit {v w lo n k : Nat} (h : fld v lo n = fld w lo n) (h1 : lo ≤ k) (h2 : k < lo + n) : v.testBit k = w.testBit k := by
  have e := congrArg (Nat.testBit · (k - lo)) h
  unfold fld at e
  simp only [Nat.testBit_mod_two_pow, Nat.testBit_div_two_pow] at e
  rw [show k - lo + lo = k by omega] at e
  have d : decide (k - lo < n) = true := decide_eq_true (by omega)
  simpa only [d, Bool.true_and] using e
theorem maskAll : allL.all (fun p => decide (p.1.mask ||| mkL p.1.lay = 4294967295)) = true := by decide +kernel
theorem sg_inj {a b : Nat} (ha : a < 4096) (hb : b < 4096) (h : sg12 a = sg12 b) : a = b := by
  unfold sg12 at h
  split at h <;> split at h <;> omega
theorem same_bits {r : Rw} {v w : Nat} (hv : v < 4294967296) (hw : w < 4294967296) (hm : r.mask ||| mkL r.lay = 4294967295) (f : v &&& r.mask = w &&& r.mask) (g : ∀ k, k < 32 → (mkL r.lay).testBit k = true → v.testBit k = w.testBit k) : v = w := by
  apply Nat.eq_of_testBit_eq
  intro k
  by_cases hk : k < 32
  · have e := congrArg (Nat.testBit · k) hm
    simp only [Nat.testBit_or] at e
    have o : (4294967295 : Nat).testBit k = true := by
      have : (4294967295 : Nat) = 2 ^ 32 - 1 := rfl
      rw [this, Nat.testBit_two_pow_sub_one]
      exact decide_eq_true hk
    rw [o] at e
    cases hmk : r.mask.testBit k
    · rw [hmk, Bool.false_or] at e
      exact g k hk e
    · have e2 := congrArg (Nat.testBit · k) f
      simp only [Nat.testBit_and, hmk, Bool.and_true] at e2
      exact e2
  · have l : 2 ^ 32 ≤ 2 ^ k := Nat.pow_le_pow_right (by decide) (by omega)
    rw [Nat.testBit_lt_two_pow (Nat.lt_of_lt_of_le hv l), Nat.testBit_lt_two_pow (Nat.lt_of_lt_of_le hw l)]
theorem bits1 : ∀ k, k < 32 → (mkL 1).testBit k = true → (7 ≤ k ∧ k < 12) ∨ (15 ≤ k ∧ k < 20) ∨ (20 ≤ k ∧ k < 32) := by decide +kernel
theorem bits2 : ∀ k, k < 32 → (mkL 2).testBit k = true → (7 ≤ k ∧ k < 12) ∨ (15 ≤ k ∧ k < 20) ∨ (20 ≤ k ∧ k < 25) ∨ (25 ≤ k ∧ k < 32) := by decide +kernel
theorem bits3 : ∀ k, k < 32 → (mkL 3).testBit k = true → (7 ≤ k ∧ k < 12) ∨ (12 ≤ k ∧ k < 15) ∨ (15 ≤ k ∧ k < 20) ∨ (20 ≤ k ∧ k < 25) ∨ (27 ≤ k ∧ k < 32) := by decide +kernel
theorem bits4 : ∀ k, k < 32 → (mkL 4).testBit k = true → (7 ≤ k ∧ k < 12) ∨ (12 ≤ k ∧ k < 15) ∨ (15 ≤ k ∧ k < 20) ∨ (20 ≤ k ∧ k < 25) := by decide +kernel
theorem bits5 : ∀ k, k < 32 → (mkL 5).testBit k = true → (7 ≤ k ∧ k < 12) ∨ (15 ≤ k ∧ k < 20) ∨ (20 ≤ k ∧ k < 25) := by decide +kernel
theorem bits6 : ∀ k, k < 32 → (mkL 6).testBit k = true → (7 ≤ k ∧ k < 12) ∨ (12 ≤ k ∧ k < 15) ∨ (15 ≤ k ∧ k < 20) := by decide +kernel
theorem bits7 : ∀ k, k < 32 → (mkL 7).testBit k = true → (7 ≤ k ∧ k < 12) ∨ (15 ≤ k ∧ k < 20) := by decide +kernel
theorem bits8 : ∀ k, k < 32 → (mkL 8).testBit k = true → (7 ≤ k ∧ k < 12) ∨ (15 ≤ k ∧ k < 20) ∨ (20 ≤ k ∧ k < 32) := by decide +kernel
theorem bits9 : ∀ k, k < 32 → (mkL 9).testBit k = true → (7 ≤ k ∧ k < 12) ∨ (15 ≤ k ∧ k < 20) ∨ (20 ≤ k ∧ k < 32) := by decide +kernel
theorem no_bit {v w : Nat} (hv : v < 4294967296) (hw : w < 4294967296) {p q : Nm} (hp : fdL v = some p) (hq : fdL w = some q) (h : dcI p.1 v = dcI q.1 w) : v = w := by
  obtain ⟨mp, fp⟩ := fd_mem hp
  obtain ⟨mq, fq⟩ := fd_mem hq
  unfold dcI at h
  simp only [In.mk.injEq] at h
  obtain ⟨h1, h2, h3, h4, h5, h6, h7, h8, h9, h10, h11⟩ := h
  have epq : p = q := by
    obtain ⟨j, hj⟩ := List.mem_iff_getElem?.1 mp
    obtain ⟨k, hk⟩ := List.mem_iff_getElem?.1 mq
    rcases Nat.lt_trichotomy j k with c | c | c
    · exact absurd ⟨h1, h2, h3, h4⟩ (keys24 hj hk c)
    · subst c; exact Option.some.inj (hj.symm.trans hk)
    · exact absurd ⟨h1.symm, h2.symm, h3.symm, h4.symm⟩ (keys24 hk hj c)
  subst epq
  have hm := List.all_eq_true.1 maskAll p mp
  simp only [decide_eq_true_iff] at hm
  obtain ⟨l1, l9, _⟩ := lay24 mp
  have fm : v &&& p.1.mask = w &&& p.1.mask := (fits_mask fp).trans (fits_mask fq).symm
  refine same_bits hv hw hm fm ?_
  have cs : p.1.lay = 8 ∨ p.1.lay = 9 → fld v 20 12 = fld w 20 12 := by
    intro c
    rw [if_pos c, if_pos c] at h11
    have cr : ∀ x, x < 4294967296 → fitsL p.1 x = true → fld x 20 12 < 4 := by
      intro x hx hf
      have e := fits_parts p.1 x (fits_mask hf)
      rw [hf] at e
      have d : decide (p.1.lay = 8 ∨ p.1.lay = 9) = true := decide_eq_true c
      rw [d] at e
      have cb : crB x = true := by
        cases hc : crB x
        · rw [hc] at e; simp at e
        · rfl
      unfold crB at cb
      have := of_decide_eq_true cb
      unfold fld
      omega
    have a1 := cr v hv fp
    have a2 := cr w hw fq
    omega
  intro k hk hb
  rcases (by omega : p.1.lay = 1 ∨ p.1.lay = 2 ∨ p.1.lay = 3 ∨ p.1.lay = 4 ∨ p.1.lay = 5 ∨ p.1.lay = 6 ∨ p.1.lay = 7 ∨ p.1.lay = 8 ∨ p.1.lay = 9) with c | c | c | c | c | c | c | c | c
  · rw [c] at hb
    simp only [c, reduceCtorEq, if_true, if_false, Nat.reduceEqDiff, or_true, true_or, or_false, false_or] at h5 h6 h7 h8 h9 h10 h11
    have hi := sg_inj (fld_lt v 20 12) (fld_lt w 20 12) h10
    rcases bits1 k hk hb with ⟨a, b⟩ | ⟨a, b⟩ | ⟨a, b⟩
    · exact fld_bit h5 a (by omega)
    · exact fld_bit h6 a (by omega)
    · exact fld_bit hi a (by omega)
  · rw [c] at hb
    simp only [c, reduceCtorEq, if_true, if_false, Nat.reduceEqDiff, or_true, true_or, or_false, false_or] at h5 h6 h7 h8 h9 h10 h11
    have b1 := fld_lt v 7 5
    have b2 := fld_lt w 7 5
    have b3 := fld_lt v 25 7
    have b4 := fld_lt w 25 7
    have hi := sg_inj (by omega) (by omega) h10
    have hl : fld v 7 5 = fld w 7 5 := by omega
    have hh : fld v 25 7 = fld w 25 7 := by omega
    rcases bits2 k hk hb with ⟨a, b⟩ | ⟨a, b⟩ | ⟨a, b⟩ | ⟨a, b⟩
    · exact fld_bit hl a (by omega)
    · exact fld_bit h6 a (by omega)
    · exact fld_bit h7 a (by omega)
    · exact fld_bit hh a (by omega)
  · rw [c] at hb
    simp only [c, reduceCtorEq, if_true, if_false, Nat.reduceEqDiff, or_true, true_or, or_false, false_or] at h5 h6 h7 h8 h9 h10 h11
    rcases bits3 k hk hb with ⟨a, b⟩ | ⟨a, b⟩ | ⟨a, b⟩ | ⟨a, b⟩ | ⟨a, b⟩
    · exact fld_bit h5 a (by omega)
    · exact fld_bit h9 a (by omega)
    · exact fld_bit h6 a (by omega)
    · exact fld_bit h7 a (by omega)
    · exact fld_bit h8 a (by omega)
  · rw [c] at hb
    simp only [c, reduceCtorEq, if_true, if_false, Nat.reduceEqDiff, or_true, true_or, or_false, false_or] at h5 h6 h7 h8 h9 h10 h11
    rcases bits4 k hk hb with ⟨a, b⟩ | ⟨a, b⟩ | ⟨a, b⟩ | ⟨a, b⟩
    · exact fld_bit h5 a (by omega)
    · exact fld_bit h9 a (by omega)
    · exact fld_bit h6 a (by omega)
    · exact fld_bit h7 a (by omega)
  · rw [c] at hb
    simp only [c, reduceCtorEq, if_true, if_false, Nat.reduceEqDiff, or_true, true_or, or_false, false_or] at h5 h6 h7 h8 h9 h10 h11
    rcases bits5 k hk hb with ⟨a, b⟩ | ⟨a, b⟩ | ⟨a, b⟩
    · exact fld_bit h5 a (by omega)
    · exact fld_bit h6 a (by omega)
    · exact fld_bit h7 a (by omega)
  · rw [c] at hb
    simp only [c, reduceCtorEq, if_true, if_false, Nat.reduceEqDiff, or_true, true_or, or_false, false_or] at h5 h6 h7 h8 h9 h10 h11
    rcases bits6 k hk hb with ⟨a, b⟩ | ⟨a, b⟩ | ⟨a, b⟩
    · exact fld_bit h5 a (by omega)
    · exact fld_bit h9 a (by omega)
    · exact fld_bit h6 a (by omega)
  · rw [c] at hb
    simp only [c, reduceCtorEq, if_true, if_false, Nat.reduceEqDiff, or_true, true_or, or_false, false_or] at h5 h6 h7 h8 h9 h10 h11
    rcases bits7 k hk hb with ⟨a, b⟩ | ⟨a, b⟩
    · exact fld_bit h5 a (by omega)
    · exact fld_bit h6 a (by omega)
  · rw [c] at hb
    simp only [c, reduceCtorEq, if_true, if_false, Nat.reduceEqDiff, or_true, true_or, or_false, false_or] at h5 h6 h7 h8 h9 h10 h11
    have hi := cs (by omega)
    rcases bits8 k hk hb with ⟨a, b⟩ | ⟨a, b⟩ | ⟨a, b⟩
    · exact fld_bit h5 a (by omega)
    · exact fld_bit h6 a (by omega)
    · exact fld_bit hi a (by omega)
  · rw [c] at hb
    simp only [c, reduceCtorEq, if_true, if_false, Nat.reduceEqDiff, or_true, true_or, or_false, false_or] at h5 h6 h7 h8 h9 h10 h11
    have hi := cs (by omega)
    rcases bits9 k hk hb with ⟨a, b⟩ | ⟨a, b⟩ | ⟨a, b⟩
    · exact fld_bit h5 a (by omega)
    · exact fld_bit h6 a (by omega)
    · exact fld_bit hi a (by omega)
theorem dcR_some {x : Nat} {p : Nm} (h : fdL x = some p) : dcR x = (dcI p.1 x, 0) := by unfold dcR; rw [h]
theorem dcR_none {x : Nat} (h : fdL x = none) : dcR x = (inZ, 250) := by unfold dcR; rw [h]
theorem sg_bnd {a : Nat} (h : a < 4096) : -2048 ≤ sg12 a ∧ sg12 a ≤ 2047 := by
  unfold sg12
  split <;> omega
theorem in_bnd {x : Nat} (hx : x < 4294967296) {p : Nm} (h : fdL x = some p) : ∃ i, dcI p.1 x = i ∧ 1 ≤ i.op ∧ i.op ≤ 31 ∧ i.form < 4 ∧ i.frm < 4 ∧ i.kind < 4 ∧ i.rd < 32 ∧ i.rs1 < 32 ∧ i.rs2 < 32 ∧ i.rs3 < 32 ∧ i.rm < 8 ∧ i.rm ≠ 5 ∧ i.rm ≠ 6 ∧ -2048 ≤ i.imm ∧ i.imm ≤ 2047 ∧ i.csr ≤ 3 := by
  obtain ⟨hm, hf⟩ := fd_mem h
  obtain ⟨l1, l9, o1, o31, f4, g4, k4⟩ := lay24 hm
  refine ⟨_, rfl, o1, o31, f4, g4, k4, ?_⟩
  unfold fitsL at hf
  simp only [Bool.and_eq_true, Bool.not_eq_true', Bool.or_eq_true, decide_eq_true_eq, Bool.and_eq_false_iff, decide_eq_false_iff_not] at hf
  obtain ⟨⟨_, hr⟩, hc⟩ := hf
  have a1 : fld x 7 5 < 32 := fld_lt x 7 5
  have a2 : fld x 15 5 < 32 := fld_lt x 15 5
  have a3 : fld x 20 5 < 32 := fld_lt x 20 5
  have a4 : fld x 27 5 < 32 := fld_lt x 27 5
  have a5 : fld x 12 3 = x / 4096 % 8 := rfl
  have a6 : fld x 20 12 = x / 1048576 % 4096 := rfl
  have a7 : fld x 25 7 < 128 := fld_lt x 25 7
  have a8 : fld x 20 12 < 4096 := fld_lt x 20 12
  have s1 := sg_bnd a8
  have s2 : -2048 ≤ sg12 (32 * fld x 25 7 + fld x 7 5) ∧ sg12 (32 * fld x 25 7 + fld x 7 5) ≤ 2047 := sg_bnd (by omega)
  unfold dcI
  dsimp only
  refine ⟨?_, a2, ?_, ?_, ?_, ?_, ?_, ?_, ?_, ?_⟩
  · split <;> omega
  · split <;> omega
  · split <;> omega
  · split <;> omega
  · split <;> omega
  · split <;> omega
  · split
    · exact s1.1
    · split
      · exact s2.1
      · decide
  · split
    · exact s1.2
    · split
      · exact s2.2
      · decide
  · split <;> omega
theorem xor32u (a b : Nat) (ha : a < 4294967296) (hb : b < 4294967296) : bits .xor .u32 (a : Int) (b : Int) = ((a ^^^ b : Nat) : Int) ∧ a ^^^ b < 4294967296 := by
  have hx : a ^^^ b < 4294967296 := Nat.xor_lt_two_pow (n := 32) ha hb
  have h1 : (BitVec.ofInt 32 (a : Int)).toNat = a := by
    rw [BitVec.ofInt_natCast, BitVec.toNat_ofNat]; exact Nat.mod_eq_of_lt ha
  have h2 : (BitVec.ofInt 32 (b : Int)).toNat = b := by
    rw [BitVec.ofInt_natCast, BitVec.toNat_ofNat]; exact Nat.mod_eq_of_lt hb
  refine ⟨?_, hx⟩
  show IntKind.u32.wrap ((BitVec.ofInt 32 (a : Int) ^^^ BitVec.ofInt 32 (b : Int)).toNat : Int) = _
  rw [BitVec.toNat_xor, h1, h2, show ∀ y : Int, IntKind.u32.wrap y = y % 4294967296 from fun _ => rfl]
  omega

end Go.Proofs.YtaoccmopfflkmaaDoor
