/-
  What the functions that the statement reaches return: part 2 (BQ, BS, FrameRow, JP, JM, BU, DA).
-/
import Derived.Maps.Own
import Derived.Maps.Views
import Derived.StringKeys
import Derived.ChangeMaps5
import Derived.OpenShut
import Derived.Carry
import Derived.RangeFuncNested
import Derived.RangeFuncBound
import Derived.RangeFuncCalls
import Derived.RangeFuncLeaves
import Derived.RangeFuncFrom
import Derived.Shelf.Abstract
import Derived.Shelf.RegionOpen
import Derived.WalkKit
import Derived.OwnWalkIn
import Derived.TacticsInMore
import Derived.LoopNIn
import Derived.LoopIn
import Derived.LoopN
import Derived.Sort.QuietIn
import Derived.Deep.RegionHeld3
import Derived.Deep.RegionLaw
import Derived.Deep.AppendLies
import Derived.Test.YtfdhglllmhggkaaDoorTa01
namespace Go.Proofs.YtfdhglllmhggkaaDoor
set_option maxRecDepth 100000
set_option maxHeartbeats 40000000
set_option maxRecDepth 100000
open Go.RowKit WMath
set_option linter.unusedSimpArgs false
set_option linter.unusedVariables false
open Go.Maps
theorem nameL : (allL.zipIdx.all fun p => allL.zipIdx.all fun q => decide (q.2 ≤ p.2) || decide (p.1.2 ≠ q.1.2)) = true := by decide +kernel
theorem name24 {j k : Nat} {p q : Nm} (hp : allL[j]? = some p) (hq : allL[k]? = some q) (h : j < k) : p.2 ≠ q.2 := by
  have a := List.all_eq_true.1 nameL (p, j) (List.mem_zipIdx_iff_getElem?.2 hp)
  have b := List.all_eq_true.1 a (q, k) (List.mem_zipIdx_iff_getElem?.2 hq)
  simp only [Bool.or_eq_true, decide_eq_true_eq] at b
  rcases b with b | b
  · omega
  · exact b
def NmsAt (w : World) (b k : Nat) : Prop := ∃ (n : Nat) (D : DataW Unit), n ≤ k ∧ w.ownsMap Tryd.prog 9 (plainElem Tryd.prog 4) b n D ∧ ∀ j p, k ≤ j → allL[j]? = some p → D.atKey (.string p.2) (.lit (.bool false)) = .lit (.bool false)
theorem bool_inv {P : Program} {e : TypeId} (he : P.underlying e = some .bool) {v : Value} {z : DataW Unit × List MemPlace} (h : plainElem P e v = some z) : ∃ x, v = .bool x ∧ z = (.lit (.bool x), []) := by
  unfold plainElem at h
  rw [he] at h
  cases v <;> simp at h
  exact ⟨_, rfl, h.symm⟩
theorem NmsAt.below {w w' : World} {b k : Nat} (h : NmsAt w b k) (hb : Below w.heap.size w w') : NmsAt w' b k := by
  obtain ⟨n, D, hn, ho, hd⟩ := h
  have lt := ho.lt
  obtain ⟨es, clock, h1, h2, h3, h4⟩ := ho
  exact ⟨n, D, hn, ⟨es, clock, (hb.block b lt).trans h1, h2, h3, h4⟩, hd⟩
theorem NmsAt.same {w w' : World} {b k : Nat} (h : NmsAt w b k) (hb : w'.heap[b]? = w.heap[b]?) : NmsAt w' b k := by
  obtain ⟨n, D, hn, ⟨es, clock, h1, h2, h3, h4⟩, hd⟩ := h
  exact ⟨n, D, hn, ⟨es, clock, hb.trans h1, h2, h3, h4⟩, hd⟩
theorem key24 (s : List UInt8) (hs : s.length ≤ 100) : keyOf Tryd.prog 9 (.string ⟨s.toArray⟩) = some (.string s) := by
  have e : (⟨s.toArray⟩ : ByteArray).size ≤ maxLen := by
    show s.toArray.size ≤ maxLen
    rw [List.size_toArray]
    unfold maxLen
    omega
  exact Go.WideMaps.keyOf_string_mk Tryd.underlying9 e
theorem NmsAt.no {w : World} {b k : Nat} (h : NmsAt w b k) {p : Nm} (hp : allL[k]? = some p) (hs : p.2.length ≤ 100) : (Instr.lookup 58 (.map (some b)) (.string ⟨p.2.toArray⟩) false).run Tryd.prog w = .ok (.bool false) w := by
  obtain ⟨n, D, hn, ho, hd⟩ := h
  obtain ⟨v, ps, h1, h2⟩ := ho.lookup (string_keyed Tryd.underlying9) Tryd.underlying58 (show (zeroValue 4).run Tryd.prog w = .ok (.bool false) w by kernel_rfl) (plainElem_bool Tryd.underlying4 false) (key24 p.2 hs)
  obtain ⟨x, rfl, h3⟩ := bool_inv Tryd.underlying4 h2
  rw [hd k p (Nat.le_refl _) hp] at h3
  cases h3
  exact h1
theorem NmsAt.put {w : World} {b k : Nat} (h : NmsAt w b k) (hk : k < 136) {p : Nm} (hp : allL[k]? = some p) (hs : p.2.length ≤ 100) : ∃ w', (Instr.mapUpdate 58 (.map (some b)) (.string ⟨p.2.toArray⟩) (.bool true)).run Tryd.prog w = .ok () w' ∧ NmsAt w' b (k + 1) ∧ w.grownBy w' (some b) := by
  obtain ⟨n, D, hn, ho, hd⟩ := h
  obtain ⟨w', h1, h2, h3⟩ := ho.update (string_keyed Tryd.underlying9) Tryd.underlying58 (show n < maxLen by unfold maxLen; omega) (key24 p.2 hs) (plainElem_bool Tryd.underlying4 true)
  refine ⟨w', h1, ⟨n + 1, _, by omega, h2, fun j q hj hq => ?_⟩, h3⟩
  rw [atKey_put_other (fun e => name24 hp hq (by omega) (by injection e with e; exact e.symm))]
  exact hd j q (by omega) hq
end Go.Proofs.YtfdhglllmhggkaaDoor
namespace Go.Proofs.YtfdhglllmhggkaaDoor
set_option maxRecDepth 100000
set_option maxHeartbeats 40000000
set_option maxRecDepth 100000
open Go.RowKit WMath
set_option linter.unusedSimpArgs false
set_option linter.unusedVariables false
def RwOk (q : Rw) : Prop := q.op < 256 ∧ q.form < 256 ∧ q.frm < 256 ∧ q.kind < 256 ∧ q.mask < 4294967296 ∧ q.mtch < 4294967296 ∧ q.lay < 256
theorem okL : (allL.all fun p => decide (p.1.op < 256 ∧ p.1.form < 256 ∧ p.1.frm < 256 ∧ p.1.kind < 256 ∧ p.1.mask < 4294967296 ∧ p.1.mtch < 4294967296 ∧ p.1.lay < 256)) = true := by decide +kernel
theorem ok24 {p : Nm} (hp : p ∈ allL) : RwOk p.1 := by
  unfold RwOk
  exact of_decide_eq_true (List.all_eq_true.1 okL p hp)
theorem lv1 : (fdL 3211475).isSome = true ∧ (fdL 3231955).isSome = false ∧ (ndO (fdL 3231955)).1 = rwZ ∧ (ndO (nmR24 (ndO (fdL 3211475)).1)).2 = [102, 97, 100, 100, 46, 115] ∧ erO (nmR24 (ndO (fdL 3211475)).1) = 0 := by decide +kernel
theorem lv2 : erO (byR24 ⟨#[102, 99, 118, 116, 46, 100, 46, 119, 117]⟩) = 0 ∧ (ndO (byR24 ⟨#[102, 99, 118, 116, 46, 100, 46, 119, 117]⟩)).1.op = 22 ∧ (ndO (byR24 ⟨#[102, 99, 118, 116, 46, 100, 46, 119, 117]⟩)).1.form = 1 ∧ (ndO (byR24 ⟨#[102, 99, 118, 116, 46, 100, 46, 119, 117]⟩)).1.kind = 1 := by decide +kernel
theorem lv3 : RwOk (ndO (fdL 3211475)).1 := by unfold RwOk; decide +kernel
theorem lives24 {T : World → Prop} (FB : Box (∀ {w w' : World}, T w → Below w.heap.size w w' → T w')) (CF : ∀ x : Nat, x < 4294967296 → Box (∀ w, T w → Calls Tryd.prog 15 #[.int .u32 (x : Nat)] w fun r w' => r = .returned (.tuple #[.agg (rwC (ndO (fdL x)).1), .bool (fdL x).isSome]) ∧ Below w.heap.size w w')) (CN : ∀ q : Rw, RwOk q → Box (∀ w, T w → Calls Tryd.prog 12 #[.agg (rwC q)] w fun r w' => r = .returned (.tuple #[.string ⟨(ndO (nmR24 q)).2.toArray⟩, .int .i64 (erO (nmR24 q))]) ∧ Below w.heap.size w w')) (CD : ∀ s : ByteArray, s.size ≤ maxLen → Box (∀ w, T w → Calls Tryd.prog 13 #[.string s] w fun r w' => r = .returned (.tuple #[.agg (rwC (ndO (byR24 s)).1), .int .i64 (erO (byR24 s))]) ∧ Below w.heap.size w w')) (CL : Box (∀ w, T w → Calls Tryd.prog 11 #[] w fun r w' => r = .returned (.int .i64 136) ∧ Below w.heap.size w w')) (w : World) (hT : T w) : Calls Tryd.prog 14 #[] w fun r w' => r = .returned (.bool true) ∧ Below w.heap.size w w' := by
  obtain ⟨a1, a2, a3, a4, a5⟩ := lv1
  obtain ⟨b1, b2, b3, b4⟩ := lv2
  have F1 := CF 3211475 (by decide)
  have F2 := CF 3231955 (by decide)
  have N1 := CN _ lv3
  have N2 := CD ⟨#[102, 99, 118, 116, 46, 100, 46, 119, 117]⟩ (by decide)
  rw [a1] at F1
  rw [a2, a3] at F2
  rw [a4, a5] at N1
  rw [b1] at N2
  exact tb_lives FB _ _ ⟨b2, b3, b4⟩ F1 F2 N1 N2 CL w hT
theorem fits24 {T : World → Prop} (FB : Box (∀ {w w' : World}, T w → Below w.heap.size w w' → T w')) (CT : ∀ q : Rw, RwOk q → ∀ x : Nat, x < 4294967296 → Box (∀ w, T w → Calls Tryd.prog 17 #[.agg (rwC q), .int .u32 (x : Nat)] w fun r w' => r = .returned (.bool (fitsL q x)) ∧ Below w.heap.size w w')) (CM : ∀ l : Nat, l < 256 → Box (∀ w, T w → Calls Tryd.prog 19 #[.int .u8 (l : Nat)] w fun r w' => r = .returned (.bool (mdL l)) ∧ Below w.heap.size w w')) (KL : Box (∀ w, T w → Calls Tryd.prog 14 #[] w fun r w' => r = .returned (.bool true) ∧ Below w.heap.size w w')) (q : Rw) (hq : RwOk q) (x : Nat) (hx : x < 4294967296) (w : World) (hT : T w) : Calls Tryd.prog 5 #[.agg (rwC q), .int .u32 (x : Nat)] w fun r w' => r = .returned (.bool true) ∧ Below w.heap.size w w' :=
  tb_fits FB q x _ _ (CT q hq x hx) (CM q.lay hq.2.2.2.2.2.2) (box (fun w => b24_fits q x hq.2.2.2.2.1 hq.2.2.2.2.2.1 hx _ rfl w)) (box (fun w => b24_moded q.lay _ rfl w)) KL w hT
theorem backN : (allL.all fun p => decide ((ndO (byR24 ⟨p.2.toArray⟩)).1 = p.1 ∧ erO (byR24 ⟨p.2.toArray⟩) = 0 ∧ p.2.length ≤ 100)) = true := by decide +kernel
theorem by24 {p : Nm} (hp : p ∈ allL) : (ndO (byR24 ⟨p.2.toArray⟩)).1 = p.1 ∧ erO (byR24 ⟨p.2.toArray⟩) = 0 ∧ p.2.length ≤ 100 := of_decide_eq_true (List.all_eq_true.1 backN p hp)
end Go.Proofs.YtfdhglllmhggkaaDoor
namespace Go.Proofs.YtfdhglllmhggkaaDoor
set_option maxRecDepth 100000
set_option maxHeartbeats 40000000
set_option maxRecDepth 100000
open WMath
open Go.ChangeShapes Go.WideShapes Go.ChangeAt Go.RowKit
set_option linter.unusedVariables false
theorem list7r {α : Type} (l : List α) (h : l.length = 7) : ∃ a b c d e f g, l = [a, b, c, d, e, f, g] := by
  match l, h with
  | [a, b, c, d, e, f, g], _ => exact ⟨a, b, c, d, e, f, g, rfl⟩
theorem trod_s7 {H : Type} {enc : TypeId × Value → H} {P : Program} {w : World} {base : Nat} {spare : Nat → Bool} {held : Bool} {t : TypeId} {f0 f1 f2 f3 f4 f5 f6 : Field} {fuel : Nat} {cs : List Value} {x : DataW H × List MemPlace} (ht : P.underlying t = some (.struct #[f0, f1, f2, f3, f4, f5, f6])) (h : DataW.trod enc P w base spare held fuel t cs = some x) :
    ∃ y0 y1 y2 y3 y4 y5 y6 n, x.1 = .agg [y0.1, y1.1, y2.1, y3.1, y4.1, y5.1, y6.1] ∧ cs.length = P.cellsOf t ∧ DataW.trod enc P w base spare held n f0.type ((cs.drop f0.offset).take (P.cellsOf f0.type)) = some y0 ∧
      DataW.trod enc P w base spare held n f1.type ((cs.drop f1.offset).take (P.cellsOf f1.type)) = some y1 ∧ DataW.trod enc P w base spare held n f2.type ((cs.drop f2.offset).take (P.cellsOf f2.type)) = some y2 ∧
      DataW.trod enc P w base spare held n f3.type ((cs.drop f3.offset).take (P.cellsOf f3.type)) = some y3 ∧ DataW.trod enc P w base spare held n f4.type ((cs.drop f4.offset).take (P.cellsOf f4.type)) = some y4 ∧
      DataW.trod enc P w base spare held n f5.type ((cs.drop f5.offset).take (P.cellsOf f5.type)) = some y5 ∧ DataW.trod enc P w base spare held n f6.type ((cs.drop f6.offset).take (P.cellsOf f6.type)) = some y6 := by
  obtain ⟨xs, n, _, rfl, hl, hlen, hf⟩ := DataW.trod_struct ht h
  match xs, hlen with
  | [y0, y1, y2, y3, y4, y5, y6], _ => exact ⟨y0, y1, y2, y3, y4, y5, y6, n, by simp, hl, by simpa using hf 0 f0 rfl, by simpa using hf 1 f1 rfl, by simpa using hf 2 f2 rfl, by simpa using hf 3 f3 rfl, by simpa using hf 4 f4 rfl, by simpa using hf 5 f5 rfl, by simpa using hf 6 f6 rfl⟩
theorem nat_u8r {x : Int} (h : (Lit.int .u8 x).wf = true) : ∃ n : Nat, n < 256 ∧ x = (n : Int) := by
  have hb := bounds_u8 h
  obtain ⟨n, rfl⟩ := Int.eq_ofNat_of_zero_le hb.1
  exact ⟨n, by omega, rfl⟩
theorem nat_u32r {x : Int} (h : (Lit.int .u32 x).wf = true) : ∃ n : Nat, n < 4294967296 ∧ x = (n : Int) := by
  have hb := bounds_u32 h
  obtain ⟨n, rfl⟩ := Int.eq_ofNat_of_zero_le hb.1
  exact ⟨n, by omega, rfl⟩
theorem rd_rw {H : Type} {enc : TypeId × Value → H} {w : World} {base : Nat} {spare : Nat → Bool} {held : Bool} {fuel : Nat} {cs : List Value} {x : DataW H × List MemPlace}
    (h : DataW.trod enc Tryd.prog w base spare held fuel 36 cs = some x) : ∃ r : Rw, RwOk r ∧ cs = (rwC r).toList := by
  have hc : Tryd.prog.cellsOf 36 = 7 := by kernel_rfl
  have h0 : Tryd.prog.cellsOf 30 = 1 := by kernel_rfl
  have h1 : Tryd.prog.cellsOf 31 = 1 := by kernel_rfl
  have h3 : Tryd.prog.cellsOf 32 = 1 := by kernel_rfl
  have h4 : Tryd.prog.cellsOf 33 = 1 := by kernel_rfl
  have h6 : Tryd.prog.cellsOf 34 = 1 := by kernel_rfl
  obtain ⟨y0, y1, y2, y3, y4, y5, y6, n, _, hl, g0, g1, g2, g3, g4, g5, g6⟩ := trod_s7 Tryd.underlying36 h
  rw [hc] at hl
  obtain ⟨c0, c1, c2, c3, c4, c5, c6, rfl⟩ := list7r cs hl
  simp only [h0, h1, h3, h4, h6, List.drop_succ_cons, List.drop_zero, List.take_succ_cons, List.take_zero] at g0 g1 g2 g3 g4 g5 g6
  obtain ⟨x0, e0, _, w0⟩ := DataW.trod_int Tryd.underlying30 g0
  obtain ⟨x1, e1, _, w1⟩ := DataW.trod_int Tryd.underlying31 g1
  obtain ⟨x2, e2, _, w2⟩ := DataW.trod_int Tryd.underlying31 g2
  obtain ⟨x3, e3, _, w3⟩ := DataW.trod_int Tryd.underlying32 g3
  obtain ⟨x4, e4, _, w4⟩ := DataW.trod_int Tryd.underlying33 g4
  obtain ⟨x5, e5, _, w5⟩ := DataW.trod_int Tryd.underlying33 g5
  obtain ⟨x6, e6, _, w6⟩ := DataW.trod_int Tryd.underlying34 g6
  obtain ⟨a0, b0, rfl⟩ := nat_u8r w0
  obtain ⟨a1, b1, rfl⟩ := nat_u8r w1
  obtain ⟨a2, b2, rfl⟩ := nat_u8r w2
  obtain ⟨a3, b3, rfl⟩ := nat_u8r w3
  obtain ⟨a4, b4, rfl⟩ := nat_u32r w4
  obtain ⟨a5, b5, rfl⟩ := nat_u32r w5
  obtain ⟨a6, b6, rfl⟩ := nat_u8r w6
  simp at e0 e1 e2 e3 e4 e5 e6
  subst e0 e1 e2 e3 e4 e5 e6
  exact ⟨⟨a0, a1, a2, a3, a4, a5, a6⟩, ⟨b0, b1, b2, b3, b4, b5, b6⟩, rfl⟩
def RwAt (v : Value) : Prop := ∃ r : Rw, RwOk r ∧ v = .agg (rwC r)
theorem open_rw {H : Type} {enc : TypeId × Value → H} {w : World} {base b : Nat} {spare : Nat → Bool} {held : Bool} {v : Value} {d : DataW H} {p : List MemPlace}
    (hok : Value.okWide Tryd.prog w .any base 36 v) (h : DataW.Trod enc Tryd.prog w b spare held 36 v d p) : RwAt v := by
  obtain ⟨cs, rfl, hsz⟩ := okWide_struct Tryd.underlying36 hok
  obtain ⟨fuel, hf⟩ := h
  obtain ⟨r, hr, e⟩ := rd_rw hf
  refine ⟨r, hr, ?_⟩
  congr 1
  apply Array.toList_inj.1
  simpa [Value.cells] using e
end Go.Proofs.YtfdhglllmhggkaaDoor
namespace Go.Proofs.YtfdhglllmhggkaaDoor
set_option maxRecDepth 100000
set_option maxHeartbeats 40000000
set_option maxRecDepth 100000
open Go.RowKit Go.Shelf WMath
set_option linter.unusedVariables false
set_option linter.unusedSimpArgs false
attribute [local go_sem] Oper.semAt_some

theorem row_grq {W W' : World} {row : Option Nat} {B g : Nat} {o : Obj} (h : W.heap[g]? = some o) (hg : W.grownBy W' row) (hr : ∀ r, row = some r → B ≤ r) (hb : g < B) : W'.heap[g]? = some o := by
  rw [hg.block g (Array.getElem?_eq_some_iff.1 h).1 (fun e => by have := hr g e.symm; omega)]
  exact h
end Go.Proofs.YtfdhglllmhggkaaDoor
namespace Go.Proofs.YtfdhglllmhggkaaDoor
set_option maxRecDepth 100000
set_option maxHeartbeats 40000000
set_option maxRecDepth 100000
open Go.RowKit WMath
set_option linter.unusedVariables false
structure TopK (B : Nat) (W W' : World) : Prop where
  size : W.heap.size ≤ W'.heap.size
  same : ∀ k, B ≤ k → k < W.heap.size → W'.heap[k]? = W.heap[k]?
theorem TopK.refl (B : Nat) (W : World) : TopK B W W := ⟨Nat.le_refl _, fun _ _ _ => rfl⟩
theorem TopK.trans {B : Nat} {X Y Z : World} (h : TopK B X Y) (k : TopK B Y Z) : TopK B X Z :=
  ⟨Nat.le_trans h.size k.size, fun i a b => (k.same i a (Nat.lt_of_lt_of_le b h.size)).trans (h.same i a b)⟩
theorem TopK.mono {B C : Nat} {X Y : World} (h : TopK B X Y) (c : B ≤ C) : TopK C X Y := ⟨h.size, fun i a b => h.same i (Nat.le_trans c a) b⟩
theorem TopK.grown {B : Nat} {W W' : World} {row : Option Nat} (hg : W.grownBy W' row) (hr : ∀ r, row = some r → r < B) : TopK B W W' :=
  ⟨hg.size, fun k a b => hg.block k b (fun e => by have := hr k e.symm; omega)⟩
theorem TopK.setCell {B : Nat} (W : World) (b i : Nat) (v : Value) (h : b < B) : TopK B W (W.setCell ⟨b, i, none⟩ v) := by
  refine ⟨?_, fun k a c => setCell_other (by omega)⟩
  exact ((Below.refl 0 W).setCell (p := ⟨b, i, none⟩) (Nat.zero_le _) v).size
theorem TopK.alloc {B : Nat} (W : World) (o : Obj) : TopK B W (W.alloc o) :=
  ⟨((Below.refl 0 W).alloc (Nat.zero_le _) o).size, fun k a b => Below.heap_alloc W o k b⟩
theorem TopK.putObj {B : Nat} (W : World) (l : Nat) (o : Obj) (h : l < B) : TopK B W (W.putObj l o) := .grown (grownBy_putObj' W l o) (fun r e => by cases e; exact h)
theorem TopK.below {B : Nat} {W W' : World} (h : Below W.heap.size W W') : TopK B W W' := ⟨h.size, fun k a b => h.block k b⟩
theorem TopK.row {B : Nat} {W W' : World} (h : TopK B W W') {k : Nat} {o : Obj} (a : B ≤ k) (hk : W.heap[k]? = some o) : W'.heap[k]? = some o := (h.same k a (Array.getElem?_eq_some_iff.1 hk).1).trans hk
end Go.Proofs.YtfdhglllmhggkaaDoor
namespace Go.Proofs.YtfdhglllmhggkaaDoor
set_option maxRecDepth 100000
set_option maxHeartbeats 40000000
set_option maxRecDepth 100000
open Go.RowKit Go.Shelf WMath
set_option linter.unusedVariables false
set_option linter.unusedSimpArgs false
attribute [local go_sem] Oper.semAt_some

def rwsC (l : List Rw) : List Value := l.flatMap fun r => (rwC r).toList
theorem rwsC_app (l m : List Rw) : rwsC (l ++ m) = rwsC l ++ rwsC m := by simp [rwsC]
theorem rwsC_at (m : List Rw) (k j : Nat) (p : Rw) (h : m[k]? = some p) (hj : j < 7) : (rwsC m)[k * 7 + j]? = (rwC p).toList[j]? := flat_at (fun r => (rwC r).toList) 7 (fun _ => rfl) m k j p h hj
theorem own_setq {w : World} {base : Nat} {e : TypeId} {size n : Nat} {v : Value} {xs : List Value} {g : Nat} {u : Value} (h : w.ownsRow base e size v n xs) (hg : g < base) : (w.setCell ⟨g, 0, none⟩ u).ownsRow base e size v n xs := by
  refine ⟨h.1, ?_⟩
  rcases h.2 with q | ⟨b, cap, cur, h1, h2, h3, h4⟩
  · exact Or.inl q
  · exact Or.inr ⟨b, cap, cur, h1, h2, by rw [setCell_other (by omega)]; exact h3, h4⟩
theorem rw_oneq (r : Rw) : ∀ u ∈ (rwC r).toList, u.oneCell' = true := fun x hx => by
  simp [rwC] at hx
  rcases hx with rfl | rfl | rfl | rfl | rfl | rfl | rfl <;> rfl
end Go.Proofs.YtfdhglllmhggkaaDoor
namespace Go.Proofs.YtfdhglllmhggkaaDoor
set_option maxRecDepth 100000
set_option maxHeartbeats 40000000
set_option maxRecDepth 100000
set_option linter.unusedVariables false
structure Pl where
  nm : List UInt8
  opc : Nat
  rs3 : Nat
  rm : Nat
  lay : Nat
deriving DecidableEq
def plL : List Pl := [
  ⟨[], 0, 0, 0, 0⟩,
  ⟨[102, 108, 77], 7, 0, 0, 1⟩,
  ⟨[102, 115, 77], 39, 0, 0, 2⟩,
  ⟨[102, 109, 97, 100, 100, 46, 70], 67, 0, 0, 3⟩,
  ⟨[102, 109, 115, 117, 98, 46, 70], 71, 0, 0, 3⟩,
  ⟨[102, 110, 109, 115, 117, 98, 46, 70], 75, 0, 0, 3⟩,
  ⟨[102, 110, 109, 97, 100, 100, 46, 70], 79, 0, 0, 3⟩,
  ⟨[102, 97, 100, 100, 46, 70], 83, 0, 0, 4⟩,
  ⟨[102, 115, 117, 98, 46, 70], 83, 1, 0, 4⟩,
  ⟨[102, 109, 117, 108, 46, 70], 83, 2, 0, 4⟩,
  ⟨[102, 100, 105, 118, 46, 70], 83, 3, 0, 4⟩,
  ⟨[102, 115, 113, 114, 116, 46, 70], 83, 11, 0, 6⟩,
  ⟨[102, 115, 103, 110, 106, 46, 70], 83, 4, 0, 5⟩,
  ⟨[102, 115, 103, 110, 106, 110, 46, 70], 83, 4, 1, 5⟩,
  ⟨[102, 115, 103, 110, 106, 120, 46, 70], 83, 4, 2, 5⟩,
  ⟨[102, 109, 105, 110, 46, 70], 83, 5, 0, 5⟩,
  ⟨[102, 109, 97, 120, 46, 70], 83, 5, 1, 5⟩,
  ⟨[102, 99, 118, 116, 46, 70, 46, 71], 83, 8, 0, 6⟩,
  ⟨[102, 101, 113, 46, 70], 83, 20, 2, 5⟩,
  ⟨[102, 108, 116, 46, 70], 83, 20, 1, 5⟩,
  ⟨[102, 108, 101, 46, 70], 83, 20, 0, 5⟩,
  ⟨[102, 99, 118, 116, 46, 75, 46, 70], 83, 24, 0, 6⟩,
  ⟨[102, 99, 118, 116, 46, 70, 46, 75], 83, 26, 0, 6⟩,
  ⟨[102, 109, 118, 46, 120, 46, 77], 83, 28, 0, 7⟩,
  ⟨[102, 99, 108, 97, 115, 115, 46, 70], 83, 28, 1, 7⟩,
  ⟨[102, 109, 118, 46, 77, 46, 120], 83, 30, 0, 7⟩,
  ⟨[99, 115, 114, 114, 119], 115, 0, 1, 8⟩,
  ⟨[99, 115, 114, 114, 115], 115, 0, 2, 8⟩,
  ⟨[99, 115, 114, 114, 99], 115, 0, 3, 8⟩,
  ⟨[99, 115, 114, 114, 119, 105], 115, 0, 5, 9⟩,
  ⟨[99, 115, 114, 114, 115, 105], 115, 0, 6, 9⟩,
  ⟨[99, 115, 114, 114, 99, 105], 115, 0, 7, 9⟩]
def plZ : Pl := ⟨[], 0, 0, 0, 0⟩
def plN (o : Nat) : Pl := plL[o]?.getD plZ
def fxL : List Nat := [0, 28799, 28799, 100663423, 4261412991, 4261441663, 4293918847, 4293947519, 28799, 28799]
def fxN (l : Nat) : Nat := fxL[l]?.getD 0
def wdL : List Nat := [2, 3, 1, 4]
def wdN (f : Nat) : Nat := wdL[f]?.getD 0
structure Fd where
  opc : Nat
  rm : Nat
  rs2 : Nat
  form : Nat
  rs3 : Nat
deriving DecidableEq
def cutF (w : Nat) : Fd := ⟨w % 128, w / 4096 % 8, w / 1048576 % 32, w / 33554432 % 4, w / 134217728 % 32⟩
def wordF (f : Fd) : Nat := (((f.opc ||| f.rm * 4096) ||| f.rs2 * 1048576) ||| f.form * 33554432) ||| f.rs3 * 134217728
def cnQ (o : Nat) : Nat × Nat × Nat :=
  if (plN o).lay = 0 then (0, 0, 0) else if (plN o).lay = 8 ∨ (plN o).lay = 9 then (1, 1, 1) else if o = 23 ∨ o = 25 then (3, 1, 1) else if o = 17 then (4, 4, 1) else if o = 21 ∨ o = 22 then (4, 1, 4) else (4, 1, 1)
def rmP (o f : Nat) : Nat := if (plN o).lay = 1 ∨ (plN o).lay = 2 then wdN f else (plN o).rm
def fdP (o f g k : Nat) : Fd := ⟨(plN o).opc, rmP o f, g ||| k, f, (plN o).rs3⟩
def rwP24 (o f g k : Nat) : Rw := ⟨o, f, g, k, fxN (plN o).lay, wordF (fdP o f g k) &&& fxN (plN o).lay, (plN o).lay⟩
def inP24 (o f g k : Nat) : List Rw := if o = 17 ∧ g = f then [] else [rwP24 o f g k]
def kP24 (o f g k : Nat) : List Rw := (List.range k).flatMap (inP24 o f g)
def gP24 (o f g : Nat) : List Rw := (List.range g).flatMap fun g => kP24 o f g (cnQ o).2.2
def fP24 (o f : Nat) : List Rw := (List.range f).flatMap fun f => gP24 o f (cnQ o).2.1
def rwsO (o : Nat) : List Rw := fP24 o (cnQ o).1
theorem rwsO_all : (List.range 32).flatMap rwsO = allL.map (·.1) := by decide +kernel
theorem rwsO_out {o : Nat} (h : 32 ≤ o) : rwsO o = [] := by
  have e : plN o = plZ := by unfold plN; rw [List.getElem?_eq_none (by show 32 ≤ o; exact h)]; rfl
  simp [rwsO, cnQ, e, plZ, fP24]
theorem fP24_next (o f : Nat) : fP24 o (f + 1) = fP24 o f ++ gP24 o f (cnQ o).2.1 := by simp [fP24, List.range_succ]
theorem gP_next (o f g : Nat) : gP24 o f (g + 1) = gP24 o f g ++ kP24 o f g (cnQ o).2.2 := by simp [gP24, List.range_succ]
theorem kP_next (o f g k : Nat) : kP24 o f g (k + 1) = kP24 o f g k ++ inP24 o f g k := by simp [kP24, List.range_succ]
theorem rws_op : ((List.range 32).all fun o => (rwsO o).all fun r => decide (r.op = o ∧ r.form < 4 ∧ r.frm < 4 ∧ r.kind < 4)) = true := by decide +kernel
theorem cnQ_le : ((List.range 32).all fun o => decide ((cnQ o).1 ≤ 4 ∧ (cnQ o).2.1 ≤ 4 ∧ (cnQ o).2.2 ≤ 4)) = true := by decide +kernel
end Go.Proofs.YtfdhglllmhggkaaDoor
