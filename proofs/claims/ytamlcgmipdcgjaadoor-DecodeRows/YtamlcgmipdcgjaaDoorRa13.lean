/-
  What the functions that the statement reaches return: part 13 (YO, FrameL, ZA).
-/
import Derived.ChangeMaps5
import Derived.OpenShut
import Derived.Carry
import Derived.Laws.AppendOwn
import Derived.RangeFuncNested
import Derived.RangeFuncBound
import Derived.RangeFuncCalls
import Derived.RangeFuncLeaves
import Derived.RangeFuncFrom
import Derived.Shelf.Abstract
import Derived.Shelf.RegionOpen
import Derived.WalkKit
import Derived.OwnWalkIn
import Derived.TacticsInMore
import Derived.LoopNIn
import Derived.LoopIn
import Derived.LoopN
import Derived.Sort.QuietIn
import Derived.Deep.RegionHeld3
import Derived.Test.YtamlcgmipdcgjaaDoorRa12
namespace Go.Proofs.YtamlcgmipdcgjaaDoor
set_option maxRecDepth 100000
set_option maxHeartbeats 40000000
set_option maxRecDepth 100000
open Go.RowKit WMath
set_option linter.unusedSimpArgs false
set_option linter.unusedVariables false
def InOk (x : In) : Prop := x.op < 256 ∧ x.form < 256 ∧ x.frm < 256 ∧ x.kind < 256 ∧ x.rd < 256 ∧ x.rs1 < 256 ∧ x.rs2 < 256 ∧ x.rs3 < 256 ∧ x.rm < 256 ∧ -32768 ≤ x.imm ∧ x.imm < 32768 ∧ x.csr < 256
def lyR (x : In) : Nat × Int := if erF x.op x.form x.frm x.kind = 0 then ((ndO (ofR24 x.op x.form x.frm x.kind)).1.lay, 0) else (0, 2)
def smR (v u : Nat) : Nat × Int := match fdL v, fdL u with
  | some p, some q => if p.1 = q.1 then (mkL p.1.lay, 0) else (0, 2)
  | _, _ => (0, 250)
theorem smR_n1 {v u : Nat} (h : fdL v = none) : smR v u = (0, 250) := by unfold smR; rw [h]
theorem smR_n2 {v u : Nat} {p : Nm} (h : fdL v = some p) (g : fdL u = none) : smR v u = (0, 250) := by unfold smR; rw [h, g]
theorem smR_y {v u : Nat} {p q : Nm} (h : fdL v = some p) (g : fdL u = some q) : smR v u = if p.1 = q.1 then (mkL p.1.lay, 0) else (0, 2) := by unfold smR; rw [h, g]
theorem mkL_lt (l : Nat) : mkL l < 4294967296 := by
  unfold mkL
  repeat (split; · decide)
  decide
theorem and_no {v u m M : Nat} (hv : v < 4294967296) (hu : u < 4294967296) (hM : M < 4294967296) (hm : m ||| M = 4294967295) (f : v &&& m = u &&& m) : bits .andNot .u32 ((v ^^^ u : Nat) : Int) ((M : Nat) : Int) = 0 := by
  have z : BitVec.ofNat 32 (v ^^^ u) &&& ~~~ BitVec.ofNat 32 M = 0#32 := by
    apply BitVec.eq_of_getLsbD_eq
    intro k hk
    simp only [BitVec.getLsbD_and, BitVec.getLsbD_not, BitVec.getLsbD_ofNat, hk, decide_true, Bool.true_and]
    have e := congrArg (Nat.testBit · k) hm
    simp only [Nat.testBit_or] at e
    have o : (4294967295 : Nat).testBit k = true := by
      have : (4294967295 : Nat) = 2 ^ 32 - 1 := rfl
      rw [this, Nat.testBit_two_pow_sub_one]
      exact decide_eq_true hk
    rw [o] at e
    cases hmk : m.testBit k
    · rw [hmk, Bool.false_or] at e
      rw [e]
      simp
    · have e2 := congrArg (Nat.testBit · k) f
      simp only [Nat.testBit_and, hmk, Bool.and_true] at e2
      rw [Nat.testBit_xor, e2]
      simp
  show IntKind.u32.wrap ((BitVec.ofInt 32 ((v ^^^ u : Nat) : Int) &&& ~~~ BitVec.ofInt 32 (M : Int)).toNat : Int) = _
  rw [BitVec.ofInt_natCast, BitVec.ofInt_natCast, z]
  rfl
theorem fd_mask {x : Nat} {p : Nm} (h : fdL x = some p) : x &&& p.1.mask = p.1.mtch &&& p.1.mask := by
  have hf := (fd_mem h).2
  unfold fitsL at hf
  simp only [Bool.and_eq_true, decide_eq_true_eq] at hf
  exact hf.1.1
theorem rows25 {T : World → Prop} (FB : Box (∀ {w w' : World}, T w → Below w.heap.size w w' → T w')) (CY : ∀ x : In, InOk x → Box (∀ w, T w → Calls Tryd.prog 17 #[.agg (inC x)] w fun r w' => r = .returned (.tuple #[.int .u8 ((lyR x).1 : Nat), .int .i64 (lyR x).2]) ∧ Below w.heap.size w w')) (CS : ∀ v u : Nat, v < 4294967296 → u < 4294967296 → Box (∀ w, T w → Calls Tryd.prog 19 #[.int .u32 (v : Nat), .int .u32 (u : Nat)] w fun r w' => r = .returned (.tuple #[.int .u32 ((smR v u).1 : Nat), .int .i64 (smR v u).2]) ∧ Below w.heap.size w w')) (KL : Box (∀ w, T w → Calls Tryd.prog 13 #[] w fun r w' => r = .returned (.bool true) ∧ Below w.heap.size w w')) (x : In) (hi : InOk x) (v u : Nat) (hv : v < 4294967296) (hu : u < 4294967296) (w : World) (hT : T w) : Calls Tryd.prog 6 #[.agg (inC x), .int .u32 (v : Nat), .int .u32 (u : Nat)] w fun r w' => r = .returned (.bool true) ∧ Below w.heap.size w w' := by
  have F1 := CY x hi
  have F2 := CS v u hv hu
  obtain ⟨t, st, ht⟩ : ∃ t st, ndO (ofR24 x.op x.form x.frm x.kind) = (t, st) := ⟨_, _, rfl⟩
  have R1 := box (fun w => rOf24 x.op x.form x.frm x.kind t st _ ht rfl w)
  have R2 : ∀ r sr o, ndO (fdL v) = (r, sr) → (fdL v).isSome = o → _ := fun r sr o a b => box (fun w => rFind24 v hv r sr o a b w)
  have R3 : ∀ r sr o, ndO (fdL u) = (r, sr) → (fdL u).isSome = o → _ := fun r sr o a b => box (fun w => rFind24 u hu r sr o a b w)
  obtain ⟨q, sq, hq⟩ : ∃ q sq, ndO (fdL u) = (q, sq) := ⟨_, _, rfl⟩
  obtain ⟨r, sr, hr⟩ : ∃ r sr, ndO (fdL v) = (r, sr) := ⟨_, _, rfl⟩
  obtain ⟨hx, hxl⟩ := xor32u v u hv hu
  by_cases f0 : erF x.op x.form x.frm x.kind = 0
  · have el : lyR x = (t.lay, 0) := by unfold lyR; rw [if_pos f0, ht]
    rw [el] at F1
    rw [f0] at R1
    cases h : fdL v with
    | none =>
      rw [smR_n1 h] at F2
      exact dc_rows_y0 FB x v u t r q ⟨st.toArray⟩ ⟨sr.toArray⟩ ⟨sq.toArray⟩ F1 R1 _ F2 (R2 r sr false hr (by rw [h]; rfl)) (R3 q sq _ hq rfl) KL w hT
    | some p =>
      have ov : (fdL v).isSome = true := by rw [h]; rfl
      cases g : fdL u with
      | none =>
        rw [smR_n2 h g] at F2
        exact dc_rows_y1 FB x v u t r q ⟨st.toArray⟩ ⟨sr.toArray⟩ ⟨sq.toArray⟩ F1 R1 F2 (R2 r sr true hr ov) (R3 q sq false hq (by rw [g]; rfl)) KL w hT
      | some p2 =>
        have ou : (fdL u).isSome = true := by rw [g]; rfl
        have er : p.1 = r := by rw [h] at hr; exact congrArg Prod.fst hr
        have eq : p2.1 = q := by rw [g] at hq; exact congrArg Prod.fst hq
        rw [smR_y h g, er, eq] at F2
        by_cases e : r = q
        · rw [if_pos e] at F2
          have m1 := fd_mask h
          have m2 := fd_mask g
          have mm : p ∈ allL := (fd_mem h).1
          have ma := of_decide_eq_true (List.all_eq_true.1 maskAll p mm)
          have la := lay24 mm
          rw [er] at m1 ma la
          rw [eq, ← e] at m2
          exact dc_rows_y3 FB x v u t r q ⟨st.toArray⟩ ⟨sr.toArray⟩ ⟨sq.toArray⟩ F1 R1 (by rw [rwE_is]; exact decide_eq_true e) (mkL r.lay) (v ^^^ u) hx (and_no hv hu (mkL_lt _) ma (m1.trans m2.symm)) (box (fun w => rMk25 r.lay la.1 la.2.1 w)) F2 (R2 r sr true hr ov) (R3 q sq true hq ou) KL w hT
        · rw [if_neg e] at F2
          exact dc_rows_y2 FB x v u t r q ⟨st.toArray⟩ ⟨sr.toArray⟩ ⟨sq.toArray⟩ F1 R1 (by rw [rwE_is]; exact decide_eq_false e) F2 (R2 r sr true hr ov) (R3 q sq true hq ou) KL w hT
  · have el : lyR x = (0, 2) := by unfold lyR; rw [if_neg f0]
    rw [el] at F1
    generalize erF x.op x.form x.frm x.kind = f at f0 R1
    have f1 : (f == 0) = false := beq_false_of_ne f0
    have f2 : (f != 0) = true := bne_iff_ne.2 f0
    cases h : fdL v with
    | none =>
      rw [smR_n1 h] at F2
      exact dc_rows_n0 FB x v u t r q ⟨st.toArray⟩ ⟨sr.toArray⟩ ⟨sq.toArray⟩ f f1 f2 F1 R1 _ F2 (R2 r sr false hr (by rw [h]; rfl)) (R3 q sq _ hq rfl) KL w hT
    | some p =>
      have ov : (fdL v).isSome = true := by rw [h]; rfl
      cases g : fdL u with
      | none =>
        rw [smR_n2 h g] at F2
        exact dc_rows_n1 FB x v u t r q ⟨st.toArray⟩ ⟨sr.toArray⟩ ⟨sq.toArray⟩ f f1 f2 F1 R1 F2 (R2 r sr true hr ov) (R3 q sq false hq (by rw [g]; rfl)) KL w hT
      | some p2 =>
        have ou : (fdL u).isSome = true := by rw [g]; rfl
        have er : p.1 = r := by rw [h] at hr; exact congrArg Prod.fst hr
        have eq : p2.1 = q := by rw [g] at hq; exact congrArg Prod.fst hq
        rw [smR_y h g, er, eq] at F2
        by_cases e : r = q
        · rw [if_pos e] at F2
          have m1 := fd_mask h
          have m2 := fd_mask g
          have mm : p ∈ allL := (fd_mem h).1
          have ma := of_decide_eq_true (List.all_eq_true.1 maskAll p mm)
          have la := lay24 mm
          rw [er] at m1 ma la
          rw [eq, ← e] at m2
          exact dc_rows_n3 FB x v u t r q ⟨st.toArray⟩ ⟨sr.toArray⟩ ⟨sq.toArray⟩ f f1 f2 F1 R1 (by rw [rwE_is]; exact decide_eq_true e) (mkL r.lay) (v ^^^ u) hx (and_no hv hu (mkL_lt _) ma (m1.trans m2.symm)) (box (fun w => rMk25 r.lay la.1 la.2.1 w)) F2 (R2 r sr true hr ov) (R3 q sq true hq ou) KL w hT
        · rw [if_neg e] at F2
          exact dc_rows_n2 FB x v u t r q ⟨st.toArray⟩ ⟨sr.toArray⟩ ⟨sq.toArray⟩ f f1 f2 F1 R1 (by rw [rwE_is]; exact decide_eq_false e) F2 (R2 r sr true hr ov) (R3 q sq true hq ou) KL w hT
end Go.Proofs.YtamlcgmipdcgjaaDoor
namespace Go.Proofs.YtamlcgmipdcgjaaDoor
set_option maxRecDepth 100000
set_option maxHeartbeats 40000000
set_option maxRecDepth 100000
open WMath
open Go.ChangeShapes Go.WideShapes Go.ChangeAt Go.RowKit
set_option linter.unusedVariables false
theorem nat_u8l {x : Int} (h : (Lit.int .u8 x).wf = true) : ∃ n : Nat, n < 256 ∧ x = (n : Int) := by
  have hb := bounds_u8 h
  obtain ⟨n, rfl⟩ := Int.eq_ofNat_of_zero_le hb.1
  exact ⟨n, by omega, rfl⟩
theorem list11l {α : Type} (l : List α) (h : l.length = 11) : ∃ c0 c1 c2 c3 c4 c5 c6 c7 c8 c9 c10, l = [c0, c1, c2, c3, c4, c5, c6, c7, c8, c9, c10] := by
  match l, h with
  | [c0, c1, c2, c3, c4, c5, c6, c7, c8, c9, c10], _ => exact ⟨c0, c1, c2, c3, c4, c5, c6, c7, c8, c9, c10, rfl⟩
theorem trod_s11 {H : Type} {enc : TypeId × Value → H} {P : Program} {w : World} {base : Nat} {spare : Nat → Bool} {held : Bool} {t : TypeId} {f0 f1 f2 f3 f4 f5 f6 f7 f8 f9 f10 : Field} {fuel : Nat} {cs : List Value} {x : DataW H × List MemPlace} (ht : P.underlying t = some (.struct #[f0, f1, f2, f3, f4, f5, f6, f7, f8, f9, f10])) (h : DataW.trod enc P w base spare held fuel t cs = some x) :
    ∃ y0 y1 y2 y3 y4 y5 y6 y7 y8 y9 y10 n, cs.length = P.cellsOf t ∧ DataW.trod enc P w base spare held n f0.type ((cs.drop f0.offset).take (P.cellsOf f0.type)) = some y0 ∧ DataW.trod enc P w base spare held n f1.type ((cs.drop f1.offset).take (P.cellsOf f1.type)) = some y1 ∧ DataW.trod enc P w base spare held n f2.type ((cs.drop f2.offset).take (P.cellsOf f2.type)) = some y2 ∧ DataW.trod enc P w base spare held n f3.type ((cs.drop f3.offset).take (P.cellsOf f3.type)) = some y3 ∧ DataW.trod enc P w base spare held n f4.type ((cs.drop f4.offset).take (P.cellsOf f4.type)) = some y4 ∧ DataW.trod enc P w base spare held n f5.type ((cs.drop f5.offset).take (P.cellsOf f5.type)) = some y5 ∧ DataW.trod enc P w base spare held n f6.type ((cs.drop f6.offset).take (P.cellsOf f6.type)) = some y6 ∧ DataW.trod enc P w base spare held n f7.type ((cs.drop f7.offset).take (P.cellsOf f7.type)) = some y7 ∧ DataW.trod enc P w base spare held n f8.type ((cs.drop f8.offset).take (P.cellsOf f8.type)) = some y8 ∧ DataW.trod enc P w base spare held n f9.type ((cs.drop f9.offset).take (P.cellsOf f9.type)) = some y9 ∧ DataW.trod enc P w base spare held n f10.type ((cs.drop f10.offset).take (P.cellsOf f10.type)) = some y10 := by
  obtain ⟨xs, n, _, rfl, hl, hlen, hf⟩ := DataW.trod_struct ht h
  match xs, hlen with
  | [y0, y1, y2, y3, y4, y5, y6, y7, y8, y9, y10], _ => exact ⟨y0, y1, y2, y3, y4, y5, y6, y7, y8, y9, y10, n, hl, by simpa using hf 0 f0 rfl, by simpa using hf 1 f1 rfl, by simpa using hf 2 f2 rfl, by simpa using hf 3 f3 rfl, by simpa using hf 4 f4 rfl, by simpa using hf 5 f5 rfl, by simpa using hf 6 f6 rfl, by simpa using hf 7 f7 rfl, by simpa using hf 8 f8 rfl, by simpa using hf 9 f9 rfl, by simpa using hf 10 f10 rfl⟩
theorem rd_in {H : Type} {enc : TypeId × Value → H} {w : World} {base : Nat} {spare : Nat → Bool} {held : Bool} {fuel : Nat} {cs : List Value} {x : DataW H × List MemPlace}
    (h : DataW.trod enc Tryd.prog w base spare held fuel 28 cs = some x) : ∃ r : In, InOk r ∧ cs = (inC r).toList := by
  have hc : Tryd.prog.cellsOf 28 = 11 := by kernel_rfl
  have hF : Tryd.prog.cellsOf 24 = 1 := by kernel_rfl
  have hK : Tryd.prog.cellsOf 25 = 1 := by kernel_rfl
  have hOp : Tryd.prog.cellsOf 23 = 1 := by kernel_rfl
  have hi16 : Tryd.prog.cellsOf 26 = 1 := by kernel_rfl
  have hu8 : Tryd.prog.cellsOf 5 = 1 := by kernel_rfl
  obtain ⟨y0, y1, y2, y3, y4, y5, y6, y7, y8, y9, y10, n, hl, g0, g1, g2, g3, g4, g5, g6, g7, g8, g9, g10⟩ := trod_s11 Tryd.underlying28 h
  rw [hc] at hl
  obtain ⟨c0, c1, c2, c3, c4, c5, c6, c7, c8, c9, c10, rfl⟩ := list11l cs hl
  simp only [hF, hK, hOp, hi16, hu8, List.drop_succ_cons, List.drop_zero, List.take_succ_cons, List.take_zero] at g0 g1 g2 g3 g4 g5 g6 g7 g8 g9 g10
  obtain ⟨x0, e0, _, w0⟩ := DataW.trod_int Tryd.underlying23 g0
  obtain ⟨x1, e1, _, w1⟩ := DataW.trod_int Tryd.underlying24 g1
  obtain ⟨x2, e2, _, w2⟩ := DataW.trod_int Tryd.underlying24 g2
  obtain ⟨x3, e3, _, w3⟩ := DataW.trod_int Tryd.underlying25 g3
  obtain ⟨x4, e4, _, w4⟩ := DataW.trod_int Tryd.underlying5 g4
  obtain ⟨x5, e5, _, w5⟩ := DataW.trod_int Tryd.underlying5 g5
  obtain ⟨x6, e6, _, w6⟩ := DataW.trod_int Tryd.underlying5 g6
  obtain ⟨x7, e7, _, w7⟩ := DataW.trod_int Tryd.underlying5 g7
  obtain ⟨x8, e8, _, w8⟩ := DataW.trod_int Tryd.underlying5 g8
  obtain ⟨x9, e9, _, w9⟩ := DataW.trod_int Tryd.underlying26 g9
  obtain ⟨x10, e10, _, w10⟩ := DataW.trod_int Tryd.underlying5 g10
  obtain ⟨a0, b0, rfl⟩ := nat_u8l w0
  obtain ⟨a1, b1, rfl⟩ := nat_u8l w1
  obtain ⟨a2, b2, rfl⟩ := nat_u8l w2
  obtain ⟨a3, b3, rfl⟩ := nat_u8l w3
  obtain ⟨a4, b4, rfl⟩ := nat_u8l w4
  obtain ⟨a5, b5, rfl⟩ := nat_u8l w5
  obtain ⟨a6, b6, rfl⟩ := nat_u8l w6
  obtain ⟨a7, b7, rfl⟩ := nat_u8l w7
  obtain ⟨a8, b8, rfl⟩ := nat_u8l w8
  obtain ⟨a10, b10, rfl⟩ := nat_u8l w10
  have b9 := bounds_i16 w9
  simp at e0 e1 e2 e3 e4 e5 e6 e7 e8 e9 e10
  subst e0 e1 e2 e3 e4 e5 e6 e7 e8 e9 e10
  exact ⟨⟨a0, a1, a2, a3, a4, a5, a6, a7, a8, x9, a10⟩, ⟨b0, b1, b2, b3, b4, b5, b6, b7, b8, b9.1, by show x9 < 32768; omega, b10⟩, rfl⟩
def InAt (v : Value) : Prop := ∃ r : In, InOk r ∧ v = .agg (inC r)
theorem open_in {H : Type} {enc : TypeId × Value → H} {w : World} {base b : Nat} {spare : Nat → Bool} {held : Bool} {v : Value} {d : DataW H} {p : List MemPlace}
    (hok : Value.okWide Tryd.prog w .any base 28 v) (h : DataW.Trod enc Tryd.prog w b spare held 28 v d p) : InAt v := by
  obtain ⟨cs, rfl, hsz⟩ := okWide_struct Tryd.underlying28 hok
  obtain ⟨fuel, hf⟩ := h
  obtain ⟨r, hr, e⟩ := rd_in hf
  refine ⟨r, hr, ?_⟩
  congr 1
  apply Array.toList_inj.1
  simpa [Value.cells] using e
end Go.Proofs.YtamlcgmipdcgjaaDoor
namespace Go.Proofs.YtamlcgmipdcgjaaDoor
set_option maxRecDepth 100000
set_option maxHeartbeats 40000000
set_option maxRecDepth 100000
open Go.RowKit WMath
set_option linter.unusedSimpArgs false
set_option linter.unusedVariables false
theorem and_low5 (y : Nat) (hy : y < 4294967296) : bits .and .u32 ((y : Nat) : Int) 31 = ((y % 32 : Nat) : Int) := by
  have q := and32t y 31 hy (by decide)
  rw [Nat.and_two_pow_sub_one_eq_mod y 5] at q
  exact q
theorem and_low3 (y : Nat) (hy : y < 4294967296) : bits .and .u32 ((y : Nat) : Int) 7 = ((y % 8 : Nat) : Int) := by
  have q := and32t y 7 hy (by decide)
  rw [Nat.and_two_pow_sub_one_eq_mod y 3] at q
  exact q
theorem five_is (x n : Nat) (hx : x < 4294967296) (k : Nat) (hn : n = 2 ^ k) (m : Int) (hm : m = (n : Int)) : bits .and .u32 ((x : Int) / m) 31 % 256 = ((fld x k 5 : Nat) : Int) := by
  subst hm
  have e : (x : Int) / (n : Int) = ((x / n : Nat) : Int) := (Int.natCast_ediv x n).symm
  rw [e, and_low5 _ (Nat.lt_of_le_of_lt (Nat.div_le_self _ _) hx), hn]
  unfold fld
  have : x / 2 ^ k % 32 < 32 := Nat.mod_lt _ (by decide)
  show ((x / 2 ^ k % 32 : Nat) : Int) % 256 = ((x / 2 ^ k % 32 : Nat) : Int)
  omega
theorem mode_is (x : Nat) (hx : x < 4294967296) : bits .and .u32 ((x : Int) / 4096) 7 % 256 = ((fld x 12 3 : Nat) : Int) := by
  have e : (x : Int) / 4096 = ((x / 4096 : Nat) : Int) := rfl
  rw [e, and_low3 _ (by omega)]
  unfold fld
  show ((x / 4096 % 8 : Nat) : Int) % 256 = ((x / 4096 % 8 : Nat) : Int)
  omega
def sg7 (h : Nat) : Int := if 64 ≤ h then (h : Int) - 128 else (h : Int)
theorem w32_is (x : Nat) (hx : x < 4294967296) : wrap32 (x : Int) = if 2147483648 ≤ x then (x : Int) - 4294967296 else (x : Int) := by
  unfold wrap32
  split <;> omega
theorem wrapi16 (y : Int) (h : -32768 ≤ y ∧ y < 32768) : IntKind.i16.wrap y = y := by
  simp [IntKind.wrap, IntKind.bits, IntKind.signed]
  omega
theorem sg20_is (x : Nat) (hx : x < 4294967296) : IntKind.i16.wrap (wrap32 (x : Int) / 1048576) = sg12 (fld x 20 12) := by
  have e : fld x 20 12 = x / 1048576 % 4096 := rfl
  rw [w32_is x hx, e]
  unfold sg12
  rw [wrapi16]
  · split <;> split <;> omega
  · split <;> omega
theorem sg25_is (x : Nat) (hx : x < 4294967296) : IntKind.i16.wrap (wrap32 (x : Int) / 33554432) = sg7 (fld x 25 7) := by
  have e : fld x 25 7 = x / 33554432 % 128 := rfl
  rw [w32_is x hx, e]
  unfold sg7
  rw [wrapi16]
  · split <;> split <;> omega
  · split <;> omega
theorem st_all : ((List.range 128).all fun h => (List.range 32).all fun d => decide (bits .or .i16 (IntKind.i16.wrap (sg7 h * 32)) (d : Int) = sg12 (32 * h + d))) = true := by decide +kernel
theorem st_is (h d : Nat) (hh : h < 128) (hd : d < 32) : bits .or .i16 (IntKind.i16.wrap (sg7 h * 32)) (d : Int) = sg12 (32 * h + d) :=
  of_decide_eq_true (List.all_eq_true.1 (List.all_eq_true.1 st_all h (List.mem_range.2 hh)) d (List.mem_range.2 hd))
set_option maxRecDepth 100000 in
set_option maxHeartbeats 8000000 in
theorem t_five7 (x : Nat) (hx : x < 4294967296) (w : World) : Calls Tryd.prog 42 #[.int .u32 (x : Nat), .int .i64 7] w fun r w' => r = .returned (.int .u8 (fld x 7 5 : Nat)) ∧ w' = w := by
  have h := five_is x 128 hx 7 (by decide) 128 rfl
  go_enter Tryd.func42, Tryd.ntmps42
  go_wp2
  rw [h]
  go_ret
  exact ⟨rfl, rfl⟩
set_option maxRecDepth 100000 in
set_option maxHeartbeats 8000000 in
theorem t_five15 (x : Nat) (hx : x < 4294967296) (w : World) : Calls Tryd.prog 42 #[.int .u32 (x : Nat), .int .i64 15] w fun r w' => r = .returned (.int .u8 (fld x 15 5 : Nat)) ∧ w' = w := by
  have h := five_is x 32768 hx 15 (by decide) 32768 rfl
  go_enter Tryd.func42, Tryd.ntmps42
  go_wp2
  rw [h]
  go_ret
  exact ⟨rfl, rfl⟩
set_option maxRecDepth 100000 in
set_option maxHeartbeats 8000000 in
theorem t_five20 (x : Nat) (hx : x < 4294967296) (w : World) : Calls Tryd.prog 42 #[.int .u32 (x : Nat), .int .i64 20] w fun r w' => r = .returned (.int .u8 (fld x 20 5 : Nat)) ∧ w' = w := by
  have h := five_is x 1048576 hx 20 (by decide) 1048576 rfl
  go_enter Tryd.func42, Tryd.ntmps42
  go_wp2
  rw [h]
  go_ret
  exact ⟨rfl, rfl⟩
set_option maxRecDepth 100000 in
set_option maxHeartbeats 8000000 in
theorem t_five27 (x : Nat) (hx : x < 4294967296) (w : World) : Calls Tryd.prog 42 #[.int .u32 (x : Nat), .int .i64 27] w fun r w' => r = .returned (.int .u8 (fld x 27 5 : Nat)) ∧ w' = w := by
  have h := five_is x 134217728 hx 27 (by decide) 134217728 rfl
  go_enter Tryd.func42, Tryd.ntmps42
  go_wp2
  rw [h]
  go_ret
  exact ⟨rfl, rfl⟩
set_option maxRecDepth 100000 in
set_option maxHeartbeats 8000000 in
theorem t_mode (x : Nat) (hx : x < 4294967296) (w : World) : Calls Tryd.prog 46 #[.int .u32 (x : Nat)] w fun r w' => r = .returned (.int .u8 (fld x 12 3 : Nat)) ∧ w' = w := by
  have h := mode_is x hx
  go_enter Tryd.func46, Tryd.ntmps46
  go_wp2
  rw [h]
  go_ret
  exact ⟨rfl, rfl⟩
set_option maxRecDepth 100000 in
set_option maxHeartbeats 8000000 in
theorem t_signed20 (x : Nat) (hx : x < 4294967296) (w : World) : Calls Tryd.prog 43 #[.int .u32 (x : Nat), .int .i64 20] w fun r w' => r = .returned (.int .i16 (sg12 (fld x 20 12))) ∧ w' = w := by
  have h := sg20_is x hx
  go_enter Tryd.func43, Tryd.ntmps43
  go_wp2
  go_ret
  exact ⟨rfl, rfl⟩
set_option maxRecDepth 100000 in
set_option maxHeartbeats 8000000 in
theorem t_signed25 (x : Nat) (hx : x < 4294967296) (w : World) : Calls Tryd.prog 43 #[.int .u32 (x : Nat), .int .i64 25] w fun r w' => r = .returned (.int .i16 (sg7 (fld x 25 7))) ∧ w' = w := by
  have h := sg25_is x hx
  go_enter Tryd.func43, Tryd.ntmps43
  go_wp2
  go_ret
  exact ⟨rfl, rfl⟩
def Rd (b : Nat) (T : TypeId) (j : In) (w : World) (r : Ending) (w' : World) : Prop := (∃ v, r = .returned v) ∧ w'.heap[b]? = some (.cells (inC j) T) ∧ ∀ n, n ≤ b → Below n w w'
set_option maxRecDepth 100000 in
set_option maxHeartbeats 8000000 in
theorem t_rd1 (x : Nat) (hx : x < 4294967296) (i : In) (b : Nat) (T : TypeId) (w : World) (h0 : w.heap[b]? = some (.cells (inC i) T)) : Calls Tryd.prog 41 #[.int .u32 (x : Nat), .pointer (some ⟨b, 0, none⟩)] w (Rd b T ⟨i.op, i.form, i.frm, i.kind, fld x 7 5, fld x 15 5, i.rs2, i.rs3, i.rm, sg12 (fld x 20 12), i.csr⟩ w) := by
  go_enter Tryd.func41, Tryd.ntmps41
  go_wp2_with fail
  refine (t_five7 x hx _).mono ?_
  rintro r w1 ⟨rfl, hw1⟩
  rw [hw1]
  clear hw1 w1
  go_wp2_with fail
  refine (t_five15 x hx _).mono ?_
  rintro r w1 ⟨rfl, hw1⟩
  rw [hw1]
  clear hw1 w1
  have f0 := fz (k := 4) h0
  have c0 := cell7 h0 4 _ rfl
  have h1 : (w.setCell ⟨b, 4, none⟩ (.int .u8 (fld x 7 5 : Nat))).heap[b]? = some (.cells (inC ⟨i.op, i.form, i.frm, i.kind, fld x 7 5, i.rs1, i.rs2, i.rs3, i.rm, i.imm, i.csr⟩) T) := by rw [setCell_row h0]; rfl
  have f1 := fz (k := 5) h1
  have c1 := cell7 h1 5 _ rfl
  have h2 : ((w.setCell ⟨b, 4, none⟩ (.int .u8 (fld x 7 5 : Nat))).setCell ⟨b, 5, none⟩ (.int .u8 (fld x 15 5 : Nat))).heap[b]? = some (.cells (inC ⟨i.op, i.form, i.frm, i.kind, fld x 7 5, fld x 15 5, i.rs2, i.rs3, i.rm, i.imm, i.csr⟩) T) := by rw [setCell_row h1]; rfl
  go_wp2_with fail
  refine (t_signed20 x hx _).mono ?_
  rintro r w1 ⟨rfl, hw1⟩
  rw [hw1]
  clear hw1 w1
  have f2 := fz (k := 9) h2
  have c2 := cell7 h2 9 _ rfl
  have h3 : (((w.setCell ⟨b, 4, none⟩ (.int .u8 (fld x 7 5 : Nat))).setCell ⟨b, 5, none⟩ (.int .u8 (fld x 15 5 : Nat))).setCell ⟨b, 9, none⟩ (.int .i16 (sg12 (fld x 20 12)))).heap[b]? = some (.cells (inC ⟨i.op, i.form, i.frm, i.kind, fld x 7 5, fld x 15 5, i.rs2, i.rs3, i.rm, sg12 (fld x 20 12), i.csr⟩) T) := by rw [setCell_row h2]; rfl
  go_wp2
  first | go_end0 | go_ret
  exact ⟨⟨_, rfl⟩, h3, fun n hn => (((Below.refl _ w).setCell (by exact hn) _).setCell (by exact hn) _).setCell (by exact hn) _⟩
set_option maxRecDepth 100000 in
set_option maxHeartbeats 8000000 in
theorem t_rd2 (x : Nat) (hx : x < 4294967296) (i : In) (b : Nat) (T : TypeId) (w : World) (h0 : w.heap[b]? = some (.cells (inC i) T)) : Calls Tryd.prog 44 #[.int .u32 (x : Nat), .pointer (some ⟨b, 0, none⟩)] w (Rd b T ⟨i.op, i.form, i.frm, i.kind, i.rd, fld x 15 5, fld x 20 5, i.rs3, i.rm, sg12 (32 * fld x 25 7 + fld x 7 5), i.csr⟩ w) := by
  have hst : bits .or .i16 (IntKind.i16.wrap (sg7 (fld x 25 7) * 32)) ((fld x 7 5 : Nat) : Int) = sg12 (32 * fld x 25 7 + fld x 7 5) := st_is _ _ (fld_lt x 25 7) (fld_lt x 7 5)
  have hm7 : IntKind.i16.wrap ((fld x 7 5 : Nat) : Int) = ((fld x 7 5 : Nat) : Int) := by have : fld x 7 5 < 32 := fld_lt x 7 5; exact wrapi16 _ (by omega)
  go_enter Tryd.func44, Tryd.ntmps44
  go_wp2_with fail
  refine (t_five15 x hx _).mono ?_
  rintro r w1 ⟨rfl, hw1⟩
  rw [hw1]
  clear hw1 w1
  go_wp2_with fail
  refine (t_five20 x hx _).mono ?_
  rintro r w1 ⟨rfl, hw1⟩
  rw [hw1]
  clear hw1 w1
  have f0 := fz (k := 5) h0
  have c0 := cell7 h0 5 _ rfl
  have h1 : (w.setCell ⟨b, 5, none⟩ (.int .u8 (fld x 15 5 : Nat))).heap[b]? = some (.cells (inC ⟨i.op, i.form, i.frm, i.kind, i.rd, fld x 15 5, i.rs2, i.rs3, i.rm, i.imm, i.csr⟩) T) := by rw [setCell_row h0]; rfl
  have f1 := fz (k := 6) h1
  have c1 := cell7 h1 6 _ rfl
  have h2 : ((w.setCell ⟨b, 5, none⟩ (.int .u8 (fld x 15 5 : Nat))).setCell ⟨b, 6, none⟩ (.int .u8 (fld x 20 5 : Nat))).heap[b]? = some (.cells (inC ⟨i.op, i.form, i.frm, i.kind, i.rd, fld x 15 5, fld x 20 5, i.rs3, i.rm, i.imm, i.csr⟩) T) := by rw [setCell_row h1]; rfl
  go_wp2_with fail
  refine (t_signed25 x hx _).mono ?_
  rintro r w1 ⟨rfl, hw1⟩
  rw [hw1]
  clear hw1 w1
  go_wp2_with fail
  refine (t_five7 x hx _).mono ?_
  rintro r w1 ⟨rfl, hw1⟩
  rw [hw1]
  clear hw1 w1
  have f2 := fz (k := 9) h2
  have c2 := cell7 h2 9 _ rfl
  have h3 : (((w.setCell ⟨b, 5, none⟩ (.int .u8 (fld x 15 5 : Nat))).setCell ⟨b, 6, none⟩ (.int .u8 (fld x 20 5 : Nat))).setCell ⟨b, 9, none⟩ (.int .i16 (sg12 (32 * fld x 25 7 + fld x 7 5)))).heap[b]? = some (.cells (inC ⟨i.op, i.form, i.frm, i.kind, i.rd, fld x 15 5, fld x 20 5, i.rs3, i.rm, sg12 (32 * fld x 25 7 + fld x 7 5), i.csr⟩) T) := by rw [setCell_row h2]; rfl
  go_wp2
  first | go_end0 | go_ret
  exact ⟨⟨_, rfl⟩, h3, fun n hn => (((Below.refl _ w).setCell (by exact hn) _).setCell (by exact hn) _).setCell (by exact hn) _⟩
set_option maxRecDepth 100000 in
set_option maxHeartbeats 8000000 in
theorem t_rd3 (x : Nat) (hx : x < 4294967296) (i : In) (b : Nat) (T : TypeId) (w : World) (h0 : w.heap[b]? = some (.cells (inC i) T)) : Calls Tryd.prog 45 #[.int .u32 (x : Nat), .pointer (some ⟨b, 0, none⟩)] w (Rd b T ⟨i.op, i.form, i.frm, i.kind, fld x 7 5, fld x 15 5, fld x 20 5, fld x 27 5, fld x 12 3, i.imm, i.csr⟩ w) := by
  go_enter Tryd.func45, Tryd.ntmps45
  go_wp2_with fail
  refine (t_five7 x hx _).mono ?_
  rintro r w1 ⟨rfl, hw1⟩
  rw [hw1]
  clear hw1 w1
  go_wp2_with fail
  refine (t_five15 x hx _).mono ?_
  rintro r w1 ⟨rfl, hw1⟩
  rw [hw1]
  clear hw1 w1
  go_wp2_with fail
  refine (t_five20 x hx _).mono ?_
  rintro r w1 ⟨rfl, hw1⟩
  rw [hw1]
  clear hw1 w1
  go_wp2_with fail
  refine (t_five27 x hx _).mono ?_
  rintro r w1 ⟨rfl, hw1⟩
  rw [hw1]
  clear hw1 w1
  have f0 := fz (k := 4) h0
  have c0 := cell7 h0 4 _ rfl
  have h1 : (w.setCell ⟨b, 4, none⟩ (.int .u8 (fld x 7 5 : Nat))).heap[b]? = some (.cells (inC ⟨i.op, i.form, i.frm, i.kind, fld x 7 5, i.rs1, i.rs2, i.rs3, i.rm, i.imm, i.csr⟩) T) := by rw [setCell_row h0]; rfl
  have f1 := fz (k := 5) h1
  have c1 := cell7 h1 5 _ rfl
  have h2 : ((w.setCell ⟨b, 4, none⟩ (.int .u8 (fld x 7 5 : Nat))).setCell ⟨b, 5, none⟩ (.int .u8 (fld x 15 5 : Nat))).heap[b]? = some (.cells (inC ⟨i.op, i.form, i.frm, i.kind, fld x 7 5, fld x 15 5, i.rs2, i.rs3, i.rm, i.imm, i.csr⟩) T) := by rw [setCell_row h1]; rfl
  have f2 := fz (k := 6) h2
  have c2 := cell7 h2 6 _ rfl
  have h3 : (((w.setCell ⟨b, 4, none⟩ (.int .u8 (fld x 7 5 : Nat))).setCell ⟨b, 5, none⟩ (.int .u8 (fld x 15 5 : Nat))).setCell ⟨b, 6, none⟩ (.int .u8 (fld x 20 5 : Nat))).heap[b]? = some (.cells (inC ⟨i.op, i.form, i.frm, i.kind, fld x 7 5, fld x 15 5, fld x 20 5, i.rs3, i.rm, i.imm, i.csr⟩) T) := by rw [setCell_row h2]; rfl
  have f3 := fz (k := 7) h3
  have c3 := cell7 h3 7 _ rfl
  have h4 : ((((w.setCell ⟨b, 4, none⟩ (.int .u8 (fld x 7 5 : Nat))).setCell ⟨b, 5, none⟩ (.int .u8 (fld x 15 5 : Nat))).setCell ⟨b, 6, none⟩ (.int .u8 (fld x 20 5 : Nat))).setCell ⟨b, 7, none⟩ (.int .u8 (fld x 27 5 : Nat))).heap[b]? = some (.cells (inC ⟨i.op, i.form, i.frm, i.kind, fld x 7 5, fld x 15 5, fld x 20 5, fld x 27 5, i.rm, i.imm, i.csr⟩) T) := by rw [setCell_row h3]; rfl
  go_wp2_with fail
  refine (t_mode x hx _).mono ?_
  rintro r w1 ⟨rfl, hw1⟩
  rw [hw1]
  clear hw1 w1
  have f4 := fz (k := 8) h4
  have c4 := cell7 h4 8 _ rfl
  have h5 : (((((w.setCell ⟨b, 4, none⟩ (.int .u8 (fld x 7 5 : Nat))).setCell ⟨b, 5, none⟩ (.int .u8 (fld x 15 5 : Nat))).setCell ⟨b, 6, none⟩ (.int .u8 (fld x 20 5 : Nat))).setCell ⟨b, 7, none⟩ (.int .u8 (fld x 27 5 : Nat))).setCell ⟨b, 8, none⟩ (.int .u8 (fld x 12 3 : Nat))).heap[b]? = some (.cells (inC ⟨i.op, i.form, i.frm, i.kind, fld x 7 5, fld x 15 5, fld x 20 5, fld x 27 5, fld x 12 3, i.imm, i.csr⟩) T) := by rw [setCell_row h4]; rfl
  go_wp2
  first | go_end0 | go_ret
  exact ⟨⟨_, rfl⟩, h5, fun n hn => (((((Below.refl _ w).setCell (by exact hn) _).setCell (by exact hn) _).setCell (by exact hn) _).setCell (by exact hn) _).setCell (by exact hn) _⟩
set_option maxRecDepth 100000 in
set_option maxHeartbeats 8000000 in
theorem t_rd4 (x : Nat) (hx : x < 4294967296) (i : In) (b : Nat) (T : TypeId) (w : World) (h0 : w.heap[b]? = some (.cells (inC i) T)) : Calls Tryd.prog 47 #[.int .u32 (x : Nat), .pointer (some ⟨b, 0, none⟩)] w (Rd b T ⟨i.op, i.form, i.frm, i.kind, fld x 7 5, fld x 15 5, fld x 20 5, i.rs3, fld x 12 3, i.imm, i.csr⟩ w) := by
  go_enter Tryd.func47, Tryd.ntmps47
  go_wp2_with fail
  refine (t_five7 x hx _).mono ?_
  rintro r w1 ⟨rfl, hw1⟩
  rw [hw1]
  clear hw1 w1
  go_wp2_with fail
  refine (t_five15 x hx _).mono ?_
  rintro r w1 ⟨rfl, hw1⟩
  rw [hw1]
  clear hw1 w1
  go_wp2_with fail
  refine (t_five20 x hx _).mono ?_
  rintro r w1 ⟨rfl, hw1⟩
  rw [hw1]
  clear hw1 w1
  have f0 := fz (k := 4) h0
  have c0 := cell7 h0 4 _ rfl
  have h1 : (w.setCell ⟨b, 4, none⟩ (.int .u8 (fld x 7 5 : Nat))).heap[b]? = some (.cells (inC ⟨i.op, i.form, i.frm, i.kind, fld x 7 5, i.rs1, i.rs2, i.rs3, i.rm, i.imm, i.csr⟩) T) := by rw [setCell_row h0]; rfl
  have f1 := fz (k := 5) h1
  have c1 := cell7 h1 5 _ rfl
  have h2 : ((w.setCell ⟨b, 4, none⟩ (.int .u8 (fld x 7 5 : Nat))).setCell ⟨b, 5, none⟩ (.int .u8 (fld x 15 5 : Nat))).heap[b]? = some (.cells (inC ⟨i.op, i.form, i.frm, i.kind, fld x 7 5, fld x 15 5, i.rs2, i.rs3, i.rm, i.imm, i.csr⟩) T) := by rw [setCell_row h1]; rfl
  have f2 := fz (k := 6) h2
  have c2 := cell7 h2 6 _ rfl
  have h3 : (((w.setCell ⟨b, 4, none⟩ (.int .u8 (fld x 7 5 : Nat))).setCell ⟨b, 5, none⟩ (.int .u8 (fld x 15 5 : Nat))).setCell ⟨b, 6, none⟩ (.int .u8 (fld x 20 5 : Nat))).heap[b]? = some (.cells (inC ⟨i.op, i.form, i.frm, i.kind, fld x 7 5, fld x 15 5, fld x 20 5, i.rs3, i.rm, i.imm, i.csr⟩) T) := by rw [setCell_row h2]; rfl
  go_wp2_with fail
  refine (t_mode x hx _).mono ?_
  rintro r w1 ⟨rfl, hw1⟩
  rw [hw1]
  clear hw1 w1
  have f3 := fz (k := 8) h3
  have c3 := cell7 h3 8 _ rfl
  have h4 : ((((w.setCell ⟨b, 4, none⟩ (.int .u8 (fld x 7 5 : Nat))).setCell ⟨b, 5, none⟩ (.int .u8 (fld x 15 5 : Nat))).setCell ⟨b, 6, none⟩ (.int .u8 (fld x 20 5 : Nat))).setCell ⟨b, 8, none⟩ (.int .u8 (fld x 12 3 : Nat))).heap[b]? = some (.cells (inC ⟨i.op, i.form, i.frm, i.kind, fld x 7 5, fld x 15 5, fld x 20 5, i.rs3, fld x 12 3, i.imm, i.csr⟩) T) := by rw [setCell_row h3]; rfl
  go_wp2
  first | go_end0 | go_ret
  exact ⟨⟨_, rfl⟩, h4, fun n hn => ((((Below.refl _ w).setCell (by exact hn) _).setCell (by exact hn) _).setCell (by exact hn) _).setCell (by exact hn) _⟩
set_option maxRecDepth 100000 in
set_option maxHeartbeats 8000000 in
theorem t_rd5 (x : Nat) (hx : x < 4294967296) (i : In) (b : Nat) (T : TypeId) (w : World) (h0 : w.heap[b]? = some (.cells (inC i) T)) : Calls Tryd.prog 48 #[.int .u32 (x : Nat), .pointer (some ⟨b, 0, none⟩)] w (Rd b T ⟨i.op, i.form, i.frm, i.kind, fld x 7 5, fld x 15 5, fld x 20 5, i.rs3, i.rm, i.imm, i.csr⟩ w) := by
  go_enter Tryd.func48, Tryd.ntmps48
  go_wp2_with fail
  refine (t_five7 x hx _).mono ?_
  rintro r w1 ⟨rfl, hw1⟩
  rw [hw1]
  clear hw1 w1
  go_wp2_with fail
  refine (t_five15 x hx _).mono ?_
  rintro r w1 ⟨rfl, hw1⟩
  rw [hw1]
  clear hw1 w1
  go_wp2_with fail
  refine (t_five20 x hx _).mono ?_
  rintro r w1 ⟨rfl, hw1⟩
  rw [hw1]
  clear hw1 w1
  have f0 := fz (k := 4) h0
  have c0 := cell7 h0 4 _ rfl
  have h1 : (w.setCell ⟨b, 4, none⟩ (.int .u8 (fld x 7 5 : Nat))).heap[b]? = some (.cells (inC ⟨i.op, i.form, i.frm, i.kind, fld x 7 5, i.rs1, i.rs2, i.rs3, i.rm, i.imm, i.csr⟩) T) := by rw [setCell_row h0]; rfl
  have f1 := fz (k := 5) h1
  have c1 := cell7 h1 5 _ rfl
  have h2 : ((w.setCell ⟨b, 4, none⟩ (.int .u8 (fld x 7 5 : Nat))).setCell ⟨b, 5, none⟩ (.int .u8 (fld x 15 5 : Nat))).heap[b]? = some (.cells (inC ⟨i.op, i.form, i.frm, i.kind, fld x 7 5, fld x 15 5, i.rs2, i.rs3, i.rm, i.imm, i.csr⟩) T) := by rw [setCell_row h1]; rfl
  have f2 := fz (k := 6) h2
  have c2 := cell7 h2 6 _ rfl
  have h3 : (((w.setCell ⟨b, 4, none⟩ (.int .u8 (fld x 7 5 : Nat))).setCell ⟨b, 5, none⟩ (.int .u8 (fld x 15 5 : Nat))).setCell ⟨b, 6, none⟩ (.int .u8 (fld x 20 5 : Nat))).heap[b]? = some (.cells (inC ⟨i.op, i.form, i.frm, i.kind, fld x 7 5, fld x 15 5, fld x 20 5, i.rs3, i.rm, i.imm, i.csr⟩) T) := by rw [setCell_row h2]; rfl
  go_wp2
  first | go_end0 | go_ret
  exact ⟨⟨_, rfl⟩, h3, fun n hn => (((Below.refl _ w).setCell (by exact hn) _).setCell (by exact hn) _).setCell (by exact hn) _⟩
set_option maxRecDepth 100000 in
set_option maxHeartbeats 8000000 in
theorem t_rd6 (x : Nat) (hx : x < 4294967296) (i : In) (b : Nat) (T : TypeId) (w : World) (h0 : w.heap[b]? = some (.cells (inC i) T)) : Calls Tryd.prog 49 #[.int .u32 (x : Nat), .pointer (some ⟨b, 0, none⟩)] w (Rd b T ⟨i.op, i.form, i.frm, i.kind, fld x 7 5, fld x 15 5, i.rs2, i.rs3, fld x 12 3, i.imm, i.csr⟩ w) := by
  go_enter Tryd.func49, Tryd.ntmps49
  go_wp2_with fail
  refine (t_five7 x hx _).mono ?_
  rintro r w1 ⟨rfl, hw1⟩
  rw [hw1]
  clear hw1 w1
  go_wp2_with fail
  refine (t_five15 x hx _).mono ?_
  rintro r w1 ⟨rfl, hw1⟩
  rw [hw1]
  clear hw1 w1
  have f0 := fz (k := 4) h0
  have c0 := cell7 h0 4 _ rfl
  have h1 : (w.setCell ⟨b, 4, none⟩ (.int .u8 (fld x 7 5 : Nat))).heap[b]? = some (.cells (inC ⟨i.op, i.form, i.frm, i.kind, fld x 7 5, i.rs1, i.rs2, i.rs3, i.rm, i.imm, i.csr⟩) T) := by rw [setCell_row h0]; rfl
  have f1 := fz (k := 5) h1
  have c1 := cell7 h1 5 _ rfl
  have h2 : ((w.setCell ⟨b, 4, none⟩ (.int .u8 (fld x 7 5 : Nat))).setCell ⟨b, 5, none⟩ (.int .u8 (fld x 15 5 : Nat))).heap[b]? = some (.cells (inC ⟨i.op, i.form, i.frm, i.kind, fld x 7 5, fld x 15 5, i.rs2, i.rs3, i.rm, i.imm, i.csr⟩) T) := by rw [setCell_row h1]; rfl
  go_wp2_with fail
  refine (t_mode x hx _).mono ?_
  rintro r w1 ⟨rfl, hw1⟩
  rw [hw1]
  clear hw1 w1
  have f2 := fz (k := 8) h2
  have c2 := cell7 h2 8 _ rfl
  have h3 : (((w.setCell ⟨b, 4, none⟩ (.int .u8 (fld x 7 5 : Nat))).setCell ⟨b, 5, none⟩ (.int .u8 (fld x 15 5 : Nat))).setCell ⟨b, 8, none⟩ (.int .u8 (fld x 12 3 : Nat))).heap[b]? = some (.cells (inC ⟨i.op, i.form, i.frm, i.kind, fld x 7 5, fld x 15 5, i.rs2, i.rs3, fld x 12 3, i.imm, i.csr⟩) T) := by rw [setCell_row h2]; rfl
  go_wp2
  first | go_end0 | go_ret
  exact ⟨⟨_, rfl⟩, h3, fun n hn => (((Below.refl _ w).setCell (by exact hn) _).setCell (by exact hn) _).setCell (by exact hn) _⟩
set_option maxRecDepth 100000 in
set_option maxHeartbeats 8000000 in
theorem t_rd7 (x : Nat) (hx : x < 4294967296) (i : In) (b : Nat) (T : TypeId) (w : World) (h0 : w.heap[b]? = some (.cells (inC i) T)) : Calls Tryd.prog 50 #[.int .u32 (x : Nat), .pointer (some ⟨b, 0, none⟩)] w (Rd b T ⟨i.op, i.form, i.frm, i.kind, fld x 7 5, fld x 15 5, i.rs2, i.rs3, i.rm, i.imm, i.csr⟩ w) := by
  go_enter Tryd.func50, Tryd.ntmps50
  go_wp2_with fail
  refine (t_five7 x hx _).mono ?_
  rintro r w1 ⟨rfl, hw1⟩
  rw [hw1]
  clear hw1 w1
  go_wp2_with fail
  refine (t_five15 x hx _).mono ?_
  rintro r w1 ⟨rfl, hw1⟩
  rw [hw1]
  clear hw1 w1
  have f0 := fz (k := 4) h0
  have c0 := cell7 h0 4 _ rfl
  have h1 : (w.setCell ⟨b, 4, none⟩ (.int .u8 (fld x 7 5 : Nat))).heap[b]? = some (.cells (inC ⟨i.op, i.form, i.frm, i.kind, fld x 7 5, i.rs1, i.rs2, i.rs3, i.rm, i.imm, i.csr⟩) T) := by rw [setCell_row h0]; rfl
  have f1 := fz (k := 5) h1
  have c1 := cell7 h1 5 _ rfl
  have h2 : ((w.setCell ⟨b, 4, none⟩ (.int .u8 (fld x 7 5 : Nat))).setCell ⟨b, 5, none⟩ (.int .u8 (fld x 15 5 : Nat))).heap[b]? = some (.cells (inC ⟨i.op, i.form, i.frm, i.kind, fld x 7 5, fld x 15 5, i.rs2, i.rs3, i.rm, i.imm, i.csr⟩) T) := by rw [setCell_row h1]; rfl
  go_wp2
  first | go_end0 | go_ret
  exact ⟨⟨_, rfl⟩, h2, fun n hn => ((Below.refl _ w).setCell (by exact hn) _).setCell (by exact hn) _⟩
set_option maxRecDepth 100000 in
set_option maxHeartbeats 8000000 in
theorem t_rd8 (x : Nat) (hx : x < 4294967296) (hc3 : fld x 20 12 ≤ 3) (i : In) (b : Nat) (T : TypeId) (w : World) (h0 : w.heap[b]? = some (.cells (inC i) T)) : Calls Tryd.prog 51 #[.int .u32 (x : Nat), .pointer (some ⟨b, 0, none⟩)] w (Rd b T ⟨i.op, i.form, i.frm, i.kind, fld x 7 5, fld x 15 5, i.rs2, i.rs3, i.rm, i.imm, fld x 20 12⟩ w) := by
  have hcs : (x : Int) / 1048576 % 256 = ((fld x 20 12 : Nat) : Int) := by
    have e : fld x 20 12 = x / 1048576 % 4096 := rfl
    omega
  go_enter Tryd.func51, Tryd.ntmps51
  go_wp2_with fail
  refine (t_five7 x hx _).mono ?_
  rintro r w1 ⟨rfl, hw1⟩
  rw [hw1]
  clear hw1 w1
  go_wp2_with fail
  refine (t_five15 x hx _).mono ?_
  rintro r w1 ⟨rfl, hw1⟩
  rw [hw1]
  clear hw1 w1
  have f0 := fz (k := 4) h0
  have c0 := cell7 h0 4 _ rfl
  have h1 : (w.setCell ⟨b, 4, none⟩ (.int .u8 (fld x 7 5 : Nat))).heap[b]? = some (.cells (inC ⟨i.op, i.form, i.frm, i.kind, fld x 7 5, i.rs1, i.rs2, i.rs3, i.rm, i.imm, i.csr⟩) T) := by rw [setCell_row h0]; rfl
  have f1 := fz (k := 5) h1
  have c1 := cell7 h1 5 _ rfl
  have h2 : ((w.setCell ⟨b, 4, none⟩ (.int .u8 (fld x 7 5 : Nat))).setCell ⟨b, 5, none⟩ (.int .u8 (fld x 15 5 : Nat))).heap[b]? = some (.cells (inC ⟨i.op, i.form, i.frm, i.kind, fld x 7 5, fld x 15 5, i.rs2, i.rs3, i.rm, i.imm, i.csr⟩) T) := by rw [setCell_row h1]; rfl
  have f2 := fz (k := 10) h2
  have c2 := cell7 h2 10 _ rfl
  have h3 : (((w.setCell ⟨b, 4, none⟩ (.int .u8 (fld x 7 5 : Nat))).setCell ⟨b, 5, none⟩ (.int .u8 (fld x 15 5 : Nat))).setCell ⟨b, 10, none⟩ (.int .u8 (fld x 20 12 : Nat))).heap[b]? = some (.cells (inC ⟨i.op, i.form, i.frm, i.kind, fld x 7 5, fld x 15 5, i.rs2, i.rs3, i.rm, i.imm, fld x 20 12⟩) T) := by rw [setCell_row h2]; rfl
  go_wp2
  first | go_end0 | go_ret
  exact ⟨⟨_, rfl⟩, h3, fun n hn => (((Below.refl _ w).setCell (by exact hn) _).setCell (by exact hn) _).setCell (by exact hn) _⟩
def rdrs : Array Value := #[.func (.func 40) #[] #[], .func (.func 41) #[] #[], .func (.func 44) #[] #[], .func (.func 45) #[] #[], .func (.func 47) #[] #[], .func (.func 48) #[] #[], .func (.func 49) #[] #[], .func (.func 50) #[] #[], .func (.func 51) #[] #[], .func (.func 51) #[] #[]]
theorem rdrs_fold : #[Value.func (.func 40) #[] #[], .func (.func 41) #[] #[], .func (.func 44) #[] #[], .func (.func 45) #[] #[], .func (.func 47) #[] #[], .func (.func 48) #[] #[], .func (.func 49) #[] #[], .func (.func 50) #[] #[], .func (.func 51) #[] #[], .func (.func 51) #[] #[]] = rdrs := rfl
theorem rdrs_store {w : World} {b : Nat} {c : Array Value} {T : TypeId} (h : w.heap[b]? = some (.cells c T)) (hc : c.size = 10) : (storeCells ⟨b, 0, none⟩ rdrs.toList 0).run Tryd.prog w = .ok () (w.setRow b rdrs) := by
  have := run_storeCells_from (P := Tryd.prog) b T rdrs.toList 0 c w h (by simp [rdrs, hc]) (fun v hv => by
    simp [rdrs] at hv
    rcases hv with rfl | rfl | rfl | rfl | rfl | rfl | rfl | rfl | rfl <;> rfl)
  have e : List.drop 10 c.toList = [] := List.drop_eq_nil_of_le (by rw [Array.length_toList, hc]; exact Nat.le_refl _)
  simpa [rdrs, e] using this
theorem rdrs_lv {w : World} {b : Nat} {T : TypeId} (h : w.heap[b]? = some (.cells rdrs T)) : (loadVar 71 ⟨b, 0, none⟩).run Tryd.prog w = .ok (.agg rdrs) w := by
  have ha : (isAgg 71).run Tryd.prog w = .ok true w := by kernel_rfl
  have hs : (sizeOf 71).run Tryd.prog w = .ok 10 w := by kernel_rfl
  have q := run_loadCells_list (P := Tryd.prog) w ⟨b, 0, none⟩ rdrs.toList (fun j v hv => by
    have hadd : (⟨b, 0, none⟩ : Addr).add j = ⟨b, j, none⟩ := by unfold Addr.add; split <;> simp_all
    rw [hadd]
    exact cell7 h j v (by simpa using hv))
  rw [Array.length_toList, show rdrs.size = 10 from rfl] at q
  simp only [Sem.run_bind, Sem.run_pure, Result.andThen, loadVar, ha, hs, if_true, q]
theorem res_rdrs {fn : Func} {z : Tmp} (h : fn.results = #[.cell z 71]) {tmps : Array Value} {w : World} {b : Nat} {T : TypeId} (hz : tmps.getD z undef = .pointer (some ⟨b, 0, none⟩)) (hr : w.heap[b]? = some (.cells rdrs T)) : (results fn tmps).run Tryd.prog w = .ok (.agg rdrs) w := by
  have q := rdrs_lv hr
  have hz2 : tmps[z]?.getD undef = .pointer (some ⟨b, 0, none⟩) := by rw [← Array.getD_eq_getD_getElem?]; exact hz
  simp [results, h, hz2, asAddr, q, Result.andThen]
set_option maxRecDepth 100000 in
set_option maxHeartbeats 8000000 in
theorem t_readers (w : World) : Calls Tryd.prog 24 #[] w fun r w' => r = .returned (.agg rdrs) ∧ Below w.heap.size w w' := by
  have hf := rdrs_fold
  obtain ⟨Rz_0, B0⟩ := opn1 w (Obj.cells #[.nilFunc, .nilFunc, .nilFunc, .nilFunc, .nilFunc, .nilFunc, .nilFunc, .nilFunc, .nilFunc, .nilFunc] 71)
  go_enter Tryd.func24, Tryd.ntmps24
  have hst := rdrs_store Rz_0 rfl
  have rz := setRow_row (c' := rdrs) Rz_0
  have bz : Below w.heap.size w ((w.alloc (Obj.cells #[.nilFunc, .nilFunc, .nilFunc, .nilFunc, .nilFunc, .nilFunc, .nilFunc, .nilFunc, .nilFunc, .nilFunc] 71)).setRow w.heap.size rdrs) := Below.setRow B0 (Nat.le_refl _)
  obtain ⟨wz, hwz⟩ : ∃ V, (w.alloc (Obj.cells #[.nilFunc, .nilFunc, .nilFunc, .nilFunc, .nilFunc, .nilFunc, .nilFunc, .nilFunc, .nilFunc, .nilFunc] 71)).setRow w.heap.size rdrs = V := ⟨_, rfl⟩
  rw [hwz] at hst rz bz
  clear hwz
  go_wp2
  exact bodyPost_ret (v := .agg rdrs) (res_rdrs Tryd.results24 rfl rz) rfl ⟨rfl, bz⟩
end Go.Proofs.YtamlcgmipdcgjaaDoor
