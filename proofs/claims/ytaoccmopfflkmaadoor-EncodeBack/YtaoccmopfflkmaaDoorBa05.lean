/-
  What the functions that the statement reaches return: part 5 (YO, FrameL, ZA, ZB, ZD).
-/
import Derived.ChangeMaps5
import Derived.OpenShut
import Derived.Carry
import Derived.Laws.AppendOwn
import Derived.RangeFuncNested
import Derived.RangeFuncBound
import Derived.RangeFuncCalls
import Derived.RangeFuncLeaves
import Derived.RangeFuncFrom
import Derived.Shelf.Abstract
import Derived.Shelf.RegionOpen
import Derived.WalkKit
import Derived.OwnWalkIn
import Derived.TacticsInMore
import Derived.LoopNIn
import Derived.LoopIn
import Derived.LoopN
import Derived.Sort.QuietIn
import Derived.Deep.RegionHeld3
import Derived.Laws.OwnMore
import Derived.Laws.Cover3
import Derived.Test.YtaoccmopfflkmaaDoorBa04
namespace Go.Proofs.YtaoccmopfflkmaaDoor
set_option maxRecDepth 100000
set_option maxHeartbeats 40000000
set_option maxRecDepth 100000
open Go.RowKit WMath
set_option linter.unusedSimpArgs false
set_option linter.unusedVariables false
def InOk (x : In) : Prop := x.op < 256 ∧ x.form < 256 ∧ x.frm < 256 ∧ x.kind < 256 ∧ x.rd < 256 ∧ x.rs1 < 256 ∧ x.rs2 < 256 ∧ x.rs3 < 256 ∧ x.rm < 256 ∧ -32768 ≤ x.imm ∧ x.imm < 32768 ∧ x.csr < 256
end Go.Proofs.YtaoccmopfflkmaaDoor
namespace Go.Proofs.YtaoccmopfflkmaaDoor
set_option maxRecDepth 100000
set_option maxHeartbeats 40000000
set_option maxRecDepth 100000
open WMath
open Go.ChangeShapes Go.WideShapes Go.ChangeAt Go.RowKit
set_option linter.unusedVariables false
theorem nat_u8l {x : Int} (h : (Lit.int .u8 x).wf = true) : ∃ n : Nat, n < 256 ∧ x = (n : Int) := by
  have hb := bounds_u8 h
  obtain ⟨n, rfl⟩ := Int.eq_ofNat_of_zero_le hb.1
  exact ⟨n, by omega, rfl⟩
theorem list11l {α : Type} (l : List α) (h : l.length = 11) : ∃ c0 c1 c2 c3 c4 c5 c6 c7 c8 c9 c10, l = [c0, c1, c2, c3, c4, c5, c6, c7, c8, c9, c10] := by
  match l, h with
  | [c0, c1, c2, c3, c4, c5, c6, c7, c8, c9, c10], _ => exact ⟨c0, c1, c2, c3, c4, c5, c6, c7, c8, c9, c10, rfl⟩
theorem trod_s11 {H : Type} {enc : TypeId × Value → H} {P : Program} {w : World} {base : Nat} {spare : Nat → Bool} {held : Bool} {t : TypeId} {f0 f1 f2 f3 f4 f5 f6 f7 f8 f9 f10 : Field} {fuel : Nat} {cs : List Value} {x : DataW H × List MemPlace} (ht : P.underlying t = some (.struct #[f0, f1, f2, f3, f4, f5, f6, f7, f8, f9, f10])) (h : DataW.trod enc P w base spare held fuel t cs = some x) :
    ∃ y0 y1 y2 y3 y4 y5 y6 y7 y8 y9 y10 n, cs.length = P.cellsOf t ∧ DataW.trod enc P w base spare held n f0.type ((cs.drop f0.offset).take (P.cellsOf f0.type)) = some y0 ∧ DataW.trod enc P w base spare held n f1.type ((cs.drop f1.offset).take (P.cellsOf f1.type)) = some y1 ∧ DataW.trod enc P w base spare held n f2.type ((cs.drop f2.offset).take (P.cellsOf f2.type)) = some y2 ∧ DataW.trod enc P w base spare held n f3.type ((cs.drop f3.offset).take (P.cellsOf f3.type)) = some y3 ∧ DataW.trod enc P w base spare held n f4.type ((cs.drop f4.offset).take (P.cellsOf f4.type)) = some y4 ∧ DataW.trod enc P w base spare held n f5.type ((cs.drop f5.offset).take (P.cellsOf f5.type)) = some y5 ∧ DataW.trod enc P w base spare held n f6.type ((cs.drop f6.offset).take (P.cellsOf f6.type)) = some y6 ∧ DataW.trod enc P w base spare held n f7.type ((cs.drop f7.offset).take (P.cellsOf f7.type)) = some y7 ∧ DataW.trod enc P w base spare held n f8.type ((cs.drop f8.offset).take (P.cellsOf f8.type)) = some y8 ∧ DataW.trod enc P w base spare held n f9.type ((cs.drop f9.offset).take (P.cellsOf f9.type)) = some y9 ∧ DataW.trod enc P w base spare held n f10.type ((cs.drop f10.offset).take (P.cellsOf f10.type)) = some y10 := by
  obtain ⟨xs, n, _, rfl, hl, hlen, hf⟩ := DataW.trod_struct ht h
  match xs, hlen with
  | [y0, y1, y2, y3, y4, y5, y6, y7, y8, y9, y10], _ => exact ⟨y0, y1, y2, y3, y4, y5, y6, y7, y8, y9, y10, n, hl, by simpa using hf 0 f0 rfl, by simpa using hf 1 f1 rfl, by simpa using hf 2 f2 rfl, by simpa using hf 3 f3 rfl, by simpa using hf 4 f4 rfl, by simpa using hf 5 f5 rfl, by simpa using hf 6 f6 rfl, by simpa using hf 7 f7 rfl, by simpa using hf 8 f8 rfl, by simpa using hf 9 f9 rfl, by simpa using hf 10 f10 rfl⟩
theorem rd_in {H : Type} {enc : TypeId × Value → H} {w : World} {base : Nat} {spare : Nat → Bool} {held : Bool} {fuel : Nat} {cs : List Value} {x : DataW H × List MemPlace}
    (h : DataW.trod enc Tryd.prog w base spare held fuel 27 cs = some x) : ∃ r : In, InOk r ∧ cs = (inC r).toList := by
  have hc : Tryd.prog.cellsOf 27 = 11 := by kernel_rfl
  have hF : Tryd.prog.cellsOf 23 = 1 := by kernel_rfl
  have hK : Tryd.prog.cellsOf 24 = 1 := by kernel_rfl
  have hOp : Tryd.prog.cellsOf 22 = 1 := by kernel_rfl
  have hi16 : Tryd.prog.cellsOf 25 = 1 := by kernel_rfl
  have hu8 : Tryd.prog.cellsOf 5 = 1 := by kernel_rfl
  obtain ⟨y0, y1, y2, y3, y4, y5, y6, y7, y8, y9, y10, n, hl, g0, g1, g2, g3, g4, g5, g6, g7, g8, g9, g10⟩ := trod_s11 Tryd.underlying27 h
  rw [hc] at hl
  obtain ⟨c0, c1, c2, c3, c4, c5, c6, c7, c8, c9, c10, rfl⟩ := list11l cs hl
  simp only [hF, hK, hOp, hi16, hu8, List.drop_succ_cons, List.drop_zero, List.take_succ_cons, List.take_zero] at g0 g1 g2 g3 g4 g5 g6 g7 g8 g9 g10
  obtain ⟨x0, e0, _, w0⟩ := DataW.trod_int Tryd.underlying22 g0
  obtain ⟨x1, e1, _, w1⟩ := DataW.trod_int Tryd.underlying23 g1
  obtain ⟨x2, e2, _, w2⟩ := DataW.trod_int Tryd.underlying23 g2
  obtain ⟨x3, e3, _, w3⟩ := DataW.trod_int Tryd.underlying24 g3
  obtain ⟨x4, e4, _, w4⟩ := DataW.trod_int Tryd.underlying5 g4
  obtain ⟨x5, e5, _, w5⟩ := DataW.trod_int Tryd.underlying5 g5
  obtain ⟨x6, e6, _, w6⟩ := DataW.trod_int Tryd.underlying5 g6
  obtain ⟨x7, e7, _, w7⟩ := DataW.trod_int Tryd.underlying5 g7
  obtain ⟨x8, e8, _, w8⟩ := DataW.trod_int Tryd.underlying5 g8
  obtain ⟨x9, e9, _, w9⟩ := DataW.trod_int Tryd.underlying25 g9
  obtain ⟨x10, e10, _, w10⟩ := DataW.trod_int Tryd.underlying5 g10
  obtain ⟨a0, b0, rfl⟩ := nat_u8l w0
  obtain ⟨a1, b1, rfl⟩ := nat_u8l w1
  obtain ⟨a2, b2, rfl⟩ := nat_u8l w2
  obtain ⟨a3, b3, rfl⟩ := nat_u8l w3
  obtain ⟨a4, b4, rfl⟩ := nat_u8l w4
  obtain ⟨a5, b5, rfl⟩ := nat_u8l w5
  obtain ⟨a6, b6, rfl⟩ := nat_u8l w6
  obtain ⟨a7, b7, rfl⟩ := nat_u8l w7
  obtain ⟨a8, b8, rfl⟩ := nat_u8l w8
  obtain ⟨a10, b10, rfl⟩ := nat_u8l w10
  have b9 := bounds_i16 w9
  simp at e0 e1 e2 e3 e4 e5 e6 e7 e8 e9 e10
  subst e0 e1 e2 e3 e4 e5 e6 e7 e8 e9 e10
  exact ⟨⟨a0, a1, a2, a3, a4, a5, a6, a7, a8, x9, a10⟩, ⟨b0, b1, b2, b3, b4, b5, b6, b7, b8, b9.1, by show x9 < 32768; omega, b10⟩, rfl⟩
def InAt (v : Value) : Prop := ∃ r : In, InOk r ∧ v = .agg (inC r)
theorem open_in {H : Type} {enc : TypeId × Value → H} {w : World} {base b : Nat} {spare : Nat → Bool} {held : Bool} {v : Value} {d : DataW H} {p : List MemPlace}
    (hok : Value.okWide Tryd.prog w .any base 27 v) (h : DataW.Trod enc Tryd.prog w b spare held 27 v d p) : InAt v := by
  obtain ⟨cs, rfl, hsz⟩ := okWide_struct Tryd.underlying27 hok
  obtain ⟨fuel, hf⟩ := h
  obtain ⟨r, hr, e⟩ := rd_in hf
  refine ⟨r, hr, ?_⟩
  congr 1
  apply Array.toList_inj.1
  simpa [Value.cells] using e
end Go.Proofs.YtaoccmopfflkmaaDoor
namespace Go.Proofs.YtaoccmopfflkmaaDoor
set_option maxRecDepth 100000
set_option maxHeartbeats 40000000
set_option maxRecDepth 100000
open Go.RowKit WMath
set_option linter.unusedSimpArgs false
set_option linter.unusedVariables false
theorem and_low5 (y : Nat) (hy : y < 4294967296) : bits .and .u32 ((y : Nat) : Int) 31 = ((y % 32 : Nat) : Int) := by
  have q := and32t y 31 hy (by decide)
  rw [Nat.and_two_pow_sub_one_eq_mod y 5] at q
  exact q
theorem and_low3 (y : Nat) (hy : y < 4294967296) : bits .and .u32 ((y : Nat) : Int) 7 = ((y % 8 : Nat) : Int) := by
  have q := and32t y 7 hy (by decide)
  rw [Nat.and_two_pow_sub_one_eq_mod y 3] at q
  exact q
theorem five_is (x n : Nat) (hx : x < 4294967296) (k : Nat) (hn : n = 2 ^ k) (m : Int) (hm : m = (n : Int)) : bits .and .u32 ((x : Int) / m) 31 % 256 = ((fld x k 5 : Nat) : Int) := by
  subst hm
  have e : (x : Int) / (n : Int) = ((x / n : Nat) : Int) := (Int.natCast_ediv x n).symm
  rw [e, and_low5 _ (Nat.lt_of_le_of_lt (Nat.div_le_self _ _) hx), hn]
  unfold fld
  have : x / 2 ^ k % 32 < 32 := Nat.mod_lt _ (by decide)
  show ((x / 2 ^ k % 32 : Nat) : Int) % 256 = ((x / 2 ^ k % 32 : Nat) : Int)
  omega
theorem mode_is (x : Nat) (hx : x < 4294967296) : bits .and .u32 ((x : Int) / 4096) 7 % 256 = ((fld x 12 3 : Nat) : Int) := by
  have e : (x : Int) / 4096 = ((x / 4096 : Nat) : Int) := rfl
  rw [e, and_low3 _ (by omega)]
  unfold fld
  show ((x / 4096 % 8 : Nat) : Int) % 256 = ((x / 4096 % 8 : Nat) : Int)
  omega
def sg7 (h : Nat) : Int := if 64 ≤ h then (h : Int) - 128 else (h : Int)
theorem w32_is (x : Nat) (hx : x < 4294967296) : wrap32 (x : Int) = if 2147483648 ≤ x then (x : Int) - 4294967296 else (x : Int) := by
  unfold wrap32
  split <;> omega
theorem wrapi16 (y : Int) (h : -32768 ≤ y ∧ y < 32768) : IntKind.i16.wrap y = y := by
  simp [IntKind.wrap, IntKind.bits, IntKind.signed]
  omega
theorem sg20_is (x : Nat) (hx : x < 4294967296) : IntKind.i16.wrap (wrap32 (x : Int) / 1048576) = sg12 (fld x 20 12) := by
  have e : fld x 20 12 = x / 1048576 % 4096 := rfl
  rw [w32_is x hx, e]
  unfold sg12
  rw [wrapi16]
  · split <;> split <;> omega
  · split <;> omega
theorem sg25_is (x : Nat) (hx : x < 4294967296) : IntKind.i16.wrap (wrap32 (x : Int) / 33554432) = sg7 (fld x 25 7) := by
  have e : fld x 25 7 = x / 33554432 % 128 := rfl
  rw [w32_is x hx, e]
  unfold sg7
  rw [wrapi16]
  · split <;> split <;> omega
  · split <;> omega
theorem st_all : ((List.range 128).all fun h => (List.range 32).all fun d => decide (bits .or .i16 (IntKind.i16.wrap (sg7 h * 32)) (d : Int) = sg12 (32 * h + d))) = true := by decide +kernel
theorem st_is (h d : Nat) (hh : h < 128) (hd : d < 32) : bits .or .i16 (IntKind.i16.wrap (sg7 h * 32)) (d : Int) = sg12 (32 * h + d) :=
  of_decide_eq_true (List.all_eq_true.1 (List.all_eq_true.1 st_all h (List.mem_range.2 hh)) d (List.mem_range.2 hd))
set_option maxRecDepth 100000 in
set_option maxHeartbeats 8000000 in
theorem t_five7 (x : Nat) (hx : x < 4294967296) (w : World) : Calls Tryd.prog 54 #[.int .u32 (x : Nat), .int .i64 7] w fun r w' => r = .returned (.int .u8 (fld x 7 5 : Nat)) ∧ w' = w := by
  have h := five_is x 128 hx 7 (by decide) 128 rfl
  go_enter Tryd.func54, Tryd.ntmps54
  go_wp2
  rw [h]
  go_ret
  exact ⟨rfl, rfl⟩
set_option maxRecDepth 100000 in
set_option maxHeartbeats 8000000 in
theorem t_five15 (x : Nat) (hx : x < 4294967296) (w : World) : Calls Tryd.prog 54 #[.int .u32 (x : Nat), .int .i64 15] w fun r w' => r = .returned (.int .u8 (fld x 15 5 : Nat)) ∧ w' = w := by
  have h := five_is x 32768 hx 15 (by decide) 32768 rfl
  go_enter Tryd.func54, Tryd.ntmps54
  go_wp2
  rw [h]
  go_ret
  exact ⟨rfl, rfl⟩
set_option maxRecDepth 100000 in
set_option maxHeartbeats 8000000 in
theorem t_five20 (x : Nat) (hx : x < 4294967296) (w : World) : Calls Tryd.prog 54 #[.int .u32 (x : Nat), .int .i64 20] w fun r w' => r = .returned (.int .u8 (fld x 20 5 : Nat)) ∧ w' = w := by
  have h := five_is x 1048576 hx 20 (by decide) 1048576 rfl
  go_enter Tryd.func54, Tryd.ntmps54
  go_wp2
  rw [h]
  go_ret
  exact ⟨rfl, rfl⟩
set_option maxRecDepth 100000 in
set_option maxHeartbeats 8000000 in
theorem t_five27 (x : Nat) (hx : x < 4294967296) (w : World) : Calls Tryd.prog 54 #[.int .u32 (x : Nat), .int .i64 27] w fun r w' => r = .returned (.int .u8 (fld x 27 5 : Nat)) ∧ w' = w := by
  have h := five_is x 134217728 hx 27 (by decide) 134217728 rfl
  go_enter Tryd.func54, Tryd.ntmps54
  go_wp2
  rw [h]
  go_ret
  exact ⟨rfl, rfl⟩
set_option maxRecDepth 100000 in
set_option maxHeartbeats 8000000 in
theorem t_mode (x : Nat) (hx : x < 4294967296) (w : World) : Calls Tryd.prog 58 #[.int .u32 (x : Nat)] w fun r w' => r = .returned (.int .u8 (fld x 12 3 : Nat)) ∧ w' = w := by
  have h := mode_is x hx
  go_enter Tryd.func58, Tryd.ntmps58
  go_wp2
  rw [h]
  go_ret
  exact ⟨rfl, rfl⟩
set_option maxRecDepth 100000 in
set_option maxHeartbeats 8000000 in
theorem t_signed20 (x : Nat) (hx : x < 4294967296) (w : World) : Calls Tryd.prog 55 #[.int .u32 (x : Nat), .int .i64 20] w fun r w' => r = .returned (.int .i16 (sg12 (fld x 20 12))) ∧ w' = w := by
  have h := sg20_is x hx
  go_enter Tryd.func55, Tryd.ntmps55
  go_wp2
  go_ret
  exact ⟨rfl, rfl⟩
set_option maxRecDepth 100000 in
set_option maxHeartbeats 8000000 in
theorem t_signed25 (x : Nat) (hx : x < 4294967296) (w : World) : Calls Tryd.prog 55 #[.int .u32 (x : Nat), .int .i64 25] w fun r w' => r = .returned (.int .i16 (sg7 (fld x 25 7))) ∧ w' = w := by
  have h := sg25_is x hx
  go_enter Tryd.func55, Tryd.ntmps55
  go_wp2
  go_ret
  exact ⟨rfl, rfl⟩
def Rd (b : Nat) (T : TypeId) (j : In) (w : World) (r : Ending) (w' : World) : Prop := (∃ v, r = .returned v) ∧ w'.heap[b]? = some (.cells (inC j) T) ∧ ∀ n, n ≤ b → Below n w w'
set_option maxRecDepth 100000 in
set_option maxHeartbeats 8000000 in
theorem t_rd1 (x : Nat) (hx : x < 4294967296) (i : In) (b : Nat) (T : TypeId) (w : World) (h0 : w.heap[b]? = some (.cells (inC i) T)) : Calls Tryd.prog 53 #[.int .u32 (x : Nat), .pointer (some ⟨b, 0, none⟩)] w (Rd b T ⟨i.op, i.form, i.frm, i.kind, fld x 7 5, fld x 15 5, i.rs2, i.rs3, i.rm, sg12 (fld x 20 12), i.csr⟩ w) := by
  go_enter Tryd.func53, Tryd.ntmps53
  go_wp2_with fail
  refine (t_five7 x hx _).mono ?_
  rintro r w1 ⟨rfl, hw1⟩
  rw [hw1]
  clear hw1 w1
  go_wp2_with fail
  refine (t_five15 x hx _).mono ?_
  rintro r w1 ⟨rfl, hw1⟩
  rw [hw1]
  clear hw1 w1
  have f0 := fz (k := 4) h0
  have c0 := cell7 h0 4 _ rfl
  have h1 : (w.setCell ⟨b, 4, none⟩ (.int .u8 (fld x 7 5 : Nat))).heap[b]? = some (.cells (inC ⟨i.op, i.form, i.frm, i.kind, fld x 7 5, i.rs1, i.rs2, i.rs3, i.rm, i.imm, i.csr⟩) T) := by rw [setCell_row h0]; rfl
  have f1 := fz (k := 5) h1
  have c1 := cell7 h1 5 _ rfl
  have h2 : ((w.setCell ⟨b, 4, none⟩ (.int .u8 (fld x 7 5 : Nat))).setCell ⟨b, 5, none⟩ (.int .u8 (fld x 15 5 : Nat))).heap[b]? = some (.cells (inC ⟨i.op, i.form, i.frm, i.kind, fld x 7 5, fld x 15 5, i.rs2, i.rs3, i.rm, i.imm, i.csr⟩) T) := by rw [setCell_row h1]; rfl
  go_wp2_with fail
  refine (t_signed20 x hx _).mono ?_
  rintro r w1 ⟨rfl, hw1⟩
  rw [hw1]
  clear hw1 w1
  have f2 := fz (k := 9) h2
  have c2 := cell7 h2 9 _ rfl
  have h3 : (((w.setCell ⟨b, 4, none⟩ (.int .u8 (fld x 7 5 : Nat))).setCell ⟨b, 5, none⟩ (.int .u8 (fld x 15 5 : Nat))).setCell ⟨b, 9, none⟩ (.int .i16 (sg12 (fld x 20 12)))).heap[b]? = some (.cells (inC ⟨i.op, i.form, i.frm, i.kind, fld x 7 5, fld x 15 5, i.rs2, i.rs3, i.rm, sg12 (fld x 20 12), i.csr⟩) T) := by rw [setCell_row h2]; rfl
  go_wp2
  first | go_end0 | go_ret
  exact ⟨⟨_, rfl⟩, h3, fun n hn => (((Below.refl _ w).setCell (by exact hn) _).setCell (by exact hn) _).setCell (by exact hn) _⟩
set_option maxRecDepth 100000 in
set_option maxHeartbeats 8000000 in
theorem t_rd2 (x : Nat) (hx : x < 4294967296) (i : In) (b : Nat) (T : TypeId) (w : World) (h0 : w.heap[b]? = some (.cells (inC i) T)) : Calls Tryd.prog 56 #[.int .u32 (x : Nat), .pointer (some ⟨b, 0, none⟩)] w (Rd b T ⟨i.op, i.form, i.frm, i.kind, i.rd, fld x 15 5, fld x 20 5, i.rs3, i.rm, sg12 (32 * fld x 25 7 + fld x 7 5), i.csr⟩ w) := by
  have hst : bits .or .i16 (IntKind.i16.wrap (sg7 (fld x 25 7) * 32)) ((fld x 7 5 : Nat) : Int) = sg12 (32 * fld x 25 7 + fld x 7 5) := st_is _ _ (fld_lt x 25 7) (fld_lt x 7 5)
  have hm7 : IntKind.i16.wrap ((fld x 7 5 : Nat) : Int) = ((fld x 7 5 : Nat) : Int) := by have : fld x 7 5 < 32 := fld_lt x 7 5; exact wrapi16 _ (by omega)
  go_enter Tryd.func56, Tryd.ntmps56
  go_wp2_with fail
  refine (t_five15 x hx _).mono ?_
  rintro r w1 ⟨rfl, hw1⟩
  rw [hw1]
  clear hw1 w1
  go_wp2_with fail
  refine (t_five20 x hx _).mono ?_
  rintro r w1 ⟨rfl, hw1⟩
  rw [hw1]
  clear hw1 w1
  have f0 := fz (k := 5) h0
  have c0 := cell7 h0 5 _ rfl
  have h1 : (w.setCell ⟨b, 5, none⟩ (.int .u8 (fld x 15 5 : Nat))).heap[b]? = some (.cells (inC ⟨i.op, i.form, i.frm, i.kind, i.rd, fld x 15 5, i.rs2, i.rs3, i.rm, i.imm, i.csr⟩) T) := by rw [setCell_row h0]; rfl
  have f1 := fz (k := 6) h1
  have c1 := cell7 h1 6 _ rfl
  have h2 : ((w.setCell ⟨b, 5, none⟩ (.int .u8 (fld x 15 5 : Nat))).setCell ⟨b, 6, none⟩ (.int .u8 (fld x 20 5 : Nat))).heap[b]? = some (.cells (inC ⟨i.op, i.form, i.frm, i.kind, i.rd, fld x 15 5, fld x 20 5, i.rs3, i.rm, i.imm, i.csr⟩) T) := by rw [setCell_row h1]; rfl
  go_wp2_with fail
  refine (t_signed25 x hx _).mono ?_
  rintro r w1 ⟨rfl, hw1⟩
  rw [hw1]
  clear hw1 w1
  go_wp2_with fail
  refine (t_five7 x hx _).mono ?_
  rintro r w1 ⟨rfl, hw1⟩
  rw [hw1]
  clear hw1 w1
  have f2 := fz (k := 9) h2
  have c2 := cell7 h2 9 _ rfl
  have h3 : (((w.setCell ⟨b, 5, none⟩ (.int .u8 (fld x 15 5 : Nat))).setCell ⟨b, 6, none⟩ (.int .u8 (fld x 20 5 : Nat))).setCell ⟨b, 9, none⟩ (.int .i16 (sg12 (32 * fld x 25 7 + fld x 7 5)))).heap[b]? = some (.cells (inC ⟨i.op, i.form, i.frm, i.kind, i.rd, fld x 15 5, fld x 20 5, i.rs3, i.rm, sg12 (32 * fld x 25 7 + fld x 7 5), i.csr⟩) T) := by rw [setCell_row h2]; rfl
  go_wp2
  first | go_end0 | go_ret
  exact ⟨⟨_, rfl⟩, h3, fun n hn => (((Below.refl _ w).setCell (by exact hn) _).setCell (by exact hn) _).setCell (by exact hn) _⟩
set_option maxRecDepth 100000 in
set_option maxHeartbeats 8000000 in
theorem t_rd3 (x : Nat) (hx : x < 4294967296) (i : In) (b : Nat) (T : TypeId) (w : World) (h0 : w.heap[b]? = some (.cells (inC i) T)) : Calls Tryd.prog 57 #[.int .u32 (x : Nat), .pointer (some ⟨b, 0, none⟩)] w (Rd b T ⟨i.op, i.form, i.frm, i.kind, fld x 7 5, fld x 15 5, fld x 20 5, fld x 27 5, fld x 12 3, i.imm, i.csr⟩ w) := by
  go_enter Tryd.func57, Tryd.ntmps57
  go_wp2_with fail
  refine (t_five7 x hx _).mono ?_
  rintro r w1 ⟨rfl, hw1⟩
  rw [hw1]
  clear hw1 w1
  go_wp2_with fail
  refine (t_five15 x hx _).mono ?_
  rintro r w1 ⟨rfl, hw1⟩
  rw [hw1]
  clear hw1 w1
  go_wp2_with fail
  refine (t_five20 x hx _).mono ?_
  rintro r w1 ⟨rfl, hw1⟩
  rw [hw1]
  clear hw1 w1
  go_wp2_with fail
  refine (t_five27 x hx _).mono ?_
  rintro r w1 ⟨rfl, hw1⟩
  rw [hw1]
  clear hw1 w1
  have f0 := fz (k := 4) h0
  have c0 := cell7 h0 4 _ rfl
  have h1 : (w.setCell ⟨b, 4, none⟩ (.int .u8 (fld x 7 5 : Nat))).heap[b]? = some (.cells (inC ⟨i.op, i.form, i.frm, i.kind, fld x 7 5, i.rs1, i.rs2, i.rs3, i.rm, i.imm, i.csr⟩) T) := by rw [setCell_row h0]; rfl
  have f1 := fz (k := 5) h1
  have c1 := cell7 h1 5 _ rfl
  have h2 : ((w.setCell ⟨b, 4, none⟩ (.int .u8 (fld x 7 5 : Nat))).setCell ⟨b, 5, none⟩ (.int .u8 (fld x 15 5 : Nat))).heap[b]? = some (.cells (inC ⟨i.op, i.form, i.frm, i.kind, fld x 7 5, fld x 15 5, i.rs2, i.rs3, i.rm, i.imm, i.csr⟩) T) := by rw [setCell_row h1]; rfl
  have f2 := fz (k := 6) h2
  have c2 := cell7 h2 6 _ rfl
  have h3 : (((w.setCell ⟨b, 4, none⟩ (.int .u8 (fld x 7 5 : Nat))).setCell ⟨b, 5, none⟩ (.int .u8 (fld x 15 5 : Nat))).setCell ⟨b, 6, none⟩ (.int .u8 (fld x 20 5 : Nat))).heap[b]? = some (.cells (inC ⟨i.op, i.form, i.frm, i.kind, fld x 7 5, fld x 15 5, fld x 20 5, i.rs3, i.rm, i.imm, i.csr⟩) T) := by rw [setCell_row h2]; rfl
  have f3 := fz (k := 7) h3
  have c3 := cell7 h3 7 _ rfl
  have h4 : ((((w.setCell ⟨b, 4, none⟩ (.int .u8 (fld x 7 5 : Nat))).setCell ⟨b, 5, none⟩ (.int .u8 (fld x 15 5 : Nat))).setCell ⟨b, 6, none⟩ (.int .u8 (fld x 20 5 : Nat))).setCell ⟨b, 7, none⟩ (.int .u8 (fld x 27 5 : Nat))).heap[b]? = some (.cells (inC ⟨i.op, i.form, i.frm, i.kind, fld x 7 5, fld x 15 5, fld x 20 5, fld x 27 5, i.rm, i.imm, i.csr⟩) T) := by rw [setCell_row h3]; rfl
  go_wp2_with fail
  refine (t_mode x hx _).mono ?_
  rintro r w1 ⟨rfl, hw1⟩
  rw [hw1]
  clear hw1 w1
  have f4 := fz (k := 8) h4
  have c4 := cell7 h4 8 _ rfl
  have h5 : (((((w.setCell ⟨b, 4, none⟩ (.int .u8 (fld x 7 5 : Nat))).setCell ⟨b, 5, none⟩ (.int .u8 (fld x 15 5 : Nat))).setCell ⟨b, 6, none⟩ (.int .u8 (fld x 20 5 : Nat))).setCell ⟨b, 7, none⟩ (.int .u8 (fld x 27 5 : Nat))).setCell ⟨b, 8, none⟩ (.int .u8 (fld x 12 3 : Nat))).heap[b]? = some (.cells (inC ⟨i.op, i.form, i.frm, i.kind, fld x 7 5, fld x 15 5, fld x 20 5, fld x 27 5, fld x 12 3, i.imm, i.csr⟩) T) := by rw [setCell_row h4]; rfl
  go_wp2
  first | go_end0 | go_ret
  exact ⟨⟨_, rfl⟩, h5, fun n hn => (((((Below.refl _ w).setCell (by exact hn) _).setCell (by exact hn) _).setCell (by exact hn) _).setCell (by exact hn) _).setCell (by exact hn) _⟩
set_option maxRecDepth 100000 in
set_option maxHeartbeats 8000000 in
theorem t_rd4 (x : Nat) (hx : x < 4294967296) (i : In) (b : Nat) (T : TypeId) (w : World) (h0 : w.heap[b]? = some (.cells (inC i) T)) : Calls Tryd.prog 59 #[.int .u32 (x : Nat), .pointer (some ⟨b, 0, none⟩)] w (Rd b T ⟨i.op, i.form, i.frm, i.kind, fld x 7 5, fld x 15 5, fld x 20 5, i.rs3, fld x 12 3, i.imm, i.csr⟩ w) := by
  go_enter Tryd.func59, Tryd.ntmps59
  go_wp2_with fail
  refine (t_five7 x hx _).mono ?_
  rintro r w1 ⟨rfl, hw1⟩
  rw [hw1]
  clear hw1 w1
  go_wp2_with fail
  refine (t_five15 x hx _).mono ?_
  rintro r w1 ⟨rfl, hw1⟩
  rw [hw1]
  clear hw1 w1
  go_wp2_with fail
  refine (t_five20 x hx _).mono ?_
  rintro r w1 ⟨rfl, hw1⟩
  rw [hw1]
  clear hw1 w1
  have f0 := fz (k := 4) h0
  have c0 := cell7 h0 4 _ rfl
  have h1 : (w.setCell ⟨b, 4, none⟩ (.int .u8 (fld x 7 5 : Nat))).heap[b]? = some (.cells (inC ⟨i.op, i.form, i.frm, i.kind, fld x 7 5, i.rs1, i.rs2, i.rs3, i.rm, i.imm, i.csr⟩) T) := by rw [setCell_row h0]; rfl
  have f1 := fz (k := 5) h1
  have c1 := cell7 h1 5 _ rfl
  have h2 : ((w.setCell ⟨b, 4, none⟩ (.int .u8 (fld x 7 5 : Nat))).setCell ⟨b, 5, none⟩ (.int .u8 (fld x 15 5 : Nat))).heap[b]? = some (.cells (inC ⟨i.op, i.form, i.frm, i.kind, fld x 7 5, fld x 15 5, i.rs2, i.rs3, i.rm, i.imm, i.csr⟩) T) := by rw [setCell_row h1]; rfl
  have f2 := fz (k := 6) h2
  have c2 := cell7 h2 6 _ rfl
  have h3 : (((w.setCell ⟨b, 4, none⟩ (.int .u8 (fld x 7 5 : Nat))).setCell ⟨b, 5, none⟩ (.int .u8 (fld x 15 5 : Nat))).setCell ⟨b, 6, none⟩ (.int .u8 (fld x 20 5 : Nat))).heap[b]? = some (.cells (inC ⟨i.op, i.form, i.frm, i.kind, fld x 7 5, fld x 15 5, fld x 20 5, i.rs3, i.rm, i.imm, i.csr⟩) T) := by rw [setCell_row h2]; rfl
  go_wp2_with fail
  refine (t_mode x hx _).mono ?_
  rintro r w1 ⟨rfl, hw1⟩
  rw [hw1]
  clear hw1 w1
  have f3 := fz (k := 8) h3
  have c3 := cell7 h3 8 _ rfl
  have h4 : ((((w.setCell ⟨b, 4, none⟩ (.int .u8 (fld x 7 5 : Nat))).setCell ⟨b, 5, none⟩ (.int .u8 (fld x 15 5 : Nat))).setCell ⟨b, 6, none⟩ (.int .u8 (fld x 20 5 : Nat))).setCell ⟨b, 8, none⟩ (.int .u8 (fld x 12 3 : Nat))).heap[b]? = some (.cells (inC ⟨i.op, i.form, i.frm, i.kind, fld x 7 5, fld x 15 5, fld x 20 5, i.rs3, fld x 12 3, i.imm, i.csr⟩) T) := by rw [setCell_row h3]; rfl
  go_wp2
  first | go_end0 | go_ret
  exact ⟨⟨_, rfl⟩, h4, fun n hn => ((((Below.refl _ w).setCell (by exact hn) _).setCell (by exact hn) _).setCell (by exact hn) _).setCell (by exact hn) _⟩
set_option maxRecDepth 100000 in
set_option maxHeartbeats 8000000 in
theorem t_rd5 (x : Nat) (hx : x < 4294967296) (i : In) (b : Nat) (T : TypeId) (w : World) (h0 : w.heap[b]? = some (.cells (inC i) T)) : Calls Tryd.prog 60 #[.int .u32 (x : Nat), .pointer (some ⟨b, 0, none⟩)] w (Rd b T ⟨i.op, i.form, i.frm, i.kind, fld x 7 5, fld x 15 5, fld x 20 5, i.rs3, i.rm, i.imm, i.csr⟩ w) := by
  go_enter Tryd.func60, Tryd.ntmps60
  go_wp2_with fail
  refine (t_five7 x hx _).mono ?_
  rintro r w1 ⟨rfl, hw1⟩
  rw [hw1]
  clear hw1 w1
  go_wp2_with fail
  refine (t_five15 x hx _).mono ?_
  rintro r w1 ⟨rfl, hw1⟩
  rw [hw1]
  clear hw1 w1
  go_wp2_with fail
  refine (t_five20 x hx _).mono ?_
  rintro r w1 ⟨rfl, hw1⟩
  rw [hw1]
  clear hw1 w1
  have f0 := fz (k := 4) h0
  have c0 := cell7 h0 4 _ rfl
  have h1 : (w.setCell ⟨b, 4, none⟩ (.int .u8 (fld x 7 5 : Nat))).heap[b]? = some (.cells (inC ⟨i.op, i.form, i.frm, i.kind, fld x 7 5, i.rs1, i.rs2, i.rs3, i.rm, i.imm, i.csr⟩) T) := by rw [setCell_row h0]; rfl
  have f1 := fz (k := 5) h1
  have c1 := cell7 h1 5 _ rfl
  have h2 : ((w.setCell ⟨b, 4, none⟩ (.int .u8 (fld x 7 5 : Nat))).setCell ⟨b, 5, none⟩ (.int .u8 (fld x 15 5 : Nat))).heap[b]? = some (.cells (inC ⟨i.op, i.form, i.frm, i.kind, fld x 7 5, fld x 15 5, i.rs2, i.rs3, i.rm, i.imm, i.csr⟩) T) := by rw [setCell_row h1]; rfl
  have f2 := fz (k := 6) h2
  have c2 := cell7 h2 6 _ rfl
  have h3 : (((w.setCell ⟨b, 4, none⟩ (.int .u8 (fld x 7 5 : Nat))).setCell ⟨b, 5, none⟩ (.int .u8 (fld x 15 5 : Nat))).setCell ⟨b, 6, none⟩ (.int .u8 (fld x 20 5 : Nat))).heap[b]? = some (.cells (inC ⟨i.op, i.form, i.frm, i.kind, fld x 7 5, fld x 15 5, fld x 20 5, i.rs3, i.rm, i.imm, i.csr⟩) T) := by rw [setCell_row h2]; rfl
  go_wp2
  first | go_end0 | go_ret
  exact ⟨⟨_, rfl⟩, h3, fun n hn => (((Below.refl _ w).setCell (by exact hn) _).setCell (by exact hn) _).setCell (by exact hn) _⟩
set_option maxRecDepth 100000 in
set_option maxHeartbeats 8000000 in
theorem t_rd6 (x : Nat) (hx : x < 4294967296) (i : In) (b : Nat) (T : TypeId) (w : World) (h0 : w.heap[b]? = some (.cells (inC i) T)) : Calls Tryd.prog 61 #[.int .u32 (x : Nat), .pointer (some ⟨b, 0, none⟩)] w (Rd b T ⟨i.op, i.form, i.frm, i.kind, fld x 7 5, fld x 15 5, i.rs2, i.rs3, fld x 12 3, i.imm, i.csr⟩ w) := by
  go_enter Tryd.func61, Tryd.ntmps61
  go_wp2_with fail
  refine (t_five7 x hx _).mono ?_
  rintro r w1 ⟨rfl, hw1⟩
  rw [hw1]
  clear hw1 w1
  go_wp2_with fail
  refine (t_five15 x hx _).mono ?_
  rintro r w1 ⟨rfl, hw1⟩
  rw [hw1]
  clear hw1 w1
  have f0 := fz (k := 4) h0
  have c0 := cell7 h0 4 _ rfl
  have h1 : (w.setCell ⟨b, 4, none⟩ (.int .u8 (fld x 7 5 : Nat))).heap[b]? = some (.cells (inC ⟨i.op, i.form, i.frm, i.kind, fld x 7 5, i.rs1, i.rs2, i.rs3, i.rm, i.imm, i.csr⟩) T) := by rw [setCell_row h0]; rfl
  have f1 := fz (k := 5) h1
  have c1 := cell7 h1 5 _ rfl
  have h2 : ((w.setCell ⟨b, 4, none⟩ (.int .u8 (fld x 7 5 : Nat))).setCell ⟨b, 5, none⟩ (.int .u8 (fld x 15 5 : Nat))).heap[b]? = some (.cells (inC ⟨i.op, i.form, i.frm, i.kind, fld x 7 5, fld x 15 5, i.rs2, i.rs3, i.rm, i.imm, i.csr⟩) T) := by rw [setCell_row h1]; rfl
  go_wp2_with fail
  refine (t_mode x hx _).mono ?_
  rintro r w1 ⟨rfl, hw1⟩
  rw [hw1]
  clear hw1 w1
  have f2 := fz (k := 8) h2
  have c2 := cell7 h2 8 _ rfl
  have h3 : (((w.setCell ⟨b, 4, none⟩ (.int .u8 (fld x 7 5 : Nat))).setCell ⟨b, 5, none⟩ (.int .u8 (fld x 15 5 : Nat))).setCell ⟨b, 8, none⟩ (.int .u8 (fld x 12 3 : Nat))).heap[b]? = some (.cells (inC ⟨i.op, i.form, i.frm, i.kind, fld x 7 5, fld x 15 5, i.rs2, i.rs3, fld x 12 3, i.imm, i.csr⟩) T) := by rw [setCell_row h2]; rfl
  go_wp2
  first | go_end0 | go_ret
  exact ⟨⟨_, rfl⟩, h3, fun n hn => (((Below.refl _ w).setCell (by exact hn) _).setCell (by exact hn) _).setCell (by exact hn) _⟩
set_option maxRecDepth 100000 in
set_option maxHeartbeats 8000000 in
theorem t_rd7 (x : Nat) (hx : x < 4294967296) (i : In) (b : Nat) (T : TypeId) (w : World) (h0 : w.heap[b]? = some (.cells (inC i) T)) : Calls Tryd.prog 62 #[.int .u32 (x : Nat), .pointer (some ⟨b, 0, none⟩)] w (Rd b T ⟨i.op, i.form, i.frm, i.kind, fld x 7 5, fld x 15 5, i.rs2, i.rs3, i.rm, i.imm, i.csr⟩ w) := by
  go_enter Tryd.func62, Tryd.ntmps62
  go_wp2_with fail
  refine (t_five7 x hx _).mono ?_
  rintro r w1 ⟨rfl, hw1⟩
  rw [hw1]
  clear hw1 w1
  go_wp2_with fail
  refine (t_five15 x hx _).mono ?_
  rintro r w1 ⟨rfl, hw1⟩
  rw [hw1]
  clear hw1 w1
  have f0 := fz (k := 4) h0
  have c0 := cell7 h0 4 _ rfl
  have h1 : (w.setCell ⟨b, 4, none⟩ (.int .u8 (fld x 7 5 : Nat))).heap[b]? = some (.cells (inC ⟨i.op, i.form, i.frm, i.kind, fld x 7 5, i.rs1, i.rs2, i.rs3, i.rm, i.imm, i.csr⟩) T) := by rw [setCell_row h0]; rfl
  have f1 := fz (k := 5) h1
  have c1 := cell7 h1 5 _ rfl
  have h2 : ((w.setCell ⟨b, 4, none⟩ (.int .u8 (fld x 7 5 : Nat))).setCell ⟨b, 5, none⟩ (.int .u8 (fld x 15 5 : Nat))).heap[b]? = some (.cells (inC ⟨i.op, i.form, i.frm, i.kind, fld x 7 5, fld x 15 5, i.rs2, i.rs3, i.rm, i.imm, i.csr⟩) T) := by rw [setCell_row h1]; rfl
  go_wp2
  first | go_end0 | go_ret
  exact ⟨⟨_, rfl⟩, h2, fun n hn => ((Below.refl _ w).setCell (by exact hn) _).setCell (by exact hn) _⟩
set_option maxRecDepth 100000 in
set_option maxHeartbeats 8000000 in
theorem t_rd8 (x : Nat) (hx : x < 4294967296) (hc3 : fld x 20 12 ≤ 3) (i : In) (b : Nat) (T : TypeId) (w : World) (h0 : w.heap[b]? = some (.cells (inC i) T)) : Calls Tryd.prog 63 #[.int .u32 (x : Nat), .pointer (some ⟨b, 0, none⟩)] w (Rd b T ⟨i.op, i.form, i.frm, i.kind, fld x 7 5, fld x 15 5, i.rs2, i.rs3, i.rm, i.imm, fld x 20 12⟩ w) := by
  have hcs : (x : Int) / 1048576 % 256 = ((fld x 20 12 : Nat) : Int) := by
    have e : fld x 20 12 = x / 1048576 % 4096 := rfl
    omega
  go_enter Tryd.func63, Tryd.ntmps63
  go_wp2_with fail
  refine (t_five7 x hx _).mono ?_
  rintro r w1 ⟨rfl, hw1⟩
  rw [hw1]
  clear hw1 w1
  go_wp2_with fail
  refine (t_five15 x hx _).mono ?_
  rintro r w1 ⟨rfl, hw1⟩
  rw [hw1]
  clear hw1 w1
  have f0 := fz (k := 4) h0
  have c0 := cell7 h0 4 _ rfl
  have h1 : (w.setCell ⟨b, 4, none⟩ (.int .u8 (fld x 7 5 : Nat))).heap[b]? = some (.cells (inC ⟨i.op, i.form, i.frm, i.kind, fld x 7 5, i.rs1, i.rs2, i.rs3, i.rm, i.imm, i.csr⟩) T) := by rw [setCell_row h0]; rfl
  have f1 := fz (k := 5) h1
  have c1 := cell7 h1 5 _ rfl
  have h2 : ((w.setCell ⟨b, 4, none⟩ (.int .u8 (fld x 7 5 : Nat))).setCell ⟨b, 5, none⟩ (.int .u8 (fld x 15 5 : Nat))).heap[b]? = some (.cells (inC ⟨i.op, i.form, i.frm, i.kind, fld x 7 5, fld x 15 5, i.rs2, i.rs3, i.rm, i.imm, i.csr⟩) T) := by rw [setCell_row h1]; rfl
  have f2 := fz (k := 10) h2
  have c2 := cell7 h2 10 _ rfl
  have h3 : (((w.setCell ⟨b, 4, none⟩ (.int .u8 (fld x 7 5 : Nat))).setCell ⟨b, 5, none⟩ (.int .u8 (fld x 15 5 : Nat))).setCell ⟨b, 10, none⟩ (.int .u8 (fld x 20 12 : Nat))).heap[b]? = some (.cells (inC ⟨i.op, i.form, i.frm, i.kind, fld x 7 5, fld x 15 5, i.rs2, i.rs3, i.rm, i.imm, fld x 20 12⟩) T) := by rw [setCell_row h2]; rfl
  go_wp2
  first | go_end0 | go_ret
  exact ⟨⟨_, rfl⟩, h3, fun n hn => (((Below.refl _ w).setCell (by exact hn) _).setCell (by exact hn) _).setCell (by exact hn) _⟩
def rdrs : Array Value := #[.func (.func 52) #[] #[], .func (.func 53) #[] #[], .func (.func 56) #[] #[], .func (.func 57) #[] #[], .func (.func 59) #[] #[], .func (.func 60) #[] #[], .func (.func 61) #[] #[], .func (.func 62) #[] #[], .func (.func 63) #[] #[], .func (.func 63) #[] #[]]
theorem rdrs_fold : #[Value.func (.func 52) #[] #[], .func (.func 53) #[] #[], .func (.func 56) #[] #[], .func (.func 57) #[] #[], .func (.func 59) #[] #[], .func (.func 60) #[] #[], .func (.func 61) #[] #[], .func (.func 62) #[] #[], .func (.func 63) #[] #[], .func (.func 63) #[] #[]] = rdrs := rfl
theorem rdrs_store {w : World} {b : Nat} {c : Array Value} {T : TypeId} (h : w.heap[b]? = some (.cells c T)) (hc : c.size = 10) : (storeCells ⟨b, 0, none⟩ rdrs.toList 0).run Tryd.prog w = .ok () (w.setRow b rdrs) := by
  have := run_storeCells_from (P := Tryd.prog) b T rdrs.toList 0 c w h (by simp [rdrs, hc]) (fun v hv => by
    simp [rdrs] at hv
    rcases hv with rfl | rfl | rfl | rfl | rfl | rfl | rfl | rfl | rfl <;> rfl)
  have e : List.drop 10 c.toList = [] := List.drop_eq_nil_of_le (by rw [Array.length_toList, hc]; exact Nat.le_refl _)
  simpa [rdrs, e] using this
theorem rdrs_lv {w : World} {b : Nat} {T : TypeId} (h : w.heap[b]? = some (.cells rdrs T)) : (loadVar 86 ⟨b, 0, none⟩).run Tryd.prog w = .ok (.agg rdrs) w := by
  have ha : (isAgg 86).run Tryd.prog w = .ok true w := by kernel_rfl
  have hs : (sizeOf 86).run Tryd.prog w = .ok 10 w := by kernel_rfl
  have q := run_loadCells_list (P := Tryd.prog) w ⟨b, 0, none⟩ rdrs.toList (fun j v hv => by
    have hadd : (⟨b, 0, none⟩ : Addr).add j = ⟨b, j, none⟩ := by unfold Addr.add; split <;> simp_all
    rw [hadd]
    exact cell7 h j v (by simpa using hv))
  rw [Array.length_toList, show rdrs.size = 10 from rfl] at q
  simp only [Sem.run_bind, Sem.run_pure, Result.andThen, loadVar, ha, hs, if_true, q]
theorem res_rdrs {fn : Func} {z : Tmp} (h : fn.results = #[.cell z 86]) {tmps : Array Value} {w : World} {b : Nat} {T : TypeId} (hz : tmps.getD z undef = .pointer (some ⟨b, 0, none⟩)) (hr : w.heap[b]? = some (.cells rdrs T)) : (results fn tmps).run Tryd.prog w = .ok (.agg rdrs) w := by
  have q := rdrs_lv hr
  have hz2 : tmps[z]?.getD undef = .pointer (some ⟨b, 0, none⟩) := by rw [← Array.getD_eq_getD_getElem?]; exact hz
  simp [results, h, hz2, asAddr, q, Result.andThen]
set_option maxRecDepth 100000 in
set_option maxHeartbeats 8000000 in
theorem t_readers (w : World) : Calls Tryd.prog 36 #[] w fun r w' => r = .returned (.agg rdrs) ∧ Below w.heap.size w w' := by
  have hf := rdrs_fold
  obtain ⟨Rz_0, B0⟩ := opn1 w (Obj.cells #[.nilFunc, .nilFunc, .nilFunc, .nilFunc, .nilFunc, .nilFunc, .nilFunc, .nilFunc, .nilFunc, .nilFunc] 86)
  go_enter Tryd.func36, Tryd.ntmps36
  have hst := rdrs_store Rz_0 rfl
  have rz := setRow_row (c' := rdrs) Rz_0
  have bz : Below w.heap.size w ((w.alloc (Obj.cells #[.nilFunc, .nilFunc, .nilFunc, .nilFunc, .nilFunc, .nilFunc, .nilFunc, .nilFunc, .nilFunc, .nilFunc] 86)).setRow w.heap.size rdrs) := Below.setRow B0 (Nat.le_refl _)
  obtain ⟨wz, hwz⟩ : ∃ V, (w.alloc (Obj.cells #[.nilFunc, .nilFunc, .nilFunc, .nilFunc, .nilFunc, .nilFunc, .nilFunc, .nilFunc, .nilFunc, .nilFunc] 86)).setRow w.heap.size rdrs = V := ⟨_, rfl⟩
  rw [hwz] at hst rz bz
  clear hwz
  go_wp2
  exact bodyPost_ret (v := .agg rdrs) (res_rdrs Tryd.results36 rfl rz) rfl ⟨rfl, bz⟩
end Go.Proofs.YtaoccmopfflkmaaDoor
namespace Go.Proofs.YtaoccmopfflkmaaDoor
set_option maxRecDepth 100000
set_option maxHeartbeats 40000000
set_option maxRecDepth 100000
open Go.RowKit WMath
set_option linter.unusedSimpArgs false
set_option linter.unusedVariables false
set_option maxRecDepth 100000 in
set_option maxHeartbeats 8000000 in
theorem t_dec_no (x : Nat) (ro : Rw) (KF : Box (∀ w, T24 w → Calls Tryd.prog 29 #[.int .u32 (x : Nat)] w fun r w' => r = .returned (.tuple #[.agg (rwC ro), .bool false]) ∧ Below w.heap.size w w')) (w : World) (hT : T24 w) : Calls Tryd.prog 20 #[.int .u32 (x : Nat)] w fun r w' => r = .returned (.tuple #[.agg (inC inZ), .int .i64 250]) ∧ Below w.heap.size w w' := by
  have FF := box hT
  clear hT
  have hiz := in_zero
  have hro := rwC_fold ro
  have hrn := rwC_new
  obtain ⟨Rz_0, B0⟩ := opn1 w (Obj.cells #[.int .u8 0, .int .u8 0, .int .u8 0, .int .u8 0, .int .u8 0, .int .u8 0, .int .u8 0, .int .u8 0, .int .u8 0, .int .i16 0, .int .u8 0] 27)
  go_enter Tryd.func20, Tryd.ntmps20
  go_wp2_with fail
  refine (KF.out _ (t24B FF.out B0)).mono ?_
  rintro r w1 ⟨rfl, b1⟩
  have B1 : Below w.heap.size w w1 := btr B0 b1
  have Rz_1 := heap_of b1 _ _ _ Rz_0
  clear b1 B0 Rz_0
  have S2 := box B1.size
  have Lz_2 : Box (w.heap.size < w1.heap.size) := box (Array.getElem?_eq_some_iff.1 Rz_1).1
  have Rt_2 := heap_alloc_last w1 (Obj.cells (rwC ro) 45)
  have B2 := btr B1 (bal w1 (Obj.cells (rwC ro) 45))
  have Rz_2 := heap_of (bal w1 (Obj.cells (rwC ro) 45)) _ _ _ Rz_1
  clear B1 Rz_1
  obtain ⟨ct_2_0, ct_2_1, ct_2_2, ct_2_3, ct_2_4, ct_2_5, ct_2_6⟩ := rwC_cells Rt_2
  have hst := inC_store (x := inZ) Rz_2 rfl
  have rz := setRow_row (c' := inC inZ) Rz_2
  have bz : Below w.heap.size w ((w1.alloc (Obj.cells (rwC ro) 45)).setRow (w.heap.size) (inC inZ)) := Below.setRow B2 (show w.heap.size ≤ w.heap.size by first | exact Nat.le_refl _ | omega | (have := S2.out; have := Lz_2.out; omega))
  obtain ⟨wz, hwz⟩ : ∃ V, (w1.alloc (Obj.cells (rwC ro) 45)).setRow (w.heap.size) (inC inZ) = V := ⟨_, rfl⟩
  rw [hwz] at hst rz bz
  clear hwz
  go_wp2
  exact bodyPost_ret (v := .tuple #[.agg (inC inZ), .int .i64 250]) (res_inC Tryd.results20 rfl rz) rfl ⟨rfl, bz⟩
set_option maxRecDepth 100000 in
set_option maxHeartbeats 8000000 in
theorem t_dec_y (x : Nat) (ro : Rw) (gf : Nat) (j : In) (hix : ∀ w : World, (Instr.index 86 (.agg rdrs) (.int .u8 (ro.lay : Nat))).run Tryd.prog w = .ok (.func (.func gf) #[] #[]) w)
    (KR : Box (∀ (b : Nat) (w : World), w.heap[b]? = some (.cells (inC ⟨ro.op, ro.form, ro.frm, ro.kind, 0, 0, 0, 0, 0, 0, 0⟩) 27) → Calls Tryd.prog gf #[.int .u32 (x : Nat), .pointer (some ⟨b, 0, none⟩)] w (Rd b 27 j w)))
    (hE : ∀ args w, (callFunc gf args).run Tryd.prog w = .ok (.enter gf args) w)
    (KF : Box (∀ w, T24 w → Calls Tryd.prog 29 #[.int .u32 (x : Nat)] w fun r w' => r = .returned (.tuple #[.agg (rwC ro), .bool true]) ∧ Below w.heap.size w w')) (w : World) (hT : T24 w) : Calls Tryd.prog 20 #[.int .u32 (x : Nat)] w fun r w' => r = .returned (.tuple #[.agg (inC j), .int .i64 0]) ∧ Below w.heap.size w w' := by
  have FF := box hT
  clear hT
  have hro := rwC_fold ro
  have hrn := rwC_new
  have hin := inC_new
  have hif := in_fold0
  have hjf := inC_fold j
  have hr0 := rw_at0
  have hr1 := rw_at1
  have hr2 := rw_at2
  have hr3 := rw_at3
  have hr4 := rw_at4
  have hr5 := rw_at5
  have hr6 := rw_at6
  obtain ⟨Rz_0, B0⟩ := opn1 w (Obj.cells #[.int .u8 0, .int .u8 0, .int .u8 0, .int .u8 0, .int .u8 0, .int .u8 0, .int .u8 0, .int .u8 0, .int .u8 0, .int .i16 0, .int .u8 0] 27)
  go_enter Tryd.func20, Tryd.ntmps20
  go_wp2_with fail
  refine (KF.out _ (t24B FF.out B0)).mono ?_
  rintro r w1 ⟨rfl, b1⟩
  have B1 : Below w.heap.size w w1 := btr B0 b1
  have Rz_1 := heap_of b1 _ _ _ Rz_0
  clear b1 B0 Rz_0
  have S2 := box B1.size
  have Lz_2 : Box (w.heap.size < w1.heap.size) := box (Array.getElem?_eq_some_iff.1 Rz_1).1
  have Rt_2 := heap_alloc_last w1 (Obj.cells (rwC ro) 45)
  have B2 := btr B1 (bal w1 (Obj.cells (rwC ro) 45))
  have Rz_2 := heap_of (bal w1 (Obj.cells (rwC ro) 45)) _ _ _ Rz_1
  clear B1 Rz_1
  obtain ⟨ct_2_0, ct_2_1, ct_2_2, ct_2_3, ct_2_4, ct_2_5, ct_2_6⟩ := rwC_cells Rt_2
  have S3 := box B2.size
  have Lz_3 : Box (w.heap.size < (w1.alloc (Obj.cells (rwC ro) 45)).heap.size) := box (Array.getElem?_eq_some_iff.1 Rz_2).1
  have Lt_3 : Box (w1.heap.size < (w1.alloc (Obj.cells (rwC ro) 45)).heap.size) := box (Array.getElem?_eq_some_iff.1 Rt_2).1
  have Z3 := box (size_al w1 (Obj.cells (rwC ro) 45))
  have Ri_3 : ((w1.alloc (Obj.cells (rwC ro) 45)).alloc (Obj.cells (inC ⟨ro.op, ro.form, ro.frm, ro.kind, 0, 0, 0, 0, 0, 0, 0⟩) 27)).heap[w1.heap.size + 1]? = some (Obj.cells (inC ⟨ro.op, ro.form, ro.frm, ro.kind, 0, 0, 0, 0, 0, 0, 0⟩) 27) := by have := heap_alloc_last (w1.alloc (Obj.cells (rwC ro) 45)) (Obj.cells (inC ⟨ro.op, ro.form, ro.frm, ro.kind, 0, 0, 0, 0, 0, 0, 0⟩) 27); simpa only [size_al] using this
  have B3 := btr B2 (bal (w1.alloc (Obj.cells (rwC ro) 45)) (Obj.cells (inC ⟨ro.op, ro.form, ro.frm, ro.kind, 0, 0, 0, 0, 0, 0, 0⟩) 27))
  have Rz_3 := heap_of (bal (w1.alloc (Obj.cells (rwC ro) 45)) (Obj.cells (inC ⟨ro.op, ro.form, ro.frm, ro.kind, 0, 0, 0, 0, 0, 0, 0⟩) 27)) _ _ _ Rz_2
  have Rt_3 := heap_of (bal (w1.alloc (Obj.cells (rwC ro) 45)) (Obj.cells (inC ⟨ro.op, ro.form, ro.frm, ro.kind, 0, 0, 0, 0, 0, 0, 0⟩) 27)) _ _ _ Rt_2
  clear B2 Rz_2 Rt_2 ct_2_0 ct_2_1 ct_2_2 ct_2_3 ct_2_4 ct_2_5 ct_2_6
  obtain ⟨ct_3_0, ct_3_1, ct_3_2, ct_3_3, ct_3_4, ct_3_5, ct_3_6⟩ := rwC_cells Rt_3
  obtain ⟨ci_3_0, ci_3_1, ci_3_2, ci_3_3, ci_3_4, ci_3_5, ci_3_6, ci_3_7, ci_3_8, ci_3_9, ci_3_10⟩ := inC_cells Ri_3
  clear ci_3_0 ci_3_1 ci_3_2 ci_3_3 ci_3_4 ci_3_5 ci_3_6 ci_3_7 ci_3_8 ci_3_9 ci_3_10
  go_wp2_with fail
  obtain ⟨F, hF1, hF2⟩ := below_fun ((w1.alloc (Obj.cells (rwC ro) 45)).alloc (Obj.cells (inC ⟨ro.op, ro.form, ro.frm, ro.kind, 0, 0, 0, 0, 0, 0, 0⟩) 27))
  have fz_0 := fun u => cells4 (heap_of (hF1 u) _ _ _ Rz_3) 0 _ rfl
  have fz_1 := fun u => cells4 (heap_of (hF1 u) _ _ _ Rz_3) 1 _ rfl
  have fz_2 := fun u => cells4 (heap_of (hF1 u) _ _ _ Rz_3) 2 _ rfl
  have fz_3 := fun u => cells4 (heap_of (hF1 u) _ _ _ Rz_3) 3 _ rfl
  have fz_4 := fun u => cells4 (heap_of (hF1 u) _ _ _ Rz_3) 4 _ rfl
  have fz_5 := fun u => cells4 (heap_of (hF1 u) _ _ _ Rz_3) 5 _ rfl
  have fz_6 := fun u => cells4 (heap_of (hF1 u) _ _ _ Rz_3) 6 _ rfl
  have fz_7 := fun u => cells4 (heap_of (hF1 u) _ _ _ Rz_3) 7 _ rfl
  have fz_8 := fun u => cells4 (heap_of (hF1 u) _ _ _ Rz_3) 8 _ rfl
  have fz_9 := fun u => cells4 (heap_of (hF1 u) _ _ _ Rz_3) 9 _ rfl
  have fz_10 := fun u => cells4 (heap_of (hF1 u) _ _ _ Rz_3) 10 _ rfl
  have ft_0 := fun u => (rwC_cells (heap_of (hF1 u) _ _ _ Rt_3)).1
  have ft_1 := fun u => (rwC_cells (heap_of (hF1 u) _ _ _ Rt_3)).2.1
  have ft_2 := fun u => (rwC_cells (heap_of (hF1 u) _ _ _ Rt_3)).2.2.1
  have ft_3 := fun u => (rwC_cells (heap_of (hF1 u) _ _ _ Rt_3)).2.2.2.1
  have ft_4 := fun u => (rwC_cells (heap_of (hF1 u) _ _ _ Rt_3)).2.2.2.2.1
  have ft_5 := fun u => (rwC_cells (heap_of (hF1 u) _ _ _ Rt_3)).2.2.2.2.2.1
  have ft_6 := fun u => (rwC_cells (heap_of (hF1 u) _ _ _ Rt_3)).2.2.2.2.2.2
  refine wp_region_below F hF2 (by kernel_rfl) (by kernel_rfl) ?_
  repeat first | go_big_quiet_step (first | (go_at_call 36; exact quietF hF1 hF2 (t_readers _)) | fail) | quiet_step (first | (go_at_call 36; exact quietF hF1 hF2 (t_readers _)) | fail)
  refine wpQuiet_nil ?_
  rintro _ ⟨uW, rfl⟩
  have B4 := btr B3 (hF1 uW)
  have Rz_4 := heap_of (hF1 uW) _ _ _ Rz_3
  have Rt_4 := heap_of (hF1 uW) _ _ _ Rt_3
  have Ri_4 := heap_of (hF1 uW) _ _ _ Ri_3
  obtain ⟨w4, hw⟩ : ∃ V, F uW = V := ⟨_, rfl⟩
  rw [hw] at B4 Rz_4 Rt_4 Ri_4
  try rw [hw]
  clear hw hF1 hF2 B3 fz_0 fz_1 fz_2 fz_3 fz_4 fz_5 fz_6 fz_7 fz_8 fz_9 fz_10 ft_0 ft_1 ft_2 ft_3 ft_4 ft_5 ft_6 Rz_3 Rt_3 ct_3_0 ct_3_1 ct_3_2 ct_3_3 ct_3_4 ct_3_5 ct_3_6 Ri_3
  clear F
  obtain ⟨ct_4_0, ct_4_1, ct_4_2, ct_4_3, ct_4_4, ct_4_5, ct_4_6⟩ := rwC_cells Rt_4
  go_wp2_with fail
  refine (KR.out _ _ Ri_4).mono ?_
  rintro r w5 ⟨⟨v5, rfl⟩, Ri_5, b5⟩
  have B5 : Below w.heap.size w w5 := B4.trans (b5 _ (by first | exact Nat.le_refl _ | (have := S2.out; have := Lz_2.out; have := Z3.out; have := S3.out; have := Lz_3.out; have := Lt_3.out; show w.heap.size ≤ w1.heap.size + 1; omega)))
  have Rz_5 : w5.heap[w.heap.size]? = some (Obj.cells #[.int .u8 0, .int .u8 0, .int .u8 0, .int .u8 0, .int .u8 0, .int .u8 0, .int .u8 0, .int .u8 0, .int .u8 0, .int .i16 0, .int .u8 0] 27) := by rw [(b5 _ (Nat.le_refl _)).block _ (by first | omega | (have := S2.out; have := Lz_2.out; have := Z3.out; have := S3.out; have := Lz_3.out; have := Lt_3.out; omega))]; exact Rz_4
  have Rt_5 : w5.heap[w1.heap.size]? = some (Obj.cells (rwC ro) 45) := by rw [(b5 _ (Nat.le_refl _)).block _ (by first | omega | (have := S2.out; have := Lz_2.out; have := Z3.out; have := S3.out; have := Lz_3.out; have := Lt_3.out; omega))]; exact Rt_4
  clear b5 B4 Rz_4 Rt_4 ct_4_0 ct_4_1 ct_4_2 ct_4_3 ct_4_4 ct_4_5 ct_4_6 Ri_4
  obtain ⟨ct_5_0, ct_5_1, ct_5_2, ct_5_3, ct_5_4, ct_5_5, ct_5_6⟩ := rwC_cells Rt_5
  clear Rt_5 ct_5_0 ct_5_1 ct_5_2 ct_5_3 ct_5_4 ct_5_5 ct_5_6
  obtain ⟨ci_5_0, ci_5_1, ci_5_2, ci_5_3, ci_5_4, ci_5_5, ci_5_6, ci_5_7, ci_5_8, ci_5_9, ci_5_10⟩ := inC_cells Ri_5
  have hst := inC_store (x := j) Rz_5 rfl
  have rz := setRow_row (c' := inC j) Rz_5
  have bz : Below w.heap.size w (w5.setRow (w.heap.size) (inC j)) := Below.setRow B5 (show w.heap.size ≤ w.heap.size by first | exact Nat.le_refl _ | omega | (have := S2.out; have := Lz_2.out; have := Z3.out; have := S3.out; have := Lz_3.out; have := Lt_3.out; omega))
  obtain ⟨wz, hwz⟩ : ∃ V, w5.setRow (w.heap.size) (inC j) = V := ⟨_, rfl⟩
  rw [hwz] at hst rz bz
  clear hwz
  go_wp2
  exact bodyPost_ret (v := .tuple #[.agg (inC j), .int .i64 0]) (res_inC Tryd.results20 rfl rz) rfl ⟨rfl, bz⟩
end Go.Proofs.YtaoccmopfflkmaaDoor
namespace Go.Proofs.YtaoccmopfflkmaaDoor
set_option maxRecDepth 100000
set_option maxHeartbeats 40000000
set_option maxRecDepth 100000
open Go.RowKit Go.Shelf WMath
set_option linter.unusedSimpArgs false
set_option linter.unusedVariables false
theorem hE25 : ∀ args w, (callFunc 48 args).run Tryd.prog w = .ok (.enter 48 args) w := enters_of Tryd.func48 (by kernel_rfl) rfl
theorem fb25 : Box (∀ {w w' : World}, T24 w → Below w.heap.size w w' → T24 w') := box (fun h b => t24B h b)
theorem cF25 (x : Nat) (hx : x < 4294967296) : Box (∀ w, T24 w → Calls Tryd.prog 29 #[.int .u32 (x : Nat)] w fun r w' => r = .returned (.tuple #[.agg (rwC (ndO (fdL x)).1), .bool (fdL x).isSome]) ∧ Below w.heap.size w w') := box (fun w hT => t_find x hx hE25 _ _ rfl w hT)
theorem csr_le {x : Nat} {p : Nm} (h : fdL x = some p) (hl : p.1.lay = 8 ∨ p.1.lay = 9) : fld x 20 12 ≤ 3 := by
  obtain ⟨hm, hf⟩ := fd_mem h
  unfold fitsL at hf
  simp only [Bool.and_eq_true, Bool.not_eq_true', Bool.or_eq_true, decide_eq_true_eq, Bool.and_eq_false_iff, decide_eq_false_iff_not] at hf
  obtain ⟨⟨_, hr⟩, hc⟩ := hf
  have a6 : fld x 20 12 = x / 1048576 % 4096 := rfl
  omega
set_option maxRecDepth 100000 in
set_option maxHeartbeats 8000000 in
theorem k_dec1 (x : Nat) (hx : x < 4294967296) (p : Nm) (h : fdL x = some p) (hl : p.1.lay = 1) (KF : Box (∀ w, T24 w → Calls Tryd.prog 29 #[.int .u32 (x : Nat)] w fun r w' => r = .returned (.tuple #[.agg (rwC p.1), .bool true]) ∧ Below w.heap.size w w')) (w : World) (hT : T24 w) : Calls Tryd.prog 20 #[.int .u32 (x : Nat)] w fun r w' => r = .returned (.tuple #[.agg (inC (dcI p.1 x)), .int .i64 0]) ∧ Below w.heap.size w w' := by
  refine t_dec_y x p.1 53 _ (fun w => by rw [hl]; rfl) (box (fun b w hb => ?_)) (enters_of Tryd.func53 (by kernel_rfl) rfl) KF w hT
  have q := t_rd1 x hx _ b 27 w hb
  unfold dcI
  simp only [hl]
  simpa using q
set_option maxRecDepth 100000 in
set_option maxHeartbeats 8000000 in
theorem k_dec2 (x : Nat) (hx : x < 4294967296) (p : Nm) (h : fdL x = some p) (hl : p.1.lay = 2) (KF : Box (∀ w, T24 w → Calls Tryd.prog 29 #[.int .u32 (x : Nat)] w fun r w' => r = .returned (.tuple #[.agg (rwC p.1), .bool true]) ∧ Below w.heap.size w w')) (w : World) (hT : T24 w) : Calls Tryd.prog 20 #[.int .u32 (x : Nat)] w fun r w' => r = .returned (.tuple #[.agg (inC (dcI p.1 x)), .int .i64 0]) ∧ Below w.heap.size w w' := by
  refine t_dec_y x p.1 56 _ (fun w => by rw [hl]; rfl) (box (fun b w hb => ?_)) (enters_of Tryd.func56 (by kernel_rfl) rfl) KF w hT
  have q := t_rd2 x hx _ b 27 w hb
  unfold dcI
  simp only [hl]
  simpa using q
set_option maxRecDepth 100000 in
set_option maxHeartbeats 8000000 in
theorem k_dec3 (x : Nat) (hx : x < 4294967296) (p : Nm) (h : fdL x = some p) (hl : p.1.lay = 3) (KF : Box (∀ w, T24 w → Calls Tryd.prog 29 #[.int .u32 (x : Nat)] w fun r w' => r = .returned (.tuple #[.agg (rwC p.1), .bool true]) ∧ Below w.heap.size w w')) (w : World) (hT : T24 w) : Calls Tryd.prog 20 #[.int .u32 (x : Nat)] w fun r w' => r = .returned (.tuple #[.agg (inC (dcI p.1 x)), .int .i64 0]) ∧ Below w.heap.size w w' := by
  refine t_dec_y x p.1 57 _ (fun w => by rw [hl]; rfl) (box (fun b w hb => ?_)) (enters_of Tryd.func57 (by kernel_rfl) rfl) KF w hT
  have q := t_rd3 x hx _ b 27 w hb
  unfold dcI
  simp only [hl]
  simpa using q
set_option maxRecDepth 100000 in
set_option maxHeartbeats 8000000 in
theorem k_dec4 (x : Nat) (hx : x < 4294967296) (p : Nm) (h : fdL x = some p) (hl : p.1.lay = 4) (KF : Box (∀ w, T24 w → Calls Tryd.prog 29 #[.int .u32 (x : Nat)] w fun r w' => r = .returned (.tuple #[.agg (rwC p.1), .bool true]) ∧ Below w.heap.size w w')) (w : World) (hT : T24 w) : Calls Tryd.prog 20 #[.int .u32 (x : Nat)] w fun r w' => r = .returned (.tuple #[.agg (inC (dcI p.1 x)), .int .i64 0]) ∧ Below w.heap.size w w' := by
  refine t_dec_y x p.1 59 _ (fun w => by rw [hl]; rfl) (box (fun b w hb => ?_)) (enters_of Tryd.func59 (by kernel_rfl) rfl) KF w hT
  have q := t_rd4 x hx _ b 27 w hb
  unfold dcI
  simp only [hl]
  simpa using q
set_option maxRecDepth 100000 in
set_option maxHeartbeats 8000000 in
theorem k_dec5 (x : Nat) (hx : x < 4294967296) (p : Nm) (h : fdL x = some p) (hl : p.1.lay = 5) (KF : Box (∀ w, T24 w → Calls Tryd.prog 29 #[.int .u32 (x : Nat)] w fun r w' => r = .returned (.tuple #[.agg (rwC p.1), .bool true]) ∧ Below w.heap.size w w')) (w : World) (hT : T24 w) : Calls Tryd.prog 20 #[.int .u32 (x : Nat)] w fun r w' => r = .returned (.tuple #[.agg (inC (dcI p.1 x)), .int .i64 0]) ∧ Below w.heap.size w w' := by
  refine t_dec_y x p.1 60 _ (fun w => by rw [hl]; rfl) (box (fun b w hb => ?_)) (enters_of Tryd.func60 (by kernel_rfl) rfl) KF w hT
  have q := t_rd5 x hx _ b 27 w hb
  unfold dcI
  simp only [hl]
  simpa using q
set_option maxRecDepth 100000 in
set_option maxHeartbeats 8000000 in
theorem k_dec6 (x : Nat) (hx : x < 4294967296) (p : Nm) (h : fdL x = some p) (hl : p.1.lay = 6) (KF : Box (∀ w, T24 w → Calls Tryd.prog 29 #[.int .u32 (x : Nat)] w fun r w' => r = .returned (.tuple #[.agg (rwC p.1), .bool true]) ∧ Below w.heap.size w w')) (w : World) (hT : T24 w) : Calls Tryd.prog 20 #[.int .u32 (x : Nat)] w fun r w' => r = .returned (.tuple #[.agg (inC (dcI p.1 x)), .int .i64 0]) ∧ Below w.heap.size w w' := by
  refine t_dec_y x p.1 61 _ (fun w => by rw [hl]; rfl) (box (fun b w hb => ?_)) (enters_of Tryd.func61 (by kernel_rfl) rfl) KF w hT
  have q := t_rd6 x hx _ b 27 w hb
  unfold dcI
  simp only [hl]
  simpa using q
set_option maxRecDepth 100000 in
set_option maxHeartbeats 8000000 in
theorem k_dec7 (x : Nat) (hx : x < 4294967296) (p : Nm) (h : fdL x = some p) (hl : p.1.lay = 7) (KF : Box (∀ w, T24 w → Calls Tryd.prog 29 #[.int .u32 (x : Nat)] w fun r w' => r = .returned (.tuple #[.agg (rwC p.1), .bool true]) ∧ Below w.heap.size w w')) (w : World) (hT : T24 w) : Calls Tryd.prog 20 #[.int .u32 (x : Nat)] w fun r w' => r = .returned (.tuple #[.agg (inC (dcI p.1 x)), .int .i64 0]) ∧ Below w.heap.size w w' := by
  refine t_dec_y x p.1 62 _ (fun w => by rw [hl]; rfl) (box (fun b w hb => ?_)) (enters_of Tryd.func62 (by kernel_rfl) rfl) KF w hT
  have q := t_rd7 x hx _ b 27 w hb
  unfold dcI
  simp only [hl]
  simpa using q
set_option maxRecDepth 100000 in
set_option maxHeartbeats 8000000 in
theorem k_dec8 (x : Nat) (hx : x < 4294967296) (p : Nm) (h : fdL x = some p) (hl : p.1.lay = 8) (KF : Box (∀ w, T24 w → Calls Tryd.prog 29 #[.int .u32 (x : Nat)] w fun r w' => r = .returned (.tuple #[.agg (rwC p.1), .bool true]) ∧ Below w.heap.size w w')) (w : World) (hT : T24 w) : Calls Tryd.prog 20 #[.int .u32 (x : Nat)] w fun r w' => r = .returned (.tuple #[.agg (inC (dcI p.1 x)), .int .i64 0]) ∧ Below w.heap.size w w' := by
  refine t_dec_y x p.1 63 _ (fun w => by rw [hl]; rfl) (box (fun b w hb => ?_)) (enters_of Tryd.func63 (by kernel_rfl) rfl) KF w hT
  have hc := csr_le h (by omega)
  have e : fld x 20 12 % 256 = fld x 20 12 := Nat.mod_eq_of_lt (by omega)
  have q := t_rd8 x hx hc _ b 27 w hb
  unfold dcI
  simp only [hl]
  simpa [e] using q
set_option maxRecDepth 100000 in
set_option maxHeartbeats 8000000 in
theorem k_dec9 (x : Nat) (hx : x < 4294967296) (p : Nm) (h : fdL x = some p) (hl : p.1.lay = 9) (KF : Box (∀ w, T24 w → Calls Tryd.prog 29 #[.int .u32 (x : Nat)] w fun r w' => r = .returned (.tuple #[.agg (rwC p.1), .bool true]) ∧ Below w.heap.size w w')) (w : World) (hT : T24 w) : Calls Tryd.prog 20 #[.int .u32 (x : Nat)] w fun r w' => r = .returned (.tuple #[.agg (inC (dcI p.1 x)), .int .i64 0]) ∧ Below w.heap.size w w' := by
  refine t_dec_y x p.1 63 _ (fun w => by rw [hl]; rfl) (box (fun b w hb => ?_)) (enters_of Tryd.func63 (by kernel_rfl) rfl) KF w hT
  have hc := csr_le h (by omega)
  have e : fld x 20 12 % 256 = fld x 20 12 := Nat.mod_eq_of_lt (by omega)
  have q := t_rd8 x hx hc _ b 27 w hb
  unfold dcI
  simp only [hl]
  simpa [e] using q
set_option maxRecDepth 100000 in
set_option maxHeartbeats 8000000 in
theorem kDec (x : Nat) (hx : x < 4294967296) : Box (∀ w, T24 w → Calls Tryd.prog 20 #[.int .u32 (x : Nat)] w fun r w' => r = .returned (.tuple #[.agg (inC (dcR x).1), .int .i64 (dcR x).2]) ∧ Below w.heap.size w w') := box (fun w hT => by
  have F := cF25 x hx
  cases h : fdL x with
  | none =>
    rw [h] at F
    rw [dcR_none h]
    exact t_dec_no x _ F w hT
  | some p =>
    rw [h] at F
    rw [dcR_some h]
    obtain ⟨l1, l9, _⟩ := lay24 (fd_mem h).1
    rcases (by omega : p.1.lay = 1 ∨ p.1.lay = 2 ∨ p.1.lay = 3 ∨ p.1.lay = 4 ∨ p.1.lay = 5 ∨ p.1.lay = 6 ∨ p.1.lay = 7 ∨ p.1.lay = 8 ∨ p.1.lay = 9) with hl | hl | hl | hl | hl | hl | hl | hl | hl
    · exact k_dec1 x hx p h hl F w hT
    · exact k_dec2 x hx p h hl F w hT
    · exact k_dec3 x hx p h hl F w hT
    · exact k_dec4 x hx p h hl F w hT
    · exact k_dec5 x hx p h hl F w hT
    · exact k_dec6 x hx p h hl F w hT
    · exact k_dec7 x hx p h hl F w hT
    · exact k_dec8 x hx p h hl F w hT
    · exact k_dec9 x hx p h hl F w hT)
end Go.Proofs.YtaoccmopfflkmaaDoor
