/-
  What the functions that the statement reaches return: part 13 (ZA).
-/
import Derived.Laws.AppendOwn
import Derived.RangeFuncNested
import Derived.RangeFuncBound
import Derived.RangeFuncCalls
import Derived.RangeFuncLeaves
import Derived.RangeFuncFrom
import Derived.Shelf.Abstract
import Derived.Shelf.RegionOpen
import Derived.WalkKit
import Derived.OwnWalkIn
import Derived.TacticsInMore
import Derived.LoopNIn
import Derived.LoopIn
import Derived.LoopN
import Derived.Sort.QuietIn
import Derived.Deep.RegionHeld3
import Derived.ChangeMaps5
import Derived.OpenShut
import Derived.Carry
import Derived.Test.YtamlcgmipdcgjaaDoorWa12
namespace Go.Proofs.YtamlcgmipdcgjaaDoor
set_option maxRecDepth 100000
set_option maxHeartbeats 40000000
set_option maxRecDepth 100000
open Go.RowKit WMath
set_option linter.unusedSimpArgs false
set_option linter.unusedVariables false
theorem and_low5 (y : Nat) (hy : y < 4294967296) : bits .and .u32 ((y : Nat) : Int) 31 = ((y % 32 : Nat) : Int) := by
  have q := and32t y 31 hy (by decide)
  rw [Nat.and_two_pow_sub_one_eq_mod y 5] at q
  exact q
theorem and_low3 (y : Nat) (hy : y < 4294967296) : bits .and .u32 ((y : Nat) : Int) 7 = ((y % 8 : Nat) : Int) := by
  have q := and32t y 7 hy (by decide)
  rw [Nat.and_two_pow_sub_one_eq_mod y 3] at q
  exact q
theorem five_is (x n : Nat) (hx : x < 4294967296) (k : Nat) (hn : n = 2 ^ k) (m : Int) (hm : m = (n : Int)) : bits .and .u32 ((x : Int) / m) 31 % 256 = ((fld x k 5 : Nat) : Int) := by
  subst hm
  have e : (x : Int) / (n : Int) = ((x / n : Nat) : Int) := (Int.natCast_ediv x n).symm
  rw [e, and_low5 _ (Nat.lt_of_le_of_lt (Nat.div_le_self _ _) hx), hn]
  unfold fld
  have : x / 2 ^ k % 32 < 32 := Nat.mod_lt _ (by decide)
  show ((x / 2 ^ k % 32 : Nat) : Int) % 256 = ((x / 2 ^ k % 32 : Nat) : Int)
  omega
theorem mode_is (x : Nat) (hx : x < 4294967296) : bits .and .u32 ((x : Int) / 4096) 7 % 256 = ((fld x 12 3 : Nat) : Int) := by
  have e : (x : Int) / 4096 = ((x / 4096 : Nat) : Int) := rfl
  rw [e, and_low3 _ (by omega)]
  unfold fld
  show ((x / 4096 % 8 : Nat) : Int) % 256 = ((x / 4096 % 8 : Nat) : Int)
  omega
def sg7 (h : Nat) : Int := if 64 ≤ h then (h : Int) - 128 else (h : Int)
theorem w32_is (x : Nat) (hx : x < 4294967296) : wrap32 (x : Int) = if 2147483648 ≤ x then (x : Int) - 4294967296 else (x : Int) := by
  unfold wrap32
  split <;> omega
theorem wrapi16 (y : Int) (h : -32768 ≤ y ∧ y < 32768) : IntKind.i16.wrap y = y := by
  simp [IntKind.wrap, IntKind.bits, IntKind.signed]
  omega
theorem sg20_is (x : Nat) (hx : x < 4294967296) : IntKind.i16.wrap (wrap32 (x : Int) / 1048576) = sg12 (fld x 20 12) := by
  have e : fld x 20 12 = x / 1048576 % 4096 := rfl
  rw [w32_is x hx, e]
  unfold sg12
  rw [wrapi16]
  · split <;> split <;> omega
  · split <;> omega
theorem sg25_is (x : Nat) (hx : x < 4294967296) : IntKind.i16.wrap (wrap32 (x : Int) / 33554432) = sg7 (fld x 25 7) := by
  have e : fld x 25 7 = x / 33554432 % 128 := rfl
  rw [w32_is x hx, e]
  unfold sg7
  rw [wrapi16]
  · split <;> split <;> omega
  · split <;> omega
theorem st_all : ((List.range 128).all fun h => (List.range 32).all fun d => decide (bits .or .i16 (IntKind.i16.wrap (sg7 h * 32)) (d : Int) = sg12 (32 * h + d))) = true := by decide +kernel
theorem st_is (h d : Nat) (hh : h < 128) (hd : d < 32) : bits .or .i16 (IntKind.i16.wrap (sg7 h * 32)) (d : Int) = sg12 (32 * h + d) :=
  of_decide_eq_true (List.all_eq_true.1 (List.all_eq_true.1 st_all h (List.mem_range.2 hh)) d (List.mem_range.2 hd))
set_option maxRecDepth 100000 in
set_option maxHeartbeats 8000000 in
theorem t_five7 (x : Nat) (hx : x < 4294967296) (w : World) : Calls Tryd.prog 42 #[.int .u32 (x : Nat), .int .i64 7] w fun r w' => r = .returned (.int .u8 (fld x 7 5 : Nat)) ∧ w' = w := by
  have h := five_is x 128 hx 7 (by decide) 128 rfl
  go_enter Tryd.func42, Tryd.ntmps42
  go_wp2
  rw [h]
  go_ret
  exact ⟨rfl, rfl⟩
set_option maxRecDepth 100000 in
set_option maxHeartbeats 8000000 in
theorem t_five15 (x : Nat) (hx : x < 4294967296) (w : World) : Calls Tryd.prog 42 #[.int .u32 (x : Nat), .int .i64 15] w fun r w' => r = .returned (.int .u8 (fld x 15 5 : Nat)) ∧ w' = w := by
  have h := five_is x 32768 hx 15 (by decide) 32768 rfl
  go_enter Tryd.func42, Tryd.ntmps42
  go_wp2
  rw [h]
  go_ret
  exact ⟨rfl, rfl⟩
set_option maxRecDepth 100000 in
set_option maxHeartbeats 8000000 in
theorem t_five20 (x : Nat) (hx : x < 4294967296) (w : World) : Calls Tryd.prog 42 #[.int .u32 (x : Nat), .int .i64 20] w fun r w' => r = .returned (.int .u8 (fld x 20 5 : Nat)) ∧ w' = w := by
  have h := five_is x 1048576 hx 20 (by decide) 1048576 rfl
  go_enter Tryd.func42, Tryd.ntmps42
  go_wp2
  rw [h]
  go_ret
  exact ⟨rfl, rfl⟩
set_option maxRecDepth 100000 in
set_option maxHeartbeats 8000000 in
theorem t_five27 (x : Nat) (hx : x < 4294967296) (w : World) : Calls Tryd.prog 42 #[.int .u32 (x : Nat), .int .i64 27] w fun r w' => r = .returned (.int .u8 (fld x 27 5 : Nat)) ∧ w' = w := by
  have h := five_is x 134217728 hx 27 (by decide) 134217728 rfl
  go_enter Tryd.func42, Tryd.ntmps42
  go_wp2
  rw [h]
  go_ret
  exact ⟨rfl, rfl⟩
set_option maxRecDepth 100000 in
set_option maxHeartbeats 8000000 in
theorem t_mode (x : Nat) (hx : x < 4294967296) (w : World) : Calls Tryd.prog 46 #[.int .u32 (x : Nat)] w fun r w' => r = .returned (.int .u8 (fld x 12 3 : Nat)) ∧ w' = w := by
  have h := mode_is x hx
  go_enter Tryd.func46, Tryd.ntmps46
  go_wp2
  rw [h]
  go_ret
  exact ⟨rfl, rfl⟩
set_option maxRecDepth 100000 in
set_option maxHeartbeats 8000000 in
theorem t_signed20 (x : Nat) (hx : x < 4294967296) (w : World) : Calls Tryd.prog 43 #[.int .u32 (x : Nat), .int .i64 20] w fun r w' => r = .returned (.int .i16 (sg12 (fld x 20 12))) ∧ w' = w := by
  have h := sg20_is x hx
  go_enter Tryd.func43, Tryd.ntmps43
  go_wp2
  go_ret
  exact ⟨rfl, rfl⟩
set_option maxRecDepth 100000 in
set_option maxHeartbeats 8000000 in
theorem t_signed25 (x : Nat) (hx : x < 4294967296) (w : World) : Calls Tryd.prog 43 #[.int .u32 (x : Nat), .int .i64 25] w fun r w' => r = .returned (.int .i16 (sg7 (fld x 25 7))) ∧ w' = w := by
  have h := sg25_is x hx
  go_enter Tryd.func43, Tryd.ntmps43
  go_wp2
  go_ret
  exact ⟨rfl, rfl⟩
def Rd (b : Nat) (T : TypeId) (j : In) (w : World) (r : Ending) (w' : World) : Prop := (∃ v, r = .returned v) ∧ w'.heap[b]? = some (.cells (inC j) T) ∧ ∀ n, n ≤ b → Below n w w'
set_option maxRecDepth 100000 in
set_option maxHeartbeats 8000000 in
theorem t_rd1 (x : Nat) (hx : x < 4294967296) (i : In) (b : Nat) (T : TypeId) (w : World) (h0 : w.heap[b]? = some (.cells (inC i) T)) : Calls Tryd.prog 41 #[.int .u32 (x : Nat), .pointer (some ⟨b, 0, none⟩)] w (Rd b T ⟨i.op, i.form, i.frm, i.kind, fld x 7 5, fld x 15 5, i.rs2, i.rs3, i.rm, sg12 (fld x 20 12), i.csr⟩ w) := by
  go_enter Tryd.func41, Tryd.ntmps41
  go_wp2_with fail
  refine (t_five7 x hx _).mono ?_
  rintro r w1 ⟨rfl, hw1⟩
  rw [hw1]
  clear hw1 w1
  go_wp2_with fail
  refine (t_five15 x hx _).mono ?_
  rintro r w1 ⟨rfl, hw1⟩
  rw [hw1]
  clear hw1 w1
  have f0 := fz (k := 4) h0
  have c0 := cell7 h0 4 _ rfl
  have h1 : (w.setCell ⟨b, 4, none⟩ (.int .u8 (fld x 7 5 : Nat))).heap[b]? = some (.cells (inC ⟨i.op, i.form, i.frm, i.kind, fld x 7 5, i.rs1, i.rs2, i.rs3, i.rm, i.imm, i.csr⟩) T) := by rw [setCell_row h0]; rfl
  have f1 := fz (k := 5) h1
  have c1 := cell7 h1 5 _ rfl
  have h2 : ((w.setCell ⟨b, 4, none⟩ (.int .u8 (fld x 7 5 : Nat))).setCell ⟨b, 5, none⟩ (.int .u8 (fld x 15 5 : Nat))).heap[b]? = some (.cells (inC ⟨i.op, i.form, i.frm, i.kind, fld x 7 5, fld x 15 5, i.rs2, i.rs3, i.rm, i.imm, i.csr⟩) T) := by rw [setCell_row h1]; rfl
  go_wp2_with fail
  refine (t_signed20 x hx _).mono ?_
  rintro r w1 ⟨rfl, hw1⟩
  rw [hw1]
  clear hw1 w1
  have f2 := fz (k := 9) h2
  have c2 := cell7 h2 9 _ rfl
  have h3 : (((w.setCell ⟨b, 4, none⟩ (.int .u8 (fld x 7 5 : Nat))).setCell ⟨b, 5, none⟩ (.int .u8 (fld x 15 5 : Nat))).setCell ⟨b, 9, none⟩ (.int .i16 (sg12 (fld x 20 12)))).heap[b]? = some (.cells (inC ⟨i.op, i.form, i.frm, i.kind, fld x 7 5, fld x 15 5, i.rs2, i.rs3, i.rm, sg12 (fld x 20 12), i.csr⟩) T) := by rw [setCell_row h2]; rfl
  go_wp2
  first | go_end0 | go_ret
  exact ⟨⟨_, rfl⟩, h3, fun n hn => (((Below.refl _ w).setCell (by exact hn) _).setCell (by exact hn) _).setCell (by exact hn) _⟩
set_option maxRecDepth 100000 in
set_option maxHeartbeats 8000000 in
theorem t_rd2 (x : Nat) (hx : x < 4294967296) (i : In) (b : Nat) (T : TypeId) (w : World) (h0 : w.heap[b]? = some (.cells (inC i) T)) : Calls Tryd.prog 44 #[.int .u32 (x : Nat), .pointer (some ⟨b, 0, none⟩)] w (Rd b T ⟨i.op, i.form, i.frm, i.kind, i.rd, fld x 15 5, fld x 20 5, i.rs3, i.rm, sg12 (32 * fld x 25 7 + fld x 7 5), i.csr⟩ w) := by
  have hst : bits .or .i16 (IntKind.i16.wrap (sg7 (fld x 25 7) * 32)) ((fld x 7 5 : Nat) : Int) = sg12 (32 * fld x 25 7 + fld x 7 5) := st_is _ _ (fld_lt x 25 7) (fld_lt x 7 5)
  have hm7 : IntKind.i16.wrap ((fld x 7 5 : Nat) : Int) = ((fld x 7 5 : Nat) : Int) := by have : fld x 7 5 < 32 := fld_lt x 7 5; exact wrapi16 _ (by omega)
  go_enter Tryd.func44, Tryd.ntmps44
  go_wp2_with fail
  refine (t_five15 x hx _).mono ?_
  rintro r w1 ⟨rfl, hw1⟩
  rw [hw1]
  clear hw1 w1
  go_wp2_with fail
  refine (t_five20 x hx _).mono ?_
  rintro r w1 ⟨rfl, hw1⟩
  rw [hw1]
  clear hw1 w1
  have f0 := fz (k := 5) h0
  have c0 := cell7 h0 5 _ rfl
  have h1 : (w.setCell ⟨b, 5, none⟩ (.int .u8 (fld x 15 5 : Nat))).heap[b]? = some (.cells (inC ⟨i.op, i.form, i.frm, i.kind, i.rd, fld x 15 5, i.rs2, i.rs3, i.rm, i.imm, i.csr⟩) T) := by rw [setCell_row h0]; rfl
  have f1 := fz (k := 6) h1
  have c1 := cell7 h1 6 _ rfl
  have h2 : ((w.setCell ⟨b, 5, none⟩ (.int .u8 (fld x 15 5 : Nat))).setCell ⟨b, 6, none⟩ (.int .u8 (fld x 20 5 : Nat))).heap[b]? = some (.cells (inC ⟨i.op, i.form, i.frm, i.kind, i.rd, fld x 15 5, fld x 20 5, i.rs3, i.rm, i.imm, i.csr⟩) T) := by rw [setCell_row h1]; rfl
  go_wp2_with fail
  refine (t_signed25 x hx _).mono ?_
  rintro r w1 ⟨rfl, hw1⟩
  rw [hw1]
  clear hw1 w1
  go_wp2_with fail
  refine (t_five7 x hx _).mono ?_
  rintro r w1 ⟨rfl, hw1⟩
  rw [hw1]
  clear hw1 w1
  have f2 := fz (k := 9) h2
  have c2 := cell7 h2 9 _ rfl
  have h3 : (((w.setCell ⟨b, 5, none⟩ (.int .u8 (fld x 15 5 : Nat))).setCell ⟨b, 6, none⟩ (.int .u8 (fld x 20 5 : Nat))).setCell ⟨b, 9, none⟩ (.int .i16 (sg12 (32 * fld x 25 7 + fld x 7 5)))).heap[b]? = some (.cells (inC ⟨i.op, i.form, i.frm, i.kind, i.rd, fld x 15 5, fld x 20 5, i.rs3, i.rm, sg12 (32 * fld x 25 7 + fld x 7 5), i.csr⟩) T) := by rw [setCell_row h2]; rfl
  go_wp2
  first | go_end0 | go_ret
  exact ⟨⟨_, rfl⟩, h3, fun n hn => (((Below.refl _ w).setCell (by exact hn) _).setCell (by exact hn) _).setCell (by exact hn) _⟩
set_option maxRecDepth 100000 in
set_option maxHeartbeats 8000000 in
theorem t_rd3 (x : Nat) (hx : x < 4294967296) (i : In) (b : Nat) (T : TypeId) (w : World) (h0 : w.heap[b]? = some (.cells (inC i) T)) : Calls Tryd.prog 45 #[.int .u32 (x : Nat), .pointer (some ⟨b, 0, none⟩)] w (Rd b T ⟨i.op, i.form, i.frm, i.kind, fld x 7 5, fld x 15 5, fld x 20 5, fld x 27 5, fld x 12 3, i.imm, i.csr⟩ w) := by
  go_enter Tryd.func45, Tryd.ntmps45
  go_wp2_with fail
  refine (t_five7 x hx _).mono ?_
  rintro r w1 ⟨rfl, hw1⟩
  rw [hw1]
  clear hw1 w1
  go_wp2_with fail
  refine (t_five15 x hx _).mono ?_
  rintro r w1 ⟨rfl, hw1⟩
  rw [hw1]
  clear hw1 w1
  go_wp2_with fail
  refine (t_five20 x hx _).mono ?_
  rintro r w1 ⟨rfl, hw1⟩
  rw [hw1]
  clear hw1 w1
  go_wp2_with fail
  refine (t_five27 x hx _).mono ?_
  rintro r w1 ⟨rfl, hw1⟩
  rw [hw1]
  clear hw1 w1
  have f0 := fz (k := 4) h0
  have c0 := cell7 h0 4 _ rfl
  have h1 : (w.setCell ⟨b, 4, none⟩ (.int .u8 (fld x 7 5 : Nat))).heap[b]? = some (.cells (inC ⟨i.op, i.form, i.frm, i.kind, fld x 7 5, i.rs1, i.rs2, i.rs3, i.rm, i.imm, i.csr⟩) T) := by rw [setCell_row h0]; rfl
  have f1 := fz (k := 5) h1
  have c1 := cell7 h1 5 _ rfl
  have h2 : ((w.setCell ⟨b, 4, none⟩ (.int .u8 (fld x 7 5 : Nat))).setCell ⟨b, 5, none⟩ (.int .u8 (fld x 15 5 : Nat))).heap[b]? = some (.cells (inC ⟨i.op, i.form, i.frm, i.kind, fld x 7 5, fld x 15 5, i.rs2, i.rs3, i.rm, i.imm, i.csr⟩) T) := by rw [setCell_row h1]; rfl
  have f2 := fz (k := 6) h2
  have c2 := cell7 h2 6 _ rfl
  have h3 : (((w.setCell ⟨b, 4, none⟩ (.int .u8 (fld x 7 5 : Nat))).setCell ⟨b, 5, none⟩ (.int .u8 (fld x 15 5 : Nat))).setCell ⟨b, 6, none⟩ (.int .u8 (fld x 20 5 : Nat))).heap[b]? = some (.cells (inC ⟨i.op, i.form, i.frm, i.kind, fld x 7 5, fld x 15 5, fld x 20 5, i.rs3, i.rm, i.imm, i.csr⟩) T) := by rw [setCell_row h2]; rfl
  have f3 := fz (k := 7) h3
  have c3 := cell7 h3 7 _ rfl
  have h4 : ((((w.setCell ⟨b, 4, none⟩ (.int .u8 (fld x 7 5 : Nat))).setCell ⟨b, 5, none⟩ (.int .u8 (fld x 15 5 : Nat))).setCell ⟨b, 6, none⟩ (.int .u8 (fld x 20 5 : Nat))).setCell ⟨b, 7, none⟩ (.int .u8 (fld x 27 5 : Nat))).heap[b]? = some (.cells (inC ⟨i.op, i.form, i.frm, i.kind, fld x 7 5, fld x 15 5, fld x 20 5, fld x 27 5, i.rm, i.imm, i.csr⟩) T) := by rw [setCell_row h3]; rfl
  go_wp2_with fail
  refine (t_mode x hx _).mono ?_
  rintro r w1 ⟨rfl, hw1⟩
  rw [hw1]
  clear hw1 w1
  have f4 := fz (k := 8) h4
  have c4 := cell7 h4 8 _ rfl
  have h5 : (((((w.setCell ⟨b, 4, none⟩ (.int .u8 (fld x 7 5 : Nat))).setCell ⟨b, 5, none⟩ (.int .u8 (fld x 15 5 : Nat))).setCell ⟨b, 6, none⟩ (.int .u8 (fld x 20 5 : Nat))).setCell ⟨b, 7, none⟩ (.int .u8 (fld x 27 5 : Nat))).setCell ⟨b, 8, none⟩ (.int .u8 (fld x 12 3 : Nat))).heap[b]? = some (.cells (inC ⟨i.op, i.form, i.frm, i.kind, fld x 7 5, fld x 15 5, fld x 20 5, fld x 27 5, fld x 12 3, i.imm, i.csr⟩) T) := by rw [setCell_row h4]; rfl
  go_wp2
  first | go_end0 | go_ret
  exact ⟨⟨_, rfl⟩, h5, fun n hn => (((((Below.refl _ w).setCell (by exact hn) _).setCell (by exact hn) _).setCell (by exact hn) _).setCell (by exact hn) _).setCell (by exact hn) _⟩
set_option maxRecDepth 100000 in
set_option maxHeartbeats 8000000 in
theorem t_rd4 (x : Nat) (hx : x < 4294967296) (i : In) (b : Nat) (T : TypeId) (w : World) (h0 : w.heap[b]? = some (.cells (inC i) T)) : Calls Tryd.prog 47 #[.int .u32 (x : Nat), .pointer (some ⟨b, 0, none⟩)] w (Rd b T ⟨i.op, i.form, i.frm, i.kind, fld x 7 5, fld x 15 5, fld x 20 5, i.rs3, fld x 12 3, i.imm, i.csr⟩ w) := by
  go_enter Tryd.func47, Tryd.ntmps47
  go_wp2_with fail
  refine (t_five7 x hx _).mono ?_
  rintro r w1 ⟨rfl, hw1⟩
  rw [hw1]
  clear hw1 w1
  go_wp2_with fail
  refine (t_five15 x hx _).mono ?_
  rintro r w1 ⟨rfl, hw1⟩
  rw [hw1]
  clear hw1 w1
  go_wp2_with fail
  refine (t_five20 x hx _).mono ?_
  rintro r w1 ⟨rfl, hw1⟩
  rw [hw1]
  clear hw1 w1
  have f0 := fz (k := 4) h0
  have c0 := cell7 h0 4 _ rfl
  have h1 : (w.setCell ⟨b, 4, none⟩ (.int .u8 (fld x 7 5 : Nat))).heap[b]? = some (.cells (inC ⟨i.op, i.form, i.frm, i.kind, fld x 7 5, i.rs1, i.rs2, i.rs3, i.rm, i.imm, i.csr⟩) T) := by rw [setCell_row h0]; rfl
  have f1 := fz (k := 5) h1
  have c1 := cell7 h1 5 _ rfl
  have h2 : ((w.setCell ⟨b, 4, none⟩ (.int .u8 (fld x 7 5 : Nat))).setCell ⟨b, 5, none⟩ (.int .u8 (fld x 15 5 : Nat))).heap[b]? = some (.cells (inC ⟨i.op, i.form, i.frm, i.kind, fld x 7 5, fld x 15 5, i.rs2, i.rs3, i.rm, i.imm, i.csr⟩) T) := by rw [setCell_row h1]; rfl
  have f2 := fz (k := 6) h2
  have c2 := cell7 h2 6 _ rfl
  have h3 : (((w.setCell ⟨b, 4, none⟩ (.int .u8 (fld x 7 5 : Nat))).setCell ⟨b, 5, none⟩ (.int .u8 (fld x 15 5 : Nat))).setCell ⟨b, 6, none⟩ (.int .u8 (fld x 20 5 : Nat))).heap[b]? = some (.cells (inC ⟨i.op, i.form, i.frm, i.kind, fld x 7 5, fld x 15 5, fld x 20 5, i.rs3, i.rm, i.imm, i.csr⟩) T) := by rw [setCell_row h2]; rfl
  go_wp2_with fail
  refine (t_mode x hx _).mono ?_
  rintro r w1 ⟨rfl, hw1⟩
  rw [hw1]
  clear hw1 w1
  have f3 := fz (k := 8) h3
  have c3 := cell7 h3 8 _ rfl
  have h4 : ((((w.setCell ⟨b, 4, none⟩ (.int .u8 (fld x 7 5 : Nat))).setCell ⟨b, 5, none⟩ (.int .u8 (fld x 15 5 : Nat))).setCell ⟨b, 6, none⟩ (.int .u8 (fld x 20 5 : Nat))).setCell ⟨b, 8, none⟩ (.int .u8 (fld x 12 3 : Nat))).heap[b]? = some (.cells (inC ⟨i.op, i.form, i.frm, i.kind, fld x 7 5, fld x 15 5, fld x 20 5, i.rs3, fld x 12 3, i.imm, i.csr⟩) T) := by rw [setCell_row h3]; rfl
  go_wp2
  first | go_end0 | go_ret
  exact ⟨⟨_, rfl⟩, h4, fun n hn => ((((Below.refl _ w).setCell (by exact hn) _).setCell (by exact hn) _).setCell (by exact hn) _).setCell (by exact hn) _⟩
set_option maxRecDepth 100000 in
set_option maxHeartbeats 8000000 in
theorem t_rd5 (x : Nat) (hx : x < 4294967296) (i : In) (b : Nat) (T : TypeId) (w : World) (h0 : w.heap[b]? = some (.cells (inC i) T)) : Calls Tryd.prog 48 #[.int .u32 (x : Nat), .pointer (some ⟨b, 0, none⟩)] w (Rd b T ⟨i.op, i.form, i.frm, i.kind, fld x 7 5, fld x 15 5, fld x 20 5, i.rs3, i.rm, i.imm, i.csr⟩ w) := by
  go_enter Tryd.func48, Tryd.ntmps48
  go_wp2_with fail
  refine (t_five7 x hx _).mono ?_
  rintro r w1 ⟨rfl, hw1⟩
  rw [hw1]
  clear hw1 w1
  go_wp2_with fail
  refine (t_five15 x hx _).mono ?_
  rintro r w1 ⟨rfl, hw1⟩
  rw [hw1]
  clear hw1 w1
  go_wp2_with fail
  refine (t_five20 x hx _).mono ?_
  rintro r w1 ⟨rfl, hw1⟩
  rw [hw1]
  clear hw1 w1
  have f0 := fz (k := 4) h0
  have c0 := cell7 h0 4 _ rfl
  have h1 : (w.setCell ⟨b, 4, none⟩ (.int .u8 (fld x 7 5 : Nat))).heap[b]? = some (.cells (inC ⟨i.op, i.form, i.frm, i.kind, fld x 7 5, i.rs1, i.rs2, i.rs3, i.rm, i.imm, i.csr⟩) T) := by rw [setCell_row h0]; rfl
  have f1 := fz (k := 5) h1
  have c1 := cell7 h1 5 _ rfl
  have h2 : ((w.setCell ⟨b, 4, none⟩ (.int .u8 (fld x 7 5 : Nat))).setCell ⟨b, 5, none⟩ (.int .u8 (fld x 15 5 : Nat))).heap[b]? = some (.cells (inC ⟨i.op, i.form, i.frm, i.kind, fld x 7 5, fld x 15 5, i.rs2, i.rs3, i.rm, i.imm, i.csr⟩) T) := by rw [setCell_row h1]; rfl
  have f2 := fz (k := 6) h2
  have c2 := cell7 h2 6 _ rfl
  have h3 : (((w.setCell ⟨b, 4, none⟩ (.int .u8 (fld x 7 5 : Nat))).setCell ⟨b, 5, none⟩ (.int .u8 (fld x 15 5 : Nat))).setCell ⟨b, 6, none⟩ (.int .u8 (fld x 20 5 : Nat))).heap[b]? = some (.cells (inC ⟨i.op, i.form, i.frm, i.kind, fld x 7 5, fld x 15 5, fld x 20 5, i.rs3, i.rm, i.imm, i.csr⟩) T) := by rw [setCell_row h2]; rfl
  go_wp2
  first | go_end0 | go_ret
  exact ⟨⟨_, rfl⟩, h3, fun n hn => (((Below.refl _ w).setCell (by exact hn) _).setCell (by exact hn) _).setCell (by exact hn) _⟩
set_option maxRecDepth 100000 in
set_option maxHeartbeats 8000000 in
theorem t_rd6 (x : Nat) (hx : x < 4294967296) (i : In) (b : Nat) (T : TypeId) (w : World) (h0 : w.heap[b]? = some (.cells (inC i) T)) : Calls Tryd.prog 49 #[.int .u32 (x : Nat), .pointer (some ⟨b, 0, none⟩)] w (Rd b T ⟨i.op, i.form, i.frm, i.kind, fld x 7 5, fld x 15 5, i.rs2, i.rs3, fld x 12 3, i.imm, i.csr⟩ w) := by
  go_enter Tryd.func49, Tryd.ntmps49
  go_wp2_with fail
  refine (t_five7 x hx _).mono ?_
  rintro r w1 ⟨rfl, hw1⟩
  rw [hw1]
  clear hw1 w1
  go_wp2_with fail
  refine (t_five15 x hx _).mono ?_
  rintro r w1 ⟨rfl, hw1⟩
  rw [hw1]
  clear hw1 w1
  have f0 := fz (k := 4) h0
  have c0 := cell7 h0 4 _ rfl
  have h1 : (w.setCell ⟨b, 4, none⟩ (.int .u8 (fld x 7 5 : Nat))).heap[b]? = some (.cells (inC ⟨i.op, i.form, i.frm, i.kind, fld x 7 5, i.rs1, i.rs2, i.rs3, i.rm, i.imm, i.csr⟩) T) := by rw [setCell_row h0]; rfl
  have f1 := fz (k := 5) h1
  have c1 := cell7 h1 5 _ rfl
  have h2 : ((w.setCell ⟨b, 4, none⟩ (.int .u8 (fld x 7 5 : Nat))).setCell ⟨b, 5, none⟩ (.int .u8 (fld x 15 5 : Nat))).heap[b]? = some (.cells (inC ⟨i.op, i.form, i.frm, i.kind, fld x 7 5, fld x 15 5, i.rs2, i.rs3, i.rm, i.imm, i.csr⟩) T) := by rw [setCell_row h1]; rfl
  go_wp2_with fail
  refine (t_mode x hx _).mono ?_
  rintro r w1 ⟨rfl, hw1⟩
  rw [hw1]
  clear hw1 w1
  have f2 := fz (k := 8) h2
  have c2 := cell7 h2 8 _ rfl
  have h3 : (((w.setCell ⟨b, 4, none⟩ (.int .u8 (fld x 7 5 : Nat))).setCell ⟨b, 5, none⟩ (.int .u8 (fld x 15 5 : Nat))).setCell ⟨b, 8, none⟩ (.int .u8 (fld x 12 3 : Nat))).heap[b]? = some (.cells (inC ⟨i.op, i.form, i.frm, i.kind, fld x 7 5, fld x 15 5, i.rs2, i.rs3, fld x 12 3, i.imm, i.csr⟩) T) := by rw [setCell_row h2]; rfl
  go_wp2
  first | go_end0 | go_ret
  exact ⟨⟨_, rfl⟩, h3, fun n hn => (((Below.refl _ w).setCell (by exact hn) _).setCell (by exact hn) _).setCell (by exact hn) _⟩
set_option maxRecDepth 100000 in
set_option maxHeartbeats 8000000 in
theorem t_rd7 (x : Nat) (hx : x < 4294967296) (i : In) (b : Nat) (T : TypeId) (w : World) (h0 : w.heap[b]? = some (.cells (inC i) T)) : Calls Tryd.prog 50 #[.int .u32 (x : Nat), .pointer (some ⟨b, 0, none⟩)] w (Rd b T ⟨i.op, i.form, i.frm, i.kind, fld x 7 5, fld x 15 5, i.rs2, i.rs3, i.rm, i.imm, i.csr⟩ w) := by
  go_enter Tryd.func50, Tryd.ntmps50
  go_wp2_with fail
  refine (t_five7 x hx _).mono ?_
  rintro r w1 ⟨rfl, hw1⟩
  rw [hw1]
  clear hw1 w1
  go_wp2_with fail
  refine (t_five15 x hx _).mono ?_
  rintro r w1 ⟨rfl, hw1⟩
  rw [hw1]
  clear hw1 w1
  have f0 := fz (k := 4) h0
  have c0 := cell7 h0 4 _ rfl
  have h1 : (w.setCell ⟨b, 4, none⟩ (.int .u8 (fld x 7 5 : Nat))).heap[b]? = some (.cells (inC ⟨i.op, i.form, i.frm, i.kind, fld x 7 5, i.rs1, i.rs2, i.rs3, i.rm, i.imm, i.csr⟩) T) := by rw [setCell_row h0]; rfl
  have f1 := fz (k := 5) h1
  have c1 := cell7 h1 5 _ rfl
  have h2 : ((w.setCell ⟨b, 4, none⟩ (.int .u8 (fld x 7 5 : Nat))).setCell ⟨b, 5, none⟩ (.int .u8 (fld x 15 5 : Nat))).heap[b]? = some (.cells (inC ⟨i.op, i.form, i.frm, i.kind, fld x 7 5, fld x 15 5, i.rs2, i.rs3, i.rm, i.imm, i.csr⟩) T) := by rw [setCell_row h1]; rfl
  go_wp2
  first | go_end0 | go_ret
  exact ⟨⟨_, rfl⟩, h2, fun n hn => ((Below.refl _ w).setCell (by exact hn) _).setCell (by exact hn) _⟩
set_option maxRecDepth 100000 in
set_option maxHeartbeats 8000000 in
theorem t_rd8 (x : Nat) (hx : x < 4294967296) (hc3 : fld x 20 12 ≤ 3) (i : In) (b : Nat) (T : TypeId) (w : World) (h0 : w.heap[b]? = some (.cells (inC i) T)) : Calls Tryd.prog 51 #[.int .u32 (x : Nat), .pointer (some ⟨b, 0, none⟩)] w (Rd b T ⟨i.op, i.form, i.frm, i.kind, fld x 7 5, fld x 15 5, i.rs2, i.rs3, i.rm, i.imm, fld x 20 12⟩ w) := by
  have hcs : (x : Int) / 1048576 % 256 = ((fld x 20 12 : Nat) : Int) := by
    have e : fld x 20 12 = x / 1048576 % 4096 := rfl
    omega
  go_enter Tryd.func51, Tryd.ntmps51
  go_wp2_with fail
  refine (t_five7 x hx _).mono ?_
  rintro r w1 ⟨rfl, hw1⟩
  rw [hw1]
  clear hw1 w1
  go_wp2_with fail
  refine (t_five15 x hx _).mono ?_
  rintro r w1 ⟨rfl, hw1⟩
  rw [hw1]
  clear hw1 w1
  have f0 := fz (k := 4) h0
  have c0 := cell7 h0 4 _ rfl
  have h1 : (w.setCell ⟨b, 4, none⟩ (.int .u8 (fld x 7 5 : Nat))).heap[b]? = some (.cells (inC ⟨i.op, i.form, i.frm, i.kind, fld x 7 5, i.rs1, i.rs2, i.rs3, i.rm, i.imm, i.csr⟩) T) := by rw [setCell_row h0]; rfl
  have f1 := fz (k := 5) h1
  have c1 := cell7 h1 5 _ rfl
  have h2 : ((w.setCell ⟨b, 4, none⟩ (.int .u8 (fld x 7 5 : Nat))).setCell ⟨b, 5, none⟩ (.int .u8 (fld x 15 5 : Nat))).heap[b]? = some (.cells (inC ⟨i.op, i.form, i.frm, i.kind, fld x 7 5, fld x 15 5, i.rs2, i.rs3, i.rm, i.imm, i.csr⟩) T) := by rw [setCell_row h1]; rfl
  have f2 := fz (k := 10) h2
  have c2 := cell7 h2 10 _ rfl
  have h3 : (((w.setCell ⟨b, 4, none⟩ (.int .u8 (fld x 7 5 : Nat))).setCell ⟨b, 5, none⟩ (.int .u8 (fld x 15 5 : Nat))).setCell ⟨b, 10, none⟩ (.int .u8 (fld x 20 12 : Nat))).heap[b]? = some (.cells (inC ⟨i.op, i.form, i.frm, i.kind, fld x 7 5, fld x 15 5, i.rs2, i.rs3, i.rm, i.imm, fld x 20 12⟩) T) := by rw [setCell_row h2]; rfl
  go_wp2
  first | go_end0 | go_ret
  exact ⟨⟨_, rfl⟩, h3, fun n hn => (((Below.refl _ w).setCell (by exact hn) _).setCell (by exact hn) _).setCell (by exact hn) _⟩
def rdrs : Array Value := #[.func (.func 40) #[] #[], .func (.func 41) #[] #[], .func (.func 44) #[] #[], .func (.func 45) #[] #[], .func (.func 47) #[] #[], .func (.func 48) #[] #[], .func (.func 49) #[] #[], .func (.func 50) #[] #[], .func (.func 51) #[] #[], .func (.func 51) #[] #[]]
theorem rdrs_fold : #[Value.func (.func 40) #[] #[], .func (.func 41) #[] #[], .func (.func 44) #[] #[], .func (.func 45) #[] #[], .func (.func 47) #[] #[], .func (.func 48) #[] #[], .func (.func 49) #[] #[], .func (.func 50) #[] #[], .func (.func 51) #[] #[], .func (.func 51) #[] #[]] = rdrs := rfl
theorem rdrs_store {w : World} {b : Nat} {c : Array Value} {T : TypeId} (h : w.heap[b]? = some (.cells c T)) (hc : c.size = 10) : (storeCells ⟨b, 0, none⟩ rdrs.toList 0).run Tryd.prog w = .ok () (w.setRow b rdrs) := by
  have := run_storeCells_from (P := Tryd.prog) b T rdrs.toList 0 c w h (by simp [rdrs, hc]) (fun v hv => by
    simp [rdrs] at hv
    rcases hv with rfl | rfl | rfl | rfl | rfl | rfl | rfl | rfl | rfl <;> rfl)
  have e : List.drop 10 c.toList = [] := List.drop_eq_nil_of_le (by rw [Array.length_toList, hc]; exact Nat.le_refl _)
  simpa [rdrs, e] using this
theorem rdrs_lv {w : World} {b : Nat} {T : TypeId} (h : w.heap[b]? = some (.cells rdrs T)) : (loadVar 71 ⟨b, 0, none⟩).run Tryd.prog w = .ok (.agg rdrs) w := by
  have ha : (isAgg 71).run Tryd.prog w = .ok true w := by kernel_rfl
  have hs : (sizeOf 71).run Tryd.prog w = .ok 10 w := by kernel_rfl
  have q := run_loadCells_list (P := Tryd.prog) w ⟨b, 0, none⟩ rdrs.toList (fun j v hv => by
    have hadd : (⟨b, 0, none⟩ : Addr).add j = ⟨b, j, none⟩ := by unfold Addr.add; split <;> simp_all
    rw [hadd]
    exact cell7 h j v (by simpa using hv))
  rw [Array.length_toList, show rdrs.size = 10 from rfl] at q
  simp only [Sem.run_bind, Sem.run_pure, Result.andThen, loadVar, ha, hs, if_true, q]
theorem res_rdrs {fn : Func} {z : Tmp} (h : fn.results = #[.cell z 71]) {tmps : Array Value} {w : World} {b : Nat} {T : TypeId} (hz : tmps.getD z undef = .pointer (some ⟨b, 0, none⟩)) (hr : w.heap[b]? = some (.cells rdrs T)) : (results fn tmps).run Tryd.prog w = .ok (.agg rdrs) w := by
  have q := rdrs_lv hr
  have hz2 : tmps[z]?.getD undef = .pointer (some ⟨b, 0, none⟩) := by rw [← Array.getD_eq_getD_getElem?]; exact hz
  simp [results, h, hz2, asAddr, q, Result.andThen]
set_option maxRecDepth 100000 in
set_option maxHeartbeats 8000000 in
theorem t_readers (w : World) : Calls Tryd.prog 24 #[] w fun r w' => r = .returned (.agg rdrs) ∧ Below w.heap.size w w' := by
  have hf := rdrs_fold
  obtain ⟨Rz_0, B0⟩ := opn1 w (Obj.cells #[.nilFunc, .nilFunc, .nilFunc, .nilFunc, .nilFunc, .nilFunc, .nilFunc, .nilFunc, .nilFunc, .nilFunc] 71)
  go_enter Tryd.func24, Tryd.ntmps24
  have hst := rdrs_store Rz_0 rfl
  have rz := setRow_row (c' := rdrs) Rz_0
  have bz : Below w.heap.size w ((w.alloc (Obj.cells #[.nilFunc, .nilFunc, .nilFunc, .nilFunc, .nilFunc, .nilFunc, .nilFunc, .nilFunc, .nilFunc, .nilFunc] 71)).setRow w.heap.size rdrs) := Below.setRow B0 (Nat.le_refl _)
  obtain ⟨wz, hwz⟩ : ∃ V, (w.alloc (Obj.cells #[.nilFunc, .nilFunc, .nilFunc, .nilFunc, .nilFunc, .nilFunc, .nilFunc, .nilFunc, .nilFunc, .nilFunc] 71)).setRow w.heap.size rdrs = V := ⟨_, rfl⟩
  rw [hwz] at hst rz bz
  clear hwz
  go_wp2
  exact bodyPost_ret (v := .agg rdrs) (res_rdrs Tryd.results24 rfl rz) rfl ⟨rfl, bz⟩
end Go.Proofs.YtamlcgmipdcgjaaDoor
