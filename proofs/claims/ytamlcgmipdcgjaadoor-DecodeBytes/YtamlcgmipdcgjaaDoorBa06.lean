/-
  What the functions that the statement reaches return: part 6 (ZA, ZF).
-/
import Derived.Laws.AppendOwn
import Derived.Laws.OwnMore
import Derived.Laws.Cover3
import Derived.Test.YtamlcgmipdcgjaaDoorBa05
namespace Go.Proofs.YtamlcgmipdcgjaaDoor
set_option maxRecDepth 100000
set_option maxHeartbeats 40000000
set_option maxRecDepth 100000
open Go.RowKit WMath
set_option linter.unusedSimpArgs false
set_option linter.unusedVariables false
theorem and_low5 (y : Nat) (hy : y < 4294967296) : bits .and .u32 ((y : Nat) : Int) 31 = ((y % 32 : Nat) : Int) := by
  have q := and32t y 31 hy (by decide)
  rw [Nat.and_two_pow_sub_one_eq_mod y 5] at q
  exact q
theorem and_low3 (y : Nat) (hy : y < 4294967296) : bits .and .u32 ((y : Nat) : Int) 7 = ((y % 8 : Nat) : Int) := by
  have q := and32t y 7 hy (by decide)
  rw [Nat.and_two_pow_sub_one_eq_mod y 3] at q
  exact q
theorem five_is (x n : Nat) (hx : x < 4294967296) (k : Nat) (hn : n = 2 ^ k) (m : Int) (hm : m = (n : Int)) : bits .and .u32 ((x : Int) / m) 31 % 256 = ((fld x k 5 : Nat) : Int) := by
  subst hm
  have e : (x : Int) / (n : Int) = ((x / n : Nat) : Int) := (Int.natCast_ediv x n).symm
  rw [e, and_low5 _ (Nat.lt_of_le_of_lt (Nat.div_le_self _ _) hx), hn]
  unfold fld
  have : x / 2 ^ k % 32 < 32 := Nat.mod_lt _ (by decide)
  show ((x / 2 ^ k % 32 : Nat) : Int) % 256 = ((x / 2 ^ k % 32 : Nat) : Int)
  omega
theorem mode_is (x : Nat) (hx : x < 4294967296) : bits .and .u32 ((x : Int) / 4096) 7 % 256 = ((fld x 12 3 : Nat) : Int) := by
  have e : (x : Int) / 4096 = ((x / 4096 : Nat) : Int) := rfl
  rw [e, and_low3 _ (by omega)]
  unfold fld
  show ((x / 4096 % 8 : Nat) : Int) % 256 = ((x / 4096 % 8 : Nat) : Int)
  omega
def sg7 (h : Nat) : Int := if 64 ≤ h then (h : Int) - 128 else (h : Int)
theorem w32_is (x : Nat) (hx : x < 4294967296) : wrap32 (x : Int) = if 2147483648 ≤ x then (x : Int) - 4294967296 else (x : Int) := by
  unfold wrap32
  split <;> omega
theorem wrapi16 (y : Int) (h : -32768 ≤ y ∧ y < 32768) : IntKind.i16.wrap y = y := by
  simp [IntKind.wrap, IntKind.bits, IntKind.signed]
  omega
theorem sg20_is (x : Nat) (hx : x < 4294967296) : IntKind.i16.wrap (wrap32 (x : Int) / 1048576) = sg12 (fld x 20 12) := by
  have e : fld x 20 12 = x / 1048576 % 4096 := rfl
  rw [w32_is x hx, e]
  unfold sg12
  rw [wrapi16]
  · split <;> split <;> omega
  · split <;> omega
theorem sg25_is (x : Nat) (hx : x < 4294967296) : IntKind.i16.wrap (wrap32 (x : Int) / 33554432) = sg7 (fld x 25 7) := by
  have e : fld x 25 7 = x / 33554432 % 128 := rfl
  rw [w32_is x hx, e]
  unfold sg7
  rw [wrapi16]
  · split <;> split <;> omega
  · split <;> omega
theorem st_all : ((List.range 128).all fun h => (List.range 32).all fun d => decide (bits .or .i16 (IntKind.i16.wrap (sg7 h * 32)) (d : Int) = sg12 (32 * h + d))) = true := by decide +kernel
theorem st_is (h d : Nat) (hh : h < 128) (hd : d < 32) : bits .or .i16 (IntKind.i16.wrap (sg7 h * 32)) (d : Int) = sg12 (32 * h + d) :=
  of_decide_eq_true (List.all_eq_true.1 (List.all_eq_true.1 st_all h (List.mem_range.2 hh)) d (List.mem_range.2 hd))
set_option maxRecDepth 100000 in
set_option maxHeartbeats 8000000 in
theorem t_five7 (x : Nat) (hx : x < 4294967296) (w : World) : Calls Tryd.prog 42 #[.int .u32 (x : Nat), .int .i64 7] w fun r w' => r = .returned (.int .u8 (fld x 7 5 : Nat)) ∧ w' = w := by
  have h := five_is x 128 hx 7 (by decide) 128 rfl
  go_enter Tryd.func42, Tryd.ntmps42
  go_wp2
  rw [h]
  go_ret
  exact ⟨rfl, rfl⟩
set_option maxRecDepth 100000 in
set_option maxHeartbeats 8000000 in
theorem t_five15 (x : Nat) (hx : x < 4294967296) (w : World) : Calls Tryd.prog 42 #[.int .u32 (x : Nat), .int .i64 15] w fun r w' => r = .returned (.int .u8 (fld x 15 5 : Nat)) ∧ w' = w := by
  have h := five_is x 32768 hx 15 (by decide) 32768 rfl
  go_enter Tryd.func42, Tryd.ntmps42
  go_wp2
  rw [h]
  go_ret
  exact ⟨rfl, rfl⟩
set_option maxRecDepth 100000 in
set_option maxHeartbeats 8000000 in
theorem t_five20 (x : Nat) (hx : x < 4294967296) (w : World) : Calls Tryd.prog 42 #[.int .u32 (x : Nat), .int .i64 20] w fun r w' => r = .returned (.int .u8 (fld x 20 5 : Nat)) ∧ w' = w := by
  have h := five_is x 1048576 hx 20 (by decide) 1048576 rfl
  go_enter Tryd.func42, Tryd.ntmps42
  go_wp2
  rw [h]
  go_ret
  exact ⟨rfl, rfl⟩
set_option maxRecDepth 100000 in
set_option maxHeartbeats 8000000 in
theorem t_five27 (x : Nat) (hx : x < 4294967296) (w : World) : Calls Tryd.prog 42 #[.int .u32 (x : Nat), .int .i64 27] w fun r w' => r = .returned (.int .u8 (fld x 27 5 : Nat)) ∧ w' = w := by
  have h := five_is x 134217728 hx 27 (by decide) 134217728 rfl
  go_enter Tryd.func42, Tryd.ntmps42
  go_wp2
  rw [h]
  go_ret
  exact ⟨rfl, rfl⟩
set_option maxRecDepth 100000 in
set_option maxHeartbeats 8000000 in
theorem t_mode (x : Nat) (hx : x < 4294967296) (w : World) : Calls Tryd.prog 46 #[.int .u32 (x : Nat)] w fun r w' => r = .returned (.int .u8 (fld x 12 3 : Nat)) ∧ w' = w := by
  have h := mode_is x hx
  go_enter Tryd.func46, Tryd.ntmps46
  go_wp2
  rw [h]
  go_ret
  exact ⟨rfl, rfl⟩
set_option maxRecDepth 100000 in
set_option maxHeartbeats 8000000 in
theorem t_signed20 (x : Nat) (hx : x < 4294967296) (w : World) : Calls Tryd.prog 43 #[.int .u32 (x : Nat), .int .i64 20] w fun r w' => r = .returned (.int .i16 (sg12 (fld x 20 12))) ∧ w' = w := by
  have h := sg20_is x hx
  go_enter Tryd.func43, Tryd.ntmps43
  go_wp2
  go_ret
  exact ⟨rfl, rfl⟩
set_option maxRecDepth 100000 in
set_option maxHeartbeats 8000000 in
theorem t_signed25 (x : Nat) (hx : x < 4294967296) (w : World) : Calls Tryd.prog 43 #[.int .u32 (x : Nat), .int .i64 25] w fun r w' => r = .returned (.int .i16 (sg7 (fld x 25 7))) ∧ w' = w := by
  have h := sg25_is x hx
  go_enter Tryd.func43, Tryd.ntmps43
  go_wp2
  go_ret
  exact ⟨rfl, rfl⟩
def Rd (b : Nat) (T : TypeId) (j : In) (w : World) (r : Ending) (w' : World) : Prop := (∃ v, r = .returned v) ∧ w'.heap[b]? = some (.cells (inC j) T) ∧ ∀ n, n ≤ b → Below n w w'
set_option maxRecDepth 100000 in
set_option maxHeartbeats 8000000 in
theorem t_rd1 (x : Nat) (hx : x < 4294967296) (i : In) (b : Nat) (T : TypeId) (w : World) (h0 : w.heap[b]? = some (.cells (inC i) T)) : Calls Tryd.prog 41 #[.int .u32 (x : Nat), .pointer (some ⟨b, 0, none⟩)] w (Rd b T ⟨i.op, i.form, i.frm, i.kind, fld x 7 5, fld x 15 5, i.rs2, i.rs3, i.rm, sg12 (fld x 20 12), i.csr⟩ w) := by
  go_enter Tryd.func41, Tryd.ntmps41
  go_wp2_with fail
  refine (t_five7 x hx _).mono ?_
  rintro r w1 ⟨rfl, hw1⟩
  rw [hw1]
  clear hw1 w1
  go_wp2_with fail
  refine (t_five15 x hx _).mono ?_
  rintro r w1 ⟨rfl, hw1⟩
  rw [hw1]
  clear hw1 w1
  have f0 := fz (k := 4) h0
  have c0 := cell7 h0 4 _ rfl
  have h1 : (w.setCell ⟨b, 4, none⟩ (.int .u8 (fld x 7 5 : Nat))).heap[b]? = some (.cells (inC ⟨i.op, i.form, i.frm, i.kind, fld x 7 5, i.rs1, i.rs2, i.rs3, i.rm, i.imm, i.csr⟩) T) := by rw [setCell_row h0]; rfl
  have f1 := fz (k := 5) h1
  have c1 := cell7 h1 5 _ rfl
  have h2 : ((w.setCell ⟨b, 4, none⟩ (.int .u8 (fld x 7 5 : Nat))).setCell ⟨b, 5, none⟩ (.int .u8 (fld x 15 5 : Nat))).heap[b]? = some (.cells (inC ⟨i.op, i.form, i.frm, i.kind, fld x 7 5, fld x 15 5, i.rs2, i.rs3, i.rm, i.imm, i.csr⟩) T) := by rw [setCell_row h1]; rfl
  go_wp2_with fail
  refine (t_signed20 x hx _).mono ?_
  rintro r w1 ⟨rfl, hw1⟩
  rw [hw1]
  clear hw1 w1
  have f2 := fz (k := 9) h2
  have c2 := cell7 h2 9 _ rfl
  have h3 : (((w.setCell ⟨b, 4, none⟩ (.int .u8 (fld x 7 5 : Nat))).setCell ⟨b, 5, none⟩ (.int .u8 (fld x 15 5 : Nat))).setCell ⟨b, 9, none⟩ (.int .i16 (sg12 (fld x 20 12)))).heap[b]? = some (.cells (inC ⟨i.op, i.form, i.frm, i.kind, fld x 7 5, fld x 15 5, i.rs2, i.rs3, i.rm, sg12 (fld x 20 12), i.csr⟩) T) := by rw [setCell_row h2]; rfl
  go_wp2
  first | go_end0 | go_ret
  exact ⟨⟨_, rfl⟩, h3, fun n hn => (((Below.refl _ w).setCell (by exact hn) _).setCell (by exact hn) _).setCell (by exact hn) _⟩
set_option maxRecDepth 100000 in
set_option maxHeartbeats 8000000 in
theorem t_rd2 (x : Nat) (hx : x < 4294967296) (i : In) (b : Nat) (T : TypeId) (w : World) (h0 : w.heap[b]? = some (.cells (inC i) T)) : Calls Tryd.prog 44 #[.int .u32 (x : Nat), .pointer (some ⟨b, 0, none⟩)] w (Rd b T ⟨i.op, i.form, i.frm, i.kind, i.rd, fld x 15 5, fld x 20 5, i.rs3, i.rm, sg12 (32 * fld x 25 7 + fld x 7 5), i.csr⟩ w) := by
  have hst : bits .or .i16 (IntKind.i16.wrap (sg7 (fld x 25 7) * 32)) ((fld x 7 5 : Nat) : Int) = sg12 (32 * fld x 25 7 + fld x 7 5) := st_is _ _ (fld_lt x 25 7) (fld_lt x 7 5)
  have hm7 : IntKind.i16.wrap ((fld x 7 5 : Nat) : Int) = ((fld x 7 5 : Nat) : Int) := by have : fld x 7 5 < 32 := fld_lt x 7 5; exact wrapi16 _ (by omega)
  go_enter Tryd.func44, Tryd.ntmps44
  go_wp2_with fail
  refine (t_five15 x hx _).mono ?_
  rintro r w1 ⟨rfl, hw1⟩
  rw [hw1]
  clear hw1 w1
  go_wp2_with fail
  refine (t_five20 x hx _).mono ?_
  rintro r w1 ⟨rfl, hw1⟩
  rw [hw1]
  clear hw1 w1
  have f0 := fz (k := 5) h0
  have c0 := cell7 h0 5 _ rfl
  have h1 : (w.setCell ⟨b, 5, none⟩ (.int .u8 (fld x 15 5 : Nat))).heap[b]? = some (.cells (inC ⟨i.op, i.form, i.frm, i.kind, i.rd, fld x 15 5, i.rs2, i.rs3, i.rm, i.imm, i.csr⟩) T) := by rw [setCell_row h0]; rfl
  have f1 := fz (k := 6) h1
  have c1 := cell7 h1 6 _ rfl
  have h2 : ((w.setCell ⟨b, 5, none⟩ (.int .u8 (fld x 15 5 : Nat))).setCell ⟨b, 6, none⟩ (.int .u8 (fld x 20 5 : Nat))).heap[b]? = some (.cells (inC ⟨i.op, i.form, i.frm, i.kind, i.rd, fld x 15 5, fld x 20 5, i.rs3, i.rm, i.imm, i.csr⟩) T) := by rw [setCell_row h1]; rfl
  go_wp2_with fail
  refine (t_signed25 x hx _).mono ?_
  rintro r w1 ⟨rfl, hw1⟩
  rw [hw1]
  clear hw1 w1
  go_wp2_with fail
  refine (t_five7 x hx _).mono ?_
  rintro r w1 ⟨rfl, hw1⟩
  rw [hw1]
  clear hw1 w1
  have f2 := fz (k := 9) h2
  have c2 := cell7 h2 9 _ rfl
  have h3 : (((w.setCell ⟨b, 5, none⟩ (.int .u8 (fld x 15 5 : Nat))).setCell ⟨b, 6, none⟩ (.int .u8 (fld x 20 5 : Nat))).setCell ⟨b, 9, none⟩ (.int .i16 (sg12 (32 * fld x 25 7 + fld x 7 5)))).heap[b]? = some (.cells (inC ⟨i.op, i.form, i.frm, i.kind, i.rd, fld x 15 5, fld x 20 5, i.rs3, i.rm, sg12 (32 * fld x 25 7 + fld x 7 5), i.csr⟩) T) := by rw [setCell_row h2]; rfl
  go_wp2
  first | go_end0 | go_ret
  exact ⟨⟨_, rfl⟩, h3, fun n hn => (((Below.refl _ w).setCell (by exact hn) _).setCell (by exact hn) _).setCell (by exact hn) _⟩
set_option maxRecDepth 100000 in
set_option maxHeartbeats 8000000 in
theorem t_rd3 (x : Nat) (hx : x < 4294967296) (i : In) (b : Nat) (T : TypeId) (w : World) (h0 : w.heap[b]? = some (.cells (inC i) T)) : Calls Tryd.prog 45 #[.int .u32 (x : Nat), .pointer (some ⟨b, 0, none⟩)] w (Rd b T ⟨i.op, i.form, i.frm, i.kind, fld x 7 5, fld x 15 5, fld x 20 5, fld x 27 5, fld x 12 3, i.imm, i.csr⟩ w) := by
  go_enter Tryd.func45, Tryd.ntmps45
  go_wp2_with fail
  refine (t_five7 x hx _).mono ?_
  rintro r w1 ⟨rfl, hw1⟩
  rw [hw1]
  clear hw1 w1
  go_wp2_with fail
  refine (t_five15 x hx _).mono ?_
  rintro r w1 ⟨rfl, hw1⟩
  rw [hw1]
  clear hw1 w1
  go_wp2_with fail
  refine (t_five20 x hx _).mono ?_
  rintro r w1 ⟨rfl, hw1⟩
  rw [hw1]
  clear hw1 w1
  go_wp2_with fail
  refine (t_five27 x hx _).mono ?_
  rintro r w1 ⟨rfl, hw1⟩
  rw [hw1]
  clear hw1 w1
  have f0 := fz (k := 4) h0
  have c0 := cell7 h0 4 _ rfl
  have h1 : (w.setCell ⟨b, 4, none⟩ (.int .u8 (fld x 7 5 : Nat))).heap[b]? = some (.cells (inC ⟨i.op, i.form, i.frm, i.kind, fld x 7 5, i.rs1, i.rs2, i.rs3, i.rm, i.imm, i.csr⟩) T) := by rw [setCell_row h0]; rfl
  have f1 := fz (k := 5) h1
  have c1 := cell7 h1 5 _ rfl
  have h2 : ((w.setCell ⟨b, 4, none⟩ (.int .u8 (fld x 7 5 : Nat))).setCell ⟨b, 5, none⟩ (.int .u8 (fld x 15 5 : Nat))).heap[b]? = some (.cells (inC ⟨i.op, i.form, i.frm, i.kind, fld x 7 5, fld x 15 5, i.rs2, i.rs3, i.rm, i.imm, i.csr⟩) T) := by rw [setCell_row h1]; rfl
  have f2 := fz (k := 6) h2
  have c2 := cell7 h2 6 _ rfl
  have h3 : (((w.setCell ⟨b, 4, none⟩ (.int .u8 (fld x 7 5 : Nat))).setCell ⟨b, 5, none⟩ (.int .u8 (fld x 15 5 : Nat))).setCell ⟨b, 6, none⟩ (.int .u8 (fld x 20 5 : Nat))).heap[b]? = some (.cells (inC ⟨i.op, i.form, i.frm, i.kind, fld x 7 5, fld x 15 5, fld x 20 5, i.rs3, i.rm, i.imm, i.csr⟩) T) := by rw [setCell_row h2]; rfl
  have f3 := fz (k := 7) h3
  have c3 := cell7 h3 7 _ rfl
  have h4 : ((((w.setCell ⟨b, 4, none⟩ (.int .u8 (fld x 7 5 : Nat))).setCell ⟨b, 5, none⟩ (.int .u8 (fld x 15 5 : Nat))).setCell ⟨b, 6, none⟩ (.int .u8 (fld x 20 5 : Nat))).setCell ⟨b, 7, none⟩ (.int .u8 (fld x 27 5 : Nat))).heap[b]? = some (.cells (inC ⟨i.op, i.form, i.frm, i.kind, fld x 7 5, fld x 15 5, fld x 20 5, fld x 27 5, i.rm, i.imm, i.csr⟩) T) := by rw [setCell_row h3]; rfl
  go_wp2_with fail
  refine (t_mode x hx _).mono ?_
  rintro r w1 ⟨rfl, hw1⟩
  rw [hw1]
  clear hw1 w1
  have f4 := fz (k := 8) h4
  have c4 := cell7 h4 8 _ rfl
  have h5 : (((((w.setCell ⟨b, 4, none⟩ (.int .u8 (fld x 7 5 : Nat))).setCell ⟨b, 5, none⟩ (.int .u8 (fld x 15 5 : Nat))).setCell ⟨b, 6, none⟩ (.int .u8 (fld x 20 5 : Nat))).setCell ⟨b, 7, none⟩ (.int .u8 (fld x 27 5 : Nat))).setCell ⟨b, 8, none⟩ (.int .u8 (fld x 12 3 : Nat))).heap[b]? = some (.cells (inC ⟨i.op, i.form, i.frm, i.kind, fld x 7 5, fld x 15 5, fld x 20 5, fld x 27 5, fld x 12 3, i.imm, i.csr⟩) T) := by rw [setCell_row h4]; rfl
  go_wp2
  first | go_end0 | go_ret
  exact ⟨⟨_, rfl⟩, h5, fun n hn => (((((Below.refl _ w).setCell (by exact hn) _).setCell (by exact hn) _).setCell (by exact hn) _).setCell (by exact hn) _).setCell (by exact hn) _⟩
set_option maxRecDepth 100000 in
set_option maxHeartbeats 8000000 in
theorem t_rd4 (x : Nat) (hx : x < 4294967296) (i : In) (b : Nat) (T : TypeId) (w : World) (h0 : w.heap[b]? = some (.cells (inC i) T)) : Calls Tryd.prog 47 #[.int .u32 (x : Nat), .pointer (some ⟨b, 0, none⟩)] w (Rd b T ⟨i.op, i.form, i.frm, i.kind, fld x 7 5, fld x 15 5, fld x 20 5, i.rs3, fld x 12 3, i.imm, i.csr⟩ w) := by
  go_enter Tryd.func47, Tryd.ntmps47
  go_wp2_with fail
  refine (t_five7 x hx _).mono ?_
  rintro r w1 ⟨rfl, hw1⟩
  rw [hw1]
  clear hw1 w1
  go_wp2_with fail
  refine (t_five15 x hx _).mono ?_
  rintro r w1 ⟨rfl, hw1⟩
  rw [hw1]
  clear hw1 w1
  go_wp2_with fail
  refine (t_five20 x hx _).mono ?_
  rintro r w1 ⟨rfl, hw1⟩
  rw [hw1]
  clear hw1 w1
  have f0 := fz (k := 4) h0
  have c0 := cell7 h0 4 _ rfl
  have h1 : (w.setCell ⟨b, 4, none⟩ (.int .u8 (fld x 7 5 : Nat))).heap[b]? = some (.cells (inC ⟨i.op, i.form, i.frm, i.kind, fld x 7 5, i.rs1, i.rs2, i.rs3, i.rm, i.imm, i.csr⟩) T) := by rw [setCell_row h0]; rfl
  have f1 := fz (k := 5) h1
  have c1 := cell7 h1 5 _ rfl
  have h2 : ((w.setCell ⟨b, 4, none⟩ (.int .u8 (fld x 7 5 : Nat))).setCell ⟨b, 5, none⟩ (.int .u8 (fld x 15 5 : Nat))).heap[b]? = some (.cells (inC ⟨i.op, i.form, i.frm, i.kind, fld x 7 5, fld x 15 5, i.rs2, i.rs3, i.rm, i.imm, i.csr⟩) T) := by rw [setCell_row h1]; rfl
  have f2 := fz (k := 6) h2
  have c2 := cell7 h2 6 _ rfl
  have h3 : (((w.setCell ⟨b, 4, none⟩ (.int .u8 (fld x 7 5 : Nat))).setCell ⟨b, 5, none⟩ (.int .u8 (fld x 15 5 : Nat))).setCell ⟨b, 6, none⟩ (.int .u8 (fld x 20 5 : Nat))).heap[b]? = some (.cells (inC ⟨i.op, i.form, i.frm, i.kind, fld x 7 5, fld x 15 5, fld x 20 5, i.rs3, i.rm, i.imm, i.csr⟩) T) := by rw [setCell_row h2]; rfl
  go_wp2_with fail
  refine (t_mode x hx _).mono ?_
  rintro r w1 ⟨rfl, hw1⟩
  rw [hw1]
  clear hw1 w1
  have f3 := fz (k := 8) h3
  have c3 := cell7 h3 8 _ rfl
  have h4 : ((((w.setCell ⟨b, 4, none⟩ (.int .u8 (fld x 7 5 : Nat))).setCell ⟨b, 5, none⟩ (.int .u8 (fld x 15 5 : Nat))).setCell ⟨b, 6, none⟩ (.int .u8 (fld x 20 5 : Nat))).setCell ⟨b, 8, none⟩ (.int .u8 (fld x 12 3 : Nat))).heap[b]? = some (.cells (inC ⟨i.op, i.form, i.frm, i.kind, fld x 7 5, fld x 15 5, fld x 20 5, i.rs3, fld x 12 3, i.imm, i.csr⟩) T) := by rw [setCell_row h3]; rfl
  go_wp2
  first | go_end0 | go_ret
  exact ⟨⟨_, rfl⟩, h4, fun n hn => ((((Below.refl _ w).setCell (by exact hn) _).setCell (by exact hn) _).setCell (by exact hn) _).setCell (by exact hn) _⟩
set_option maxRecDepth 100000 in
set_option maxHeartbeats 8000000 in
theorem t_rd5 (x : Nat) (hx : x < 4294967296) (i : In) (b : Nat) (T : TypeId) (w : World) (h0 : w.heap[b]? = some (.cells (inC i) T)) : Calls Tryd.prog 48 #[.int .u32 (x : Nat), .pointer (some ⟨b, 0, none⟩)] w (Rd b T ⟨i.op, i.form, i.frm, i.kind, fld x 7 5, fld x 15 5, fld x 20 5, i.rs3, i.rm, i.imm, i.csr⟩ w) := by
  go_enter Tryd.func48, Tryd.ntmps48
  go_wp2_with fail
  refine (t_five7 x hx _).mono ?_
  rintro r w1 ⟨rfl, hw1⟩
  rw [hw1]
  clear hw1 w1
  go_wp2_with fail
  refine (t_five15 x hx _).mono ?_
  rintro r w1 ⟨rfl, hw1⟩
  rw [hw1]
  clear hw1 w1
  go_wp2_with fail
  refine (t_five20 x hx _).mono ?_
  rintro r w1 ⟨rfl, hw1⟩
  rw [hw1]
  clear hw1 w1
  have f0 := fz (k := 4) h0
  have c0 := cell7 h0 4 _ rfl
  have h1 : (w.setCell ⟨b, 4, none⟩ (.int .u8 (fld x 7 5 : Nat))).heap[b]? = some (.cells (inC ⟨i.op, i.form, i.frm, i.kind, fld x 7 5, i.rs1, i.rs2, i.rs3, i.rm, i.imm, i.csr⟩) T) := by rw [setCell_row h0]; rfl
  have f1 := fz (k := 5) h1
  have c1 := cell7 h1 5 _ rfl
  have h2 : ((w.setCell ⟨b, 4, none⟩ (.int .u8 (fld x 7 5 : Nat))).setCell ⟨b, 5, none⟩ (.int .u8 (fld x 15 5 : Nat))).heap[b]? = some (.cells (inC ⟨i.op, i.form, i.frm, i.kind, fld x 7 5, fld x 15 5, i.rs2, i.rs3, i.rm, i.imm, i.csr⟩) T) := by rw [setCell_row h1]; rfl
  have f2 := fz (k := 6) h2
  have c2 := cell7 h2 6 _ rfl
  have h3 : (((w.setCell ⟨b, 4, none⟩ (.int .u8 (fld x 7 5 : Nat))).setCell ⟨b, 5, none⟩ (.int .u8 (fld x 15 5 : Nat))).setCell ⟨b, 6, none⟩ (.int .u8 (fld x 20 5 : Nat))).heap[b]? = some (.cells (inC ⟨i.op, i.form, i.frm, i.kind, fld x 7 5, fld x 15 5, fld x 20 5, i.rs3, i.rm, i.imm, i.csr⟩) T) := by rw [setCell_row h2]; rfl
  go_wp2
  first | go_end0 | go_ret
  exact ⟨⟨_, rfl⟩, h3, fun n hn => (((Below.refl _ w).setCell (by exact hn) _).setCell (by exact hn) _).setCell (by exact hn) _⟩
set_option maxRecDepth 100000 in
set_option maxHeartbeats 8000000 in
theorem t_rd6 (x : Nat) (hx : x < 4294967296) (i : In) (b : Nat) (T : TypeId) (w : World) (h0 : w.heap[b]? = some (.cells (inC i) T)) : Calls Tryd.prog 49 #[.int .u32 (x : Nat), .pointer (some ⟨b, 0, none⟩)] w (Rd b T ⟨i.op, i.form, i.frm, i.kind, fld x 7 5, fld x 15 5, i.rs2, i.rs3, fld x 12 3, i.imm, i.csr⟩ w) := by
  go_enter Tryd.func49, Tryd.ntmps49
  go_wp2_with fail
  refine (t_five7 x hx _).mono ?_
  rintro r w1 ⟨rfl, hw1⟩
  rw [hw1]
  clear hw1 w1
  go_wp2_with fail
  refine (t_five15 x hx _).mono ?_
  rintro r w1 ⟨rfl, hw1⟩
  rw [hw1]
  clear hw1 w1
  have f0 := fz (k := 4) h0
  have c0 := cell7 h0 4 _ rfl
  have h1 : (w.setCell ⟨b, 4, none⟩ (.int .u8 (fld x 7 5 : Nat))).heap[b]? = some (.cells (inC ⟨i.op, i.form, i.frm, i.kind, fld x 7 5, i.rs1, i.rs2, i.rs3, i.rm, i.imm, i.csr⟩) T) := by rw [setCell_row h0]; rfl
  have f1 := fz (k := 5) h1
  have c1 := cell7 h1 5 _ rfl
  have h2 : ((w.setCell ⟨b, 4, none⟩ (.int .u8 (fld x 7 5 : Nat))).setCell ⟨b, 5, none⟩ (.int .u8 (fld x 15 5 : Nat))).heap[b]? = some (.cells (inC ⟨i.op, i.form, i.frm, i.kind, fld x 7 5, fld x 15 5, i.rs2, i.rs3, i.rm, i.imm, i.csr⟩) T) := by rw [setCell_row h1]; rfl
  go_wp2_with fail
  refine (t_mode x hx _).mono ?_
  rintro r w1 ⟨rfl, hw1⟩
  rw [hw1]
  clear hw1 w1
  have f2 := fz (k := 8) h2
  have c2 := cell7 h2 8 _ rfl
  have h3 : (((w.setCell ⟨b, 4, none⟩ (.int .u8 (fld x 7 5 : Nat))).setCell ⟨b, 5, none⟩ (.int .u8 (fld x 15 5 : Nat))).setCell ⟨b, 8, none⟩ (.int .u8 (fld x 12 3 : Nat))).heap[b]? = some (.cells (inC ⟨i.op, i.form, i.frm, i.kind, fld x 7 5, fld x 15 5, i.rs2, i.rs3, fld x 12 3, i.imm, i.csr⟩) T) := by rw [setCell_row h2]; rfl
  go_wp2
  first | go_end0 | go_ret
  exact ⟨⟨_, rfl⟩, h3, fun n hn => (((Below.refl _ w).setCell (by exact hn) _).setCell (by exact hn) _).setCell (by exact hn) _⟩
set_option maxRecDepth 100000 in
set_option maxHeartbeats 8000000 in
theorem t_rd7 (x : Nat) (hx : x < 4294967296) (i : In) (b : Nat) (T : TypeId) (w : World) (h0 : w.heap[b]? = some (.cells (inC i) T)) : Calls Tryd.prog 50 #[.int .u32 (x : Nat), .pointer (some ⟨b, 0, none⟩)] w (Rd b T ⟨i.op, i.form, i.frm, i.kind, fld x 7 5, fld x 15 5, i.rs2, i.rs3, i.rm, i.imm, i.csr⟩ w) := by
  go_enter Tryd.func50, Tryd.ntmps50
  go_wp2_with fail
  refine (t_five7 x hx _).mono ?_
  rintro r w1 ⟨rfl, hw1⟩
  rw [hw1]
  clear hw1 w1
  go_wp2_with fail
  refine (t_five15 x hx _).mono ?_
  rintro r w1 ⟨rfl, hw1⟩
  rw [hw1]
  clear hw1 w1
  have f0 := fz (k := 4) h0
  have c0 := cell7 h0 4 _ rfl
  have h1 : (w.setCell ⟨b, 4, none⟩ (.int .u8 (fld x 7 5 : Nat))).heap[b]? = some (.cells (inC ⟨i.op, i.form, i.frm, i.kind, fld x 7 5, i.rs1, i.rs2, i.rs3, i.rm, i.imm, i.csr⟩) T) := by rw [setCell_row h0]; rfl
  have f1 := fz (k := 5) h1
  have c1 := cell7 h1 5 _ rfl
  have h2 : ((w.setCell ⟨b, 4, none⟩ (.int .u8 (fld x 7 5 : Nat))).setCell ⟨b, 5, none⟩ (.int .u8 (fld x 15 5 : Nat))).heap[b]? = some (.cells (inC ⟨i.op, i.form, i.frm, i.kind, fld x 7 5, fld x 15 5, i.rs2, i.rs3, i.rm, i.imm, i.csr⟩) T) := by rw [setCell_row h1]; rfl
  go_wp2
  first | go_end0 | go_ret
  exact ⟨⟨_, rfl⟩, h2, fun n hn => ((Below.refl _ w).setCell (by exact hn) _).setCell (by exact hn) _⟩
set_option maxRecDepth 100000 in
set_option maxHeartbeats 8000000 in
theorem t_rd8 (x : Nat) (hx : x < 4294967296) (hc3 : fld x 20 12 ≤ 3) (i : In) (b : Nat) (T : TypeId) (w : World) (h0 : w.heap[b]? = some (.cells (inC i) T)) : Calls Tryd.prog 51 #[.int .u32 (x : Nat), .pointer (some ⟨b, 0, none⟩)] w (Rd b T ⟨i.op, i.form, i.frm, i.kind, fld x 7 5, fld x 15 5, i.rs2, i.rs3, i.rm, i.imm, fld x 20 12⟩ w) := by
  have hcs : (x : Int) / 1048576 % 256 = ((fld x 20 12 : Nat) : Int) := by
    have e : fld x 20 12 = x / 1048576 % 4096 := rfl
    omega
  go_enter Tryd.func51, Tryd.ntmps51
  go_wp2_with fail
  refine (t_five7 x hx _).mono ?_
  rintro r w1 ⟨rfl, hw1⟩
  rw [hw1]
  clear hw1 w1
  go_wp2_with fail
  refine (t_five15 x hx _).mono ?_
  rintro r w1 ⟨rfl, hw1⟩
  rw [hw1]
  clear hw1 w1
  have f0 := fz (k := 4) h0
  have c0 := cell7 h0 4 _ rfl
  have h1 : (w.setCell ⟨b, 4, none⟩ (.int .u8 (fld x 7 5 : Nat))).heap[b]? = some (.cells (inC ⟨i.op, i.form, i.frm, i.kind, fld x 7 5, i.rs1, i.rs2, i.rs3, i.rm, i.imm, i.csr⟩) T) := by rw [setCell_row h0]; rfl
  have f1 := fz (k := 5) h1
  have c1 := cell7 h1 5 _ rfl
  have h2 : ((w.setCell ⟨b, 4, none⟩ (.int .u8 (fld x 7 5 : Nat))).setCell ⟨b, 5, none⟩ (.int .u8 (fld x 15 5 : Nat))).heap[b]? = some (.cells (inC ⟨i.op, i.form, i.frm, i.kind, fld x 7 5, fld x 15 5, i.rs2, i.rs3, i.rm, i.imm, i.csr⟩) T) := by rw [setCell_row h1]; rfl
  have f2 := fz (k := 10) h2
  have c2 := cell7 h2 10 _ rfl
  have h3 : (((w.setCell ⟨b, 4, none⟩ (.int .u8 (fld x 7 5 : Nat))).setCell ⟨b, 5, none⟩ (.int .u8 (fld x 15 5 : Nat))).setCell ⟨b, 10, none⟩ (.int .u8 (fld x 20 12 : Nat))).heap[b]? = some (.cells (inC ⟨i.op, i.form, i.frm, i.kind, fld x 7 5, fld x 15 5, i.rs2, i.rs3, i.rm, i.imm, fld x 20 12⟩) T) := by rw [setCell_row h2]; rfl
  go_wp2
  first | go_end0 | go_ret
  exact ⟨⟨_, rfl⟩, h3, fun n hn => (((Below.refl _ w).setCell (by exact hn) _).setCell (by exact hn) _).setCell (by exact hn) _⟩
def rdrs : Array Value := #[.func (.func 40) #[] #[], .func (.func 41) #[] #[], .func (.func 44) #[] #[], .func (.func 45) #[] #[], .func (.func 47) #[] #[], .func (.func 48) #[] #[], .func (.func 49) #[] #[], .func (.func 50) #[] #[], .func (.func 51) #[] #[], .func (.func 51) #[] #[]]
theorem rdrs_fold : #[Value.func (.func 40) #[] #[], .func (.func 41) #[] #[], .func (.func 44) #[] #[], .func (.func 45) #[] #[], .func (.func 47) #[] #[], .func (.func 48) #[] #[], .func (.func 49) #[] #[], .func (.func 50) #[] #[], .func (.func 51) #[] #[], .func (.func 51) #[] #[]] = rdrs := rfl
theorem rdrs_store {w : World} {b : Nat} {c : Array Value} {T : TypeId} (h : w.heap[b]? = some (.cells c T)) (hc : c.size = 10) : (storeCells ⟨b, 0, none⟩ rdrs.toList 0).run Tryd.prog w = .ok () (w.setRow b rdrs) := by
  have := run_storeCells_from (P := Tryd.prog) b T rdrs.toList 0 c w h (by simp [rdrs, hc]) (fun v hv => by
    simp [rdrs] at hv
    rcases hv with rfl | rfl | rfl | rfl | rfl | rfl | rfl | rfl | rfl <;> rfl)
  have e : List.drop 10 c.toList = [] := List.drop_eq_nil_of_le (by rw [Array.length_toList, hc]; exact Nat.le_refl _)
  simpa [rdrs, e] using this
theorem rdrs_lv {w : World} {b : Nat} {T : TypeId} (h : w.heap[b]? = some (.cells rdrs T)) : (loadVar 71 ⟨b, 0, none⟩).run Tryd.prog w = .ok (.agg rdrs) w := by
  have ha : (isAgg 71).run Tryd.prog w = .ok true w := by kernel_rfl
  have hs : (sizeOf 71).run Tryd.prog w = .ok 10 w := by kernel_rfl
  have q := run_loadCells_list (P := Tryd.prog) w ⟨b, 0, none⟩ rdrs.toList (fun j v hv => by
    have hadd : (⟨b, 0, none⟩ : Addr).add j = ⟨b, j, none⟩ := by unfold Addr.add; split <;> simp_all
    rw [hadd]
    exact cell7 h j v (by simpa using hv))
  rw [Array.length_toList, show rdrs.size = 10 from rfl] at q
  simp only [Sem.run_bind, Sem.run_pure, Result.andThen, loadVar, ha, hs, if_true, q]
theorem res_rdrs {fn : Func} {z : Tmp} (h : fn.results = #[.cell z 71]) {tmps : Array Value} {w : World} {b : Nat} {T : TypeId} (hz : tmps.getD z undef = .pointer (some ⟨b, 0, none⟩)) (hr : w.heap[b]? = some (.cells rdrs T)) : (results fn tmps).run Tryd.prog w = .ok (.agg rdrs) w := by
  have q := rdrs_lv hr
  have hz2 : tmps[z]?.getD undef = .pointer (some ⟨b, 0, none⟩) := by rw [← Array.getD_eq_getD_getElem?]; exact hz
  simp [results, h, hz2, asAddr, q, Result.andThen]
set_option maxRecDepth 100000 in
set_option maxHeartbeats 8000000 in
theorem t_readers (w : World) : Calls Tryd.prog 24 #[] w fun r w' => r = .returned (.agg rdrs) ∧ Below w.heap.size w w' := by
  have hf := rdrs_fold
  obtain ⟨Rz_0, B0⟩ := opn1 w (Obj.cells #[.nilFunc, .nilFunc, .nilFunc, .nilFunc, .nilFunc, .nilFunc, .nilFunc, .nilFunc, .nilFunc, .nilFunc] 71)
  go_enter Tryd.func24, Tryd.ntmps24
  have hst := rdrs_store Rz_0 rfl
  have rz := setRow_row (c' := rdrs) Rz_0
  have bz : Below w.heap.size w ((w.alloc (Obj.cells #[.nilFunc, .nilFunc, .nilFunc, .nilFunc, .nilFunc, .nilFunc, .nilFunc, .nilFunc, .nilFunc, .nilFunc] 71)).setRow w.heap.size rdrs) := Below.setRow B0 (Nat.le_refl _)
  obtain ⟨wz, hwz⟩ : ∃ V, (w.alloc (Obj.cells #[.nilFunc, .nilFunc, .nilFunc, .nilFunc, .nilFunc, .nilFunc, .nilFunc, .nilFunc, .nilFunc, .nilFunc] 71)).setRow w.heap.size rdrs = V := ⟨_, rfl⟩
  rw [hwz] at hst rz bz
  clear hwz
  go_wp2
  exact bodyPost_ret (v := .agg rdrs) (res_rdrs Tryd.results24 rfl rz) rfl ⟨rfl, bz⟩
end Go.Proofs.YtamlcgmipdcgjaaDoor
namespace Go.Proofs.YtamlcgmipdcgjaaDoor
set_option maxRecDepth 100000
set_option maxHeartbeats 40000000
set_option maxRecDepth 100000
open Go.RowKit Go.Shelf WMath
set_option linter.unusedVariables false
set_option linter.unusedSimpArgs false
attribute [local go_sem] Oper.semAt_some

theorem or_b (X y k : Nat) (q : Int) (hq : q = ((2 ^ k : Nat) : Int)) (hX : X < 2 ^ k) (h : X + y * 2 ^ k < 4294967296) : bits .or .u32 ((X : Nat) : Int) ((y : Int) * q) = ((X + y * 2 ^ k : Nat) : Int) := by
  rw [hq, ← Int.natCast_mul, or32t X (y * 2 ^ k) (by omega) (by omega), or_add24 X y k hX]
set_option maxRecDepth 100000 in
set_option maxHeartbeats 8000000 in
theorem t_join (a b c d : Nat) (ha : a < 256) (hb : b < 256) (hc : c < 256) (hd : d < 256) (w : World) : Calls Tryd.prog 30 #[.agg #[.int .u8 (a : Nat), .int .u8 (b : Nat), .int .u8 (c : Nat), .int .u8 (d : Nat)]] w fun r w' => r = .returned (.int .u32 (a + 256 * b + 65536 * c + 16777216 * d : Nat)) ∧ Below w.heap.size w w' := by
  have i0 : ∀ w : World, (Instr.index 79 (.agg #[.int .u8 (a : Nat), .int .u8 (b : Nat), .int .u8 (c : Nat), .int .u8 (d : Nat)]) (.int .i64 0)).run Tryd.prog w = .ok (.int .u8 (a : Nat)) w := fun _ => by kernel_rfl
  have i1 : ∀ w : World, (Instr.index 79 (.agg #[.int .u8 (a : Nat), .int .u8 (b : Nat), .int .u8 (c : Nat), .int .u8 (d : Nat)]) (.int .i64 1)).run Tryd.prog w = .ok (.int .u8 (b : Nat)) w := fun _ => by kernel_rfl
  have i2 : ∀ w : World, (Instr.index 79 (.agg #[.int .u8 (a : Nat), .int .u8 (b : Nat), .int .u8 (c : Nat), .int .u8 (d : Nat)]) (.int .i64 2)).run Tryd.prog w = .ok (.int .u8 (c : Nat)) w := fun _ => by kernel_rfl
  have i3 : ∀ w : World, (Instr.index 79 (.agg #[.int .u8 (a : Nat), .int .u8 (b : Nat), .int .u8 (c : Nat), .int .u8 (d : Nat)]) (.int .i64 3)).run Tryd.prog w = .ok (.int .u8 (d : Nat)) w := fun _ => by kernel_rfl
  have m0 : (a : Int) % 4294967296 = (a : Int) := by omega
  have m1 : (b : Int) % 4294967296 * 256 % 4294967296 = (b : Int) * 256 := by omega
  have m2 : (c : Int) % 4294967296 * 65536 % 4294967296 = (c : Int) * 65536 := by omega
  have m3 : (d : Int) % 4294967296 * 16777216 % 4294967296 = (d : Int) * 16777216 := by omega
  have o0 : bits .or .u32 0 ((a : Nat) : Int) = ((a : Nat) : Int) := by
    have := or32t 0 a (by decide) (by omega)
    rw [Nat.zero_or] at this
    exact this
  have o1 := or_b a b 8 256 rfl (by omega) (by omega)
  have o2 := or_b (a + b * 2 ^ 8) c 16 65536 rfl (by omega) (by omega)
  have o3 := or_b (a + b * 2 ^ 8 + c * 2 ^ 16) d 24 16777216 rfl (by omega) (by omega)
  have e : a + b * 2 ^ 8 + c * 2 ^ 16 + d * 2 ^ 24 = a + 256 * b + 65536 * c + 16777216 * d := by omega
  rw [e] at o3
  generalize a + 256 * b + 65536 * c + 16777216 * d = V at o3
  clear e
  generalize a + b * 2 ^ 8 + c * 2 ^ 16 = V2 at o2 o3
  generalize a + b * 2 ^ 8 = V1 at o1 o2
  have B0 := bal w (.cells #[.int .u8 (a : Nat), .int .u8 (b : Nat), .int .u8 (c : Nat), .int .u8 (d : Nat)] 79)
  go_enter Tryd.func30, Tryd.ntmps30
  go_wp2_with fail
  refine wp_loop_rounds 5 ?_
  rw [rounds_succ]
  go_wp2_with fail
  rw [rounds_succ]
  go_wp2_with fail
  rw [rounds_succ]
  go_wp2_with fail
  rw [rounds_succ]
  go_wp2_with fail
  rw [rounds_succ]
  go_wp2
  try simp only [m0, m1, m2, m3, o0, o1, o2, o3]
  go_ret
  exact ⟨rfl, B0⟩
def ubs (l : List Nat) : List Value := l.map fun (x : Nat) => Value.int .u8 (x : Nat)
set_option maxRecDepth 100000 in
set_option maxHeartbeats 8000000 in
theorem t_clone0 (w : World) : Calls Tryd.prog 29 #[.slice none 0 0] w fun r w' => r = .returned (.slice none 0 0) ∧ Below w.heap.size w w' := by
  have hn : ∀ w : World, (binOp BinOp.eql 44 (Value.slice none 0 0) (Value.slice none 0 0)).run Tryd.prog w = .ok (.bool true) w := fun w => by rfl
  go_enter Tryd.func29, Tryd.ntmps29
  go_wp2
  go_ret
  exact ⟨rfl, Below.refl _ _⟩
def Cln (bs : List Nat) (m : Nat) (base : Nat) (v : Value) (W : World) : Prop := ∃ gi ci cur, v = .slice (some ⟨gi, 0, none⟩) m ci ∧ base ≤ gi ∧ m ≤ ci ∧ W.heap[gi]? = some (.cells cur 5) ∧ ∀ (k x : Nat), bs[k]? = some x → cur[k]? = some (.int .u8 (x : Nat))
theorem own_bytes {wb : World} {b m : Nat} {l : List Nat} {v : Value} (hl : l.length = m) (hn : v ≠ .slice none 0 0) (h : wb.ownsRow b 5 1 v m (ubs l)) : Cln l m b v wb := by
  obtain ⟨_, ⟨h0, _⟩ | ⟨gi, ci, cur, rfl, hb, row, hc, _, hsz, ht⟩⟩ := h
  · exact absurd h0 hn
  refine ⟨gi, ci, cur, rfl, hb, hc, row, fun k x hx => ?_⟩
  have kl : k < m := by rw [← hl]; exact (List.getElem?_eq_some_iff.1 hx).1
  rw [← Array.getElem?_toList]
  have : (cur.toList.take (m * 1))[k]? = some (Value.int .u8 (x : Nat)) := by
    rw [ht]
    unfold ubs
    rw [List.getElem?_map, hx]
    rfl
  rw [List.getElem?_take_of_lt (by omega)] at this
  exact this
set_option maxRecDepth 100000 in
set_option maxHeartbeats 8000000 in
theorem t_clone (bs : List Nat) (m : Nat) (hm : bs.length = m) (hl : m ≤ 20000) (ad : Addr) (c : Nat) (w : World) (HC : Box (∀ (k x : Nat), bs[k]? = some x → w.cell? (ad.add k) = some (.int .u8 (x : Nat)))) : Calls Tryd.prog 29 #[.slice (some ad) m c] w fun r w' => (∃ v, r = .returned v ∧ Cln bs m w.heap.size v w') ∧ Below w.heap.size w w' := by
  have hn : ∀ w : World, (binOp BinOp.eql 44 (Value.slice (some ad) m c) (Value.slice none 0 0)).run Tryd.prog w = .ok (.bool false) w := fun w => by rfl
  have info : (Tryd.prog.info? 5).map (fun i => (i.zero, i.size, i.bytes)) = some (some (.int .u8 0), 1, 1) := by kernel_rfl
  obtain ⟨i0, hi, hz0, hz1, hz2⟩ := info_parts info
  have hlen : (ubs bs).length = m * 1 := by unfold ubs; rw [List.length_map, hm, Nat.mul_one]
  have own0 := World.ownsRow_lit (base := w.heap.size) (e := 5) (size := 1) w #[] 0 (Nat.le_refl _) (by decide) rfl
  have B0 := (bal w (.cells #[] 5)).drew
  have hrun : ∀ k u, (ubs bs)[k]? = some u → (w.alloc (.cells #[] 5)).drew.cell? (ad.add k) = some u := by
    intro k u hk
    unfold ubs at hk
    rw [List.getElem?_map] at hk
    obtain ⟨x, hx, rfl⟩ := Option.map_eq_some_iff.1 hk
    exact cellB B0 (HC.out k x hx)
  go_enter Tryd.func29, Tryd.ntmps29
  go_wp2_with (at_builtin; refine wpList_append_own _ rfl _ _ 44 rfl w.heap.size 5 i0 (.int .u8 0) 1 1 Tryd.underlying44 hi hz0 hz1 hz2 rfl (by decide) _ 0 [] rfl own0 ad m c (ubs bs) rfl hlen hrun ?c2 ?b1 ?b2 ?b3 ?grow)
  case c2 =>
    intro u hu
    unfold ubs at hu
    obtain ⟨x, _, rfl⟩ := List.mem_map.1 hu
    rfl
  case b1 => unfold maxLen; omega
  case b2 => omega
  case grow =>
    intro v1 wa hown1 hgrow1 hnil1
    have ba : Below w.heap.size w wa := (bal w (.cells #[] 5)).grown hgrow1 (by simp only [size_al]; omega) (fun k h => by simp [Value.ownBlock] at h; omega)
    have cl := own_bytes hm hnil1 hown1
    clear hgrow1 hown1 hnil1 B0 hrun own0 HC
    go_wp2
    go_ret
    exact ⟨⟨_, rfl, cl⟩, ba⟩
def Whl (bs : List Nat) (m : Nat) (base : Nat) (v : Value) (W : World) : Prop := ∃ os ci, v = .slice os m ci ∧ (1 ≤ m → ∃ gi cur, os = some ⟨gi, 0, none⟩ ∧ base ≤ gi ∧ m ≤ ci ∧ W.heap[gi]? = some (.cells cur 5) ∧ ∀ (k x : Nat), bs[k]? = some x → k < m → cur[k]? = some (.int .u8 (x : Nat)))
theorem k_clone0 (bs : List Nat) : Box (∀ w, Calls Tryd.prog 29 #[.slice none 0 0] w fun r w' => (∃ v, r = .returned v ∧ Whl bs 0 w.heap.size v w') ∧ Below w.heap.size w w') := box (fun w => (t_clone0 w).mono (by
  rintro r w' ⟨rfl, b⟩
  exact ⟨⟨_, rfl, none, 0, rfl, fun h => absurd h (by decide)⟩, b⟩))
theorem k_clone (bs : List Nat) (n m : Nat) (hn : bs.length = n) (hm : m ≤ n) (hl : n ≤ 20000) (ad : Addr) (c : Nat) (w : World) (HC : 1 ≤ n → ∃ g z, ad = ⟨g, z, none⟩ ∧ ∀ (k x : Nat), bs[k]? = some x → w.cell? ⟨g, z + k, none⟩ = some (.int .u8 (x : Nat))) : Calls Tryd.prog 29 #[.slice (some ad) m c] w fun r w' => (∃ v, r = .returned v ∧ Whl bs m w.heap.size v w') ∧ Below w.heap.size w w' := by
  refine (t_clone (bs.take m) m (by rw [List.length_take]; omega) (by omega) ad c w (box (fun k x h => ?_))).mono ?_
  · have hkm : k < m := by
      have := (List.getElem?_eq_some_iff.1 h).1
      rw [List.length_take] at this
      omega
    have hx : bs[k]? = some x := by rw [← List.getElem?_take_of_lt hkm]; exact h
    have : k < n := by rw [← hn]; exact (List.getElem?_eq_some_iff.1 hx).1
    obtain ⟨g, z, rfl, hc⟩ := HC (by omega)
    rw [show ({ block := g, off := z, spot := none } : Addr).add k = ⟨g, z + k, none⟩ by simp [Addr.add]]
    exact hc k x hx
  · rintro r w' ⟨⟨v, rfl, gi, ci, cur, rfl, h1, h2, h3, h4⟩, b⟩
    exact ⟨⟨_, rfl, _, _, rfl, fun _ => ⟨gi, cur, rfl, h1, h2, h3, fun k x hx hk => h4 k x (by rw [List.getElem?_take_of_lt hk]; exact hx)⟩⟩, b⟩
set_option maxRecDepth 100000 in
set_option maxHeartbeats 8000000 in
theorem words1_some (bs : List Nat) (n q : Nat) (hn : bs.length = n) (hq : n / 4 = q) (hv : Box (∀ x ∈ bs, x < 256)) (hb : n ≤ 20000) (ad : Addr) (c : Nat) (hc : n ≤ c) (B : Nat) (w0 : World) (hB : w0.heap[B]? = some (.cells #[.slice (some ad) n c] 44)) (HC : Box (1 ≤ n → ∃ g z, ad = ⟨g, z, none⟩ ∧ ∀ W, Below w0.heap.size w0 W → ∀ (k x : Nat), bs[k]? = some x → W.cell? ⟨g, z + k, none⟩ = some (.int .u8 (x : Nat)))) (m : Nat) (hm : 5 ≤ m) :
    SeqTop m Tryd.prog 28 #[.pointer (some ⟨B, 0, none⟩)] (fun x : Int × Int => #[Value.int .i64 x.1, Value.int .u32 x.2]) w0.heap.size (fun ys => ys = wsB bs) (fun pre => pre <+: wsB bs) q w0 := fun l J Jx W hW hJ hJx hY h0 => by
  have hlw := wsB_len bs
  rw [hn, hq] at hlw
  have HAt := box (wsB_at bs)
  rw [hn, hq] at HAt
  obtain ⟨L, hL⟩ : ∃ L, wsB bs = L := ⟨_, rfl⟩
  rw [hL] at hlw HAt ⊢
  have rB := heap_of hW _ _ _ hB
  have cB := cells4 rB 0 _ rfl
  simp only [List.getElem_toArray, List.getElem_cons_zero] at cB
  obtain ⟨F, hF⟩ : ∃ F, F = Fence.wide := ⟨_, rfl⟩
  have hfn : ∀ f, F.fn f := fun f => by rw [hF]; trivial
  have hro : F.round = none := by rw [hF]; rfl
  have hdp : F.depth = none := by rw [hF]; rfl
  have hCI : Box (∀ {m k : Nat} {av : Array Value} {V : World} {R : Ending → World → Prop}, Calls Tryd.prog k av V R → CallsIn F m Tryd.prog k av V R) := box (fun h => by rw [hF]; exact callsIn_wide.2 h)
  simp only [← hF] at hY ⊢
  clear hF
  have hm1 : 1 ≤ m := by omega
  refine callsIn_of_wp Tryd.func28 rfl (hfn _) ?_ hro
  simp only [Tryd.ntmps28, List.size_toArray, List.length_cons, List.length_nil, Nat.reduceAdd, Nat.reduceSub, Array.replicate_succ, Array.replicate_zero, List.push_toArray, List.append_toArray, List.nil_append, List.cons_append]
  have HN := box hn
  have HQ := box hq
  have tq : ((n : Nat) : Int).tdiv 4 = (q : Int) := by rw [← hq]; rfl
  have dq : ((n : Nat) : Int) / 4 = (q : Int) := by rw [← hq]; rfl
  obtain ⟨p, hp⟩ : ∃ p : Nat, q * 4 = p := ⟨_, rfl⟩
  have hpn : p ≤ n := by omega
  have HP := box hp
  have HJ := box hJ
  have HY := box hY
  clear hn hq hL hJ hY rB
  have KC : Calls Tryd.prog 29 #[.slice (some ad) p c] W fun r w' => (∃ v, r = .returned v ∧ Whl bs p W.heap.size v w') ∧ Below W.heap.size W w' :=
    k_clone bs n p HN.out hpn hb ad c W (fun h => by
      obtain ⟨g, z, e, h⟩ := HC.out h
      exact ⟨g, z, e, h W hW⟩)
  have s0 : (0 : Int) ≤ (p : Int) := by omega
  have s1 : (p : Int) ≤ (c : Int) := by omega
  have s2 : ((p : Int)).toNat = p := by omega
  have s3 : (q : Int) * 4 = (p : Int) := by omega
  have s4 : IntKind.i64.wrap ((q : Int) * 4) = (p : Int) := by rw [IntKind.wrap_i64]; omega
  gi_wp2_with fail
  refine (hCI.out KC).mono ?_
  rintro r W1 ⟨⟨v, rfl, os, ci, rfl, hw⟩, b1⟩
  have j1 := own_calls24 HJ.out h0 b1
  obtain ⟨gi, cur, hgc⟩ : ∃ gi cur, 1 ≤ p → os = some ⟨gi, 0, none⟩ ∧ W.heap.size ≤ gi ∧ p ≤ ci ∧ W1.heap[gi]? = some (.cells cur 5) ∧ Box (∀ (k x : Nat), bs[k]? = some x → k < p → cur[k]? = some (.int .u8 (x : Nat))) := by
    by_cases h1 : 1 ≤ p
    · obtain ⟨gi, cur, h2, h3, h4, h5, h6⟩ := hw h1
      exact ⟨gi, cur, fun _ => ⟨h2, h3, h4, h5, box h6⟩⟩
    · exact ⟨0, #[], fun h => absurd h h1⟩
  have r1 : 1 ≤ p → W1.heap[gi]? = some (.cells cur 5) := fun h => (hgc h).2.2.2.1
  have HG := box hgc
  have HE : Box (L.take q = L) := box (List.take_of_length_le (by omega))
  clear h0 b1 cB hw hgc s0 s1 s2 s3 s4 KC tq dq
  gi_wp2
  gi_loopw [4] (fun iv wr => ∃ k : Nat, k ≤ q ∧ iv = .int .i64 ((4 * k : Nat) : Int) ∧ (1 ≤ p → wr.heap[gi]? = some (.cells cur 5)) ∧ J (L.take k) wr) (fun iv _ => 4 * q - (intOf iv).toNat)
  case atStart => exact ⟨0, Nat.zero_le _, rfl, r1, j1⟩
  case round =>
    clear j1 r1
    obtain ⟨k, hk, rfl, hrow, jk⟩ := hrel
    obtain ⟨a, ha⟩ : ∃ a, 4 * k = a := ⟨_, rfl⟩
    have hpp := HP.out
    rw [ha]
    by_cases hlt : k < q
    case neg =>
      have ke : k = q := by omega
      have d1 : decide ((a : Int) < (p : Int)) = false := decide_eq_false (by omega)
      rw [ke, HE.out] at jk
      gi_wp2
      go_end0
      exact ⟨⟨_, rfl⟩, .inl ⟨_, rfl, jk⟩⟩
    have h1p : 1 ≤ p := by omega
    obtain ⟨rfl, hgi, hci, _, HC2⟩ := HG.out h1p
    have row := hrow h1p
    have hbn := HN.out
    obtain ⟨v0, h0⟩ : ∃ v, bs[a]? = some v := ⟨_, List.getElem?_eq_getElem (by omega)⟩
    obtain ⟨v1, h1⟩ : ∃ v, bs[a + 1]? = some v := ⟨_, List.getElem?_eq_getElem (by omega)⟩
    obtain ⟨v2, h2⟩ : ∃ v, bs[a + 2]? = some v := ⟨_, List.getElem?_eq_getElem (by omega)⟩
    obtain ⟨v3, h3⟩ : ∃ v, bs[a + 3]? = some v := ⟨_, List.getElem?_eq_getElem (by omega)⟩
    have x0 := hv.out v0 (List.mem_of_getElem? h0)
    have x1 := hv.out v1 (List.mem_of_getElem? h1)
    have x2 := hv.out v2 (List.mem_of_getElem? h2)
    have x3 := hv.out v3 (List.mem_of_getElem? h3)
    have hat := HAt.out k hlt
    have hwd : wdB bs k = v0 + 256 * v1 + 65536 * v2 + 16777216 * v3 := by
      unfold wdB
      rw [ha, List.getD_eq_getElem?_getD, List.getD_eq_getElem?_getD, List.getD_eq_getElem?_getD, List.getD_eq_getElem?_getD, h0, h1, h2, h3]
      rfl
    rw [hwd, ha] at hat
    have HK := box hlt
    have HAt1 := box hat
    have c0 := cell7 row a _ (HC2.out a v0 h0 (by omega))
    have c1 := cell7 row (a + 1) _ (HC2.out (a + 1) v1 h1 (by omega))
    have c2 := cell7 row (a + 2) _ (HC2.out (a + 2) v2 h2 (by omega))
    have c3 := cell7 row (a + 3) _ (HC2.out (a + 3) v3 h3 (by omega))
    have d1 : decide ((a : Int) < (p : Int)) = true := decide_eq_true (by omega)
    have s0 : (0 : Int) ≤ (a : Int) := by omega
    have s1 : (a : Int) ≤ (p : Int) := by omega
    have s2 : ((a : Int)).toNat = a := by omega
    have s3 : ¬ (p - a < 4) := by omega
    have HA := box ha
    have KJ := t_join v0 v1 v2 v3 x0 x1 x2 x3 wr
    have hap : ∀ w : World, (Instr.arrayAt 79 (.slice (some ⟨gi, a, none⟩) (p - a) (ci - a))).run Tryd.prog w = .ok (.pointer (some ⟨gi, a, none⟩)) w := fun w => run_arrayAt w 79 _ 4 _ (p - a) (ci - a) Tryd.underlying79 (by omega)
    have hw4 : IntKind.i64.wrap ((a : Int) + 4) = ((a + 4 : Nat) : Int) := by rw [IntKind.wrap_i64]; omega
    clear hat hwd h0 h1 h2 h3 ha hbn
    gi_wp2_with fail
    refine (hCI.out KJ).mono ?_
    rintro r W2 ⟨rfl, b2⟩
    have j2 := own_calls24 HJ.out jk b2
    have row2 := heap_of b2 _ _ _ row
    have hlen : (L.take k).length < q := by rw [List.length_take]; omega
    have hsu : L.take (k + 1) = L.take k ++ [(((a : Nat) : Int), ((v0 + 256 * v1 + 65536 * v2 + 16777216 * v3 : Nat) : Int))] := by rw [List.take_add_one, HAt1.out]; rfl
    have HPX := box (List.take_prefix (k + 1) L)
    rw [hsu] at HPX
    have HSU := box hsu
    clear KJ HAt1 hsu
    obtain ⟨X, hX⟩ : ∃ X, v0 + 256 * v1 + 65536 * v2 + 16777216 * v3 = X := ⟨_, rfl⟩
    rw [hX] at HPX HSU ⊢
    clear hX c0 c1 c2 c3 jk b2 row hrow hap
    obtain ⟨fn, tmps, assign, body, hy, hR⟩ := HY.out (L.take k) (((a : Nat) : Int), ((X : Nat) : Int)) W2 j2 hlen
    try dsimp only at hy
    gi_wp2
    refine hR.mono ?_
    rintro e W3 ⟨tk, (⟨rfl, j3, _⟩ | ⟨rfl, jx⟩)⟩
    · gi_wp2
      go_roundw
      case rel => exact ⟨k + 1, by omega, by have := HA.out; first | rfl | (congr 1; omega) | (simp; omega), fun _ => tk.row hgi row2, by rw [HSU.out]; exact j3⟩
      case measure => simp [intOf]; have := HA.out; omega
    · gi_wp2
      refine bodyPost_ret (results_none rfl _ _ _) rfl ?_
      exact ⟨⟨_, rfl⟩, .inr ⟨_, HPX.out, jx⟩⟩
set_option maxRecDepth 100000 in
set_option maxHeartbeats 8000000 in
theorem words1_nil (bs : List Nat) (n q : Nat) (hn : bs.length = n) (hq : n / 4 = q) (hv : Box (∀ x ∈ bs, x < 256)) (hb : n ≤ 20000)  (B : Nat) (w0 : World) (hB : w0.heap[B]? = some (.cells #[.slice none 0 0] 44)) (h0n : n = 0) (m : Nat) (hm : 5 ≤ m) :
    SeqTop m Tryd.prog 28 #[.pointer (some ⟨B, 0, none⟩)] (fun x : Int × Int => #[Value.int .i64 x.1, Value.int .u32 x.2]) w0.heap.size (fun ys => ys = wsB bs) (fun pre => pre <+: wsB bs) q w0 := fun l J Jx W hW hJ hJx hY h0 => by
  have hlw := wsB_len bs
  rw [hn, hq] at hlw
  have HAt := box (wsB_at bs)
  rw [hn, hq] at HAt
  obtain ⟨L, hL⟩ : ∃ L, wsB bs = L := ⟨_, rfl⟩
  rw [hL] at hlw HAt ⊢
  have rB := heap_of hW _ _ _ hB
  have cB := cells4 rB 0 _ rfl
  simp only [List.getElem_toArray, List.getElem_cons_zero] at cB
  obtain ⟨F, hF⟩ : ∃ F, F = Fence.wide := ⟨_, rfl⟩
  have hfn : ∀ f, F.fn f := fun f => by rw [hF]; trivial
  have hro : F.round = none := by rw [hF]; rfl
  have hdp : F.depth = none := by rw [hF]; rfl
  have hCI : Box (∀ {m k : Nat} {av : Array Value} {V : World} {R : Ending → World → Prop}, Calls Tryd.prog k av V R → CallsIn F m Tryd.prog k av V R) := box (fun h => by rw [hF]; exact callsIn_wide.2 h)
  simp only [← hF] at hY ⊢
  clear hF
  have hm1 : 1 ≤ m := by omega
  refine callsIn_of_wp Tryd.func28 rfl (hfn _) ?_ hro
  simp only [Tryd.ntmps28, List.size_toArray, List.length_cons, List.length_nil, Nat.reduceAdd, Nat.reduceSub, Array.replicate_succ, Array.replicate_zero, List.push_toArray, List.append_toArray, List.nil_append, List.cons_append]
  have HN := box hn
  have HQ := box hq
  have tq : ((n : Nat) : Int).tdiv 4 = (q : Int) := by rw [← hq]; rfl
  have dq : ((n : Nat) : Int) / 4 = (q : Int) := by rw [← hq]; rfl
  obtain ⟨p, hp⟩ : ∃ p : Nat, q * 4 = p := ⟨_, rfl⟩
  have hpn : p ≤ n := by omega
  have HP := box hp
  have HJ := box hJ
  have HY := box hY
  clear hn hq hL hJ hY rB
  subst h0n
  have qz : q = 0 := by omega
  subst qz
  have pz : p = 0 := by omega
  subst pz
  have K := k_clone0 bs
  gi_wp2_with fail
  refine (hCI.out (K.out W)).mono ?_
  rintro r W1 ⟨⟨v, rfl, os, ci, rfl, _⟩, b1⟩
  have j1 := own_calls24 HJ.out h0 b1
  clear h0 b1 cB
  gi_wp2
  gi_loopw [4] (fun iv wr => iv = .int .i64 0 ∧ J [] wr) (fun iv _ => 0)
  case atStart => exact ⟨rfl, j1⟩
  case round =>
    clear j1
    obtain ⟨rfl, j1⟩ := hrel
    gi_wp2
    go_end0
    exact ⟨⟨_, rfl⟩, .inl ⟨_, rfl, by rw [List.eq_nil_of_length_eq_zero hlw]; exact j1⟩⟩
set_option maxRecDepth 100000 in
set_option maxHeartbeats 8000000 in
theorem t_words (o : Option Addr) (n c : Nat) (w : World) : Calls Tryd.prog 16 #[.slice o n c] w fun r w0 => ∃ B, r = .returned (.func (.func 28) #[] #[.pointer (some ⟨B, 0, none⟩)]) ∧ Below w.heap.size w w0 ∧ w0.heap[B]? = some (.cells #[.slice o n c] 44) := by
  have HB := box (bal w (.cells #[.slice o n c] 44))
  have HR := box (heap_alloc_last w (.cells #[.slice o n c] 44))
  go_enter Tryd.func16, Tryd.ntmps16
  go_wp2
  go_ret
  exact ⟨_, rfl, HB.out, HR.out⟩
theorem k_words (bs : List Nat) (n : Nat) (hn : bs.length = n) (hv : Box (∀ x ∈ bs, x < 256)) (hb : n ≤ 20000) (o : Option Addr) (c : Nat) (hoc : (o = none ∧ n = 0 ∧ c = 0) ∨ (∃ ad, o = some ad ∧ n ≤ c)) (w : World)
    (HB : Box (1 ≤ n → ∃ g z, o = some ⟨g, z, none⟩ ∧ ∀ W, Below w.heap.size w W → ∀ (k v : Nat), bs[k]? = some v → W.cell? ⟨g, z + k, none⟩ = some (.int .u8 (v : Nat)))) (W : World) (hW : Below w.heap.size w W) :
    Calls Tryd.prog 16 #[.slice o n c] W fun r w0 => ∃ lb, r = .returned (.func (.func 28) #[] lb) ∧ Below W.heap.size W w0 ∧ ∀ n', 5 ≤ n' → SeqTop n' Tryd.prog 28 lb (fun x : Int × Int => #[Value.int .i64 x.1, Value.int .u32 x.2]) w0.heap.size (fun ys => ys = wsB bs) (fun pre => pre <+: wsB bs) (n / 4) w0 := by
  refine (t_words o n c W).mono ?_
  rintro r w0 ⟨B, rfl, hb0, hB⟩
  refine ⟨_, rfl, hb0, fun n' h5 => ?_⟩
  rcases hoc with ⟨rfl, h0, rfl⟩ | ⟨ad, rfl, hc⟩
  · subst h0
    exact words1_nil bs 0 0 hn rfl hv hb B w0 hB rfl n' h5
  · refine words1_some bs n (n / 4) hn rfl hv hb ad c hc B w0 hB (box (fun h1 => ?_)) n' h5
    obtain ⟨g, z, e, h⟩ := HB.out h1
    exact ⟨g, z, Option.some.inj e, fun V hV => h V (btr (btr hW hb0) hV)⟩
end Go.Proofs.YtamlcgmipdcgjaaDoor
