/-
  What the functions that the statement reaches return: part 11 (YF).
-/
import Derived.Test.YtamlcgmipdcgjaaDoorWa10
namespace Go.Proofs.YtamlcgmipdcgjaaDoor
set_option maxRecDepth 100000
set_option maxHeartbeats 40000000
set_option maxRecDepth 100000
open Go.RowKit WMath
set_option linter.unusedSimpArgs false
set_option linter.unusedVariables false
def usI (i : In) : Us := if i.op = 1 ∨ i.op = 22 ∨ i.op = 25 then ⟨2 ^ i.rs1, 0, 0, 2 ^ i.rd⟩ else if i.op = 2 then ⟨2 ^ i.rs1, 2 ^ i.rs2, 0, 0⟩ else if i.op = 3 ∨ i.op = 4 ∨ i.op = 5 ∨ i.op = 6 then ⟨0, 2 ^ i.rs1 ||| 2 ^ i.rs2 ||| 2 ^ i.rs3, 0, 2 ^ i.rd⟩ else if i.op = 11 ∨ i.op = 17 then ⟨0, 2 ^ i.rs1, 0, 2 ^ i.rd⟩ else if i.op = 18 ∨ i.op = 19 ∨ i.op = 20 then ⟨0, 2 ^ i.rs1 ||| 2 ^ i.rs2, 2 ^ i.rd, 0⟩ else if i.op = 21 ∨ i.op = 23 ∨ i.op = 24 then ⟨0, 2 ^ i.rs1, 2 ^ i.rd, 0⟩ else if i.op = 26 ∨ i.op = 27 ∨ i.op = 28 then ⟨2 ^ i.rs1, 0, 2 ^ i.rd, 0⟩ else if i.op = 29 ∨ i.op = 30 ∨ i.op = 31 then ⟨0, 0, 2 ^ i.rd, 0⟩ else ⟨0, 2 ^ i.rs1 ||| 2 ^ i.rs2, 0, 2 ^ i.rd⟩
set_option maxRecDepth 100000 in
set_option maxHeartbeats 8000000 in
theorem b25_uses1 (op : Nat) (ho : op = 1 ∨ op = 22 ∨ op = 25) (fo fr kd rd rs1 rs2 rs3 rm : Nat) (im : Int) (cs A B C D AB ABC : Nat) (pa : (2 : Int) ^ min rs1 32 % 4294967296 = (A : Nat)) (pb : (2 : Int) ^ min rs2 32 % 4294967296 = (B : Nat)) (pc : (2 : Int) ^ min rs3 32 % 4294967296 = (C : Nat)) (pd : (2 : Int) ^ min rd 32 % 4294967296 = (D : Nat)) (ob : bits .or .u32 (A : Nat) (B : Nat) = (AB : Nat)) (oc : bits .or .u32 (AB : Nat) (C : Nat) = (ABC : Nat)) (w : World) : Calls Tryd.prog 14 #[.agg (inC ⟨op, fo, fr, kd, rd, rs1, rs2, rs3, rm, im, cs⟩)] w fun r w' => r = .returned (.agg (usC ⟨A, 0, 0, D⟩)) ∧ Below w.heap.size w w' := by
  have hf : #[Value.int .u32 (A : Nat), .int .u32 0, .int .u32 0, .int .u32 (D : Nat)] = usC ⟨A, 0, 0, D⟩ := rfl
  rcases ho with rfl | rfl | rfl
  · have hO : True := trivial
    obtain ⟨Rx_0, Rz_0, B0⟩ := opn2 w (Obj.cells (inC ⟨1, fo, fr, kd, rd, rs1, rs2, rs3, rm, im, cs⟩) 28) (Obj.cells #[.int .u32 0, .int .u32 0, .int .u32 0, .int .u32 0] 33)
    go_enter Tryd.func14, Tryd.ntmps14
    obtain ⟨cx_0_0, cx_0_1, cx_0_2, cx_0_3, cx_0_4, cx_0_5, cx_0_6, cx_0_7, cx_0_8, cx_0_9, cx_0_10⟩ := inC_cells Rx_0
    go_wp2_with fail
    go_quiet (fail)
    obtain ⟨w1, hw, B1, hh⟩ := quiet_world B0 nq
    rw [hw]
    have Rx_1 : w1.heap[w.heap.size]? = some (Obj.cells (inC ⟨1, fo, fr, kd, rd, rs1, rs2, rs3, rm, im, cs⟩) 28) := by rw [hh]; exact Rx_0
    have Rz_1 : w1.heap[w.heap.size + 1]? = some (Obj.cells #[.int .u32 0, .int .u32 0, .int .u32 0, .int .u32 0] 33) := by rw [hh]; exact Rz_0
    clear hw hh B0 Rx_0 cx_0_0 cx_0_1 cx_0_2 cx_0_3 cx_0_4 cx_0_5 cx_0_6 cx_0_7 cx_0_8 cx_0_9 cx_0_10 Rz_0
    obtain ⟨cx_1_0, cx_1_1, cx_1_2, cx_1_3, cx_1_4, cx_1_5, cx_1_6, cx_1_7, cx_1_8, cx_1_9, cx_1_10⟩ := inC_cells Rx_1
    have hst := usC_store (x := ⟨A, 0, 0, D⟩) Rz_1 rfl
    have rz := setRow_row (c' := usC ⟨A, 0, 0, D⟩) Rz_1
    have bz : Below w.heap.size w (w1.setRow (w.heap.size + 1) (usC ⟨A, 0, 0, D⟩)) := Below.setRow B1 (show w.heap.size ≤ w.heap.size + 1 by first | exact Nat.le_refl _ | omega | (skip; omega))
    obtain ⟨wz, hwz⟩ : ∃ V, w1.setRow (w.heap.size + 1) (usC ⟨A, 0, 0, D⟩) = V := ⟨_, rfl⟩
    rw [hwz] at hst rz bz
    clear hwz
    go_wp2
    exact bodyPost_ret (v := .agg (usC ⟨A, 0, 0, D⟩)) (res_usC Tryd.results14 rfl rz) rfl ⟨rfl, bz⟩
  · have hO : True := trivial
    obtain ⟨Rx_0, Rz_0, B0⟩ := opn2 w (Obj.cells (inC ⟨22, fo, fr, kd, rd, rs1, rs2, rs3, rm, im, cs⟩) 28) (Obj.cells #[.int .u32 0, .int .u32 0, .int .u32 0, .int .u32 0] 33)
    go_enter Tryd.func14, Tryd.ntmps14
    obtain ⟨cx_0_0, cx_0_1, cx_0_2, cx_0_3, cx_0_4, cx_0_5, cx_0_6, cx_0_7, cx_0_8, cx_0_9, cx_0_10⟩ := inC_cells Rx_0
    go_wp2_with fail
    go_quiet (fail)
    obtain ⟨w1, hw, B1, hh⟩ := quiet_world B0 nq
    rw [hw]
    have Rx_1 : w1.heap[w.heap.size]? = some (Obj.cells (inC ⟨22, fo, fr, kd, rd, rs1, rs2, rs3, rm, im, cs⟩) 28) := by rw [hh]; exact Rx_0
    have Rz_1 : w1.heap[w.heap.size + 1]? = some (Obj.cells #[.int .u32 0, .int .u32 0, .int .u32 0, .int .u32 0] 33) := by rw [hh]; exact Rz_0
    clear hw hh B0 Rx_0 cx_0_0 cx_0_1 cx_0_2 cx_0_3 cx_0_4 cx_0_5 cx_0_6 cx_0_7 cx_0_8 cx_0_9 cx_0_10 Rz_0
    obtain ⟨cx_1_0, cx_1_1, cx_1_2, cx_1_3, cx_1_4, cx_1_5, cx_1_6, cx_1_7, cx_1_8, cx_1_9, cx_1_10⟩ := inC_cells Rx_1
    have hst := usC_store (x := ⟨A, 0, 0, D⟩) Rz_1 rfl
    have rz := setRow_row (c' := usC ⟨A, 0, 0, D⟩) Rz_1
    have bz : Below w.heap.size w (w1.setRow (w.heap.size + 1) (usC ⟨A, 0, 0, D⟩)) := Below.setRow B1 (show w.heap.size ≤ w.heap.size + 1 by first | exact Nat.le_refl _ | omega | (skip; omega))
    obtain ⟨wz, hwz⟩ : ∃ V, w1.setRow (w.heap.size + 1) (usC ⟨A, 0, 0, D⟩) = V := ⟨_, rfl⟩
    rw [hwz] at hst rz bz
    clear hwz
    go_wp2
    exact bodyPost_ret (v := .agg (usC ⟨A, 0, 0, D⟩)) (res_usC Tryd.results14 rfl rz) rfl ⟨rfl, bz⟩
  · have hO : True := trivial
    obtain ⟨Rx_0, Rz_0, B0⟩ := opn2 w (Obj.cells (inC ⟨25, fo, fr, kd, rd, rs1, rs2, rs3, rm, im, cs⟩) 28) (Obj.cells #[.int .u32 0, .int .u32 0, .int .u32 0, .int .u32 0] 33)
    go_enter Tryd.func14, Tryd.ntmps14
    obtain ⟨cx_0_0, cx_0_1, cx_0_2, cx_0_3, cx_0_4, cx_0_5, cx_0_6, cx_0_7, cx_0_8, cx_0_9, cx_0_10⟩ := inC_cells Rx_0
    go_wp2_with fail
    go_quiet (fail)
    obtain ⟨w1, hw, B1, hh⟩ := quiet_world B0 nq
    rw [hw]
    have Rx_1 : w1.heap[w.heap.size]? = some (Obj.cells (inC ⟨25, fo, fr, kd, rd, rs1, rs2, rs3, rm, im, cs⟩) 28) := by rw [hh]; exact Rx_0
    have Rz_1 : w1.heap[w.heap.size + 1]? = some (Obj.cells #[.int .u32 0, .int .u32 0, .int .u32 0, .int .u32 0] 33) := by rw [hh]; exact Rz_0
    clear hw hh B0 Rx_0 cx_0_0 cx_0_1 cx_0_2 cx_0_3 cx_0_4 cx_0_5 cx_0_6 cx_0_7 cx_0_8 cx_0_9 cx_0_10 Rz_0
    obtain ⟨cx_1_0, cx_1_1, cx_1_2, cx_1_3, cx_1_4, cx_1_5, cx_1_6, cx_1_7, cx_1_8, cx_1_9, cx_1_10⟩ := inC_cells Rx_1
    have hst := usC_store (x := ⟨A, 0, 0, D⟩) Rz_1 rfl
    have rz := setRow_row (c' := usC ⟨A, 0, 0, D⟩) Rz_1
    have bz : Below w.heap.size w (w1.setRow (w.heap.size + 1) (usC ⟨A, 0, 0, D⟩)) := Below.setRow B1 (show w.heap.size ≤ w.heap.size + 1 by first | exact Nat.le_refl _ | omega | (skip; omega))
    obtain ⟨wz, hwz⟩ : ∃ V, w1.setRow (w.heap.size + 1) (usC ⟨A, 0, 0, D⟩) = V := ⟨_, rfl⟩
    rw [hwz] at hst rz bz
    clear hwz
    go_wp2
    exact bodyPost_ret (v := .agg (usC ⟨A, 0, 0, D⟩)) (res_usC Tryd.results14 rfl rz) rfl ⟨rfl, bz⟩
set_option maxRecDepth 100000 in
set_option maxHeartbeats 8000000 in
theorem b25_uses2 (op : Nat) (ho : op = 2) (fo fr kd rd rs1 rs2 rs3 rm : Nat) (im : Int) (cs A B C D AB ABC : Nat) (pa : (2 : Int) ^ min rs1 32 % 4294967296 = (A : Nat)) (pb : (2 : Int) ^ min rs2 32 % 4294967296 = (B : Nat)) (pc : (2 : Int) ^ min rs3 32 % 4294967296 = (C : Nat)) (pd : (2 : Int) ^ min rd 32 % 4294967296 = (D : Nat)) (ob : bits .or .u32 (A : Nat) (B : Nat) = (AB : Nat)) (oc : bits .or .u32 (AB : Nat) (C : Nat) = (ABC : Nat)) (w : World) : Calls Tryd.prog 14 #[.agg (inC ⟨op, fo, fr, kd, rd, rs1, rs2, rs3, rm, im, cs⟩)] w fun r w' => r = .returned (.agg (usC ⟨A, B, 0, 0⟩)) ∧ Below w.heap.size w w' := by
  have hf : #[Value.int .u32 (A : Nat), .int .u32 (B : Nat), .int .u32 0, .int .u32 0] = usC ⟨A, B, 0, 0⟩ := rfl
  rcases ho with rfl
  · have hO : True := trivial
    obtain ⟨Rx_0, Rz_0, B0⟩ := opn2 w (Obj.cells (inC ⟨2, fo, fr, kd, rd, rs1, rs2, rs3, rm, im, cs⟩) 28) (Obj.cells #[.int .u32 0, .int .u32 0, .int .u32 0, .int .u32 0] 33)
    go_enter Tryd.func14, Tryd.ntmps14
    obtain ⟨cx_0_0, cx_0_1, cx_0_2, cx_0_3, cx_0_4, cx_0_5, cx_0_6, cx_0_7, cx_0_8, cx_0_9, cx_0_10⟩ := inC_cells Rx_0
    go_wp2_with fail
    go_quiet (fail)
    obtain ⟨w1, hw, B1, hh⟩ := quiet_world B0 nq
    rw [hw]
    have Rx_1 : w1.heap[w.heap.size]? = some (Obj.cells (inC ⟨2, fo, fr, kd, rd, rs1, rs2, rs3, rm, im, cs⟩) 28) := by rw [hh]; exact Rx_0
    have Rz_1 : w1.heap[w.heap.size + 1]? = some (Obj.cells #[.int .u32 0, .int .u32 0, .int .u32 0, .int .u32 0] 33) := by rw [hh]; exact Rz_0
    clear hw hh B0 Rx_0 cx_0_0 cx_0_1 cx_0_2 cx_0_3 cx_0_4 cx_0_5 cx_0_6 cx_0_7 cx_0_8 cx_0_9 cx_0_10 Rz_0
    obtain ⟨cx_1_0, cx_1_1, cx_1_2, cx_1_3, cx_1_4, cx_1_5, cx_1_6, cx_1_7, cx_1_8, cx_1_9, cx_1_10⟩ := inC_cells Rx_1
    have hst := usC_store (x := ⟨A, B, 0, 0⟩) Rz_1 rfl
    have rz := setRow_row (c' := usC ⟨A, B, 0, 0⟩) Rz_1
    have bz : Below w.heap.size w (w1.setRow (w.heap.size + 1) (usC ⟨A, B, 0, 0⟩)) := Below.setRow B1 (show w.heap.size ≤ w.heap.size + 1 by first | exact Nat.le_refl _ | omega | (skip; omega))
    obtain ⟨wz, hwz⟩ : ∃ V, w1.setRow (w.heap.size + 1) (usC ⟨A, B, 0, 0⟩) = V := ⟨_, rfl⟩
    rw [hwz] at hst rz bz
    clear hwz
    go_wp2
    exact bodyPost_ret (v := .agg (usC ⟨A, B, 0, 0⟩)) (res_usC Tryd.results14 rfl rz) rfl ⟨rfl, bz⟩
set_option maxRecDepth 100000 in
set_option maxHeartbeats 8000000 in
theorem b25_uses3 (op : Nat) (ho : op = 3 ∨ op = 4 ∨ op = 5 ∨ op = 6) (fo fr kd rd rs1 rs2 rs3 rm : Nat) (im : Int) (cs A B C D AB ABC : Nat) (pa : (2 : Int) ^ min rs1 32 % 4294967296 = (A : Nat)) (pb : (2 : Int) ^ min rs2 32 % 4294967296 = (B : Nat)) (pc : (2 : Int) ^ min rs3 32 % 4294967296 = (C : Nat)) (pd : (2 : Int) ^ min rd 32 % 4294967296 = (D : Nat)) (ob : bits .or .u32 (A : Nat) (B : Nat) = (AB : Nat)) (oc : bits .or .u32 (AB : Nat) (C : Nat) = (ABC : Nat)) (w : World) : Calls Tryd.prog 14 #[.agg (inC ⟨op, fo, fr, kd, rd, rs1, rs2, rs3, rm, im, cs⟩)] w fun r w' => r = .returned (.agg (usC ⟨0, ABC, 0, D⟩)) ∧ Below w.heap.size w w' := by
  have hf : #[Value.int .u32 0, .int .u32 (ABC : Nat), .int .u32 0, .int .u32 (D : Nat)] = usC ⟨0, ABC, 0, D⟩ := rfl
  rcases ho with rfl | rfl | rfl | rfl
  · have hO : True := trivial
    obtain ⟨Rx_0, Rz_0, B0⟩ := opn2 w (Obj.cells (inC ⟨3, fo, fr, kd, rd, rs1, rs2, rs3, rm, im, cs⟩) 28) (Obj.cells #[.int .u32 0, .int .u32 0, .int .u32 0, .int .u32 0] 33)
    go_enter Tryd.func14, Tryd.ntmps14
    obtain ⟨cx_0_0, cx_0_1, cx_0_2, cx_0_3, cx_0_4, cx_0_5, cx_0_6, cx_0_7, cx_0_8, cx_0_9, cx_0_10⟩ := inC_cells Rx_0
    go_wp2_with fail
    go_quiet (fail)
    obtain ⟨w1, hw, B1, hh⟩ := quiet_world B0 nq
    rw [hw]
    have Rx_1 : w1.heap[w.heap.size]? = some (Obj.cells (inC ⟨3, fo, fr, kd, rd, rs1, rs2, rs3, rm, im, cs⟩) 28) := by rw [hh]; exact Rx_0
    have Rz_1 : w1.heap[w.heap.size + 1]? = some (Obj.cells #[.int .u32 0, .int .u32 0, .int .u32 0, .int .u32 0] 33) := by rw [hh]; exact Rz_0
    clear hw hh B0 Rx_0 cx_0_0 cx_0_1 cx_0_2 cx_0_3 cx_0_4 cx_0_5 cx_0_6 cx_0_7 cx_0_8 cx_0_9 cx_0_10 Rz_0
    obtain ⟨cx_1_0, cx_1_1, cx_1_2, cx_1_3, cx_1_4, cx_1_5, cx_1_6, cx_1_7, cx_1_8, cx_1_9, cx_1_10⟩ := inC_cells Rx_1
    have hst := usC_store (x := ⟨0, ABC, 0, D⟩) Rz_1 rfl
    have rz := setRow_row (c' := usC ⟨0, ABC, 0, D⟩) Rz_1
    have bz : Below w.heap.size w (w1.setRow (w.heap.size + 1) (usC ⟨0, ABC, 0, D⟩)) := Below.setRow B1 (show w.heap.size ≤ w.heap.size + 1 by first | exact Nat.le_refl _ | omega | (skip; omega))
    obtain ⟨wz, hwz⟩ : ∃ V, w1.setRow (w.heap.size + 1) (usC ⟨0, ABC, 0, D⟩) = V := ⟨_, rfl⟩
    rw [hwz] at hst rz bz
    clear hwz
    go_wp2
    exact bodyPost_ret (v := .agg (usC ⟨0, ABC, 0, D⟩)) (res_usC Tryd.results14 rfl rz) rfl ⟨rfl, bz⟩
  · have hO : True := trivial
    obtain ⟨Rx_0, Rz_0, B0⟩ := opn2 w (Obj.cells (inC ⟨4, fo, fr, kd, rd, rs1, rs2, rs3, rm, im, cs⟩) 28) (Obj.cells #[.int .u32 0, .int .u32 0, .int .u32 0, .int .u32 0] 33)
    go_enter Tryd.func14, Tryd.ntmps14
    obtain ⟨cx_0_0, cx_0_1, cx_0_2, cx_0_3, cx_0_4, cx_0_5, cx_0_6, cx_0_7, cx_0_8, cx_0_9, cx_0_10⟩ := inC_cells Rx_0
    go_wp2_with fail
    go_quiet (fail)
    obtain ⟨w1, hw, B1, hh⟩ := quiet_world B0 nq
    rw [hw]
    have Rx_1 : w1.heap[w.heap.size]? = some (Obj.cells (inC ⟨4, fo, fr, kd, rd, rs1, rs2, rs3, rm, im, cs⟩) 28) := by rw [hh]; exact Rx_0
    have Rz_1 : w1.heap[w.heap.size + 1]? = some (Obj.cells #[.int .u32 0, .int .u32 0, .int .u32 0, .int .u32 0] 33) := by rw [hh]; exact Rz_0
    clear hw hh B0 Rx_0 cx_0_0 cx_0_1 cx_0_2 cx_0_3 cx_0_4 cx_0_5 cx_0_6 cx_0_7 cx_0_8 cx_0_9 cx_0_10 Rz_0
    obtain ⟨cx_1_0, cx_1_1, cx_1_2, cx_1_3, cx_1_4, cx_1_5, cx_1_6, cx_1_7, cx_1_8, cx_1_9, cx_1_10⟩ := inC_cells Rx_1
    have hst := usC_store (x := ⟨0, ABC, 0, D⟩) Rz_1 rfl
    have rz := setRow_row (c' := usC ⟨0, ABC, 0, D⟩) Rz_1
    have bz : Below w.heap.size w (w1.setRow (w.heap.size + 1) (usC ⟨0, ABC, 0, D⟩)) := Below.setRow B1 (show w.heap.size ≤ w.heap.size + 1 by first | exact Nat.le_refl _ | omega | (skip; omega))
    obtain ⟨wz, hwz⟩ : ∃ V, w1.setRow (w.heap.size + 1) (usC ⟨0, ABC, 0, D⟩) = V := ⟨_, rfl⟩
    rw [hwz] at hst rz bz
    clear hwz
    go_wp2
    exact bodyPost_ret (v := .agg (usC ⟨0, ABC, 0, D⟩)) (res_usC Tryd.results14 rfl rz) rfl ⟨rfl, bz⟩
  · have hO : True := trivial
    obtain ⟨Rx_0, Rz_0, B0⟩ := opn2 w (Obj.cells (inC ⟨5, fo, fr, kd, rd, rs1, rs2, rs3, rm, im, cs⟩) 28) (Obj.cells #[.int .u32 0, .int .u32 0, .int .u32 0, .int .u32 0] 33)
    go_enter Tryd.func14, Tryd.ntmps14
    obtain ⟨cx_0_0, cx_0_1, cx_0_2, cx_0_3, cx_0_4, cx_0_5, cx_0_6, cx_0_7, cx_0_8, cx_0_9, cx_0_10⟩ := inC_cells Rx_0
    go_wp2_with fail
    go_quiet (fail)
    obtain ⟨w1, hw, B1, hh⟩ := quiet_world B0 nq
    rw [hw]
    have Rx_1 : w1.heap[w.heap.size]? = some (Obj.cells (inC ⟨5, fo, fr, kd, rd, rs1, rs2, rs3, rm, im, cs⟩) 28) := by rw [hh]; exact Rx_0
    have Rz_1 : w1.heap[w.heap.size + 1]? = some (Obj.cells #[.int .u32 0, .int .u32 0, .int .u32 0, .int .u32 0] 33) := by rw [hh]; exact Rz_0
    clear hw hh B0 Rx_0 cx_0_0 cx_0_1 cx_0_2 cx_0_3 cx_0_4 cx_0_5 cx_0_6 cx_0_7 cx_0_8 cx_0_9 cx_0_10 Rz_0
    obtain ⟨cx_1_0, cx_1_1, cx_1_2, cx_1_3, cx_1_4, cx_1_5, cx_1_6, cx_1_7, cx_1_8, cx_1_9, cx_1_10⟩ := inC_cells Rx_1
    have hst := usC_store (x := ⟨0, ABC, 0, D⟩) Rz_1 rfl
    have rz := setRow_row (c' := usC ⟨0, ABC, 0, D⟩) Rz_1
    have bz : Below w.heap.size w (w1.setRow (w.heap.size + 1) (usC ⟨0, ABC, 0, D⟩)) := Below.setRow B1 (show w.heap.size ≤ w.heap.size + 1 by first | exact Nat.le_refl _ | omega | (skip; omega))
    obtain ⟨wz, hwz⟩ : ∃ V, w1.setRow (w.heap.size + 1) (usC ⟨0, ABC, 0, D⟩) = V := ⟨_, rfl⟩
    rw [hwz] at hst rz bz
    clear hwz
    go_wp2
    exact bodyPost_ret (v := .agg (usC ⟨0, ABC, 0, D⟩)) (res_usC Tryd.results14 rfl rz) rfl ⟨rfl, bz⟩
  · have hO : True := trivial
    obtain ⟨Rx_0, Rz_0, B0⟩ := opn2 w (Obj.cells (inC ⟨6, fo, fr, kd, rd, rs1, rs2, rs3, rm, im, cs⟩) 28) (Obj.cells #[.int .u32 0, .int .u32 0, .int .u32 0, .int .u32 0] 33)
    go_enter Tryd.func14, Tryd.ntmps14
    obtain ⟨cx_0_0, cx_0_1, cx_0_2, cx_0_3, cx_0_4, cx_0_5, cx_0_6, cx_0_7, cx_0_8, cx_0_9, cx_0_10⟩ := inC_cells Rx_0
    go_wp2_with fail
    go_quiet (fail)
    obtain ⟨w1, hw, B1, hh⟩ := quiet_world B0 nq
    rw [hw]
    have Rx_1 : w1.heap[w.heap.size]? = some (Obj.cells (inC ⟨6, fo, fr, kd, rd, rs1, rs2, rs3, rm, im, cs⟩) 28) := by rw [hh]; exact Rx_0
    have Rz_1 : w1.heap[w.heap.size + 1]? = some (Obj.cells #[.int .u32 0, .int .u32 0, .int .u32 0, .int .u32 0] 33) := by rw [hh]; exact Rz_0
    clear hw hh B0 Rx_0 cx_0_0 cx_0_1 cx_0_2 cx_0_3 cx_0_4 cx_0_5 cx_0_6 cx_0_7 cx_0_8 cx_0_9 cx_0_10 Rz_0
    obtain ⟨cx_1_0, cx_1_1, cx_1_2, cx_1_3, cx_1_4, cx_1_5, cx_1_6, cx_1_7, cx_1_8, cx_1_9, cx_1_10⟩ := inC_cells Rx_1
    have hst := usC_store (x := ⟨0, ABC, 0, D⟩) Rz_1 rfl
    have rz := setRow_row (c' := usC ⟨0, ABC, 0, D⟩) Rz_1
    have bz : Below w.heap.size w (w1.setRow (w.heap.size + 1) (usC ⟨0, ABC, 0, D⟩)) := Below.setRow B1 (show w.heap.size ≤ w.heap.size + 1 by first | exact Nat.le_refl _ | omega | (skip; omega))
    obtain ⟨wz, hwz⟩ : ∃ V, w1.setRow (w.heap.size + 1) (usC ⟨0, ABC, 0, D⟩) = V := ⟨_, rfl⟩
    rw [hwz] at hst rz bz
    clear hwz
    go_wp2
    exact bodyPost_ret (v := .agg (usC ⟨0, ABC, 0, D⟩)) (res_usC Tryd.results14 rfl rz) rfl ⟨rfl, bz⟩
set_option maxRecDepth 100000 in
set_option maxHeartbeats 8000000 in
theorem b25_uses7 (op : Nat) (ho : op = 7 ∨ op = 8 ∨ op = 9 ∨ op = 10 ∨ op = 12 ∨ op = 13 ∨ op = 14 ∨ op = 15 ∨ op = 16) (fo fr kd rd rs1 rs2 rs3 rm : Nat) (im : Int) (cs A B C D AB ABC : Nat) (pa : (2 : Int) ^ min rs1 32 % 4294967296 = (A : Nat)) (pb : (2 : Int) ^ min rs2 32 % 4294967296 = (B : Nat)) (pc : (2 : Int) ^ min rs3 32 % 4294967296 = (C : Nat)) (pd : (2 : Int) ^ min rd 32 % 4294967296 = (D : Nat)) (ob : bits .or .u32 (A : Nat) (B : Nat) = (AB : Nat)) (oc : bits .or .u32 (AB : Nat) (C : Nat) = (ABC : Nat)) (w : World) : Calls Tryd.prog 14 #[.agg (inC ⟨op, fo, fr, kd, rd, rs1, rs2, rs3, rm, im, cs⟩)] w fun r w' => r = .returned (.agg (usC ⟨0, AB, 0, D⟩)) ∧ Below w.heap.size w w' := by
  have hf : #[Value.int .u32 0, .int .u32 (AB : Nat), .int .u32 0, .int .u32 (D : Nat)] = usC ⟨0, AB, 0, D⟩ := rfl
  rcases ho with rfl | rfl | rfl | rfl | rfl | rfl | rfl | rfl | rfl
  · have hO : True := trivial
    obtain ⟨Rx_0, Rz_0, B0⟩ := opn2 w (Obj.cells (inC ⟨7, fo, fr, kd, rd, rs1, rs2, rs3, rm, im, cs⟩) 28) (Obj.cells #[.int .u32 0, .int .u32 0, .int .u32 0, .int .u32 0] 33)
    go_enter Tryd.func14, Tryd.ntmps14
    obtain ⟨cx_0_0, cx_0_1, cx_0_2, cx_0_3, cx_0_4, cx_0_5, cx_0_6, cx_0_7, cx_0_8, cx_0_9, cx_0_10⟩ := inC_cells Rx_0
    go_wp2_with fail
    go_quiet (fail)
    obtain ⟨w1, hw, B1, hh⟩ := quiet_world B0 nq
    rw [hw]
    have Rx_1 : w1.heap[w.heap.size]? = some (Obj.cells (inC ⟨7, fo, fr, kd, rd, rs1, rs2, rs3, rm, im, cs⟩) 28) := by rw [hh]; exact Rx_0
    have Rz_1 : w1.heap[w.heap.size + 1]? = some (Obj.cells #[.int .u32 0, .int .u32 0, .int .u32 0, .int .u32 0] 33) := by rw [hh]; exact Rz_0
    clear hw hh B0 Rx_0 cx_0_0 cx_0_1 cx_0_2 cx_0_3 cx_0_4 cx_0_5 cx_0_6 cx_0_7 cx_0_8 cx_0_9 cx_0_10 Rz_0
    obtain ⟨cx_1_0, cx_1_1, cx_1_2, cx_1_3, cx_1_4, cx_1_5, cx_1_6, cx_1_7, cx_1_8, cx_1_9, cx_1_10⟩ := inC_cells Rx_1
    have hst := usC_store (x := ⟨0, AB, 0, D⟩) Rz_1 rfl
    have rz := setRow_row (c' := usC ⟨0, AB, 0, D⟩) Rz_1
    have bz : Below w.heap.size w (w1.setRow (w.heap.size + 1) (usC ⟨0, AB, 0, D⟩)) := Below.setRow B1 (show w.heap.size ≤ w.heap.size + 1 by first | exact Nat.le_refl _ | omega | (skip; omega))
    obtain ⟨wz, hwz⟩ : ∃ V, w1.setRow (w.heap.size + 1) (usC ⟨0, AB, 0, D⟩) = V := ⟨_, rfl⟩
    rw [hwz] at hst rz bz
    clear hwz
    go_wp2
    exact bodyPost_ret (v := .agg (usC ⟨0, AB, 0, D⟩)) (res_usC Tryd.results14 rfl rz) rfl ⟨rfl, bz⟩
  · have hO : True := trivial
    obtain ⟨Rx_0, Rz_0, B0⟩ := opn2 w (Obj.cells (inC ⟨8, fo, fr, kd, rd, rs1, rs2, rs3, rm, im, cs⟩) 28) (Obj.cells #[.int .u32 0, .int .u32 0, .int .u32 0, .int .u32 0] 33)
    go_enter Tryd.func14, Tryd.ntmps14
    obtain ⟨cx_0_0, cx_0_1, cx_0_2, cx_0_3, cx_0_4, cx_0_5, cx_0_6, cx_0_7, cx_0_8, cx_0_9, cx_0_10⟩ := inC_cells Rx_0
    go_wp2_with fail
    go_quiet (fail)
    obtain ⟨w1, hw, B1, hh⟩ := quiet_world B0 nq
    rw [hw]
    have Rx_1 : w1.heap[w.heap.size]? = some (Obj.cells (inC ⟨8, fo, fr, kd, rd, rs1, rs2, rs3, rm, im, cs⟩) 28) := by rw [hh]; exact Rx_0
    have Rz_1 : w1.heap[w.heap.size + 1]? = some (Obj.cells #[.int .u32 0, .int .u32 0, .int .u32 0, .int .u32 0] 33) := by rw [hh]; exact Rz_0
    clear hw hh B0 Rx_0 cx_0_0 cx_0_1 cx_0_2 cx_0_3 cx_0_4 cx_0_5 cx_0_6 cx_0_7 cx_0_8 cx_0_9 cx_0_10 Rz_0
    obtain ⟨cx_1_0, cx_1_1, cx_1_2, cx_1_3, cx_1_4, cx_1_5, cx_1_6, cx_1_7, cx_1_8, cx_1_9, cx_1_10⟩ := inC_cells Rx_1
    have hst := usC_store (x := ⟨0, AB, 0, D⟩) Rz_1 rfl
    have rz := setRow_row (c' := usC ⟨0, AB, 0, D⟩) Rz_1
    have bz : Below w.heap.size w (w1.setRow (w.heap.size + 1) (usC ⟨0, AB, 0, D⟩)) := Below.setRow B1 (show w.heap.size ≤ w.heap.size + 1 by first | exact Nat.le_refl _ | omega | (skip; omega))
    obtain ⟨wz, hwz⟩ : ∃ V, w1.setRow (w.heap.size + 1) (usC ⟨0, AB, 0, D⟩) = V := ⟨_, rfl⟩
    rw [hwz] at hst rz bz
    clear hwz
    go_wp2
    exact bodyPost_ret (v := .agg (usC ⟨0, AB, 0, D⟩)) (res_usC Tryd.results14 rfl rz) rfl ⟨rfl, bz⟩
  · have hO : True := trivial
    obtain ⟨Rx_0, Rz_0, B0⟩ := opn2 w (Obj.cells (inC ⟨9, fo, fr, kd, rd, rs1, rs2, rs3, rm, im, cs⟩) 28) (Obj.cells #[.int .u32 0, .int .u32 0, .int .u32 0, .int .u32 0] 33)
    go_enter Tryd.func14, Tryd.ntmps14
    obtain ⟨cx_0_0, cx_0_1, cx_0_2, cx_0_3, cx_0_4, cx_0_5, cx_0_6, cx_0_7, cx_0_8, cx_0_9, cx_0_10⟩ := inC_cells Rx_0
    go_wp2_with fail
    go_quiet (fail)
    obtain ⟨w1, hw, B1, hh⟩ := quiet_world B0 nq
    rw [hw]
    have Rx_1 : w1.heap[w.heap.size]? = some (Obj.cells (inC ⟨9, fo, fr, kd, rd, rs1, rs2, rs3, rm, im, cs⟩) 28) := by rw [hh]; exact Rx_0
    have Rz_1 : w1.heap[w.heap.size + 1]? = some (Obj.cells #[.int .u32 0, .int .u32 0, .int .u32 0, .int .u32 0] 33) := by rw [hh]; exact Rz_0
    clear hw hh B0 Rx_0 cx_0_0 cx_0_1 cx_0_2 cx_0_3 cx_0_4 cx_0_5 cx_0_6 cx_0_7 cx_0_8 cx_0_9 cx_0_10 Rz_0
    obtain ⟨cx_1_0, cx_1_1, cx_1_2, cx_1_3, cx_1_4, cx_1_5, cx_1_6, cx_1_7, cx_1_8, cx_1_9, cx_1_10⟩ := inC_cells Rx_1
    have hst := usC_store (x := ⟨0, AB, 0, D⟩) Rz_1 rfl
    have rz := setRow_row (c' := usC ⟨0, AB, 0, D⟩) Rz_1
    have bz : Below w.heap.size w (w1.setRow (w.heap.size + 1) (usC ⟨0, AB, 0, D⟩)) := Below.setRow B1 (show w.heap.size ≤ w.heap.size + 1 by first | exact Nat.le_refl _ | omega | (skip; omega))
    obtain ⟨wz, hwz⟩ : ∃ V, w1.setRow (w.heap.size + 1) (usC ⟨0, AB, 0, D⟩) = V := ⟨_, rfl⟩
    rw [hwz] at hst rz bz
    clear hwz
    go_wp2
    exact bodyPost_ret (v := .agg (usC ⟨0, AB, 0, D⟩)) (res_usC Tryd.results14 rfl rz) rfl ⟨rfl, bz⟩
  · have hO : True := trivial
    obtain ⟨Rx_0, Rz_0, B0⟩ := opn2 w (Obj.cells (inC ⟨10, fo, fr, kd, rd, rs1, rs2, rs3, rm, im, cs⟩) 28) (Obj.cells #[.int .u32 0, .int .u32 0, .int .u32 0, .int .u32 0] 33)
    go_enter Tryd.func14, Tryd.ntmps14
    obtain ⟨cx_0_0, cx_0_1, cx_0_2, cx_0_3, cx_0_4, cx_0_5, cx_0_6, cx_0_7, cx_0_8, cx_0_9, cx_0_10⟩ := inC_cells Rx_0
    go_wp2_with fail
    go_quiet (fail)
    obtain ⟨w1, hw, B1, hh⟩ := quiet_world B0 nq
    rw [hw]
    have Rx_1 : w1.heap[w.heap.size]? = some (Obj.cells (inC ⟨10, fo, fr, kd, rd, rs1, rs2, rs3, rm, im, cs⟩) 28) := by rw [hh]; exact Rx_0
    have Rz_1 : w1.heap[w.heap.size + 1]? = some (Obj.cells #[.int .u32 0, .int .u32 0, .int .u32 0, .int .u32 0] 33) := by rw [hh]; exact Rz_0
    clear hw hh B0 Rx_0 cx_0_0 cx_0_1 cx_0_2 cx_0_3 cx_0_4 cx_0_5 cx_0_6 cx_0_7 cx_0_8 cx_0_9 cx_0_10 Rz_0
    obtain ⟨cx_1_0, cx_1_1, cx_1_2, cx_1_3, cx_1_4, cx_1_5, cx_1_6, cx_1_7, cx_1_8, cx_1_9, cx_1_10⟩ := inC_cells Rx_1
    have hst := usC_store (x := ⟨0, AB, 0, D⟩) Rz_1 rfl
    have rz := setRow_row (c' := usC ⟨0, AB, 0, D⟩) Rz_1
    have bz : Below w.heap.size w (w1.setRow (w.heap.size + 1) (usC ⟨0, AB, 0, D⟩)) := Below.setRow B1 (show w.heap.size ≤ w.heap.size + 1 by first | exact Nat.le_refl _ | omega | (skip; omega))
    obtain ⟨wz, hwz⟩ : ∃ V, w1.setRow (w.heap.size + 1) (usC ⟨0, AB, 0, D⟩) = V := ⟨_, rfl⟩
    rw [hwz] at hst rz bz
    clear hwz
    go_wp2
    exact bodyPost_ret (v := .agg (usC ⟨0, AB, 0, D⟩)) (res_usC Tryd.results14 rfl rz) rfl ⟨rfl, bz⟩
  · have hO : True := trivial
    obtain ⟨Rx_0, Rz_0, B0⟩ := opn2 w (Obj.cells (inC ⟨12, fo, fr, kd, rd, rs1, rs2, rs3, rm, im, cs⟩) 28) (Obj.cells #[.int .u32 0, .int .u32 0, .int .u32 0, .int .u32 0] 33)
    go_enter Tryd.func14, Tryd.ntmps14
    obtain ⟨cx_0_0, cx_0_1, cx_0_2, cx_0_3, cx_0_4, cx_0_5, cx_0_6, cx_0_7, cx_0_8, cx_0_9, cx_0_10⟩ := inC_cells Rx_0
    go_wp2_with fail
    go_quiet (fail)
    obtain ⟨w1, hw, B1, hh⟩ := quiet_world B0 nq
    rw [hw]
    have Rx_1 : w1.heap[w.heap.size]? = some (Obj.cells (inC ⟨12, fo, fr, kd, rd, rs1, rs2, rs3, rm, im, cs⟩) 28) := by rw [hh]; exact Rx_0
    have Rz_1 : w1.heap[w.heap.size + 1]? = some (Obj.cells #[.int .u32 0, .int .u32 0, .int .u32 0, .int .u32 0] 33) := by rw [hh]; exact Rz_0
    clear hw hh B0 Rx_0 cx_0_0 cx_0_1 cx_0_2 cx_0_3 cx_0_4 cx_0_5 cx_0_6 cx_0_7 cx_0_8 cx_0_9 cx_0_10 Rz_0
    obtain ⟨cx_1_0, cx_1_1, cx_1_2, cx_1_3, cx_1_4, cx_1_5, cx_1_6, cx_1_7, cx_1_8, cx_1_9, cx_1_10⟩ := inC_cells Rx_1
    have hst := usC_store (x := ⟨0, AB, 0, D⟩) Rz_1 rfl
    have rz := setRow_row (c' := usC ⟨0, AB, 0, D⟩) Rz_1
    have bz : Below w.heap.size w (w1.setRow (w.heap.size + 1) (usC ⟨0, AB, 0, D⟩)) := Below.setRow B1 (show w.heap.size ≤ w.heap.size + 1 by first | exact Nat.le_refl _ | omega | (skip; omega))
    obtain ⟨wz, hwz⟩ : ∃ V, w1.setRow (w.heap.size + 1) (usC ⟨0, AB, 0, D⟩) = V := ⟨_, rfl⟩
    rw [hwz] at hst rz bz
    clear hwz
    go_wp2
    exact bodyPost_ret (v := .agg (usC ⟨0, AB, 0, D⟩)) (res_usC Tryd.results14 rfl rz) rfl ⟨rfl, bz⟩
  · have hO : True := trivial
    obtain ⟨Rx_0, Rz_0, B0⟩ := opn2 w (Obj.cells (inC ⟨13, fo, fr, kd, rd, rs1, rs2, rs3, rm, im, cs⟩) 28) (Obj.cells #[.int .u32 0, .int .u32 0, .int .u32 0, .int .u32 0] 33)
    go_enter Tryd.func14, Tryd.ntmps14
    obtain ⟨cx_0_0, cx_0_1, cx_0_2, cx_0_3, cx_0_4, cx_0_5, cx_0_6, cx_0_7, cx_0_8, cx_0_9, cx_0_10⟩ := inC_cells Rx_0
    go_wp2_with fail
    go_quiet (fail)
    obtain ⟨w1, hw, B1, hh⟩ := quiet_world B0 nq
    rw [hw]
    have Rx_1 : w1.heap[w.heap.size]? = some (Obj.cells (inC ⟨13, fo, fr, kd, rd, rs1, rs2, rs3, rm, im, cs⟩) 28) := by rw [hh]; exact Rx_0
    have Rz_1 : w1.heap[w.heap.size + 1]? = some (Obj.cells #[.int .u32 0, .int .u32 0, .int .u32 0, .int .u32 0] 33) := by rw [hh]; exact Rz_0
    clear hw hh B0 Rx_0 cx_0_0 cx_0_1 cx_0_2 cx_0_3 cx_0_4 cx_0_5 cx_0_6 cx_0_7 cx_0_8 cx_0_9 cx_0_10 Rz_0
    obtain ⟨cx_1_0, cx_1_1, cx_1_2, cx_1_3, cx_1_4, cx_1_5, cx_1_6, cx_1_7, cx_1_8, cx_1_9, cx_1_10⟩ := inC_cells Rx_1
    have hst := usC_store (x := ⟨0, AB, 0, D⟩) Rz_1 rfl
    have rz := setRow_row (c' := usC ⟨0, AB, 0, D⟩) Rz_1
    have bz : Below w.heap.size w (w1.setRow (w.heap.size + 1) (usC ⟨0, AB, 0, D⟩)) := Below.setRow B1 (show w.heap.size ≤ w.heap.size + 1 by first | exact Nat.le_refl _ | omega | (skip; omega))
    obtain ⟨wz, hwz⟩ : ∃ V, w1.setRow (w.heap.size + 1) (usC ⟨0, AB, 0, D⟩) = V := ⟨_, rfl⟩
    rw [hwz] at hst rz bz
    clear hwz
    go_wp2
    exact bodyPost_ret (v := .agg (usC ⟨0, AB, 0, D⟩)) (res_usC Tryd.results14 rfl rz) rfl ⟨rfl, bz⟩
  · have hO : True := trivial
    obtain ⟨Rx_0, Rz_0, B0⟩ := opn2 w (Obj.cells (inC ⟨14, fo, fr, kd, rd, rs1, rs2, rs3, rm, im, cs⟩) 28) (Obj.cells #[.int .u32 0, .int .u32 0, .int .u32 0, .int .u32 0] 33)
    go_enter Tryd.func14, Tryd.ntmps14
    obtain ⟨cx_0_0, cx_0_1, cx_0_2, cx_0_3, cx_0_4, cx_0_5, cx_0_6, cx_0_7, cx_0_8, cx_0_9, cx_0_10⟩ := inC_cells Rx_0
    go_wp2_with fail
    go_quiet (fail)
    obtain ⟨w1, hw, B1, hh⟩ := quiet_world B0 nq
    rw [hw]
    have Rx_1 : w1.heap[w.heap.size]? = some (Obj.cells (inC ⟨14, fo, fr, kd, rd, rs1, rs2, rs3, rm, im, cs⟩) 28) := by rw [hh]; exact Rx_0
    have Rz_1 : w1.heap[w.heap.size + 1]? = some (Obj.cells #[.int .u32 0, .int .u32 0, .int .u32 0, .int .u32 0] 33) := by rw [hh]; exact Rz_0
    clear hw hh B0 Rx_0 cx_0_0 cx_0_1 cx_0_2 cx_0_3 cx_0_4 cx_0_5 cx_0_6 cx_0_7 cx_0_8 cx_0_9 cx_0_10 Rz_0
    obtain ⟨cx_1_0, cx_1_1, cx_1_2, cx_1_3, cx_1_4, cx_1_5, cx_1_6, cx_1_7, cx_1_8, cx_1_9, cx_1_10⟩ := inC_cells Rx_1
    have hst := usC_store (x := ⟨0, AB, 0, D⟩) Rz_1 rfl
    have rz := setRow_row (c' := usC ⟨0, AB, 0, D⟩) Rz_1
    have bz : Below w.heap.size w (w1.setRow (w.heap.size + 1) (usC ⟨0, AB, 0, D⟩)) := Below.setRow B1 (show w.heap.size ≤ w.heap.size + 1 by first | exact Nat.le_refl _ | omega | (skip; omega))
    obtain ⟨wz, hwz⟩ : ∃ V, w1.setRow (w.heap.size + 1) (usC ⟨0, AB, 0, D⟩) = V := ⟨_, rfl⟩
    rw [hwz] at hst rz bz
    clear hwz
    go_wp2
    exact bodyPost_ret (v := .agg (usC ⟨0, AB, 0, D⟩)) (res_usC Tryd.results14 rfl rz) rfl ⟨rfl, bz⟩
  · have hO : True := trivial
    obtain ⟨Rx_0, Rz_0, B0⟩ := opn2 w (Obj.cells (inC ⟨15, fo, fr, kd, rd, rs1, rs2, rs3, rm, im, cs⟩) 28) (Obj.cells #[.int .u32 0, .int .u32 0, .int .u32 0, .int .u32 0] 33)
    go_enter Tryd.func14, Tryd.ntmps14
    obtain ⟨cx_0_0, cx_0_1, cx_0_2, cx_0_3, cx_0_4, cx_0_5, cx_0_6, cx_0_7, cx_0_8, cx_0_9, cx_0_10⟩ := inC_cells Rx_0
    go_wp2_with fail
    go_quiet (fail)
    obtain ⟨w1, hw, B1, hh⟩ := quiet_world B0 nq
    rw [hw]
    have Rx_1 : w1.heap[w.heap.size]? = some (Obj.cells (inC ⟨15, fo, fr, kd, rd, rs1, rs2, rs3, rm, im, cs⟩) 28) := by rw [hh]; exact Rx_0
    have Rz_1 : w1.heap[w.heap.size + 1]? = some (Obj.cells #[.int .u32 0, .int .u32 0, .int .u32 0, .int .u32 0] 33) := by rw [hh]; exact Rz_0
    clear hw hh B0 Rx_0 cx_0_0 cx_0_1 cx_0_2 cx_0_3 cx_0_4 cx_0_5 cx_0_6 cx_0_7 cx_0_8 cx_0_9 cx_0_10 Rz_0
    obtain ⟨cx_1_0, cx_1_1, cx_1_2, cx_1_3, cx_1_4, cx_1_5, cx_1_6, cx_1_7, cx_1_8, cx_1_9, cx_1_10⟩ := inC_cells Rx_1
    have hst := usC_store (x := ⟨0, AB, 0, D⟩) Rz_1 rfl
    have rz := setRow_row (c' := usC ⟨0, AB, 0, D⟩) Rz_1
    have bz : Below w.heap.size w (w1.setRow (w.heap.size + 1) (usC ⟨0, AB, 0, D⟩)) := Below.setRow B1 (show w.heap.size ≤ w.heap.size + 1 by first | exact Nat.le_refl _ | omega | (skip; omega))
    obtain ⟨wz, hwz⟩ : ∃ V, w1.setRow (w.heap.size + 1) (usC ⟨0, AB, 0, D⟩) = V := ⟨_, rfl⟩
    rw [hwz] at hst rz bz
    clear hwz
    go_wp2
    exact bodyPost_ret (v := .agg (usC ⟨0, AB, 0, D⟩)) (res_usC Tryd.results14 rfl rz) rfl ⟨rfl, bz⟩
  · have hO : True := trivial
    obtain ⟨Rx_0, Rz_0, B0⟩ := opn2 w (Obj.cells (inC ⟨16, fo, fr, kd, rd, rs1, rs2, rs3, rm, im, cs⟩) 28) (Obj.cells #[.int .u32 0, .int .u32 0, .int .u32 0, .int .u32 0] 33)
    go_enter Tryd.func14, Tryd.ntmps14
    obtain ⟨cx_0_0, cx_0_1, cx_0_2, cx_0_3, cx_0_4, cx_0_5, cx_0_6, cx_0_7, cx_0_8, cx_0_9, cx_0_10⟩ := inC_cells Rx_0
    go_wp2_with fail
    go_quiet (fail)
    obtain ⟨w1, hw, B1, hh⟩ := quiet_world B0 nq
    rw [hw]
    have Rx_1 : w1.heap[w.heap.size]? = some (Obj.cells (inC ⟨16, fo, fr, kd, rd, rs1, rs2, rs3, rm, im, cs⟩) 28) := by rw [hh]; exact Rx_0
    have Rz_1 : w1.heap[w.heap.size + 1]? = some (Obj.cells #[.int .u32 0, .int .u32 0, .int .u32 0, .int .u32 0] 33) := by rw [hh]; exact Rz_0
    clear hw hh B0 Rx_0 cx_0_0 cx_0_1 cx_0_2 cx_0_3 cx_0_4 cx_0_5 cx_0_6 cx_0_7 cx_0_8 cx_0_9 cx_0_10 Rz_0
    obtain ⟨cx_1_0, cx_1_1, cx_1_2, cx_1_3, cx_1_4, cx_1_5, cx_1_6, cx_1_7, cx_1_8, cx_1_9, cx_1_10⟩ := inC_cells Rx_1
    have hst := usC_store (x := ⟨0, AB, 0, D⟩) Rz_1 rfl
    have rz := setRow_row (c' := usC ⟨0, AB, 0, D⟩) Rz_1
    have bz : Below w.heap.size w (w1.setRow (w.heap.size + 1) (usC ⟨0, AB, 0, D⟩)) := Below.setRow B1 (show w.heap.size ≤ w.heap.size + 1 by first | exact Nat.le_refl _ | omega | (skip; omega))
    obtain ⟨wz, hwz⟩ : ∃ V, w1.setRow (w.heap.size + 1) (usC ⟨0, AB, 0, D⟩) = V := ⟨_, rfl⟩
    rw [hwz] at hst rz bz
    clear hwz
    go_wp2
    exact bodyPost_ret (v := .agg (usC ⟨0, AB, 0, D⟩)) (res_usC Tryd.results14 rfl rz) rfl ⟨rfl, bz⟩
set_option maxRecDepth 100000 in
set_option maxHeartbeats 8000000 in
theorem b25_uses11 (op : Nat) (ho : op = 11 ∨ op = 17) (fo fr kd rd rs1 rs2 rs3 rm : Nat) (im : Int) (cs A B C D AB ABC : Nat) (pa : (2 : Int) ^ min rs1 32 % 4294967296 = (A : Nat)) (pb : (2 : Int) ^ min rs2 32 % 4294967296 = (B : Nat)) (pc : (2 : Int) ^ min rs3 32 % 4294967296 = (C : Nat)) (pd : (2 : Int) ^ min rd 32 % 4294967296 = (D : Nat)) (ob : bits .or .u32 (A : Nat) (B : Nat) = (AB : Nat)) (oc : bits .or .u32 (AB : Nat) (C : Nat) = (ABC : Nat)) (w : World) : Calls Tryd.prog 14 #[.agg (inC ⟨op, fo, fr, kd, rd, rs1, rs2, rs3, rm, im, cs⟩)] w fun r w' => r = .returned (.agg (usC ⟨0, A, 0, D⟩)) ∧ Below w.heap.size w w' := by
  have hf : #[Value.int .u32 0, .int .u32 (A : Nat), .int .u32 0, .int .u32 (D : Nat)] = usC ⟨0, A, 0, D⟩ := rfl
  rcases ho with rfl | rfl
  · have hO : True := trivial
    obtain ⟨Rx_0, Rz_0, B0⟩ := opn2 w (Obj.cells (inC ⟨11, fo, fr, kd, rd, rs1, rs2, rs3, rm, im, cs⟩) 28) (Obj.cells #[.int .u32 0, .int .u32 0, .int .u32 0, .int .u32 0] 33)
    go_enter Tryd.func14, Tryd.ntmps14
    obtain ⟨cx_0_0, cx_0_1, cx_0_2, cx_0_3, cx_0_4, cx_0_5, cx_0_6, cx_0_7, cx_0_8, cx_0_9, cx_0_10⟩ := inC_cells Rx_0
    go_wp2_with fail
    go_quiet (fail)
    obtain ⟨w1, hw, B1, hh⟩ := quiet_world B0 nq
    rw [hw]
    have Rx_1 : w1.heap[w.heap.size]? = some (Obj.cells (inC ⟨11, fo, fr, kd, rd, rs1, rs2, rs3, rm, im, cs⟩) 28) := by rw [hh]; exact Rx_0
    have Rz_1 : w1.heap[w.heap.size + 1]? = some (Obj.cells #[.int .u32 0, .int .u32 0, .int .u32 0, .int .u32 0] 33) := by rw [hh]; exact Rz_0
    clear hw hh B0 Rx_0 cx_0_0 cx_0_1 cx_0_2 cx_0_3 cx_0_4 cx_0_5 cx_0_6 cx_0_7 cx_0_8 cx_0_9 cx_0_10 Rz_0
    obtain ⟨cx_1_0, cx_1_1, cx_1_2, cx_1_3, cx_1_4, cx_1_5, cx_1_6, cx_1_7, cx_1_8, cx_1_9, cx_1_10⟩ := inC_cells Rx_1
    have hst := usC_store (x := ⟨0, A, 0, D⟩) Rz_1 rfl
    have rz := setRow_row (c' := usC ⟨0, A, 0, D⟩) Rz_1
    have bz : Below w.heap.size w (w1.setRow (w.heap.size + 1) (usC ⟨0, A, 0, D⟩)) := Below.setRow B1 (show w.heap.size ≤ w.heap.size + 1 by first | exact Nat.le_refl _ | omega | (skip; omega))
    obtain ⟨wz, hwz⟩ : ∃ V, w1.setRow (w.heap.size + 1) (usC ⟨0, A, 0, D⟩) = V := ⟨_, rfl⟩
    rw [hwz] at hst rz bz
    clear hwz
    go_wp2
    exact bodyPost_ret (v := .agg (usC ⟨0, A, 0, D⟩)) (res_usC Tryd.results14 rfl rz) rfl ⟨rfl, bz⟩
  · have hO : True := trivial
    obtain ⟨Rx_0, Rz_0, B0⟩ := opn2 w (Obj.cells (inC ⟨17, fo, fr, kd, rd, rs1, rs2, rs3, rm, im, cs⟩) 28) (Obj.cells #[.int .u32 0, .int .u32 0, .int .u32 0, .int .u32 0] 33)
    go_enter Tryd.func14, Tryd.ntmps14
    obtain ⟨cx_0_0, cx_0_1, cx_0_2, cx_0_3, cx_0_4, cx_0_5, cx_0_6, cx_0_7, cx_0_8, cx_0_9, cx_0_10⟩ := inC_cells Rx_0
    go_wp2_with fail
    go_quiet (fail)
    obtain ⟨w1, hw, B1, hh⟩ := quiet_world B0 nq
    rw [hw]
    have Rx_1 : w1.heap[w.heap.size]? = some (Obj.cells (inC ⟨17, fo, fr, kd, rd, rs1, rs2, rs3, rm, im, cs⟩) 28) := by rw [hh]; exact Rx_0
    have Rz_1 : w1.heap[w.heap.size + 1]? = some (Obj.cells #[.int .u32 0, .int .u32 0, .int .u32 0, .int .u32 0] 33) := by rw [hh]; exact Rz_0
    clear hw hh B0 Rx_0 cx_0_0 cx_0_1 cx_0_2 cx_0_3 cx_0_4 cx_0_5 cx_0_6 cx_0_7 cx_0_8 cx_0_9 cx_0_10 Rz_0
    obtain ⟨cx_1_0, cx_1_1, cx_1_2, cx_1_3, cx_1_4, cx_1_5, cx_1_6, cx_1_7, cx_1_8, cx_1_9, cx_1_10⟩ := inC_cells Rx_1
    have hst := usC_store (x := ⟨0, A, 0, D⟩) Rz_1 rfl
    have rz := setRow_row (c' := usC ⟨0, A, 0, D⟩) Rz_1
    have bz : Below w.heap.size w (w1.setRow (w.heap.size + 1) (usC ⟨0, A, 0, D⟩)) := Below.setRow B1 (show w.heap.size ≤ w.heap.size + 1 by first | exact Nat.le_refl _ | omega | (skip; omega))
    obtain ⟨wz, hwz⟩ : ∃ V, w1.setRow (w.heap.size + 1) (usC ⟨0, A, 0, D⟩) = V := ⟨_, rfl⟩
    rw [hwz] at hst rz bz
    clear hwz
    go_wp2
    exact bodyPost_ret (v := .agg (usC ⟨0, A, 0, D⟩)) (res_usC Tryd.results14 rfl rz) rfl ⟨rfl, bz⟩
set_option maxRecDepth 100000 in
set_option maxHeartbeats 8000000 in
theorem b25_uses18 (op : Nat) (ho : op = 18 ∨ op = 19 ∨ op = 20) (fo fr kd rd rs1 rs2 rs3 rm : Nat) (im : Int) (cs A B C D AB ABC : Nat) (pa : (2 : Int) ^ min rs1 32 % 4294967296 = (A : Nat)) (pb : (2 : Int) ^ min rs2 32 % 4294967296 = (B : Nat)) (pc : (2 : Int) ^ min rs3 32 % 4294967296 = (C : Nat)) (pd : (2 : Int) ^ min rd 32 % 4294967296 = (D : Nat)) (ob : bits .or .u32 (A : Nat) (B : Nat) = (AB : Nat)) (oc : bits .or .u32 (AB : Nat) (C : Nat) = (ABC : Nat)) (w : World) : Calls Tryd.prog 14 #[.agg (inC ⟨op, fo, fr, kd, rd, rs1, rs2, rs3, rm, im, cs⟩)] w fun r w' => r = .returned (.agg (usC ⟨0, AB, D, 0⟩)) ∧ Below w.heap.size w w' := by
  have hf : #[Value.int .u32 0, .int .u32 (AB : Nat), .int .u32 (D : Nat), .int .u32 0] = usC ⟨0, AB, D, 0⟩ := rfl
  rcases ho with rfl | rfl | rfl
  · have hO : True := trivial
    obtain ⟨Rx_0, Rz_0, B0⟩ := opn2 w (Obj.cells (inC ⟨18, fo, fr, kd, rd, rs1, rs2, rs3, rm, im, cs⟩) 28) (Obj.cells #[.int .u32 0, .int .u32 0, .int .u32 0, .int .u32 0] 33)
    go_enter Tryd.func14, Tryd.ntmps14
    obtain ⟨cx_0_0, cx_0_1, cx_0_2, cx_0_3, cx_0_4, cx_0_5, cx_0_6, cx_0_7, cx_0_8, cx_0_9, cx_0_10⟩ := inC_cells Rx_0
    go_wp2_with fail
    go_quiet (fail)
    obtain ⟨w1, hw, B1, hh⟩ := quiet_world B0 nq
    rw [hw]
    have Rx_1 : w1.heap[w.heap.size]? = some (Obj.cells (inC ⟨18, fo, fr, kd, rd, rs1, rs2, rs3, rm, im, cs⟩) 28) := by rw [hh]; exact Rx_0
    have Rz_1 : w1.heap[w.heap.size + 1]? = some (Obj.cells #[.int .u32 0, .int .u32 0, .int .u32 0, .int .u32 0] 33) := by rw [hh]; exact Rz_0
    clear hw hh B0 Rx_0 cx_0_0 cx_0_1 cx_0_2 cx_0_3 cx_0_4 cx_0_5 cx_0_6 cx_0_7 cx_0_8 cx_0_9 cx_0_10 Rz_0
    obtain ⟨cx_1_0, cx_1_1, cx_1_2, cx_1_3, cx_1_4, cx_1_5, cx_1_6, cx_1_7, cx_1_8, cx_1_9, cx_1_10⟩ := inC_cells Rx_1
    have hst := usC_store (x := ⟨0, AB, D, 0⟩) Rz_1 rfl
    have rz := setRow_row (c' := usC ⟨0, AB, D, 0⟩) Rz_1
    have bz : Below w.heap.size w (w1.setRow (w.heap.size + 1) (usC ⟨0, AB, D, 0⟩)) := Below.setRow B1 (show w.heap.size ≤ w.heap.size + 1 by first | exact Nat.le_refl _ | omega | (skip; omega))
    obtain ⟨wz, hwz⟩ : ∃ V, w1.setRow (w.heap.size + 1) (usC ⟨0, AB, D, 0⟩) = V := ⟨_, rfl⟩
    rw [hwz] at hst rz bz
    clear hwz
    go_wp2
    exact bodyPost_ret (v := .agg (usC ⟨0, AB, D, 0⟩)) (res_usC Tryd.results14 rfl rz) rfl ⟨rfl, bz⟩
  · have hO : True := trivial
    obtain ⟨Rx_0, Rz_0, B0⟩ := opn2 w (Obj.cells (inC ⟨19, fo, fr, kd, rd, rs1, rs2, rs3, rm, im, cs⟩) 28) (Obj.cells #[.int .u32 0, .int .u32 0, .int .u32 0, .int .u32 0] 33)
    go_enter Tryd.func14, Tryd.ntmps14
    obtain ⟨cx_0_0, cx_0_1, cx_0_2, cx_0_3, cx_0_4, cx_0_5, cx_0_6, cx_0_7, cx_0_8, cx_0_9, cx_0_10⟩ := inC_cells Rx_0
    go_wp2_with fail
    go_quiet (fail)
    obtain ⟨w1, hw, B1, hh⟩ := quiet_world B0 nq
    rw [hw]
    have Rx_1 : w1.heap[w.heap.size]? = some (Obj.cells (inC ⟨19, fo, fr, kd, rd, rs1, rs2, rs3, rm, im, cs⟩) 28) := by rw [hh]; exact Rx_0
    have Rz_1 : w1.heap[w.heap.size + 1]? = some (Obj.cells #[.int .u32 0, .int .u32 0, .int .u32 0, .int .u32 0] 33) := by rw [hh]; exact Rz_0
    clear hw hh B0 Rx_0 cx_0_0 cx_0_1 cx_0_2 cx_0_3 cx_0_4 cx_0_5 cx_0_6 cx_0_7 cx_0_8 cx_0_9 cx_0_10 Rz_0
    obtain ⟨cx_1_0, cx_1_1, cx_1_2, cx_1_3, cx_1_4, cx_1_5, cx_1_6, cx_1_7, cx_1_8, cx_1_9, cx_1_10⟩ := inC_cells Rx_1
    have hst := usC_store (x := ⟨0, AB, D, 0⟩) Rz_1 rfl
    have rz := setRow_row (c' := usC ⟨0, AB, D, 0⟩) Rz_1
    have bz : Below w.heap.size w (w1.setRow (w.heap.size + 1) (usC ⟨0, AB, D, 0⟩)) := Below.setRow B1 (show w.heap.size ≤ w.heap.size + 1 by first | exact Nat.le_refl _ | omega | (skip; omega))
    obtain ⟨wz, hwz⟩ : ∃ V, w1.setRow (w.heap.size + 1) (usC ⟨0, AB, D, 0⟩) = V := ⟨_, rfl⟩
    rw [hwz] at hst rz bz
    clear hwz
    go_wp2
    exact bodyPost_ret (v := .agg (usC ⟨0, AB, D, 0⟩)) (res_usC Tryd.results14 rfl rz) rfl ⟨rfl, bz⟩
  · have hO : True := trivial
    obtain ⟨Rx_0, Rz_0, B0⟩ := opn2 w (Obj.cells (inC ⟨20, fo, fr, kd, rd, rs1, rs2, rs3, rm, im, cs⟩) 28) (Obj.cells #[.int .u32 0, .int .u32 0, .int .u32 0, .int .u32 0] 33)
    go_enter Tryd.func14, Tryd.ntmps14
    obtain ⟨cx_0_0, cx_0_1, cx_0_2, cx_0_3, cx_0_4, cx_0_5, cx_0_6, cx_0_7, cx_0_8, cx_0_9, cx_0_10⟩ := inC_cells Rx_0
    go_wp2_with fail
    go_quiet (fail)
    obtain ⟨w1, hw, B1, hh⟩ := quiet_world B0 nq
    rw [hw]
    have Rx_1 : w1.heap[w.heap.size]? = some (Obj.cells (inC ⟨20, fo, fr, kd, rd, rs1, rs2, rs3, rm, im, cs⟩) 28) := by rw [hh]; exact Rx_0
    have Rz_1 : w1.heap[w.heap.size + 1]? = some (Obj.cells #[.int .u32 0, .int .u32 0, .int .u32 0, .int .u32 0] 33) := by rw [hh]; exact Rz_0
    clear hw hh B0 Rx_0 cx_0_0 cx_0_1 cx_0_2 cx_0_3 cx_0_4 cx_0_5 cx_0_6 cx_0_7 cx_0_8 cx_0_9 cx_0_10 Rz_0
    obtain ⟨cx_1_0, cx_1_1, cx_1_2, cx_1_3, cx_1_4, cx_1_5, cx_1_6, cx_1_7, cx_1_8, cx_1_9, cx_1_10⟩ := inC_cells Rx_1
    have hst := usC_store (x := ⟨0, AB, D, 0⟩) Rz_1 rfl
    have rz := setRow_row (c' := usC ⟨0, AB, D, 0⟩) Rz_1
    have bz : Below w.heap.size w (w1.setRow (w.heap.size + 1) (usC ⟨0, AB, D, 0⟩)) := Below.setRow B1 (show w.heap.size ≤ w.heap.size + 1 by first | exact Nat.le_refl _ | omega | (skip; omega))
    obtain ⟨wz, hwz⟩ : ∃ V, w1.setRow (w.heap.size + 1) (usC ⟨0, AB, D, 0⟩) = V := ⟨_, rfl⟩
    rw [hwz] at hst rz bz
    clear hwz
    go_wp2
    exact bodyPost_ret (v := .agg (usC ⟨0, AB, D, 0⟩)) (res_usC Tryd.results14 rfl rz) rfl ⟨rfl, bz⟩
set_option maxRecDepth 100000 in
set_option maxHeartbeats 8000000 in
theorem b25_uses21 (op : Nat) (ho : op = 21 ∨ op = 23 ∨ op = 24) (fo fr kd rd rs1 rs2 rs3 rm : Nat) (im : Int) (cs A B C D AB ABC : Nat) (pa : (2 : Int) ^ min rs1 32 % 4294967296 = (A : Nat)) (pb : (2 : Int) ^ min rs2 32 % 4294967296 = (B : Nat)) (pc : (2 : Int) ^ min rs3 32 % 4294967296 = (C : Nat)) (pd : (2 : Int) ^ min rd 32 % 4294967296 = (D : Nat)) (ob : bits .or .u32 (A : Nat) (B : Nat) = (AB : Nat)) (oc : bits .or .u32 (AB : Nat) (C : Nat) = (ABC : Nat)) (w : World) : Calls Tryd.prog 14 #[.agg (inC ⟨op, fo, fr, kd, rd, rs1, rs2, rs3, rm, im, cs⟩)] w fun r w' => r = .returned (.agg (usC ⟨0, A, D, 0⟩)) ∧ Below w.heap.size w w' := by
  have hf : #[Value.int .u32 0, .int .u32 (A : Nat), .int .u32 (D : Nat), .int .u32 0] = usC ⟨0, A, D, 0⟩ := rfl
  rcases ho with rfl | rfl | rfl
  · have hO : True := trivial
    obtain ⟨Rx_0, Rz_0, B0⟩ := opn2 w (Obj.cells (inC ⟨21, fo, fr, kd, rd, rs1, rs2, rs3, rm, im, cs⟩) 28) (Obj.cells #[.int .u32 0, .int .u32 0, .int .u32 0, .int .u32 0] 33)
    go_enter Tryd.func14, Tryd.ntmps14
    obtain ⟨cx_0_0, cx_0_1, cx_0_2, cx_0_3, cx_0_4, cx_0_5, cx_0_6, cx_0_7, cx_0_8, cx_0_9, cx_0_10⟩ := inC_cells Rx_0
    go_wp2_with fail
    go_quiet (fail)
    obtain ⟨w1, hw, B1, hh⟩ := quiet_world B0 nq
    rw [hw]
    have Rx_1 : w1.heap[w.heap.size]? = some (Obj.cells (inC ⟨21, fo, fr, kd, rd, rs1, rs2, rs3, rm, im, cs⟩) 28) := by rw [hh]; exact Rx_0
    have Rz_1 : w1.heap[w.heap.size + 1]? = some (Obj.cells #[.int .u32 0, .int .u32 0, .int .u32 0, .int .u32 0] 33) := by rw [hh]; exact Rz_0
    clear hw hh B0 Rx_0 cx_0_0 cx_0_1 cx_0_2 cx_0_3 cx_0_4 cx_0_5 cx_0_6 cx_0_7 cx_0_8 cx_0_9 cx_0_10 Rz_0
    obtain ⟨cx_1_0, cx_1_1, cx_1_2, cx_1_3, cx_1_4, cx_1_5, cx_1_6, cx_1_7, cx_1_8, cx_1_9, cx_1_10⟩ := inC_cells Rx_1
    have hst := usC_store (x := ⟨0, A, D, 0⟩) Rz_1 rfl
    have rz := setRow_row (c' := usC ⟨0, A, D, 0⟩) Rz_1
    have bz : Below w.heap.size w (w1.setRow (w.heap.size + 1) (usC ⟨0, A, D, 0⟩)) := Below.setRow B1 (show w.heap.size ≤ w.heap.size + 1 by first | exact Nat.le_refl _ | omega | (skip; omega))
    obtain ⟨wz, hwz⟩ : ∃ V, w1.setRow (w.heap.size + 1) (usC ⟨0, A, D, 0⟩) = V := ⟨_, rfl⟩
    rw [hwz] at hst rz bz
    clear hwz
    go_wp2
    exact bodyPost_ret (v := .agg (usC ⟨0, A, D, 0⟩)) (res_usC Tryd.results14 rfl rz) rfl ⟨rfl, bz⟩
  · have hO : True := trivial
    obtain ⟨Rx_0, Rz_0, B0⟩ := opn2 w (Obj.cells (inC ⟨23, fo, fr, kd, rd, rs1, rs2, rs3, rm, im, cs⟩) 28) (Obj.cells #[.int .u32 0, .int .u32 0, .int .u32 0, .int .u32 0] 33)
    go_enter Tryd.func14, Tryd.ntmps14
    obtain ⟨cx_0_0, cx_0_1, cx_0_2, cx_0_3, cx_0_4, cx_0_5, cx_0_6, cx_0_7, cx_0_8, cx_0_9, cx_0_10⟩ := inC_cells Rx_0
    go_wp2_with fail
    go_quiet (fail)
    obtain ⟨w1, hw, B1, hh⟩ := quiet_world B0 nq
    rw [hw]
    have Rx_1 : w1.heap[w.heap.size]? = some (Obj.cells (inC ⟨23, fo, fr, kd, rd, rs1, rs2, rs3, rm, im, cs⟩) 28) := by rw [hh]; exact Rx_0
    have Rz_1 : w1.heap[w.heap.size + 1]? = some (Obj.cells #[.int .u32 0, .int .u32 0, .int .u32 0, .int .u32 0] 33) := by rw [hh]; exact Rz_0
    clear hw hh B0 Rx_0 cx_0_0 cx_0_1 cx_0_2 cx_0_3 cx_0_4 cx_0_5 cx_0_6 cx_0_7 cx_0_8 cx_0_9 cx_0_10 Rz_0
    obtain ⟨cx_1_0, cx_1_1, cx_1_2, cx_1_3, cx_1_4, cx_1_5, cx_1_6, cx_1_7, cx_1_8, cx_1_9, cx_1_10⟩ := inC_cells Rx_1
    have hst := usC_store (x := ⟨0, A, D, 0⟩) Rz_1 rfl
    have rz := setRow_row (c' := usC ⟨0, A, D, 0⟩) Rz_1
    have bz : Below w.heap.size w (w1.setRow (w.heap.size + 1) (usC ⟨0, A, D, 0⟩)) := Below.setRow B1 (show w.heap.size ≤ w.heap.size + 1 by first | exact Nat.le_refl _ | omega | (skip; omega))
    obtain ⟨wz, hwz⟩ : ∃ V, w1.setRow (w.heap.size + 1) (usC ⟨0, A, D, 0⟩) = V := ⟨_, rfl⟩
    rw [hwz] at hst rz bz
    clear hwz
    go_wp2
    exact bodyPost_ret (v := .agg (usC ⟨0, A, D, 0⟩)) (res_usC Tryd.results14 rfl rz) rfl ⟨rfl, bz⟩
  · have hO : True := trivial
    obtain ⟨Rx_0, Rz_0, B0⟩ := opn2 w (Obj.cells (inC ⟨24, fo, fr, kd, rd, rs1, rs2, rs3, rm, im, cs⟩) 28) (Obj.cells #[.int .u32 0, .int .u32 0, .int .u32 0, .int .u32 0] 33)
    go_enter Tryd.func14, Tryd.ntmps14
    obtain ⟨cx_0_0, cx_0_1, cx_0_2, cx_0_3, cx_0_4, cx_0_5, cx_0_6, cx_0_7, cx_0_8, cx_0_9, cx_0_10⟩ := inC_cells Rx_0
    go_wp2_with fail
    go_quiet (fail)
    obtain ⟨w1, hw, B1, hh⟩ := quiet_world B0 nq
    rw [hw]
    have Rx_1 : w1.heap[w.heap.size]? = some (Obj.cells (inC ⟨24, fo, fr, kd, rd, rs1, rs2, rs3, rm, im, cs⟩) 28) := by rw [hh]; exact Rx_0
    have Rz_1 : w1.heap[w.heap.size + 1]? = some (Obj.cells #[.int .u32 0, .int .u32 0, .int .u32 0, .int .u32 0] 33) := by rw [hh]; exact Rz_0
    clear hw hh B0 Rx_0 cx_0_0 cx_0_1 cx_0_2 cx_0_3 cx_0_4 cx_0_5 cx_0_6 cx_0_7 cx_0_8 cx_0_9 cx_0_10 Rz_0
    obtain ⟨cx_1_0, cx_1_1, cx_1_2, cx_1_3, cx_1_4, cx_1_5, cx_1_6, cx_1_7, cx_1_8, cx_1_9, cx_1_10⟩ := inC_cells Rx_1
    have hst := usC_store (x := ⟨0, A, D, 0⟩) Rz_1 rfl
    have rz := setRow_row (c' := usC ⟨0, A, D, 0⟩) Rz_1
    have bz : Below w.heap.size w (w1.setRow (w.heap.size + 1) (usC ⟨0, A, D, 0⟩)) := Below.setRow B1 (show w.heap.size ≤ w.heap.size + 1 by first | exact Nat.le_refl _ | omega | (skip; omega))
    obtain ⟨wz, hwz⟩ : ∃ V, w1.setRow (w.heap.size + 1) (usC ⟨0, A, D, 0⟩) = V := ⟨_, rfl⟩
    rw [hwz] at hst rz bz
    clear hwz
    go_wp2
    exact bodyPost_ret (v := .agg (usC ⟨0, A, D, 0⟩)) (res_usC Tryd.results14 rfl rz) rfl ⟨rfl, bz⟩
set_option maxRecDepth 100000 in
set_option maxHeartbeats 8000000 in
theorem b25_uses26 (op : Nat) (ho : op = 26 ∨ op = 27 ∨ op = 28) (fo fr kd rd rs1 rs2 rs3 rm : Nat) (im : Int) (cs A B C D AB ABC : Nat) (pa : (2 : Int) ^ min rs1 32 % 4294967296 = (A : Nat)) (pb : (2 : Int) ^ min rs2 32 % 4294967296 = (B : Nat)) (pc : (2 : Int) ^ min rs3 32 % 4294967296 = (C : Nat)) (pd : (2 : Int) ^ min rd 32 % 4294967296 = (D : Nat)) (ob : bits .or .u32 (A : Nat) (B : Nat) = (AB : Nat)) (oc : bits .or .u32 (AB : Nat) (C : Nat) = (ABC : Nat)) (w : World) : Calls Tryd.prog 14 #[.agg (inC ⟨op, fo, fr, kd, rd, rs1, rs2, rs3, rm, im, cs⟩)] w fun r w' => r = .returned (.agg (usC ⟨A, 0, D, 0⟩)) ∧ Below w.heap.size w w' := by
  have hf : #[Value.int .u32 (A : Nat), .int .u32 0, .int .u32 (D : Nat), .int .u32 0] = usC ⟨A, 0, D, 0⟩ := rfl
  rcases ho with rfl | rfl | rfl
  · have hO : True := trivial
    obtain ⟨Rx_0, Rz_0, B0⟩ := opn2 w (Obj.cells (inC ⟨26, fo, fr, kd, rd, rs1, rs2, rs3, rm, im, cs⟩) 28) (Obj.cells #[.int .u32 0, .int .u32 0, .int .u32 0, .int .u32 0] 33)
    go_enter Tryd.func14, Tryd.ntmps14
    obtain ⟨cx_0_0, cx_0_1, cx_0_2, cx_0_3, cx_0_4, cx_0_5, cx_0_6, cx_0_7, cx_0_8, cx_0_9, cx_0_10⟩ := inC_cells Rx_0
    go_wp2_with fail
    go_quiet (fail)
    obtain ⟨w1, hw, B1, hh⟩ := quiet_world B0 nq
    rw [hw]
    have Rx_1 : w1.heap[w.heap.size]? = some (Obj.cells (inC ⟨26, fo, fr, kd, rd, rs1, rs2, rs3, rm, im, cs⟩) 28) := by rw [hh]; exact Rx_0
    have Rz_1 : w1.heap[w.heap.size + 1]? = some (Obj.cells #[.int .u32 0, .int .u32 0, .int .u32 0, .int .u32 0] 33) := by rw [hh]; exact Rz_0
    clear hw hh B0 Rx_0 cx_0_0 cx_0_1 cx_0_2 cx_0_3 cx_0_4 cx_0_5 cx_0_6 cx_0_7 cx_0_8 cx_0_9 cx_0_10 Rz_0
    obtain ⟨cx_1_0, cx_1_1, cx_1_2, cx_1_3, cx_1_4, cx_1_5, cx_1_6, cx_1_7, cx_1_8, cx_1_9, cx_1_10⟩ := inC_cells Rx_1
    have hst := usC_store (x := ⟨A, 0, D, 0⟩) Rz_1 rfl
    have rz := setRow_row (c' := usC ⟨A, 0, D, 0⟩) Rz_1
    have bz : Below w.heap.size w (w1.setRow (w.heap.size + 1) (usC ⟨A, 0, D, 0⟩)) := Below.setRow B1 (show w.heap.size ≤ w.heap.size + 1 by first | exact Nat.le_refl _ | omega | (skip; omega))
    obtain ⟨wz, hwz⟩ : ∃ V, w1.setRow (w.heap.size + 1) (usC ⟨A, 0, D, 0⟩) = V := ⟨_, rfl⟩
    rw [hwz] at hst rz bz
    clear hwz
    go_wp2
    exact bodyPost_ret (v := .agg (usC ⟨A, 0, D, 0⟩)) (res_usC Tryd.results14 rfl rz) rfl ⟨rfl, bz⟩
  · have hO : True := trivial
    obtain ⟨Rx_0, Rz_0, B0⟩ := opn2 w (Obj.cells (inC ⟨27, fo, fr, kd, rd, rs1, rs2, rs3, rm, im, cs⟩) 28) (Obj.cells #[.int .u32 0, .int .u32 0, .int .u32 0, .int .u32 0] 33)
    go_enter Tryd.func14, Tryd.ntmps14
    obtain ⟨cx_0_0, cx_0_1, cx_0_2, cx_0_3, cx_0_4, cx_0_5, cx_0_6, cx_0_7, cx_0_8, cx_0_9, cx_0_10⟩ := inC_cells Rx_0
    go_wp2_with fail
    go_quiet (fail)
    obtain ⟨w1, hw, B1, hh⟩ := quiet_world B0 nq
    rw [hw]
    have Rx_1 : w1.heap[w.heap.size]? = some (Obj.cells (inC ⟨27, fo, fr, kd, rd, rs1, rs2, rs3, rm, im, cs⟩) 28) := by rw [hh]; exact Rx_0
    have Rz_1 : w1.heap[w.heap.size + 1]? = some (Obj.cells #[.int .u32 0, .int .u32 0, .int .u32 0, .int .u32 0] 33) := by rw [hh]; exact Rz_0
    clear hw hh B0 Rx_0 cx_0_0 cx_0_1 cx_0_2 cx_0_3 cx_0_4 cx_0_5 cx_0_6 cx_0_7 cx_0_8 cx_0_9 cx_0_10 Rz_0
    obtain ⟨cx_1_0, cx_1_1, cx_1_2, cx_1_3, cx_1_4, cx_1_5, cx_1_6, cx_1_7, cx_1_8, cx_1_9, cx_1_10⟩ := inC_cells Rx_1
    have hst := usC_store (x := ⟨A, 0, D, 0⟩) Rz_1 rfl
    have rz := setRow_row (c' := usC ⟨A, 0, D, 0⟩) Rz_1
    have bz : Below w.heap.size w (w1.setRow (w.heap.size + 1) (usC ⟨A, 0, D, 0⟩)) := Below.setRow B1 (show w.heap.size ≤ w.heap.size + 1 by first | exact Nat.le_refl _ | omega | (skip; omega))
    obtain ⟨wz, hwz⟩ : ∃ V, w1.setRow (w.heap.size + 1) (usC ⟨A, 0, D, 0⟩) = V := ⟨_, rfl⟩
    rw [hwz] at hst rz bz
    clear hwz
    go_wp2
    exact bodyPost_ret (v := .agg (usC ⟨A, 0, D, 0⟩)) (res_usC Tryd.results14 rfl rz) rfl ⟨rfl, bz⟩
  · have hO : True := trivial
    obtain ⟨Rx_0, Rz_0, B0⟩ := opn2 w (Obj.cells (inC ⟨28, fo, fr, kd, rd, rs1, rs2, rs3, rm, im, cs⟩) 28) (Obj.cells #[.int .u32 0, .int .u32 0, .int .u32 0, .int .u32 0] 33)
    go_enter Tryd.func14, Tryd.ntmps14
    obtain ⟨cx_0_0, cx_0_1, cx_0_2, cx_0_3, cx_0_4, cx_0_5, cx_0_6, cx_0_7, cx_0_8, cx_0_9, cx_0_10⟩ := inC_cells Rx_0
    go_wp2_with fail
    go_quiet (fail)
    obtain ⟨w1, hw, B1, hh⟩ := quiet_world B0 nq
    rw [hw]
    have Rx_1 : w1.heap[w.heap.size]? = some (Obj.cells (inC ⟨28, fo, fr, kd, rd, rs1, rs2, rs3, rm, im, cs⟩) 28) := by rw [hh]; exact Rx_0
    have Rz_1 : w1.heap[w.heap.size + 1]? = some (Obj.cells #[.int .u32 0, .int .u32 0, .int .u32 0, .int .u32 0] 33) := by rw [hh]; exact Rz_0
    clear hw hh B0 Rx_0 cx_0_0 cx_0_1 cx_0_2 cx_0_3 cx_0_4 cx_0_5 cx_0_6 cx_0_7 cx_0_8 cx_0_9 cx_0_10 Rz_0
    obtain ⟨cx_1_0, cx_1_1, cx_1_2, cx_1_3, cx_1_4, cx_1_5, cx_1_6, cx_1_7, cx_1_8, cx_1_9, cx_1_10⟩ := inC_cells Rx_1
    have hst := usC_store (x := ⟨A, 0, D, 0⟩) Rz_1 rfl
    have rz := setRow_row (c' := usC ⟨A, 0, D, 0⟩) Rz_1
    have bz : Below w.heap.size w (w1.setRow (w.heap.size + 1) (usC ⟨A, 0, D, 0⟩)) := Below.setRow B1 (show w.heap.size ≤ w.heap.size + 1 by first | exact Nat.le_refl _ | omega | (skip; omega))
    obtain ⟨wz, hwz⟩ : ∃ V, w1.setRow (w.heap.size + 1) (usC ⟨A, 0, D, 0⟩) = V := ⟨_, rfl⟩
    rw [hwz] at hst rz bz
    clear hwz
    go_wp2
    exact bodyPost_ret (v := .agg (usC ⟨A, 0, D, 0⟩)) (res_usC Tryd.results14 rfl rz) rfl ⟨rfl, bz⟩
set_option maxRecDepth 100000 in
set_option maxHeartbeats 8000000 in
theorem b25_uses29 (op : Nat) (ho : op = 29 ∨ op = 30 ∨ op = 31) (fo fr kd rd rs1 rs2 rs3 rm : Nat) (im : Int) (cs A B C D AB ABC : Nat) (pa : (2 : Int) ^ min rs1 32 % 4294967296 = (A : Nat)) (pb : (2 : Int) ^ min rs2 32 % 4294967296 = (B : Nat)) (pc : (2 : Int) ^ min rs3 32 % 4294967296 = (C : Nat)) (pd : (2 : Int) ^ min rd 32 % 4294967296 = (D : Nat)) (ob : bits .or .u32 (A : Nat) (B : Nat) = (AB : Nat)) (oc : bits .or .u32 (AB : Nat) (C : Nat) = (ABC : Nat)) (w : World) : Calls Tryd.prog 14 #[.agg (inC ⟨op, fo, fr, kd, rd, rs1, rs2, rs3, rm, im, cs⟩)] w fun r w' => r = .returned (.agg (usC ⟨0, 0, D, 0⟩)) ∧ Below w.heap.size w w' := by
  have hf : #[Value.int .u32 0, .int .u32 0, .int .u32 (D : Nat), .int .u32 0] = usC ⟨0, 0, D, 0⟩ := rfl
  rcases ho with rfl | rfl | rfl
  · have hO : True := trivial
    obtain ⟨Rx_0, Rz_0, B0⟩ := opn2 w (Obj.cells (inC ⟨29, fo, fr, kd, rd, rs1, rs2, rs3, rm, im, cs⟩) 28) (Obj.cells #[.int .u32 0, .int .u32 0, .int .u32 0, .int .u32 0] 33)
    go_enter Tryd.func14, Tryd.ntmps14
    obtain ⟨cx_0_0, cx_0_1, cx_0_2, cx_0_3, cx_0_4, cx_0_5, cx_0_6, cx_0_7, cx_0_8, cx_0_9, cx_0_10⟩ := inC_cells Rx_0
    go_wp2_with fail
    go_quiet (fail)
    obtain ⟨w1, hw, B1, hh⟩ := quiet_world B0 nq
    rw [hw]
    have Rx_1 : w1.heap[w.heap.size]? = some (Obj.cells (inC ⟨29, fo, fr, kd, rd, rs1, rs2, rs3, rm, im, cs⟩) 28) := by rw [hh]; exact Rx_0
    have Rz_1 : w1.heap[w.heap.size + 1]? = some (Obj.cells #[.int .u32 0, .int .u32 0, .int .u32 0, .int .u32 0] 33) := by rw [hh]; exact Rz_0
    clear hw hh B0 Rx_0 cx_0_0 cx_0_1 cx_0_2 cx_0_3 cx_0_4 cx_0_5 cx_0_6 cx_0_7 cx_0_8 cx_0_9 cx_0_10 Rz_0
    obtain ⟨cx_1_0, cx_1_1, cx_1_2, cx_1_3, cx_1_4, cx_1_5, cx_1_6, cx_1_7, cx_1_8, cx_1_9, cx_1_10⟩ := inC_cells Rx_1
    have hst := usC_store (x := ⟨0, 0, D, 0⟩) Rz_1 rfl
    have rz := setRow_row (c' := usC ⟨0, 0, D, 0⟩) Rz_1
    have bz : Below w.heap.size w (w1.setRow (w.heap.size + 1) (usC ⟨0, 0, D, 0⟩)) := Below.setRow B1 (show w.heap.size ≤ w.heap.size + 1 by first | exact Nat.le_refl _ | omega | (skip; omega))
    obtain ⟨wz, hwz⟩ : ∃ V, w1.setRow (w.heap.size + 1) (usC ⟨0, 0, D, 0⟩) = V := ⟨_, rfl⟩
    rw [hwz] at hst rz bz
    clear hwz
    go_wp2
    exact bodyPost_ret (v := .agg (usC ⟨0, 0, D, 0⟩)) (res_usC Tryd.results14 rfl rz) rfl ⟨rfl, bz⟩
  · have hO : True := trivial
    obtain ⟨Rx_0, Rz_0, B0⟩ := opn2 w (Obj.cells (inC ⟨30, fo, fr, kd, rd, rs1, rs2, rs3, rm, im, cs⟩) 28) (Obj.cells #[.int .u32 0, .int .u32 0, .int .u32 0, .int .u32 0] 33)
    go_enter Tryd.func14, Tryd.ntmps14
    obtain ⟨cx_0_0, cx_0_1, cx_0_2, cx_0_3, cx_0_4, cx_0_5, cx_0_6, cx_0_7, cx_0_8, cx_0_9, cx_0_10⟩ := inC_cells Rx_0
    go_wp2_with fail
    go_quiet (fail)
    obtain ⟨w1, hw, B1, hh⟩ := quiet_world B0 nq
    rw [hw]
    have Rx_1 : w1.heap[w.heap.size]? = some (Obj.cells (inC ⟨30, fo, fr, kd, rd, rs1, rs2, rs3, rm, im, cs⟩) 28) := by rw [hh]; exact Rx_0
    have Rz_1 : w1.heap[w.heap.size + 1]? = some (Obj.cells #[.int .u32 0, .int .u32 0, .int .u32 0, .int .u32 0] 33) := by rw [hh]; exact Rz_0
    clear hw hh B0 Rx_0 cx_0_0 cx_0_1 cx_0_2 cx_0_3 cx_0_4 cx_0_5 cx_0_6 cx_0_7 cx_0_8 cx_0_9 cx_0_10 Rz_0
    obtain ⟨cx_1_0, cx_1_1, cx_1_2, cx_1_3, cx_1_4, cx_1_5, cx_1_6, cx_1_7, cx_1_8, cx_1_9, cx_1_10⟩ := inC_cells Rx_1
    have hst := usC_store (x := ⟨0, 0, D, 0⟩) Rz_1 rfl
    have rz := setRow_row (c' := usC ⟨0, 0, D, 0⟩) Rz_1
    have bz : Below w.heap.size w (w1.setRow (w.heap.size + 1) (usC ⟨0, 0, D, 0⟩)) := Below.setRow B1 (show w.heap.size ≤ w.heap.size + 1 by first | exact Nat.le_refl _ | omega | (skip; omega))
    obtain ⟨wz, hwz⟩ : ∃ V, w1.setRow (w.heap.size + 1) (usC ⟨0, 0, D, 0⟩) = V := ⟨_, rfl⟩
    rw [hwz] at hst rz bz
    clear hwz
    go_wp2
    exact bodyPost_ret (v := .agg (usC ⟨0, 0, D, 0⟩)) (res_usC Tryd.results14 rfl rz) rfl ⟨rfl, bz⟩
  · have hO : True := trivial
    obtain ⟨Rx_0, Rz_0, B0⟩ := opn2 w (Obj.cells (inC ⟨31, fo, fr, kd, rd, rs1, rs2, rs3, rm, im, cs⟩) 28) (Obj.cells #[.int .u32 0, .int .u32 0, .int .u32 0, .int .u32 0] 33)
    go_enter Tryd.func14, Tryd.ntmps14
    obtain ⟨cx_0_0, cx_0_1, cx_0_2, cx_0_3, cx_0_4, cx_0_5, cx_0_6, cx_0_7, cx_0_8, cx_0_9, cx_0_10⟩ := inC_cells Rx_0
    go_wp2_with fail
    go_quiet (fail)
    obtain ⟨w1, hw, B1, hh⟩ := quiet_world B0 nq
    rw [hw]
    have Rx_1 : w1.heap[w.heap.size]? = some (Obj.cells (inC ⟨31, fo, fr, kd, rd, rs1, rs2, rs3, rm, im, cs⟩) 28) := by rw [hh]; exact Rx_0
    have Rz_1 : w1.heap[w.heap.size + 1]? = some (Obj.cells #[.int .u32 0, .int .u32 0, .int .u32 0, .int .u32 0] 33) := by rw [hh]; exact Rz_0
    clear hw hh B0 Rx_0 cx_0_0 cx_0_1 cx_0_2 cx_0_3 cx_0_4 cx_0_5 cx_0_6 cx_0_7 cx_0_8 cx_0_9 cx_0_10 Rz_0
    obtain ⟨cx_1_0, cx_1_1, cx_1_2, cx_1_3, cx_1_4, cx_1_5, cx_1_6, cx_1_7, cx_1_8, cx_1_9, cx_1_10⟩ := inC_cells Rx_1
    have hst := usC_store (x := ⟨0, 0, D, 0⟩) Rz_1 rfl
    have rz := setRow_row (c' := usC ⟨0, 0, D, 0⟩) Rz_1
    have bz : Below w.heap.size w (w1.setRow (w.heap.size + 1) (usC ⟨0, 0, D, 0⟩)) := Below.setRow B1 (show w.heap.size ≤ w.heap.size + 1 by first | exact Nat.le_refl _ | omega | (skip; omega))
    obtain ⟨wz, hwz⟩ : ∃ V, w1.setRow (w.heap.size + 1) (usC ⟨0, 0, D, 0⟩) = V := ⟨_, rfl⟩
    rw [hwz] at hst rz bz
    clear hwz
    go_wp2
    exact bodyPost_ret (v := .agg (usC ⟨0, 0, D, 0⟩)) (res_usC Tryd.results14 rfl rz) rfl ⟨rfl, bz⟩
theorem or32u (a b : Nat) (ha : a < 4294967296) (hb : b < 4294967296) : bits .or .u32 (a : Int) (b : Int) = ((a ||| b : Nat) : Int) := by
  have hx : a ||| b < 4294967296 := Nat.or_lt_two_pow (n := 32) ha hb
  have h1 : (BitVec.ofInt 32 (a : Int)).toNat = a := by
    rw [BitVec.ofInt_natCast, BitVec.toNat_ofNat]; exact Nat.mod_eq_of_lt ha
  have h2 : (BitVec.ofInt 32 (b : Int)).toNat = b := by
    rw [BitVec.ofInt_natCast, BitVec.toNat_ofNat]; exact Nat.mod_eq_of_lt hb
  show IntKind.u32.wrap ((BitVec.ofInt 32 (a : Int) ||| BitVec.ofInt 32 (b : Int)).toNat : Int) = _
  rw [BitVec.toNat_or, h1, h2, show ∀ y : Int, IntKind.u32.wrap y = y % 4294967296 from fun _ => rfl]
  omega
theorem two32 (r : Nat) (h : r < 32) : (2 : Int) ^ min r 32 % 4294967296 = ((2 ^ r : Nat) : Int) ∧ 2 ^ r < 4294967296 := by
  have l : 2 ^ r < 2 ^ 32 := Nat.pow_lt_pow_right (by decide) h
  have e : (2 : Int) ^ r = ((2 ^ r : Nat) : Int) := by rw [Int.natCast_pow]; rfl
  rw [show min r 32 = r by omega, e]
  obtain ⟨y, hy⟩ : ∃ y, 2 ^ r = y := ⟨_, rfl⟩
  rw [hy] at l ⊢
  have l2 : y < 4294967296 := l
  exact ⟨by omega, l2⟩
theorem rUs25 (i : In) (h1 : 1 ≤ i.op) (h31 : i.op ≤ 31) (a1 : i.rd < 32) (a2 : i.rs1 < 32) (a3 : i.rs2 < 32) (a4 : i.rs3 < 32) (w : World) : Calls Tryd.prog 14 #[.agg (inC i)] w fun r w' => r = .returned (.agg (usC (usI i))) ∧ Below w.heap.size w w' := by
  obtain ⟨op, fo, fr, kd, rd, rs1, rs2, rs3, rm, im, cs⟩ := i
  simp only at h1 h31 a1 a2 a3 a4
  obtain ⟨pd, ld⟩ := two32 rd a1
  obtain ⟨pa, la⟩ := two32 rs1 a2
  obtain ⟨pb, lb⟩ := two32 rs2 a3
  obtain ⟨pc, lc⟩ := two32 rs3 a4
  have ob := or32u _ _ la lb
  have lab : 2 ^ rs1 ||| 2 ^ rs2 < 4294967296 := Nat.or_lt_two_pow (n := 32) la lb
  have oc := or32u _ _ lab lc
  unfold usI
  simp only
  by_cases c1 : op = 1 ∨ op = 22 ∨ op = 25
  · rw [if_pos c1]
    exact b25_uses1 op c1 fo fr kd rd rs1 rs2 rs3 rm im cs _ _ _ _ _ _ pa pb pc pd ob oc w
  rw [if_neg c1]
  by_cases c2 : op = 2
  · rw [if_pos c2]
    exact b25_uses2 op c2 fo fr kd rd rs1 rs2 rs3 rm im cs _ _ _ _ _ _ pa pb pc pd ob oc w
  rw [if_neg c2]
  by_cases c3 : op = 3 ∨ op = 4 ∨ op = 5 ∨ op = 6
  · rw [if_pos c3]
    exact b25_uses3 op c3 fo fr kd rd rs1 rs2 rs3 rm im cs _ _ _ _ _ _ pa pb pc pd ob oc w
  rw [if_neg c3]
  by_cases c4 : op = 11 ∨ op = 17
  · rw [if_pos c4]
    exact b25_uses11 op c4 fo fr kd rd rs1 rs2 rs3 rm im cs _ _ _ _ _ _ pa pb pc pd ob oc w
  rw [if_neg c4]
  by_cases c5 : op = 18 ∨ op = 19 ∨ op = 20
  · rw [if_pos c5]
    exact b25_uses18 op c5 fo fr kd rd rs1 rs2 rs3 rm im cs _ _ _ _ _ _ pa pb pc pd ob oc w
  rw [if_neg c5]
  by_cases c6 : op = 21 ∨ op = 23 ∨ op = 24
  · rw [if_pos c6]
    exact b25_uses21 op c6 fo fr kd rd rs1 rs2 rs3 rm im cs _ _ _ _ _ _ pa pb pc pd ob oc w
  rw [if_neg c6]
  by_cases c7 : op = 26 ∨ op = 27 ∨ op = 28
  · rw [if_pos c7]
    exact b25_uses26 op c7 fo fr kd rd rs1 rs2 rs3 rm im cs _ _ _ _ _ _ pa pb pc pd ob oc w
  rw [if_neg c7]
  by_cases c8 : op = 29 ∨ op = 30 ∨ op = 31
  · rw [if_pos c8]
    exact b25_uses29 op c8 fo fr kd rd rs1 rs2 rs3 rm im cs _ _ _ _ _ _ pa pb pc pd ob oc w
  rw [if_neg c8]
  exact b25_uses7 op (by omega) fo fr kd rd rs1 rs2 rs3 rm im cs _ _ _ _ _ _ pa pb pc pd ob oc w
end Go.Proofs.YtamlcgmipdcgjaaDoor
