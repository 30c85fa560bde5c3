/-
  What the functions that the statement reaches return: part 16 (ZI, ZJ, ZK, ZL).
-/
import Derived.Test.YtaoccmopfflkmaaDoorOa15
namespace Go.Proofs.YtaoccmopfflkmaaDoor
set_option maxRecDepth 100000
set_option maxHeartbeats 40000000
set_option maxRecDepth 100000
open Go.RowKit WMath
set_option linter.unusedSimpArgs false
set_option linter.unusedVariables false
theorem imX_s (i : Int) (h1 : -2048 ≤ i) (h2 : i ≤ 2047) : bits .xor .u32 (i % 4294967296 / 32 * 33554432 % 4294967296) (bits .and .u32 (i % 4294967296) 31 * 128 % 4294967296) = ((imX 2 i : Nat) : Int) := by
  obtain ⟨N, hN⟩ : ∃ N : Nat, i % 4294967296 = (N : Int) := ⟨(i % 4294967296).toNat, by omega⟩
  have hN2 : N < 4294967296 := by omega
  have hi := imN_lt h1 h2
  rw [hN, and_low5 N hN2]
  have e1 : (N : Int) / 32 * 33554432 % 4294967296 = ((imN i / 32 * 33554432 : Nat) : Int) := by unfold imN; split <;> omega
  have e2 : ((N % 32 : Nat) : Int) * 128 % 4294967296 = ((imN i % 32 * 128 : Nat) : Int) := by unfold imN; split <;> omega
  rw [e1, e2]
  unfold imX
  rw [if_pos rfl]
  exact (xor32u _ _ (by omega) (by omega)).1
theorem imX_o (l : Nat) (hl : l ≠ 2) (i : Int) (h1 : -2048 ≤ i) (h2 : i ≤ 2047) : i % 4294967296 * 1048576 % 4294967296 = ((imX l i : Nat) : Int) := by
  unfold imX
  rw [if_neg hl]
  unfold imN
  split <;> omega
theorem imX_lt (l : Nat) (i : Int) (h1 : -2048 ≤ i) (h2 : i ≤ 2047) : imX l i < 4294967296 := by
  have hi := imN_lt h1 h2
  unfold imX
  split
  · exact Nat.xor_lt_two_pow (n := 32) (show _ < 4294967296 by omega) (show _ < 4294967296 by omega)
  · omega
theorem t_imm (l : Nat) (i : Int) (h1 : -2048 ≤ i) (h2 : i ≤ 2047) (w : World) : Calls Tryd.prog 38 #[.int .i16 i, .int .u8 (l : Nat)] w fun r w' => r = .returned (.int .u32 (imX l i : Nat)) ∧ Below w.heap.size w w' := by
  by_cases hl : l = 2
  · subst hl
    have h := imX_s i h1 h2
    clear h1 h2
    have B0 : Below w.heap.size w w := (Below.refl _ _)
    go_enter Tryd.func38, Tryd.ntmps38
    go_wp2
    go_ret
    exact ⟨rfl, B0⟩
  · have h := imX_o l hl i h1 h2
    have hq : (((l : Nat) : Int) == 2) = false := by simp; omega
    clear h1 h2 hl
    have B0 : Below w.heap.size w w := (Below.refl _ _)
    go_enter Tryd.func38, Tryd.ntmps38
    go_wp2
    rw [h]
    go_ret
    exact ⟨rfl, B0⟩
theorem xu (a b : Nat) (c : Int) (ha : a < 4294967296) (hb : b < 4294967296) (hc : c = (b : Int)) : bits .xor .u32 ((a : Nat) : Int) c = ((a ^^^ b : Nat) : Int) ∧ a ^^^ b < 4294967296 := by
  subst hc
  exact ⟨(xor32u _ _ ha hb).1, Nat.xor_lt_two_pow (n := 32) ha hb⟩
set_option maxRecDepth 100000 in
set_option maxHeartbeats 8000000 in
theorem t_bits (x : In) (l : Nat) (k1 : x.rd < 32) (k2 : x.rs1 < 32) (k3 : x.rs2 < 32) (k4 : x.rs3 < 32) (k5 : x.rm < 8) (k6 : -2048 ≤ x.imm) (k7 : x.imm ≤ 2047) (k8 : x.csr < 256) (w : World) : Calls Tryd.prog 24 #[.agg (inC x), .int .u8 (l : Nat)] w fun r w' => r = .returned (.int .u32 (btX l x : Nat)) ∧ Below w.heap.size w w' := by
  have KI := box (fun w => t_imm l x.imm k6 k7 w)
  have a0 := imX_lt l x.imm k6 k7
  have hb : btX l x = ((((((imX l x.imm) ^^^ (x.rd * 128)) ^^^ (x.rm * 4096)) ^^^ (x.rs1 * 32768)) ^^^ (x.rs2 * 1048576)) ^^^ (x.rs3 * 134217728)) ^^^ (x.csr * 1048576) := rfl
  rw [hb]
  obtain ⟨V, hV⟩ : ∃ V, imX l x.imm = V := ⟨_, rfl⟩
  rw [hV] at KI a0 ⊢
  clear hb hV
  have a1 := xu V (x.rd * 128) ((x.rd : Int) % 4294967296 * 128 % 4294967296) a0 (by omega) (by omega)
  have a2 := xu _ (x.rm * 4096) ((x.rm : Int) % 4294967296 * 4096 % 4294967296) a1.2 (by omega) (by omega)
  have a3 := xu _ (x.rs1 * 32768) ((x.rs1 : Int) % 4294967296 * 32768 % 4294967296) a2.2 (by omega) (by omega)
  have a4 := xu _ (x.rs2 * 1048576) ((x.rs2 : Int) % 4294967296 * 1048576 % 4294967296) a3.2 (by omega) (by omega)
  have a5 := xu _ (x.rs3 * 134217728) ((x.rs3 : Int) % 4294967296 * 134217728 % 4294967296) a4.2 (by omega) (by omega)
  have a6 := xu _ (x.csr * 1048576) ((x.csr : Int) % 4294967296 * 1048576 % 4294967296) a5.2 (by omega) (by omega)
  obtain ⟨V1, hV1⟩ : ∃ V1, V ^^^ (x.rd * 128) = V1 := ⟨_, rfl⟩
  rw [hV1] at a1 a2 a3 a4 a5 a6 ⊢
  obtain ⟨V2, hV2⟩ : ∃ V2, V1 ^^^ (x.rm * 4096) = V2 := ⟨_, rfl⟩
  rw [hV2] at a2 a3 a4 a5 a6 ⊢
  obtain ⟨V3, hV3⟩ : ∃ V3, V2 ^^^ (x.rs1 * 32768) = V3 := ⟨_, rfl⟩
  rw [hV3] at a3 a4 a5 a6 ⊢
  obtain ⟨V4, hV4⟩ : ∃ V4, V3 ^^^ (x.rs2 * 1048576) = V4 := ⟨_, rfl⟩
  rw [hV4] at a4 a5 a6 ⊢
  obtain ⟨V5, hV5⟩ : ∃ V5, V4 ^^^ (x.rs3 * 134217728) = V5 := ⟨_, rfl⟩
  rw [hV5] at a5 a6 ⊢
  obtain ⟨V6, hV6⟩ : ∃ V6, V5 ^^^ (x.csr * 1048576) = V6 := ⟨_, rfl⟩
  rw [hV6] at a6 ⊢
  have b1 := a1.1
  have b2 := a2.1
  have b3 := a3.1
  have b4 := a4.1
  have b5 := a5.1
  have b6 := a6.1
  clear a0 a1 a2 a3 a4 a5 a6 hV1 hV2 hV3 hV4 hV5 hV6 k1 k2 k3 k4 k5 k6 k7 k8
  obtain ⟨Rx_0, B0⟩ := opn1 w (Obj.cells (inC x) 27)
  go_enter Tryd.func24, Tryd.ntmps24
  obtain ⟨cx_0_0, cx_0_1, cx_0_2, cx_0_3, cx_0_4, cx_0_5, cx_0_6, cx_0_7, cx_0_8, cx_0_9, cx_0_10⟩ := inC_cells Rx_0
  go_wp2_with fail
  refine (KI.out _).mono ?_
  rintro r w1 ⟨rfl, b1⟩
  have B1 : Below w.heap.size w w1 := btr B0 b1
  have Rx_1 := heap_of b1 _ _ _ Rx_0
  clear b1 B0 Rx_0 cx_0_0 cx_0_1 cx_0_2 cx_0_3 cx_0_4 cx_0_5 cx_0_6 cx_0_7 cx_0_8 cx_0_9 cx_0_10
  obtain ⟨cx_1_0, cx_1_1, cx_1_2, cx_1_3, cx_1_4, cx_1_5, cx_1_6, cx_1_7, cx_1_8, cx_1_9, cx_1_10⟩ := inC_cells Rx_1
  go_wp2
  go_ret
  exact ⟨rfl, B1⟩
set_option maxRecDepth 100000 in
set_option maxHeartbeats 8000000 in
theorem t_enc_e (x : In) (ro : Rw) (er : Int) (he : (er != 0) = true) (KO : Box (∀ w, T24 w → Calls Tryd.prog 22 #[.int .u8 (x.op : Nat), .int .u8 (x.form : Nat), .int .u8 (x.frm : Nat), .int .u8 (x.kind : Nat)] w fun r w' => r = .returned (.tuple #[.agg (rwC ro), .int .i64 er]) ∧ Below w.heap.size w w'))  (w : World) (hT : T24 w) : Calls Tryd.prog 9 #[.agg (inC x)] w fun r w' => r = .returned (.tuple #[.int .u32 0, .int .i64 260]) ∧ Below w.heap.size w w' := by
  have FF := box hT
  clear hT
  have hro := rwC_fold ro
  have hrn := rwC_new
  have hif := inC_fold x
  have heqn := eqin
  obtain ⟨Rx_0, B0⟩ := opn1 w (Obj.cells (inC x) 27)
  go_enter Tryd.func9, Tryd.ntmps9
  obtain ⟨cx_0_0, cx_0_1, cx_0_2, cx_0_3, cx_0_4, cx_0_5, cx_0_6, cx_0_7, cx_0_8, cx_0_9, cx_0_10⟩ := inC_cells Rx_0
  go_wp2_with fail
  refine (KO.out _ (t24B FF.out B0)).mono ?_
  rintro r w1 ⟨rfl, b1⟩
  have B1 : Below w.heap.size w w1 := btr B0 b1
  have Rx_1 := heap_of b1 _ _ _ Rx_0
  clear b1 B0 Rx_0 cx_0_0 cx_0_1 cx_0_2 cx_0_3 cx_0_4 cx_0_5 cx_0_6 cx_0_7 cx_0_8 cx_0_9 cx_0_10
  obtain ⟨cx_1_0, cx_1_1, cx_1_2, cx_1_3, cx_1_4, cx_1_5, cx_1_6, cx_1_7, cx_1_8, cx_1_9, cx_1_10⟩ := inC_cells Rx_1
  have S2 := box B1.size
  have Lx_2 : Box (w.heap.size < w1.heap.size) := box (Array.getElem?_eq_some_iff.1 Rx_1).1
  have Rrow_2 := heap_alloc_last w1 (Obj.cells (rwC ro) 45)
  have B2 := btr B1 (bal w1 (Obj.cells (rwC ro) 45))
  have Rx_2 := heap_of (bal w1 (Obj.cells (rwC ro) 45)) _ _ _ Rx_1
  clear B1 Rx_1 cx_1_0 cx_1_1 cx_1_2 cx_1_3 cx_1_4 cx_1_5 cx_1_6 cx_1_7 cx_1_8 cx_1_9 cx_1_10
  obtain ⟨cx_2_0, cx_2_1, cx_2_2, cx_2_3, cx_2_4, cx_2_5, cx_2_6, cx_2_7, cx_2_8, cx_2_9, cx_2_10⟩ := inC_cells Rx_2
  obtain ⟨crow_2_0, crow_2_1, crow_2_2, crow_2_3, crow_2_4, crow_2_5, crow_2_6⟩ := rwC_cells Rrow_2
  go_wp2_with fail
  obtain ⟨F, hF1, hF2⟩ := below_fun (w1.alloc (Obj.cells (rwC ro) 45))
  have fx_0 := fun u => (inC_cells (heap_of (hF1 u) _ _ _ Rx_2)).1
  have fx_1 := fun u => (inC_cells (heap_of (hF1 u) _ _ _ Rx_2)).2.1
  have fx_2 := fun u => (inC_cells (heap_of (hF1 u) _ _ _ Rx_2)).2.2.1
  have fx_3 := fun u => (inC_cells (heap_of (hF1 u) _ _ _ Rx_2)).2.2.2.1
  have fx_4 := fun u => (inC_cells (heap_of (hF1 u) _ _ _ Rx_2)).2.2.2.2.1
  have fx_5 := fun u => (inC_cells (heap_of (hF1 u) _ _ _ Rx_2)).2.2.2.2.2.1
  have fx_6 := fun u => (inC_cells (heap_of (hF1 u) _ _ _ Rx_2)).2.2.2.2.2.2.1
  have fx_7 := fun u => (inC_cells (heap_of (hF1 u) _ _ _ Rx_2)).2.2.2.2.2.2.2.1
  have fx_8 := fun u => (inC_cells (heap_of (hF1 u) _ _ _ Rx_2)).2.2.2.2.2.2.2.2.1
  have fx_9 := fun u => (inC_cells (heap_of (hF1 u) _ _ _ Rx_2)).2.2.2.2.2.2.2.2.2.1
  have fx_10 := fun u => (inC_cells (heap_of (hF1 u) _ _ _ Rx_2)).2.2.2.2.2.2.2.2.2.2
  have frow_0 := fun u => (rwC_cells (heap_of (hF1 u) _ _ _ Rrow_2)).1
  have frow_1 := fun u => (rwC_cells (heap_of (hF1 u) _ _ _ Rrow_2)).2.1
  have frow_2 := fun u => (rwC_cells (heap_of (hF1 u) _ _ _ Rrow_2)).2.2.1
  have frow_3 := fun u => (rwC_cells (heap_of (hF1 u) _ _ _ Rrow_2)).2.2.2.1
  have frow_4 := fun u => (rwC_cells (heap_of (hF1 u) _ _ _ Rrow_2)).2.2.2.2.1
  have frow_5 := fun u => (rwC_cells (heap_of (hF1 u) _ _ _ Rrow_2)).2.2.2.2.2.1
  have frow_6 := fun u => (rwC_cells (heap_of (hF1 u) _ _ _ Rrow_2)).2.2.2.2.2.2
  refine wp_region_below F hF2 (by kernel_rfl) (by kernel_rfl) ?_
  repeat first | go_big_quiet_step (first  | fail) | quiet_step (first  | fail)
  refine wpQuiet_nil ?_
  rintro _ ⟨uW, rfl⟩
  have B3 := btr B2 (hF1 uW)
  have Rx_3 := heap_of (hF1 uW) _ _ _ Rx_2
  have Rrow_3 := heap_of (hF1 uW) _ _ _ Rrow_2
  obtain ⟨w3, hw⟩ : ∃ V, F uW = V := ⟨_, rfl⟩
  rw [hw] at B3 Rx_3 Rrow_3
  try rw [hw]
  clear hw hF1 hF2 B2 fx_0 fx_1 fx_2 fx_3 fx_4 fx_5 fx_6 fx_7 fx_8 fx_9 fx_10 frow_0 frow_1 frow_2 frow_3 frow_4 frow_5 frow_6 Rx_2 cx_2_0 cx_2_1 cx_2_2 cx_2_3 cx_2_4 cx_2_5 cx_2_6 cx_2_7 cx_2_8 cx_2_9 cx_2_10 Rrow_2 crow_2_0 crow_2_1 crow_2_2 crow_2_3 crow_2_4 crow_2_5 crow_2_6
  clear F
  obtain ⟨cx_3_0, cx_3_1, cx_3_2, cx_3_3, cx_3_4, cx_3_5, cx_3_6, cx_3_7, cx_3_8, cx_3_9, cx_3_10⟩ := inC_cells Rx_3
  obtain ⟨crow_3_0, crow_3_1, crow_3_2, crow_3_3, crow_3_4, crow_3_5, crow_3_6⟩ := rwC_cells Rrow_3
  go_wp2
  go_ret2
  exact ⟨rfl, B3⟩
set_option maxRecDepth 100000 in
set_option maxHeartbeats 8000000 in
theorem t_enc_h (x : In) (ro : Rw) (a : In) (hne : inCE a x = false) (KO : Box (∀ w, T24 w → Calls Tryd.prog 22 #[.int .u8 (x.op : Nat), .int .u8 (x.form : Nat), .int .u8 (x.frm : Nat), .int .u8 (x.kind : Nat)] w fun r w' => r = .returned (.tuple #[.agg (rwC ro), .int .i64 0]) ∧ Below w.heap.size w w')) (KH : Box (∀ w, Calls Tryd.prog 23 #[.agg (inC x), .int .u8 (ro.lay : Nat)] w fun r w' => r = .returned (.agg (inC a)) ∧ Below w.heap.size w w')) (w : World) (hT : T24 w) : Calls Tryd.prog 9 #[.agg (inC x)] w fun r w' => r = .returned (.tuple #[.int .u32 0, .int .i64 260]) ∧ Below w.heap.size w w' := by
  have FF := box hT
  clear hT
  have hro := rwC_fold ro
  have hrn := rwC_new
  have hif := inC_fold x
  have heqn := eqin
  obtain ⟨Rx_0, B0⟩ := opn1 w (Obj.cells (inC x) 27)
  go_enter Tryd.func9, Tryd.ntmps9
  obtain ⟨cx_0_0, cx_0_1, cx_0_2, cx_0_3, cx_0_4, cx_0_5, cx_0_6, cx_0_7, cx_0_8, cx_0_9, cx_0_10⟩ := inC_cells Rx_0
  go_wp2_with fail
  refine (KO.out _ (t24B FF.out B0)).mono ?_
  rintro r w1 ⟨rfl, b1⟩
  have B1 : Below w.heap.size w w1 := btr B0 b1
  have Rx_1 := heap_of b1 _ _ _ Rx_0
  clear b1 B0 Rx_0 cx_0_0 cx_0_1 cx_0_2 cx_0_3 cx_0_4 cx_0_5 cx_0_6 cx_0_7 cx_0_8 cx_0_9 cx_0_10
  obtain ⟨cx_1_0, cx_1_1, cx_1_2, cx_1_3, cx_1_4, cx_1_5, cx_1_6, cx_1_7, cx_1_8, cx_1_9, cx_1_10⟩ := inC_cells Rx_1
  have S2 := box B1.size
  have Lx_2 : Box (w.heap.size < w1.heap.size) := box (Array.getElem?_eq_some_iff.1 Rx_1).1
  have Rrow_2 := heap_alloc_last w1 (Obj.cells (rwC ro) 45)
  have B2 := btr B1 (bal w1 (Obj.cells (rwC ro) 45))
  have Rx_2 := heap_of (bal w1 (Obj.cells (rwC ro) 45)) _ _ _ Rx_1
  clear B1 Rx_1 cx_1_0 cx_1_1 cx_1_2 cx_1_3 cx_1_4 cx_1_5 cx_1_6 cx_1_7 cx_1_8 cx_1_9 cx_1_10
  obtain ⟨cx_2_0, cx_2_1, cx_2_2, cx_2_3, cx_2_4, cx_2_5, cx_2_6, cx_2_7, cx_2_8, cx_2_9, cx_2_10⟩ := inC_cells Rx_2
  obtain ⟨crow_2_0, crow_2_1, crow_2_2, crow_2_3, crow_2_4, crow_2_5, crow_2_6⟩ := rwC_cells Rrow_2
  go_wp2_with fail
  obtain ⟨F, hF1, hF2⟩ := below_fun (w1.alloc (Obj.cells (rwC ro) 45))
  have fx_0 := fun u => (inC_cells (heap_of (hF1 u) _ _ _ Rx_2)).1
  have fx_1 := fun u => (inC_cells (heap_of (hF1 u) _ _ _ Rx_2)).2.1
  have fx_2 := fun u => (inC_cells (heap_of (hF1 u) _ _ _ Rx_2)).2.2.1
  have fx_3 := fun u => (inC_cells (heap_of (hF1 u) _ _ _ Rx_2)).2.2.2.1
  have fx_4 := fun u => (inC_cells (heap_of (hF1 u) _ _ _ Rx_2)).2.2.2.2.1
  have fx_5 := fun u => (inC_cells (heap_of (hF1 u) _ _ _ Rx_2)).2.2.2.2.2.1
  have fx_6 := fun u => (inC_cells (heap_of (hF1 u) _ _ _ Rx_2)).2.2.2.2.2.2.1
  have fx_7 := fun u => (inC_cells (heap_of (hF1 u) _ _ _ Rx_2)).2.2.2.2.2.2.2.1
  have fx_8 := fun u => (inC_cells (heap_of (hF1 u) _ _ _ Rx_2)).2.2.2.2.2.2.2.2.1
  have fx_9 := fun u => (inC_cells (heap_of (hF1 u) _ _ _ Rx_2)).2.2.2.2.2.2.2.2.2.1
  have fx_10 := fun u => (inC_cells (heap_of (hF1 u) _ _ _ Rx_2)).2.2.2.2.2.2.2.2.2.2
  have frow_0 := fun u => (rwC_cells (heap_of (hF1 u) _ _ _ Rrow_2)).1
  have frow_1 := fun u => (rwC_cells (heap_of (hF1 u) _ _ _ Rrow_2)).2.1
  have frow_2 := fun u => (rwC_cells (heap_of (hF1 u) _ _ _ Rrow_2)).2.2.1
  have frow_3 := fun u => (rwC_cells (heap_of (hF1 u) _ _ _ Rrow_2)).2.2.2.1
  have frow_4 := fun u => (rwC_cells (heap_of (hF1 u) _ _ _ Rrow_2)).2.2.2.2.1
  have frow_5 := fun u => (rwC_cells (heap_of (hF1 u) _ _ _ Rrow_2)).2.2.2.2.2.1
  have frow_6 := fun u => (rwC_cells (heap_of (hF1 u) _ _ _ Rrow_2)).2.2.2.2.2.2
  refine wp_region_below F hF2 (by kernel_rfl) (by kernel_rfl) ?_
  repeat first | go_big_quiet_step (first | (go_at_call 23; exact quietF hF1 hF2 (KH.out _)) | fail) | quiet_step (first | (go_at_call 23; exact quietF hF1 hF2 (KH.out _)) | fail)
  refine wpQuiet_nil ?_
  rintro _ ⟨uW, rfl⟩
  have B3 := btr B2 (hF1 uW)
  have Rx_3 := heap_of (hF1 uW) _ _ _ Rx_2
  have Rrow_3 := heap_of (hF1 uW) _ _ _ Rrow_2
  obtain ⟨w3, hw⟩ : ∃ V, F uW = V := ⟨_, rfl⟩
  rw [hw] at B3 Rx_3 Rrow_3
  try rw [hw]
  clear hw hF1 hF2 B2 fx_0 fx_1 fx_2 fx_3 fx_4 fx_5 fx_6 fx_7 fx_8 fx_9 fx_10 frow_0 frow_1 frow_2 frow_3 frow_4 frow_5 frow_6 Rx_2 cx_2_0 cx_2_1 cx_2_2 cx_2_3 cx_2_4 cx_2_5 cx_2_6 cx_2_7 cx_2_8 cx_2_9 cx_2_10 Rrow_2 crow_2_0 crow_2_1 crow_2_2 crow_2_3 crow_2_4 crow_2_5 crow_2_6
  clear F
  obtain ⟨cx_3_0, cx_3_1, cx_3_2, cx_3_3, cx_3_4, cx_3_5, cx_3_6, cx_3_7, cx_3_8, cx_3_9, cx_3_10⟩ := inC_cells Rx_3
  obtain ⟨crow_3_0, crow_3_1, crow_3_2, crow_3_3, crow_3_4, crow_3_5, crow_3_6⟩ := rwC_cells Rrow_3
  go_wp2
  go_ret2
  exact ⟨rfl, B3⟩
set_option maxRecDepth 100000 in
set_option maxHeartbeats 8000000 in
theorem t_enc_f (x : In) (ro : Rw) (a : In) (heq : inCE a x = true) (V U : Nat) (hx : bits .xor .u32 (ro.mtch : Nat) (V : Nat) = (U : Nat)) (KO : Box (∀ w, T24 w → Calls Tryd.prog 22 #[.int .u8 (x.op : Nat), .int .u8 (x.form : Nat), .int .u8 (x.frm : Nat), .int .u8 (x.kind : Nat)] w fun r w' => r = .returned (.tuple #[.agg (rwC ro), .int .i64 0]) ∧ Below w.heap.size w w')) (KH : Box (∀ w, Calls Tryd.prog 23 #[.agg (inC x), .int .u8 (ro.lay : Nat)] w fun r w' => r = .returned (.agg (inC a)) ∧ Below w.heap.size w w')) (KB : Box (∀ w, Calls Tryd.prog 24 #[.agg (inC x), .int .u8 (ro.lay : Nat)] w fun r w' => r = .returned (.int .u32 (V : Nat)) ∧ Below w.heap.size w w')) (KT : Box (∀ w, Calls Tryd.prog 25 #[.agg (rwC ro), .int .u32 (U : Nat)] w fun r w' => r = .returned (.bool false) ∧ Below w.heap.size w w')) (w : World) (hT : T24 w) : Calls Tryd.prog 9 #[.agg (inC x)] w fun r w' => r = .returned (.tuple #[.int .u32 0, .int .i64 260]) ∧ Below w.heap.size w w' := by
  have FF := box hT
  clear hT
  have hro := rwC_fold ro
  have hrn := rwC_new
  have hif := inC_fold x
  have heqn := eqin
  obtain ⟨Rx_0, B0⟩ := opn1 w (Obj.cells (inC x) 27)
  go_enter Tryd.func9, Tryd.ntmps9
  obtain ⟨cx_0_0, cx_0_1, cx_0_2, cx_0_3, cx_0_4, cx_0_5, cx_0_6, cx_0_7, cx_0_8, cx_0_9, cx_0_10⟩ := inC_cells Rx_0
  go_wp2_with fail
  refine (KO.out _ (t24B FF.out B0)).mono ?_
  rintro r w1 ⟨rfl, b1⟩
  have B1 : Below w.heap.size w w1 := btr B0 b1
  have Rx_1 := heap_of b1 _ _ _ Rx_0
  clear b1 B0 Rx_0 cx_0_0 cx_0_1 cx_0_2 cx_0_3 cx_0_4 cx_0_5 cx_0_6 cx_0_7 cx_0_8 cx_0_9 cx_0_10
  obtain ⟨cx_1_0, cx_1_1, cx_1_2, cx_1_3, cx_1_4, cx_1_5, cx_1_6, cx_1_7, cx_1_8, cx_1_9, cx_1_10⟩ := inC_cells Rx_1
  have S2 := box B1.size
  have Lx_2 : Box (w.heap.size < w1.heap.size) := box (Array.getElem?_eq_some_iff.1 Rx_1).1
  have Rrow_2 := heap_alloc_last w1 (Obj.cells (rwC ro) 45)
  have B2 := btr B1 (bal w1 (Obj.cells (rwC ro) 45))
  have Rx_2 := heap_of (bal w1 (Obj.cells (rwC ro) 45)) _ _ _ Rx_1
  clear B1 Rx_1 cx_1_0 cx_1_1 cx_1_2 cx_1_3 cx_1_4 cx_1_5 cx_1_6 cx_1_7 cx_1_8 cx_1_9 cx_1_10
  obtain ⟨cx_2_0, cx_2_1, cx_2_2, cx_2_3, cx_2_4, cx_2_5, cx_2_6, cx_2_7, cx_2_8, cx_2_9, cx_2_10⟩ := inC_cells Rx_2
  obtain ⟨crow_2_0, crow_2_1, crow_2_2, crow_2_3, crow_2_4, crow_2_5, crow_2_6⟩ := rwC_cells Rrow_2
  go_wp2_with fail
  obtain ⟨F, hF1, hF2⟩ := below_fun (w1.alloc (Obj.cells (rwC ro) 45))
  have fx_0 := fun u => (inC_cells (heap_of (hF1 u) _ _ _ Rx_2)).1
  have fx_1 := fun u => (inC_cells (heap_of (hF1 u) _ _ _ Rx_2)).2.1
  have fx_2 := fun u => (inC_cells (heap_of (hF1 u) _ _ _ Rx_2)).2.2.1
  have fx_3 := fun u => (inC_cells (heap_of (hF1 u) _ _ _ Rx_2)).2.2.2.1
  have fx_4 := fun u => (inC_cells (heap_of (hF1 u) _ _ _ Rx_2)).2.2.2.2.1
  have fx_5 := fun u => (inC_cells (heap_of (hF1 u) _ _ _ Rx_2)).2.2.2.2.2.1
  have fx_6 := fun u => (inC_cells (heap_of (hF1 u) _ _ _ Rx_2)).2.2.2.2.2.2.1
  have fx_7 := fun u => (inC_cells (heap_of (hF1 u) _ _ _ Rx_2)).2.2.2.2.2.2.2.1
  have fx_8 := fun u => (inC_cells (heap_of (hF1 u) _ _ _ Rx_2)).2.2.2.2.2.2.2.2.1
  have fx_9 := fun u => (inC_cells (heap_of (hF1 u) _ _ _ Rx_2)).2.2.2.2.2.2.2.2.2.1
  have fx_10 := fun u => (inC_cells (heap_of (hF1 u) _ _ _ Rx_2)).2.2.2.2.2.2.2.2.2.2
  have frow_0 := fun u => (rwC_cells (heap_of (hF1 u) _ _ _ Rrow_2)).1
  have frow_1 := fun u => (rwC_cells (heap_of (hF1 u) _ _ _ Rrow_2)).2.1
  have frow_2 := fun u => (rwC_cells (heap_of (hF1 u) _ _ _ Rrow_2)).2.2.1
  have frow_3 := fun u => (rwC_cells (heap_of (hF1 u) _ _ _ Rrow_2)).2.2.2.1
  have frow_4 := fun u => (rwC_cells (heap_of (hF1 u) _ _ _ Rrow_2)).2.2.2.2.1
  have frow_5 := fun u => (rwC_cells (heap_of (hF1 u) _ _ _ Rrow_2)).2.2.2.2.2.1
  have frow_6 := fun u => (rwC_cells (heap_of (hF1 u) _ _ _ Rrow_2)).2.2.2.2.2.2
  refine wp_region_below F hF2 (by kernel_rfl) (by kernel_rfl) ?_
  repeat first | go_big_quiet_step (first | (go_at_call 23; exact quietF hF1 hF2 (KH.out _)) | fail) | quiet_step (first | (go_at_call 23; exact quietF hF1 hF2 (KH.out _)) | fail)
  refine wpQuiet_nil ?_
  rintro _ ⟨uW, rfl⟩
  have B3 := btr B2 (hF1 uW)
  have Rx_3 := heap_of (hF1 uW) _ _ _ Rx_2
  have Rrow_3 := heap_of (hF1 uW) _ _ _ Rrow_2
  obtain ⟨w3, hw⟩ : ∃ V, F uW = V := ⟨_, rfl⟩
  rw [hw] at B3 Rx_3 Rrow_3
  try rw [hw]
  clear hw hF1 hF2 B2 fx_0 fx_1 fx_2 fx_3 fx_4 fx_5 fx_6 fx_7 fx_8 fx_9 fx_10 frow_0 frow_1 frow_2 frow_3 frow_4 frow_5 frow_6 Rx_2 cx_2_0 cx_2_1 cx_2_2 cx_2_3 cx_2_4 cx_2_5 cx_2_6 cx_2_7 cx_2_8 cx_2_9 cx_2_10 Rrow_2 crow_2_0 crow_2_1 crow_2_2 crow_2_3 crow_2_4 crow_2_5 crow_2_6
  clear F
  obtain ⟨cx_3_0, cx_3_1, cx_3_2, cx_3_3, cx_3_4, cx_3_5, cx_3_6, cx_3_7, cx_3_8, cx_3_9, cx_3_10⟩ := inC_cells Rx_3
  obtain ⟨crow_3_0, crow_3_1, crow_3_2, crow_3_3, crow_3_4, crow_3_5, crow_3_6⟩ := rwC_cells Rrow_3
  go_wp2_with fail
  obtain ⟨F, hF1, hF2⟩ := below_fun w3
  have fx_0 := fun u => (inC_cells (heap_of (hF1 u) _ _ _ Rx_3)).1
  have fx_1 := fun u => (inC_cells (heap_of (hF1 u) _ _ _ Rx_3)).2.1
  have fx_2 := fun u => (inC_cells (heap_of (hF1 u) _ _ _ Rx_3)).2.2.1
  have fx_3 := fun u => (inC_cells (heap_of (hF1 u) _ _ _ Rx_3)).2.2.2.1
  have fx_4 := fun u => (inC_cells (heap_of (hF1 u) _ _ _ Rx_3)).2.2.2.2.1
  have fx_5 := fun u => (inC_cells (heap_of (hF1 u) _ _ _ Rx_3)).2.2.2.2.2.1
  have fx_6 := fun u => (inC_cells (heap_of (hF1 u) _ _ _ Rx_3)).2.2.2.2.2.2.1
  have fx_7 := fun u => (inC_cells (heap_of (hF1 u) _ _ _ Rx_3)).2.2.2.2.2.2.2.1
  have fx_8 := fun u => (inC_cells (heap_of (hF1 u) _ _ _ Rx_3)).2.2.2.2.2.2.2.2.1
  have fx_9 := fun u => (inC_cells (heap_of (hF1 u) _ _ _ Rx_3)).2.2.2.2.2.2.2.2.2.1
  have fx_10 := fun u => (inC_cells (heap_of (hF1 u) _ _ _ Rx_3)).2.2.2.2.2.2.2.2.2.2
  have frow_0 := fun u => (rwC_cells (heap_of (hF1 u) _ _ _ Rrow_3)).1
  have frow_1 := fun u => (rwC_cells (heap_of (hF1 u) _ _ _ Rrow_3)).2.1
  have frow_2 := fun u => (rwC_cells (heap_of (hF1 u) _ _ _ Rrow_3)).2.2.1
  have frow_3 := fun u => (rwC_cells (heap_of (hF1 u) _ _ _ Rrow_3)).2.2.2.1
  have frow_4 := fun u => (rwC_cells (heap_of (hF1 u) _ _ _ Rrow_3)).2.2.2.2.1
  have frow_5 := fun u => (rwC_cells (heap_of (hF1 u) _ _ _ Rrow_3)).2.2.2.2.2.1
  have frow_6 := fun u => (rwC_cells (heap_of (hF1 u) _ _ _ Rrow_3)).2.2.2.2.2.2
  refine wp_region_below F hF2 (by kernel_rfl) (by kernel_rfl) ?_
  repeat first | go_big_quiet_step (first | (go_at_call 24; exact quietF hF1 hF2 (KB.out _)) | fail) | quiet_step (first | (go_at_call 24; exact quietF hF1 hF2 (KB.out _)) | fail)
  refine wpQuiet_nil ?_
  rintro _ ⟨uW, rfl⟩
  have B4 := btr B3 (hF1 uW)
  have Rx_4 := heap_of (hF1 uW) _ _ _ Rx_3
  have Rrow_4 := heap_of (hF1 uW) _ _ _ Rrow_3
  obtain ⟨w4, hw⟩ : ∃ V, F uW = V := ⟨_, rfl⟩
  rw [hw] at B4 Rx_4 Rrow_4
  try rw [hw]
  clear hw hF1 hF2 B3 fx_0 fx_1 fx_2 fx_3 fx_4 fx_5 fx_6 fx_7 fx_8 fx_9 fx_10 frow_0 frow_1 frow_2 frow_3 frow_4 frow_5 frow_6 Rx_3 cx_3_0 cx_3_1 cx_3_2 cx_3_3 cx_3_4 cx_3_5 cx_3_6 cx_3_7 cx_3_8 cx_3_9 cx_3_10 Rrow_3 crow_3_0 crow_3_1 crow_3_2 crow_3_3 crow_3_4 crow_3_5 crow_3_6
  clear F
  obtain ⟨cx_4_0, cx_4_1, cx_4_2, cx_4_3, cx_4_4, cx_4_5, cx_4_6, cx_4_7, cx_4_8, cx_4_9, cx_4_10⟩ := inC_cells Rx_4
  obtain ⟨crow_4_0, crow_4_1, crow_4_2, crow_4_3, crow_4_4, crow_4_5, crow_4_6⟩ := rwC_cells Rrow_4
  go_wp2_with fail
  refine (KT.out _).mono ?_
  rintro r w5 ⟨rfl, b5⟩
  have B5 : Below w.heap.size w w5 := btr B4 b5
  have Rx_5 := heap_of b5 _ _ _ Rx_4
  have Rrow_5 := heap_of b5 _ _ _ Rrow_4
  clear b5 B4 Rx_4 cx_4_0 cx_4_1 cx_4_2 cx_4_3 cx_4_4 cx_4_5 cx_4_6 cx_4_7 cx_4_8 cx_4_9 cx_4_10 Rrow_4 crow_4_0 crow_4_1 crow_4_2 crow_4_3 crow_4_4 crow_4_5 crow_4_6
  obtain ⟨cx_5_0, cx_5_1, cx_5_2, cx_5_3, cx_5_4, cx_5_5, cx_5_6, cx_5_7, cx_5_8, cx_5_9, cx_5_10⟩ := inC_cells Rx_5
  obtain ⟨crow_5_0, crow_5_1, crow_5_2, crow_5_3, crow_5_4, crow_5_5, crow_5_6⟩ := rwC_cells Rrow_5
  go_wp2
  go_ret2
  exact ⟨rfl, B5⟩
set_option maxRecDepth 100000 in
set_option maxHeartbeats 8000000 in
theorem t_enc_y (x : In) (ro : Rw) (a : In) (heq : inCE a x = true) (V U : Nat) (hx : bits .xor .u32 (ro.mtch : Nat) (V : Nat) = (U : Nat)) (KO : Box (∀ w, T24 w → Calls Tryd.prog 22 #[.int .u8 (x.op : Nat), .int .u8 (x.form : Nat), .int .u8 (x.frm : Nat), .int .u8 (x.kind : Nat)] w fun r w' => r = .returned (.tuple #[.agg (rwC ro), .int .i64 0]) ∧ Below w.heap.size w w')) (KH : Box (∀ w, Calls Tryd.prog 23 #[.agg (inC x), .int .u8 (ro.lay : Nat)] w fun r w' => r = .returned (.agg (inC a)) ∧ Below w.heap.size w w')) (KB : Box (∀ w, Calls Tryd.prog 24 #[.agg (inC x), .int .u8 (ro.lay : Nat)] w fun r w' => r = .returned (.int .u32 (V : Nat)) ∧ Below w.heap.size w w')) (KT : Box (∀ w, Calls Tryd.prog 25 #[.agg (rwC ro), .int .u32 (U : Nat)] w fun r w' => r = .returned (.bool true) ∧ Below w.heap.size w w')) (w : World) (hT : T24 w) : Calls Tryd.prog 9 #[.agg (inC x)] w fun r w' => r = .returned (.tuple #[.int .u32 (U : Nat), .int .i64 0]) ∧ Below w.heap.size w w' := by
  have FF := box hT
  clear hT
  have hro := rwC_fold ro
  have hrn := rwC_new
  have hif := inC_fold x
  have heqn := eqin
  obtain ⟨Rx_0, B0⟩ := opn1 w (Obj.cells (inC x) 27)
  go_enter Tryd.func9, Tryd.ntmps9
  obtain ⟨cx_0_0, cx_0_1, cx_0_2, cx_0_3, cx_0_4, cx_0_5, cx_0_6, cx_0_7, cx_0_8, cx_0_9, cx_0_10⟩ := inC_cells Rx_0
  go_wp2_with fail
  refine (KO.out _ (t24B FF.out B0)).mono ?_
  rintro r w1 ⟨rfl, b1⟩
  have B1 : Below w.heap.size w w1 := btr B0 b1
  have Rx_1 := heap_of b1 _ _ _ Rx_0
  clear b1 B0 Rx_0 cx_0_0 cx_0_1 cx_0_2 cx_0_3 cx_0_4 cx_0_5 cx_0_6 cx_0_7 cx_0_8 cx_0_9 cx_0_10
  obtain ⟨cx_1_0, cx_1_1, cx_1_2, cx_1_3, cx_1_4, cx_1_5, cx_1_6, cx_1_7, cx_1_8, cx_1_9, cx_1_10⟩ := inC_cells Rx_1
  have S2 := box B1.size
  have Lx_2 : Box (w.heap.size < w1.heap.size) := box (Array.getElem?_eq_some_iff.1 Rx_1).1
  have Rrow_2 := heap_alloc_last w1 (Obj.cells (rwC ro) 45)
  have B2 := btr B1 (bal w1 (Obj.cells (rwC ro) 45))
  have Rx_2 := heap_of (bal w1 (Obj.cells (rwC ro) 45)) _ _ _ Rx_1
  clear B1 Rx_1 cx_1_0 cx_1_1 cx_1_2 cx_1_3 cx_1_4 cx_1_5 cx_1_6 cx_1_7 cx_1_8 cx_1_9 cx_1_10
  obtain ⟨cx_2_0, cx_2_1, cx_2_2, cx_2_3, cx_2_4, cx_2_5, cx_2_6, cx_2_7, cx_2_8, cx_2_9, cx_2_10⟩ := inC_cells Rx_2
  obtain ⟨crow_2_0, crow_2_1, crow_2_2, crow_2_3, crow_2_4, crow_2_5, crow_2_6⟩ := rwC_cells Rrow_2
  go_wp2_with fail
  obtain ⟨F, hF1, hF2⟩ := below_fun (w1.alloc (Obj.cells (rwC ro) 45))
  have fx_0 := fun u => (inC_cells (heap_of (hF1 u) _ _ _ Rx_2)).1
  have fx_1 := fun u => (inC_cells (heap_of (hF1 u) _ _ _ Rx_2)).2.1
  have fx_2 := fun u => (inC_cells (heap_of (hF1 u) _ _ _ Rx_2)).2.2.1
  have fx_3 := fun u => (inC_cells (heap_of (hF1 u) _ _ _ Rx_2)).2.2.2.1
  have fx_4 := fun u => (inC_cells (heap_of (hF1 u) _ _ _ Rx_2)).2.2.2.2.1
  have fx_5 := fun u => (inC_cells (heap_of (hF1 u) _ _ _ Rx_2)).2.2.2.2.2.1
  have fx_6 := fun u => (inC_cells (heap_of (hF1 u) _ _ _ Rx_2)).2.2.2.2.2.2.1
  have fx_7 := fun u => (inC_cells (heap_of (hF1 u) _ _ _ Rx_2)).2.2.2.2.2.2.2.1
  have fx_8 := fun u => (inC_cells (heap_of (hF1 u) _ _ _ Rx_2)).2.2.2.2.2.2.2.2.1
  have fx_9 := fun u => (inC_cells (heap_of (hF1 u) _ _ _ Rx_2)).2.2.2.2.2.2.2.2.2.1
  have fx_10 := fun u => (inC_cells (heap_of (hF1 u) _ _ _ Rx_2)).2.2.2.2.2.2.2.2.2.2
  have frow_0 := fun u => (rwC_cells (heap_of (hF1 u) _ _ _ Rrow_2)).1
  have frow_1 := fun u => (rwC_cells (heap_of (hF1 u) _ _ _ Rrow_2)).2.1
  have frow_2 := fun u => (rwC_cells (heap_of (hF1 u) _ _ _ Rrow_2)).2.2.1
  have frow_3 := fun u => (rwC_cells (heap_of (hF1 u) _ _ _ Rrow_2)).2.2.2.1
  have frow_4 := fun u => (rwC_cells (heap_of (hF1 u) _ _ _ Rrow_2)).2.2.2.2.1
  have frow_5 := fun u => (rwC_cells (heap_of (hF1 u) _ _ _ Rrow_2)).2.2.2.2.2.1
  have frow_6 := fun u => (rwC_cells (heap_of (hF1 u) _ _ _ Rrow_2)).2.2.2.2.2.2
  refine wp_region_below F hF2 (by kernel_rfl) (by kernel_rfl) ?_
  repeat first | go_big_quiet_step (first | (go_at_call 23; exact quietF hF1 hF2 (KH.out _)) | fail) | quiet_step (first | (go_at_call 23; exact quietF hF1 hF2 (KH.out _)) | fail)
  refine wpQuiet_nil ?_
  rintro _ ⟨uW, rfl⟩
  have B3 := btr B2 (hF1 uW)
  have Rx_3 := heap_of (hF1 uW) _ _ _ Rx_2
  have Rrow_3 := heap_of (hF1 uW) _ _ _ Rrow_2
  obtain ⟨w3, hw⟩ : ∃ V, F uW = V := ⟨_, rfl⟩
  rw [hw] at B3 Rx_3 Rrow_3
  try rw [hw]
  clear hw hF1 hF2 B2 fx_0 fx_1 fx_2 fx_3 fx_4 fx_5 fx_6 fx_7 fx_8 fx_9 fx_10 frow_0 frow_1 frow_2 frow_3 frow_4 frow_5 frow_6 Rx_2 cx_2_0 cx_2_1 cx_2_2 cx_2_3 cx_2_4 cx_2_5 cx_2_6 cx_2_7 cx_2_8 cx_2_9 cx_2_10 Rrow_2 crow_2_0 crow_2_1 crow_2_2 crow_2_3 crow_2_4 crow_2_5 crow_2_6
  clear F
  obtain ⟨cx_3_0, cx_3_1, cx_3_2, cx_3_3, cx_3_4, cx_3_5, cx_3_6, cx_3_7, cx_3_8, cx_3_9, cx_3_10⟩ := inC_cells Rx_3
  obtain ⟨crow_3_0, crow_3_1, crow_3_2, crow_3_3, crow_3_4, crow_3_5, crow_3_6⟩ := rwC_cells Rrow_3
  go_wp2_with fail
  obtain ⟨F, hF1, hF2⟩ := below_fun w3
  have fx_0 := fun u => (inC_cells (heap_of (hF1 u) _ _ _ Rx_3)).1
  have fx_1 := fun u => (inC_cells (heap_of (hF1 u) _ _ _ Rx_3)).2.1
  have fx_2 := fun u => (inC_cells (heap_of (hF1 u) _ _ _ Rx_3)).2.2.1
  have fx_3 := fun u => (inC_cells (heap_of (hF1 u) _ _ _ Rx_3)).2.2.2.1
  have fx_4 := fun u => (inC_cells (heap_of (hF1 u) _ _ _ Rx_3)).2.2.2.2.1
  have fx_5 := fun u => (inC_cells (heap_of (hF1 u) _ _ _ Rx_3)).2.2.2.2.2.1
  have fx_6 := fun u => (inC_cells (heap_of (hF1 u) _ _ _ Rx_3)).2.2.2.2.2.2.1
  have fx_7 := fun u => (inC_cells (heap_of (hF1 u) _ _ _ Rx_3)).2.2.2.2.2.2.2.1
  have fx_8 := fun u => (inC_cells (heap_of (hF1 u) _ _ _ Rx_3)).2.2.2.2.2.2.2.2.1
  have fx_9 := fun u => (inC_cells (heap_of (hF1 u) _ _ _ Rx_3)).2.2.2.2.2.2.2.2.2.1
  have fx_10 := fun u => (inC_cells (heap_of (hF1 u) _ _ _ Rx_3)).2.2.2.2.2.2.2.2.2.2
  have frow_0 := fun u => (rwC_cells (heap_of (hF1 u) _ _ _ Rrow_3)).1
  have frow_1 := fun u => (rwC_cells (heap_of (hF1 u) _ _ _ Rrow_3)).2.1
  have frow_2 := fun u => (rwC_cells (heap_of (hF1 u) _ _ _ Rrow_3)).2.2.1
  have frow_3 := fun u => (rwC_cells (heap_of (hF1 u) _ _ _ Rrow_3)).2.2.2.1
  have frow_4 := fun u => (rwC_cells (heap_of (hF1 u) _ _ _ Rrow_3)).2.2.2.2.1
  have frow_5 := fun u => (rwC_cells (heap_of (hF1 u) _ _ _ Rrow_3)).2.2.2.2.2.1
  have frow_6 := fun u => (rwC_cells (heap_of (hF1 u) _ _ _ Rrow_3)).2.2.2.2.2.2
  refine wp_region_below F hF2 (by kernel_rfl) (by kernel_rfl) ?_
  repeat first | go_big_quiet_step (first | (go_at_call 24; exact quietF hF1 hF2 (KB.out _)) | fail) | quiet_step (first | (go_at_call 24; exact quietF hF1 hF2 (KB.out _)) | fail)
  refine wpQuiet_nil ?_
  rintro _ ⟨uW, rfl⟩
  have B4 := btr B3 (hF1 uW)
  have Rx_4 := heap_of (hF1 uW) _ _ _ Rx_3
  have Rrow_4 := heap_of (hF1 uW) _ _ _ Rrow_3
  obtain ⟨w4, hw⟩ : ∃ V, F uW = V := ⟨_, rfl⟩
  rw [hw] at B4 Rx_4 Rrow_4
  try rw [hw]
  clear hw hF1 hF2 B3 fx_0 fx_1 fx_2 fx_3 fx_4 fx_5 fx_6 fx_7 fx_8 fx_9 fx_10 frow_0 frow_1 frow_2 frow_3 frow_4 frow_5 frow_6 Rx_3 cx_3_0 cx_3_1 cx_3_2 cx_3_3 cx_3_4 cx_3_5 cx_3_6 cx_3_7 cx_3_8 cx_3_9 cx_3_10 Rrow_3 crow_3_0 crow_3_1 crow_3_2 crow_3_3 crow_3_4 crow_3_5 crow_3_6
  clear F
  obtain ⟨cx_4_0, cx_4_1, cx_4_2, cx_4_3, cx_4_4, cx_4_5, cx_4_6, cx_4_7, cx_4_8, cx_4_9, cx_4_10⟩ := inC_cells Rx_4
  obtain ⟨crow_4_0, crow_4_1, crow_4_2, crow_4_3, crow_4_4, crow_4_5, crow_4_6⟩ := rwC_cells Rrow_4
  go_wp2_with fail
  refine (KT.out _).mono ?_
  rintro r w5 ⟨rfl, b5⟩
  have B5 : Below w.heap.size w w5 := btr B4 b5
  have Rx_5 := heap_of b5 _ _ _ Rx_4
  have Rrow_5 := heap_of b5 _ _ _ Rrow_4
  clear b5 B4 Rx_4 cx_4_0 cx_4_1 cx_4_2 cx_4_3 cx_4_4 cx_4_5 cx_4_6 cx_4_7 cx_4_8 cx_4_9 cx_4_10 Rrow_4 crow_4_0 crow_4_1 crow_4_2 crow_4_3 crow_4_4 crow_4_5 crow_4_6
  obtain ⟨cx_5_0, cx_5_1, cx_5_2, cx_5_3, cx_5_4, cx_5_5, cx_5_6, cx_5_7, cx_5_8, cx_5_9, cx_5_10⟩ := inC_cells Rx_5
  obtain ⟨crow_5_0, crow_5_1, crow_5_2, crow_5_3, crow_5_4, crow_5_5, crow_5_6⟩ := rwC_cells Rrow_5
  go_wp2
  go_ret2
  exact ⟨rfl, B5⟩
theorem in_at0 (x : In) (h : 0 < (inC x).size) : (inC x)[0] = .int .u8 (x.op : Nat) := rfl
theorem in_at1 (x : In) (h : 1 < (inC x).size) : (inC x)[1] = .int .u8 (x.form : Nat) := rfl
theorem in_at2 (x : In) (h : 2 < (inC x).size) : (inC x)[2] = .int .u8 (x.frm : Nat) := rfl
theorem in_at3 (x : In) (h : 3 < (inC x).size) : (inC x)[3] = .int .u8 (x.kind : Nat) := rfl
theorem in_at4 (x : In) (h : 4 < (inC x).size) : (inC x)[4] = .int .u8 (x.rd : Nat) := rfl
theorem in_at5 (x : In) (h : 5 < (inC x).size) : (inC x)[5] = .int .u8 (x.rs1 : Nat) := rfl
theorem in_at6 (x : In) (h : 6 < (inC x).size) : (inC x)[6] = .int .u8 (x.rs2 : Nat) := rfl
theorem in_at7 (x : In) (h : 7 < (inC x).size) : (inC x)[7] = .int .u8 (x.rs3 : Nat) := rfl
theorem in_at8 (x : In) (h : 8 < (inC x).size) : (inC x)[8] = .int .u8 (x.rm : Nat) := rfl
theorem in_at9 (x : In) (h : 9 < (inC x).size) : (inC x)[9] = .int .i16 x.imm := rfl
theorem in_at10 (x : In) (h : 10 < (inC x).size) : (inC x)[10] = .int .u8 (x.csr : Nat) := rfl
set_option maxRecDepth 100000 in
set_option maxHeartbeats 8000000 in
theorem t_least_c (ro : Rw) (b8 b9 : Bool) (q8 : (((ro.lay : Nat) : Int) == 8) = b8) (q9 : (((ro.lay : Nat) : Int) == 9) = b9) (hq : (b8 || b9) = true) (w : World) : Calls Tryd.prog 35 #[.agg (rwC ro)] w fun r w' => r = .returned (.agg (inC ⟨ro.op, ro.form, ro.frm, ro.kind, 0, 0, 0, 0, 0, 0, 1⟩)) ∧ Below w.heap.size w w' := by
  have hro := rwC_fold ro
  have hin := inC_new
  have ha0 := in_at0
  have ha1 := in_at1
  have ha2 := in_at2
  have ha3 := in_at3
  have ha4 := in_at4
  have ha5 := in_at5
  have ha6 := in_at6
  have ha7 := in_at7
  have ha8 := in_at8
  have ha9 := in_at9
  have ha10 := in_at10
  have hif := in_fold0 ro.op ro.form ro.frm ro.kind
  have hif2 : #[Value.int .u8 (ro.op : Nat), .int .u8 (ro.form : Nat), .int .u8 (ro.frm : Nat), .int .u8 (ro.kind : Nat), .int .u8 0, .int .u8 0, .int .u8 0, .int .u8 0, .int .u8 0, .int .i16 0, .int .u8 1] = inC ⟨ro.op, ro.form, ro.frm, ro.kind, 0, 0, 0, 0, 0, 0, 1⟩ := rfl
  have hq2 : (b8 = true ∧ b9 = false) ∨ (b8 = true ∧ b9 = true) ∨ (b8 = false ∧ b9 = true) := by revert hq; cases b8 <;> cases b9 <;> simp
  rcases hq2 with ⟨rfl, rfl⟩ | ⟨rfl, rfl⟩ | ⟨rfl, rfl⟩
  · have hO : True := trivial
    obtain ⟨Rrow_0, Rz_0, B0⟩ := opn2 w (Obj.cells (rwC ro) 45) (Obj.cells #[.int .u8 0, .int .u8 0, .int .u8 0, .int .u8 0, .int .u8 0, .int .u8 0, .int .u8 0, .int .u8 0, .int .u8 0, .int .i16 0, .int .u8 0] 27)
    go_enter Tryd.func35, Tryd.ntmps35
    obtain ⟨crow_0_0, crow_0_1, crow_0_2, crow_0_3, crow_0_4, crow_0_5, crow_0_6⟩ := rwC_cells Rrow_0
    have kr0 := crow_0_0
    have kr1 := crow_0_1
    have kr2 := crow_0_2
    have kr3 := crow_0_3
    have rq := heap_of (bal ((w.alloc (Obj.cells (rwC ro) 45)).alloc (Obj.cells #[.int .u8 0, .int .u8 0, .int .u8 0, .int .u8 0, .int .u8 0, .int .u8 0, .int .u8 0, .int .u8 0, .int .u8 0, .int .i16 0, .int .u8 0] 27)) (Obj.cells (inC ⟨ro.op, ro.form, ro.frm, ro.kind, 0, 0, 0, 0, 0, 0, 0⟩) 27)) _ _ _ Rrow_0
    obtain ⟨g0, g1, g2, g3, g4, g5, g6⟩ := rwC_cells rq
    have hse : (inC ⟨ro.op, ro.form, ro.frm, ro.kind, 0, 0, 0, 0, 0, 0, 0⟩).setIfInBounds 10 (.int .u8 1) = inC ⟨ro.op, ro.form, ro.frm, ro.kind, 0, 0, 0, 0, 0, 0, 1⟩ := rfl
    have S1 := box B0.size
    have Lrow_1 : Box (w.heap.size < ((w.alloc (Obj.cells (rwC ro) 45)).alloc (Obj.cells #[.int .u8 0, .int .u8 0, .int .u8 0, .int .u8 0, .int .u8 0, .int .u8 0, .int .u8 0, .int .u8 0, .int .u8 0, .int .i16 0, .int .u8 0] 27)).heap.size) := box (Array.getElem?_eq_some_iff.1 Rrow_0).1
    have Lz_1 : Box (w.heap.size + 1 < ((w.alloc (Obj.cells (rwC ro) 45)).alloc (Obj.cells #[.int .u8 0, .int .u8 0, .int .u8 0, .int .u8 0, .int .u8 0, .int .u8 0, .int .u8 0, .int .u8 0, .int .u8 0, .int .i16 0, .int .u8 0] 27)).heap.size) := box (Array.getElem?_eq_some_iff.1 Rz_0).1
    have Rx_1 := heap_alloc_last ((w.alloc (Obj.cells (rwC ro) 45)).alloc (Obj.cells #[.int .u8 0, .int .u8 0, .int .u8 0, .int .u8 0, .int .u8 0, .int .u8 0, .int .u8 0, .int .u8 0, .int .u8 0, .int .i16 0, .int .u8 0] 27)) (Obj.cells (inC ⟨ro.op, ro.form, ro.frm, ro.kind, 0, 0, 0, 0, 0, 0, 1⟩) 27)
    have B1 := btr B0 (bal ((w.alloc (Obj.cells (rwC ro) 45)).alloc (Obj.cells #[.int .u8 0, .int .u8 0, .int .u8 0, .int .u8 0, .int .u8 0, .int .u8 0, .int .u8 0, .int .u8 0, .int .u8 0, .int .i16 0, .int .u8 0] 27)) (Obj.cells (inC ⟨ro.op, ro.form, ro.frm, ro.kind, 0, 0, 0, 0, 0, 0, 1⟩) 27))
    have Rrow_1 := heap_of (bal ((w.alloc (Obj.cells (rwC ro) 45)).alloc (Obj.cells #[.int .u8 0, .int .u8 0, .int .u8 0, .int .u8 0, .int .u8 0, .int .u8 0, .int .u8 0, .int .u8 0, .int .u8 0, .int .i16 0, .int .u8 0] 27)) (Obj.cells (inC ⟨ro.op, ro.form, ro.frm, ro.kind, 0, 0, 0, 0, 0, 0, 1⟩) 27)) _ _ _ Rrow_0
    have Rz_1 := heap_of (bal ((w.alloc (Obj.cells (rwC ro) 45)).alloc (Obj.cells #[.int .u8 0, .int .u8 0, .int .u8 0, .int .u8 0, .int .u8 0, .int .u8 0, .int .u8 0, .int .u8 0, .int .u8 0, .int .i16 0, .int .u8 0] 27)) (Obj.cells (inC ⟨ro.op, ro.form, ro.frm, ro.kind, 0, 0, 0, 0, 0, 0, 1⟩) 27)) _ _ _ Rz_0
    clear B0 Rrow_0 crow_0_0 crow_0_1 crow_0_2 crow_0_3 crow_0_4 crow_0_5 crow_0_6 Rz_0
    obtain ⟨crow_1_0, crow_1_1, crow_1_2, crow_1_3, crow_1_4, crow_1_5, crow_1_6⟩ := rwC_cells Rrow_1
    obtain ⟨cx_1_0, cx_1_1, cx_1_2, cx_1_3, cx_1_4, cx_1_5, cx_1_6, cx_1_7, cx_1_8, cx_1_9, cx_1_10⟩ := inC_cells Rx_1
    simp only [size_al] at cx_1_0 cx_1_1 cx_1_2 cx_1_3 cx_1_4 cx_1_5 cx_1_6 cx_1_7 cx_1_8 cx_1_9 cx_1_10
    have hst := inC_store (x := ⟨ro.op, ro.form, ro.frm, ro.kind, 0, 0, 0, 0, 0, 0, 1⟩) Rz_1 rfl
    have rz := setRow_row (c' := inC ⟨ro.op, ro.form, ro.frm, ro.kind, 0, 0, 0, 0, 0, 0, 1⟩) Rz_1
    have bz : Below w.heap.size w ((((w.alloc (Obj.cells (rwC ro) 45)).alloc (Obj.cells #[.int .u8 0, .int .u8 0, .int .u8 0, .int .u8 0, .int .u8 0, .int .u8 0, .int .u8 0, .int .u8 0, .int .u8 0, .int .i16 0, .int .u8 0] 27)).alloc (Obj.cells (inC ⟨ro.op, ro.form, ro.frm, ro.kind, 0, 0, 0, 0, 0, 0, 1⟩) 27)).setRow (w.heap.size + 1) (inC ⟨ro.op, ro.form, ro.frm, ro.kind, 0, 0, 0, 0, 0, 0, 1⟩)) := Below.setRow B1 (show w.heap.size ≤ w.heap.size + 1 by first | exact Nat.le_refl _ | omega | (have := S1.out; have := Lrow_1.out; have := Lz_1.out; omega))
    obtain ⟨wz, hwz⟩ : ∃ V, (((w.alloc (Obj.cells (rwC ro) 45)).alloc (Obj.cells #[.int .u8 0, .int .u8 0, .int .u8 0, .int .u8 0, .int .u8 0, .int .u8 0, .int .u8 0, .int .u8 0, .int .u8 0, .int .i16 0, .int .u8 0] 27)).alloc (Obj.cells (inC ⟨ro.op, ro.form, ro.frm, ro.kind, 0, 0, 0, 0, 0, 0, 1⟩) 27)).setRow (w.heap.size + 1) (inC ⟨ro.op, ro.form, ro.frm, ro.kind, 0, 0, 0, 0, 0, 0, 1⟩) = V := ⟨_, rfl⟩
    rw [hwz] at hst rz bz
    clear hwz
    go_wp2
    exact bodyPost_ret (v := .agg (inC ⟨ro.op, ro.form, ro.frm, ro.kind, 0, 0, 0, 0, 0, 0, 1⟩)) (res_inC1 Tryd.results35 rfl rz) rfl ⟨rfl, bz⟩
  · have hO : True := trivial
    obtain ⟨Rrow_0, Rz_0, B0⟩ := opn2 w (Obj.cells (rwC ro) 45) (Obj.cells #[.int .u8 0, .int .u8 0, .int .u8 0, .int .u8 0, .int .u8 0, .int .u8 0, .int .u8 0, .int .u8 0, .int .u8 0, .int .i16 0, .int .u8 0] 27)
    go_enter Tryd.func35, Tryd.ntmps35
    obtain ⟨crow_0_0, crow_0_1, crow_0_2, crow_0_3, crow_0_4, crow_0_5, crow_0_6⟩ := rwC_cells Rrow_0
    have kr0 := crow_0_0
    have kr1 := crow_0_1
    have kr2 := crow_0_2
    have kr3 := crow_0_3
    have rq := heap_of (bal ((w.alloc (Obj.cells (rwC ro) 45)).alloc (Obj.cells #[.int .u8 0, .int .u8 0, .int .u8 0, .int .u8 0, .int .u8 0, .int .u8 0, .int .u8 0, .int .u8 0, .int .u8 0, .int .i16 0, .int .u8 0] 27)) (Obj.cells (inC ⟨ro.op, ro.form, ro.frm, ro.kind, 0, 0, 0, 0, 0, 0, 0⟩) 27)) _ _ _ Rrow_0
    obtain ⟨g0, g1, g2, g3, g4, g5, g6⟩ := rwC_cells rq
    have hse : (inC ⟨ro.op, ro.form, ro.frm, ro.kind, 0, 0, 0, 0, 0, 0, 0⟩).setIfInBounds 10 (.int .u8 1) = inC ⟨ro.op, ro.form, ro.frm, ro.kind, 0, 0, 0, 0, 0, 0, 1⟩ := rfl
    have S1 := box B0.size
    have Lrow_1 : Box (w.heap.size < ((w.alloc (Obj.cells (rwC ro) 45)).alloc (Obj.cells #[.int .u8 0, .int .u8 0, .int .u8 0, .int .u8 0, .int .u8 0, .int .u8 0, .int .u8 0, .int .u8 0, .int .u8 0, .int .i16 0, .int .u8 0] 27)).heap.size) := box (Array.getElem?_eq_some_iff.1 Rrow_0).1
    have Lz_1 : Box (w.heap.size + 1 < ((w.alloc (Obj.cells (rwC ro) 45)).alloc (Obj.cells #[.int .u8 0, .int .u8 0, .int .u8 0, .int .u8 0, .int .u8 0, .int .u8 0, .int .u8 0, .int .u8 0, .int .u8 0, .int .i16 0, .int .u8 0] 27)).heap.size) := box (Array.getElem?_eq_some_iff.1 Rz_0).1
    have Rx_1 := heap_alloc_last ((w.alloc (Obj.cells (rwC ro) 45)).alloc (Obj.cells #[.int .u8 0, .int .u8 0, .int .u8 0, .int .u8 0, .int .u8 0, .int .u8 0, .int .u8 0, .int .u8 0, .int .u8 0, .int .i16 0, .int .u8 0] 27)) (Obj.cells (inC ⟨ro.op, ro.form, ro.frm, ro.kind, 0, 0, 0, 0, 0, 0, 1⟩) 27)
    have B1 := btr B0 (bal ((w.alloc (Obj.cells (rwC ro) 45)).alloc (Obj.cells #[.int .u8 0, .int .u8 0, .int .u8 0, .int .u8 0, .int .u8 0, .int .u8 0, .int .u8 0, .int .u8 0, .int .u8 0, .int .i16 0, .int .u8 0] 27)) (Obj.cells (inC ⟨ro.op, ro.form, ro.frm, ro.kind, 0, 0, 0, 0, 0, 0, 1⟩) 27))
    have Rrow_1 := heap_of (bal ((w.alloc (Obj.cells (rwC ro) 45)).alloc (Obj.cells #[.int .u8 0, .int .u8 0, .int .u8 0, .int .u8 0, .int .u8 0, .int .u8 0, .int .u8 0, .int .u8 0, .int .u8 0, .int .i16 0, .int .u8 0] 27)) (Obj.cells (inC ⟨ro.op, ro.form, ro.frm, ro.kind, 0, 0, 0, 0, 0, 0, 1⟩) 27)) _ _ _ Rrow_0
    have Rz_1 := heap_of (bal ((w.alloc (Obj.cells (rwC ro) 45)).alloc (Obj.cells #[.int .u8 0, .int .u8 0, .int .u8 0, .int .u8 0, .int .u8 0, .int .u8 0, .int .u8 0, .int .u8 0, .int .u8 0, .int .i16 0, .int .u8 0] 27)) (Obj.cells (inC ⟨ro.op, ro.form, ro.frm, ro.kind, 0, 0, 0, 0, 0, 0, 1⟩) 27)) _ _ _ Rz_0
    clear B0 Rrow_0 crow_0_0 crow_0_1 crow_0_2 crow_0_3 crow_0_4 crow_0_5 crow_0_6 Rz_0
    obtain ⟨crow_1_0, crow_1_1, crow_1_2, crow_1_3, crow_1_4, crow_1_5, crow_1_6⟩ := rwC_cells Rrow_1
    obtain ⟨cx_1_0, cx_1_1, cx_1_2, cx_1_3, cx_1_4, cx_1_5, cx_1_6, cx_1_7, cx_1_8, cx_1_9, cx_1_10⟩ := inC_cells Rx_1
    simp only [size_al] at cx_1_0 cx_1_1 cx_1_2 cx_1_3 cx_1_4 cx_1_5 cx_1_6 cx_1_7 cx_1_8 cx_1_9 cx_1_10
    have hst := inC_store (x := ⟨ro.op, ro.form, ro.frm, ro.kind, 0, 0, 0, 0, 0, 0, 1⟩) Rz_1 rfl
    have rz := setRow_row (c' := inC ⟨ro.op, ro.form, ro.frm, ro.kind, 0, 0, 0, 0, 0, 0, 1⟩) Rz_1
    have bz : Below w.heap.size w ((((w.alloc (Obj.cells (rwC ro) 45)).alloc (Obj.cells #[.int .u8 0, .int .u8 0, .int .u8 0, .int .u8 0, .int .u8 0, .int .u8 0, .int .u8 0, .int .u8 0, .int .u8 0, .int .i16 0, .int .u8 0] 27)).alloc (Obj.cells (inC ⟨ro.op, ro.form, ro.frm, ro.kind, 0, 0, 0, 0, 0, 0, 1⟩) 27)).setRow (w.heap.size + 1) (inC ⟨ro.op, ro.form, ro.frm, ro.kind, 0, 0, 0, 0, 0, 0, 1⟩)) := Below.setRow B1 (show w.heap.size ≤ w.heap.size + 1 by first | exact Nat.le_refl _ | omega | (have := S1.out; have := Lrow_1.out; have := Lz_1.out; omega))
    obtain ⟨wz, hwz⟩ : ∃ V, (((w.alloc (Obj.cells (rwC ro) 45)).alloc (Obj.cells #[.int .u8 0, .int .u8 0, .int .u8 0, .int .u8 0, .int .u8 0, .int .u8 0, .int .u8 0, .int .u8 0, .int .u8 0, .int .i16 0, .int .u8 0] 27)).alloc (Obj.cells (inC ⟨ro.op, ro.form, ro.frm, ro.kind, 0, 0, 0, 0, 0, 0, 1⟩) 27)).setRow (w.heap.size + 1) (inC ⟨ro.op, ro.form, ro.frm, ro.kind, 0, 0, 0, 0, 0, 0, 1⟩) = V := ⟨_, rfl⟩
    rw [hwz] at hst rz bz
    clear hwz
    go_wp2
    exact bodyPost_ret (v := .agg (inC ⟨ro.op, ro.form, ro.frm, ro.kind, 0, 0, 0, 0, 0, 0, 1⟩)) (res_inC1 Tryd.results35 rfl rz) rfl ⟨rfl, bz⟩
  · have hO : True := trivial
    obtain ⟨Rrow_0, Rz_0, B0⟩ := opn2 w (Obj.cells (rwC ro) 45) (Obj.cells #[.int .u8 0, .int .u8 0, .int .u8 0, .int .u8 0, .int .u8 0, .int .u8 0, .int .u8 0, .int .u8 0, .int .u8 0, .int .i16 0, .int .u8 0] 27)
    go_enter Tryd.func35, Tryd.ntmps35
    obtain ⟨crow_0_0, crow_0_1, crow_0_2, crow_0_3, crow_0_4, crow_0_5, crow_0_6⟩ := rwC_cells Rrow_0
    have kr0 := crow_0_0
    have kr1 := crow_0_1
    have kr2 := crow_0_2
    have kr3 := crow_0_3
    have rq := heap_of (bal ((w.alloc (Obj.cells (rwC ro) 45)).alloc (Obj.cells #[.int .u8 0, .int .u8 0, .int .u8 0, .int .u8 0, .int .u8 0, .int .u8 0, .int .u8 0, .int .u8 0, .int .u8 0, .int .i16 0, .int .u8 0] 27)) (Obj.cells (inC ⟨ro.op, ro.form, ro.frm, ro.kind, 0, 0, 0, 0, 0, 0, 0⟩) 27)) _ _ _ Rrow_0
    obtain ⟨g0, g1, g2, g3, g4, g5, g6⟩ := rwC_cells rq
    have hse : (inC ⟨ro.op, ro.form, ro.frm, ro.kind, 0, 0, 0, 0, 0, 0, 0⟩).setIfInBounds 10 (.int .u8 1) = inC ⟨ro.op, ro.form, ro.frm, ro.kind, 0, 0, 0, 0, 0, 0, 1⟩ := rfl
    have S1 := box B0.size
    have Lrow_1 : Box (w.heap.size < ((w.alloc (Obj.cells (rwC ro) 45)).alloc (Obj.cells #[.int .u8 0, .int .u8 0, .int .u8 0, .int .u8 0, .int .u8 0, .int .u8 0, .int .u8 0, .int .u8 0, .int .u8 0, .int .i16 0, .int .u8 0] 27)).heap.size) := box (Array.getElem?_eq_some_iff.1 Rrow_0).1
    have Lz_1 : Box (w.heap.size + 1 < ((w.alloc (Obj.cells (rwC ro) 45)).alloc (Obj.cells #[.int .u8 0, .int .u8 0, .int .u8 0, .int .u8 0, .int .u8 0, .int .u8 0, .int .u8 0, .int .u8 0, .int .u8 0, .int .i16 0, .int .u8 0] 27)).heap.size) := box (Array.getElem?_eq_some_iff.1 Rz_0).1
    have Rx_1 := heap_alloc_last ((w.alloc (Obj.cells (rwC ro) 45)).alloc (Obj.cells #[.int .u8 0, .int .u8 0, .int .u8 0, .int .u8 0, .int .u8 0, .int .u8 0, .int .u8 0, .int .u8 0, .int .u8 0, .int .i16 0, .int .u8 0] 27)) (Obj.cells (inC ⟨ro.op, ro.form, ro.frm, ro.kind, 0, 0, 0, 0, 0, 0, 1⟩) 27)
    have B1 := btr B0 (bal ((w.alloc (Obj.cells (rwC ro) 45)).alloc (Obj.cells #[.int .u8 0, .int .u8 0, .int .u8 0, .int .u8 0, .int .u8 0, .int .u8 0, .int .u8 0, .int .u8 0, .int .u8 0, .int .i16 0, .int .u8 0] 27)) (Obj.cells (inC ⟨ro.op, ro.form, ro.frm, ro.kind, 0, 0, 0, 0, 0, 0, 1⟩) 27))
    have Rrow_1 := heap_of (bal ((w.alloc (Obj.cells (rwC ro) 45)).alloc (Obj.cells #[.int .u8 0, .int .u8 0, .int .u8 0, .int .u8 0, .int .u8 0, .int .u8 0, .int .u8 0, .int .u8 0, .int .u8 0, .int .i16 0, .int .u8 0] 27)) (Obj.cells (inC ⟨ro.op, ro.form, ro.frm, ro.kind, 0, 0, 0, 0, 0, 0, 1⟩) 27)) _ _ _ Rrow_0
    have Rz_1 := heap_of (bal ((w.alloc (Obj.cells (rwC ro) 45)).alloc (Obj.cells #[.int .u8 0, .int .u8 0, .int .u8 0, .int .u8 0, .int .u8 0, .int .u8 0, .int .u8 0, .int .u8 0, .int .u8 0, .int .i16 0, .int .u8 0] 27)) (Obj.cells (inC ⟨ro.op, ro.form, ro.frm, ro.kind, 0, 0, 0, 0, 0, 0, 1⟩) 27)) _ _ _ Rz_0
    clear B0 Rrow_0 crow_0_0 crow_0_1 crow_0_2 crow_0_3 crow_0_4 crow_0_5 crow_0_6 Rz_0
    obtain ⟨crow_1_0, crow_1_1, crow_1_2, crow_1_3, crow_1_4, crow_1_5, crow_1_6⟩ := rwC_cells Rrow_1
    obtain ⟨cx_1_0, cx_1_1, cx_1_2, cx_1_3, cx_1_4, cx_1_5, cx_1_6, cx_1_7, cx_1_8, cx_1_9, cx_1_10⟩ := inC_cells Rx_1
    simp only [size_al] at cx_1_0 cx_1_1 cx_1_2 cx_1_3 cx_1_4 cx_1_5 cx_1_6 cx_1_7 cx_1_8 cx_1_9 cx_1_10
    have hst := inC_store (x := ⟨ro.op, ro.form, ro.frm, ro.kind, 0, 0, 0, 0, 0, 0, 1⟩) Rz_1 rfl
    have rz := setRow_row (c' := inC ⟨ro.op, ro.form, ro.frm, ro.kind, 0, 0, 0, 0, 0, 0, 1⟩) Rz_1
    have bz : Below w.heap.size w ((((w.alloc (Obj.cells (rwC ro) 45)).alloc (Obj.cells #[.int .u8 0, .int .u8 0, .int .u8 0, .int .u8 0, .int .u8 0, .int .u8 0, .int .u8 0, .int .u8 0, .int .u8 0, .int .i16 0, .int .u8 0] 27)).alloc (Obj.cells (inC ⟨ro.op, ro.form, ro.frm, ro.kind, 0, 0, 0, 0, 0, 0, 1⟩) 27)).setRow (w.heap.size + 1) (inC ⟨ro.op, ro.form, ro.frm, ro.kind, 0, 0, 0, 0, 0, 0, 1⟩)) := Below.setRow B1 (show w.heap.size ≤ w.heap.size + 1 by first | exact Nat.le_refl _ | omega | (have := S1.out; have := Lrow_1.out; have := Lz_1.out; omega))
    obtain ⟨wz, hwz⟩ : ∃ V, (((w.alloc (Obj.cells (rwC ro) 45)).alloc (Obj.cells #[.int .u8 0, .int .u8 0, .int .u8 0, .int .u8 0, .int .u8 0, .int .u8 0, .int .u8 0, .int .u8 0, .int .u8 0, .int .i16 0, .int .u8 0] 27)).alloc (Obj.cells (inC ⟨ro.op, ro.form, ro.frm, ro.kind, 0, 0, 0, 0, 0, 0, 1⟩) 27)).setRow (w.heap.size + 1) (inC ⟨ro.op, ro.form, ro.frm, ro.kind, 0, 0, 0, 0, 0, 0, 1⟩) = V := ⟨_, rfl⟩
    rw [hwz] at hst rz bz
    clear hwz
    go_wp2
    exact bodyPost_ret (v := .agg (inC ⟨ro.op, ro.form, ro.frm, ro.kind, 0, 0, 0, 0, 0, 0, 1⟩)) (res_inC1 Tryd.results35 rfl rz) rfl ⟨rfl, bz⟩
set_option maxRecDepth 100000 in
set_option maxHeartbeats 8000000 in
theorem t_least_o (ro : Rw) (b8 b9 : Bool) (q8 : (((ro.lay : Nat) : Int) == 8) = b8) (q9 : (((ro.lay : Nat) : Int) == 9) = b9) (hq : (b8 || b9) = false) (w : World) : Calls Tryd.prog 35 #[.agg (rwC ro)] w fun r w' => r = .returned (.agg (inC ⟨ro.op, ro.form, ro.frm, ro.kind, 0, 0, 0, 0, 0, 0, 0⟩)) ∧ Below w.heap.size w w' := by
  have hro := rwC_fold ro
  have hin := inC_new
  have ha0 := in_at0
  have ha1 := in_at1
  have ha2 := in_at2
  have ha3 := in_at3
  have ha4 := in_at4
  have ha5 := in_at5
  have ha6 := in_at6
  have ha7 := in_at7
  have ha8 := in_at8
  have ha9 := in_at9
  have ha10 := in_at10
  have hif := in_fold0 ro.op ro.form ro.frm ro.kind
  have hif2 : #[Value.int .u8 (ro.op : Nat), .int .u8 (ro.form : Nat), .int .u8 (ro.frm : Nat), .int .u8 (ro.kind : Nat), .int .u8 0, .int .u8 0, .int .u8 0, .int .u8 0, .int .u8 0, .int .i16 0, .int .u8 1] = inC ⟨ro.op, ro.form, ro.frm, ro.kind, 0, 0, 0, 0, 0, 0, 1⟩ := rfl
  have hq2 : (b8 = false ∧ b9 = false) := by revert hq; cases b8 <;> cases b9 <;> simp
  rcases hq2 with ⟨rfl, rfl⟩
  · have hO : True := trivial
    obtain ⟨Rrow_0, Rz_0, B0⟩ := opn2 w (Obj.cells (rwC ro) 45) (Obj.cells #[.int .u8 0, .int .u8 0, .int .u8 0, .int .u8 0, .int .u8 0, .int .u8 0, .int .u8 0, .int .u8 0, .int .u8 0, .int .i16 0, .int .u8 0] 27)
    go_enter Tryd.func35, Tryd.ntmps35
    obtain ⟨crow_0_0, crow_0_1, crow_0_2, crow_0_3, crow_0_4, crow_0_5, crow_0_6⟩ := rwC_cells Rrow_0
    have kr0 := crow_0_0
    have kr1 := crow_0_1
    have kr2 := crow_0_2
    have kr3 := crow_0_3
    have S1 := box B0.size
    have Lrow_1 : Box (w.heap.size < ((w.alloc (Obj.cells (rwC ro) 45)).alloc (Obj.cells #[.int .u8 0, .int .u8 0, .int .u8 0, .int .u8 0, .int .u8 0, .int .u8 0, .int .u8 0, .int .u8 0, .int .u8 0, .int .i16 0, .int .u8 0] 27)).heap.size) := box (Array.getElem?_eq_some_iff.1 Rrow_0).1
    have Lz_1 : Box (w.heap.size + 1 < ((w.alloc (Obj.cells (rwC ro) 45)).alloc (Obj.cells #[.int .u8 0, .int .u8 0, .int .u8 0, .int .u8 0, .int .u8 0, .int .u8 0, .int .u8 0, .int .u8 0, .int .u8 0, .int .i16 0, .int .u8 0] 27)).heap.size) := box (Array.getElem?_eq_some_iff.1 Rz_0).1
    have Rx_1 := heap_alloc_last ((w.alloc (Obj.cells (rwC ro) 45)).alloc (Obj.cells #[.int .u8 0, .int .u8 0, .int .u8 0, .int .u8 0, .int .u8 0, .int .u8 0, .int .u8 0, .int .u8 0, .int .u8 0, .int .i16 0, .int .u8 0] 27)) (Obj.cells (inC ⟨ro.op, ro.form, ro.frm, ro.kind, 0, 0, 0, 0, 0, 0, 0⟩) 27)
    have B1 := btr B0 (bal ((w.alloc (Obj.cells (rwC ro) 45)).alloc (Obj.cells #[.int .u8 0, .int .u8 0, .int .u8 0, .int .u8 0, .int .u8 0, .int .u8 0, .int .u8 0, .int .u8 0, .int .u8 0, .int .i16 0, .int .u8 0] 27)) (Obj.cells (inC ⟨ro.op, ro.form, ro.frm, ro.kind, 0, 0, 0, 0, 0, 0, 0⟩) 27))
    have Rrow_1 := heap_of (bal ((w.alloc (Obj.cells (rwC ro) 45)).alloc (Obj.cells #[.int .u8 0, .int .u8 0, .int .u8 0, .int .u8 0, .int .u8 0, .int .u8 0, .int .u8 0, .int .u8 0, .int .u8 0, .int .i16 0, .int .u8 0] 27)) (Obj.cells (inC ⟨ro.op, ro.form, ro.frm, ro.kind, 0, 0, 0, 0, 0, 0, 0⟩) 27)) _ _ _ Rrow_0
    have Rz_1 := heap_of (bal ((w.alloc (Obj.cells (rwC ro) 45)).alloc (Obj.cells #[.int .u8 0, .int .u8 0, .int .u8 0, .int .u8 0, .int .u8 0, .int .u8 0, .int .u8 0, .int .u8 0, .int .u8 0, .int .i16 0, .int .u8 0] 27)) (Obj.cells (inC ⟨ro.op, ro.form, ro.frm, ro.kind, 0, 0, 0, 0, 0, 0, 0⟩) 27)) _ _ _ Rz_0
    clear B0 Rrow_0 crow_0_0 crow_0_1 crow_0_2 crow_0_3 crow_0_4 crow_0_5 crow_0_6 Rz_0
    obtain ⟨crow_1_0, crow_1_1, crow_1_2, crow_1_3, crow_1_4, crow_1_5, crow_1_6⟩ := rwC_cells Rrow_1
    obtain ⟨cx_1_0, cx_1_1, cx_1_2, cx_1_3, cx_1_4, cx_1_5, cx_1_6, cx_1_7, cx_1_8, cx_1_9, cx_1_10⟩ := inC_cells Rx_1
    have hst := inC_store (x := ⟨ro.op, ro.form, ro.frm, ro.kind, 0, 0, 0, 0, 0, 0, 0⟩) Rz_1 rfl
    have rz := setRow_row (c' := inC ⟨ro.op, ro.form, ro.frm, ro.kind, 0, 0, 0, 0, 0, 0, 0⟩) Rz_1
    have bz : Below w.heap.size w ((((w.alloc (Obj.cells (rwC ro) 45)).alloc (Obj.cells #[.int .u8 0, .int .u8 0, .int .u8 0, .int .u8 0, .int .u8 0, .int .u8 0, .int .u8 0, .int .u8 0, .int .u8 0, .int .i16 0, .int .u8 0] 27)).alloc (Obj.cells (inC ⟨ro.op, ro.form, ro.frm, ro.kind, 0, 0, 0, 0, 0, 0, 0⟩) 27)).setRow (w.heap.size + 1) (inC ⟨ro.op, ro.form, ro.frm, ro.kind, 0, 0, 0, 0, 0, 0, 0⟩)) := Below.setRow B1 (show w.heap.size ≤ w.heap.size + 1 by first | exact Nat.le_refl _ | omega | (have := S1.out; have := Lrow_1.out; have := Lz_1.out; omega))
    obtain ⟨wz, hwz⟩ : ∃ V, (((w.alloc (Obj.cells (rwC ro) 45)).alloc (Obj.cells #[.int .u8 0, .int .u8 0, .int .u8 0, .int .u8 0, .int .u8 0, .int .u8 0, .int .u8 0, .int .u8 0, .int .u8 0, .int .i16 0, .int .u8 0] 27)).alloc (Obj.cells (inC ⟨ro.op, ro.form, ro.frm, ro.kind, 0, 0, 0, 0, 0, 0, 0⟩) 27)).setRow (w.heap.size + 1) (inC ⟨ro.op, ro.form, ro.frm, ro.kind, 0, 0, 0, 0, 0, 0, 0⟩) = V := ⟨_, rfl⟩
    rw [hwz] at hst rz bz
    clear hwz
    go_wp2
    exact bodyPost_ret (v := .agg (inC ⟨ro.op, ro.form, ro.frm, ro.kind, 0, 0, 0, 0, 0, 0, 0⟩)) (res_inC1 Tryd.results35 rfl rz) rfl ⟨rfl, bz⟩
end Go.Proofs.YtaoccmopfflkmaaDoor
namespace Go.Proofs.YtaoccmopfflkmaaDoor
set_option maxRecDepth 100000
set_option maxHeartbeats 40000000
set_option maxRecDepth 100000
open Go.RowKit Go.Shelf WMath
set_option linter.unusedVariables false
set_option linter.unusedSimpArgs false
attribute [local go_sem] Oper.semAt_some

theorem wantI_all : ((List.range 256).all fun o => decide (wantI o 136 = (rwsO o).map eoI)) = true := by decide +kernel
theorem wantI_is {o : Nat} (ho : o < 256) : (rwsO o).map eoI = wantI o 136 := (of_decide_eq_true (List.all_eq_true.1 wantI_all o (List.mem_range.2 ho))).symm
theorem round_any26 {F : Fence} (hd : F.depth = none) {n m l0 : Nat} {P : Program} {l f : Nat} {tmps : Array Value} {assign body : Code} {w : World} {R : Ending → World → Prop} (h : RoundIn F n P l f tmps assign body w R) : RoundIn (F.inRound l0) m P l f tmps assign body w R :=
  ⟨h.1, fun c cs _ => h.2 c cs (fun d e => by rw [hd] at e; cases e)⟩
theorem k_least (ro : Rw) : Box (∀ w, Calls Tryd.prog 35 #[.agg (rwC ro)] w fun r w' => r = .returned (.agg (inC (eoI ro))) ∧ Below w.heap.size w w') := box (fun w => by
  have q8 := beqN24 ro.lay 8
  have q9 := beqN24 ro.lay 9
  by_cases h : ro.lay = 8 ∨ ro.lay = 9
  · have e : eoI ro = ⟨ro.op, ro.form, ro.frm, ro.kind, 0, 0, 0, 0, 0, 0, 1⟩ := by unfold eoI; rw [if_pos h]
    rw [e]
    exact t_least_c ro _ _ q8 q9 (by rcases h with h | h <;> simp [h]) w
  · have e : eoI ro = ⟨ro.op, ro.form, ro.frm, ro.kind, 0, 0, 0, 0, 0, 0, 0⟩ := by unfold eoI; rw [if_neg h]
    rw [e]
    exact t_least_o ro _ _ q8 q9 (by simp; omega) w)
theorem k_each1 (o : Nat) (ho : o < 256) : Box (∀ W, T24 W → Calls Tryd.prog 34 #[.int .u8 (o : Nat)] W fun r w0 => ∃ lb B, r = .returned (.func (.func 48) #[] lb) ∧ Below W.heap.size W w0 ∧ W.heap.size ≤ B ∧ w0.heap[B]? = some (.cells #[.int .u8 (o : Nat)] 22) ∧ ∀ n', 1 ≤ n' → SeqTopM n' Tryd.prog 48 lb (fun x : Rw => #[Value.agg (rwC x)]) (EaA o B) (fun ys => ys = rwsO o) (fun pre => pre <+: rwsO o) 136) := box (fun w hT => by
  have HB := box (bal w (.cells #[.int .u8 (o : Nat)] 22))
  have HR := box (heap_alloc_last w (.cells #[.int .u8 (o : Nat)] 22))
  have H := box (fun n hn => each1_top o ho w.heap.size n hn)
  clear hT
  go_enter Tryd.func34, Tryd.ntmps34
  go_wp2
  go_ret
  exact ⟨_, _, rfl, HB.out, Nat.le_refl _, HR.out, H.out⟩)
theorem cut26k {G C : Prop} (h : G → C) (k : G) : C := h k
set_option maxRecDepth 100000 in
set_option maxHeartbeats 8000000 in
theorem eeach_top (o : Nat) (ho : o < 256) (B0 : Nat) (w0 : World) (hT : T24 w0) (hr : w0.heap[B0]? = some (.cells #[.int .u8 (o : Nat)] 22)) (n : Nat) (hn : 5 ≤ n) :
    SeqTop n Tryd.prog 33 #[.pointer (some ⟨B0, 0, none⟩)] (fun x : In => #[Value.agg (inC x)]) w0.heap.size (fun ys => ys = wantI o 136) (fun pre => pre <+: wantI o 136) 136 w0 := fun l J Jx W hW hJ hJx hY h0 => by
  have FF := box hT
  have KE := k_each1 o ho
  have HWA := box (wantI_is ho)
  have hB : B0 < w0.heap.size := (Array.getElem?_eq_some_iff.1 hr).1
  clear hT
  have hn1 : 1 ≤ n := by omega
  have hn2 : 1 ≤ n - 1 := by omega
  have hn3 : 1 ≤ n - 1 - 1 := by omega
  have hn4 : 1 ≤ n - 1 - 1 - 1 := by omega
  have b1 : Below w0.heap.size w0 (W.alloc (.cells #[.func (.yield l) #[] #[]] 32)) := hW.alloc hW.size _
  have r1 := heap_alloc_last W (.cells #[.func (.yield l) #[] #[]] 32)
  have j1 : J [] (W.alloc (.cells #[.func (.yield l) #[] #[]] 32)) := hJ.alloc _ h0
  have co := pcell24 (heap_of b1 _ _ _ hr)
  refine callsIn_of_wp_marks Tryd.func33 rfl trivial ?_ rfl
  simp only [Tryd.ntmps33, List.size_toArray, List.length_cons, List.length_nil, Nat.reduceAdd, Nat.reduceSub, Array.replicate_succ, Array.replicate_zero, List.push_toArray, List.append_toArray, List.nil_append, List.cons_append]
  have hfw : ∀ f, Fence.wide.fn f := fun _ => trivial
  gi_wp2_with fail
  obtain ⟨W1, hW1⟩ : ∃ V, W.alloc (.cells #[.func (.yield l) #[] #[]] 32) = V := ⟨_, rfl⟩
  have s1 : W1.heap.size = W.heap.size + 1 := by rw [← hW1, size_al]
  rw [hW1] at b1 r1 j1 co ⊢
  clear hW1 h0 hW
  refine (callsIn_wide.2 (KE.out W1 (t24B FF.out b1))).mono ?_
  rintro r W2 ⟨lb, B, rfl, b2, hB1, hB2, SEQ⟩
  have SEQ := box SEQ
  have s2 := b2.size
  have j2 : J [] W2 := own_calls24 hJ j1 b2
  have c2 : Below w0.heap.size w0 W2 := b1.trans (b2.mono b1.size)
  have r2 := heap_of b2 _ _ _ r1
  have hBs := (Array.getElem?_eq_some_iff.1 hB2).1
  clear b1 j1 r1 co b2 KE hr
  gi_wp2_with fail
  refine wp_range_topM hn1 (gf := 48) (lb := lb) rfl hE25 (SEQ.out (n - 1) (by omega)) (fun _ => rfl)
    (fun M pre V => J (pre.map eoI) V ∧ Below w0.heap.size w0 V ∧ V.heap[W.heap.size]? = some (.cells #[.func (.yield l) #[] #[]] 32) ∧ V.heap[B]? = some (.cells #[.int .u8 (o : Nat)] 22))
    (fun M c pre V => c = .ret ∧ Jx (pre.map eoI) V)
    (fun M s X Y row hs hg hr => ⟨hJ _ X Y row hs.1 hg (fun r e => ⟨by have := (hr r e).1; omega, (hr r e).2⟩), hs.2.1.grown hg hs.2.1.size (fun k e => by have := (hr k e).1; have := c2.size; omega), row_grq hs.2.2.1 hg (fun r e => (hr r e).1) (by omega), row_grq hs.2.2.2 hg (fun r e => (hr r e).1) (by omega)⟩)
    (fun M c s X Y row hs hg hr => ⟨hs.1, hJx _ X Y row hs.2 hg (fun r e => ⟨by have := (hr r e).1; omega, (hr r e).2⟩)⟩)
    (fun M pre V hv => ⟨t24B FF.out hv.2.1, hv.2.2.2⟩) (fun M hM => ⟨j2, c2, r2, hB2⟩) ?a1 (fun x => Obj.cells (rwC x) 45) ?assign ?body ?done ?stop
  case assign =>
    intro l x W K hK
    have hrn := rwC_new
    obtain ⟨m, hm⟩ : ∃ m, W.heap.size = m := ⟨_, rfl⟩
    have hK := hK (W.alloc (Obj.cells (rwC x) 45)) (World.grownBy_alloc W _ none) (by simp only [size_al]) (last7 W _)
    rw [hm] at hK
    gi_wp2
    exact hK
  case body =>
    rintro M l1 pre xx mm V hM0 hM1 ⟨hj, hb, ht, hBo⟩ hl4 hsp hm0 hm1 hmx
    have KL := k_least xx
    obtain ⟨x0, x1, x2, x3, x4, x5, x6⟩ := rwC_cells hmx
    have hfo := rwC_fold xx
    have hV : V.heap.size = mm + 1 := hm1.symm
    have ct := pcell24 ht
    have HL : Box ((pre.map eoI).length < 136) := box (by rw [List.length_map]; exact hl4)
    have FAC : Box (∀ V2, Below V.heap.size V V2 → V2.cell? ⟨W.heap.size, 0, none⟩ = some (.func (.yield l) #[] #[])) := box (fun V2 b => pcell24 (heap_of b _ _ _ ht))
    have HYK : Box (∀ V2, Below V.heap.size V V2 → YieldAt Fence.wide (n - 1) Tryd.prog l #[Value.agg (inC (eoI xx))] V2 fun e V' => ∃ b : Bool, e = .returned (.bool b) ∧ TopM W2.heap.size M V V' ∧ ((b = true ∧ J ((pre ++ [xx]).map eoI) V' ∧ Below w0.heap.size w0 V' ∧ V'.heap[W.heap.size]? = some (.cells #[.func (.yield l) #[] #[]] 32) ∧ V'.heap[B]? = some (.cells #[.int .u8 (o : Nat)] 22)) ∨ (b = false ∧ Jx ((pre ++ [xx]).map eoI) V'))) := box (fun V2 b5 => by
      have hVM : M ≤ V.heap.size := by omega
      have e9 : (pre ++ [xx]).map eoI = pre.map eoI ++ [eoI xx] := by simp
      obtain ⟨fn, tmps, assign, body, hy, hR⟩ := hY (pre.map eoI) (eoI xx) V2 (own_calls24 hJ hj b5) HL.out
      refine ⟨fn, tmps, assign, body, hy, hR.mono ?_⟩
      have t5 : TopM W2.heap.size M V V2 := TopM.below b5 hVM
      have h5 : M ≤ V2.heap.size := Nat.le_trans hVM b5.size
      rintro e V' ⟨tk, (⟨rfl, hj3, b3⟩ | ⟨rfl, hx3⟩)⟩
      · refine ⟨true, rfl, t5.trans (TopM.ofK (tk.mono (by omega)) h5), .inl ⟨rfl, by rw [e9]; exact hj3, (hb.trans (b5.mono hb.size)).trans b3, tk.row (Nat.le_refl _) (heap_of b5 _ _ _ ht), tk.row (by omega) (heap_of b5 _ _ _ hBo)⟩⟩
      · exact ⟨false, rfl, t5.trans (TopM.ofK (tk.mono (by omega)) h5), .inr ⟨rfl, by rw [e9]; exact hx3⟩⟩)
    clear hj hb ht hBo hmx hY hJ HL
    gi_wp2_with fail
    apply cut26k
    · intro key
      gi_region_with (first | (gi_at_call 35; refine (CallsIn.inRound l1 (callsIn_wide.2 (KL.out _))).mono ?_; rintro r w5 ⟨rfl, b5⟩; have b6 : Below V.heap.size V w5 := ((Below.refl V.heap.size V).drew).trans b5; have d0 := FAC.out w5 b6; obtain ⟨fn, tmps, assign, body, hyl, hR⟩ := HYK.out w5 b6) | (refine (round_any26 rfl hR).mono ?_; rintro e V3 ⟨bb, rfl, hf⟩) | fail)
      all_goals
        clear hyl hR d0 b6 b5
        revert hf
        revert V3
        revert bb
        exact key
    · rintro bb V3 ⟨tm, (⟨rfl, hf⟩ | ⟨rfl, hf⟩)⟩
      · gi_wp2
        exact ⟨tm, hf⟩
      · gi_wp2
        exact ⟨tm, rfl, hf⟩
  case done =>
    rintro M D ys V hM hD rfl ⟨hj, hb, ht, hBo⟩ hK
    gi_wp2
    refine ⟨by simp, .inl ⟨_, _, rfl, run_takeDeferred hK, ?_⟩⟩
    exact ⟨_, results_none rfl _ _ _, ⟨_, rfl⟩, .inl ⟨_, HWA.out, hJ.putObj _ hj (by omega) hK rfl⟩⟩
  case stop =>
    rintro M D c pre V hM hD hp ⟨rfl, hx⟩ hK
    gi_wp2
    refine ⟨by simp, .inl ⟨_, _, rfl, run_takeDeferred hK, ?_⟩⟩
    exact ⟨_, results_none rfl _ _ _, ⟨_, rfl⟩, .inr ⟨_, by rw [← HWA.out]; exact hp.map _, hJx.putObj _ hx (by omega) hK rfl⟩⟩
theorem erF_some {o f g k : Int} {p : Nm} (h : ofR24 o f g k = some p) : erF o f g k = 0 := by
  unfold ofR24 at h
  unfold erF
  split
  · rw [if_pos (by assumption)] at h; cases h
  · rw [if_neg (by assumption)] at h; rw [h]; rfl
theorem erF_none {o f g k : Int} (h : ofR24 o f g k = none) : (erF o f g k != 0) = true := by
  unfold ofR24 at h
  unfold erF
  split
  · rfl
  · rw [if_neg (by assumption)] at h; rw [h]; rfl
theorem kHeld (x : In) (hi : InOk x) (l : Nat) (h1 : 1 ≤ l) (h9 : l ≤ 9) : Box (∀ w, Calls Tryd.prog 23 #[.agg (inC x), .int .u8 (l : Nat)] w fun r w' => r = .returned (.agg (inC (hkI l x))) ∧ Below w.heap.size w w') := box (fun w => by
  rcases (by omega : l = 1 ∨ l = 2 ∨ l = 3 ∨ l = 4 ∨ l = 5 ∨ l = 6 ∨ l = 7 ∨ l = 8 ∨ l = 9) with rfl | rfl | rfl | rfl | rfl | rfl | rfl | rfl | rfl
  · exact t_held x 1 64 _ rfl rfl rfl rfl (fun w => by rfl) (box (fun w => t_keep1 x hi w)) (enters_of Tryd.func64 (by kernel_rfl) rfl) w
  · exact t_held x 2 67 _ rfl rfl rfl rfl (fun w => by rfl) (box (fun w => t_keep2 x hi w)) (enters_of Tryd.func67 (by kernel_rfl) rfl) w
  · exact t_held x 3 68 _ rfl rfl rfl rfl (fun w => by rfl) (box (fun w => t_keep3 x hi w)) (enters_of Tryd.func68 (by kernel_rfl) rfl) w
  · exact t_held x 4 70 _ rfl rfl rfl rfl (fun w => by rfl) (box (fun w => t_keep4 x hi w)) (enters_of Tryd.func70 (by kernel_rfl) rfl) w
  · exact t_held x 5 71 _ rfl rfl rfl rfl (fun w => by rfl) (box (fun w => t_keep5 x hi w)) (enters_of Tryd.func71 (by kernel_rfl) rfl) w
  · exact t_held x 6 72 _ rfl rfl rfl rfl (fun w => by rfl) (box (fun w => t_keep6 x hi w)) (enters_of Tryd.func72 (by kernel_rfl) rfl) w
  · exact t_held x 7 73 _ rfl rfl rfl rfl (fun w => by rfl) (box (fun w => t_keep7 x hi w)) (enters_of Tryd.func73 (by kernel_rfl) rfl) w
  · exact t_held x 8 74 _ rfl rfl rfl rfl (fun w => by rfl) (box (fun w => t_keep8 x hi w)) (enters_of Tryd.func74 (by kernel_rfl) rfl) w
  · exact t_held x 9 74 _ rfl rfl rfl rfl (fun w => by rfl) (box (fun w => t_keep8 x hi w)) (enters_of Tryd.func74 (by kernel_rfl) rfl) w)
theorem kEnc (x : In) (hi : InOk x) : Box (∀ w, T24 w → Calls Tryd.prog 9 #[.agg (inC x)] w fun r w' => r = .returned (.tuple #[.int .u32 ((enR x).1 : Nat), .int .i64 (enR x).2]) ∧ Below w.heap.size w w') := box (fun w hT => by
  have KO := k_of x.op x.form x.frm x.kind hi.1 hE25
  cases ho : ofR24 x.op x.form x.frm x.kind with
  | none =>
    have hm : mayI x = false := by unfold mayI; rw [ho]
    rw [enR_no hm]
    exact t_enc_e x _ _ (erF_none ho) KO w hT
  | some p =>
    rw [erF_some ho, ho] at KO
    obtain ⟨hp, e1, e2, e3, e4⟩ := of_some ho
    obtain ⟨l1, l9, _⟩ := lay24 hp
    have KH := kHeld x hi p.1.lay l1 l9
    by_cases hh : hkI p.1.lay x = x
    · obtain ⟨hX, hlt, hfit⟩ := held_enc hi.2.2.2.2.2.2.2.2.2.2.2 ho hh
      obtain ⟨k1, k2, k3, k4, k5, k6, k7⟩ := hk_le hh
      have KB := box (fun w => t_bits x p.1.lay k1 k2 k3 k4 k5 k6 k7 hi.2.2.2.2.2.2.2.2.2.2.2 w)
      have hF := fit24 p hp
      have KT := k_fits p.1 hF.1 hF.2 _ hlt
      have hq : inCE (hkI p.1.lay x) x = true := by rw [inCE_is, hh]; exact decide_eq_true rfl
      have hb : btX p.1.lay x < 4294967296 := by
        have : btX p.1.lay x = p.1.mtch ^^^ encW p.1 x := by rw [← hX, ← Nat.xor_assoc, Nat.xor_self, Nat.zero_xor]
        rw [this]
        exact Nat.xor_lt_two_pow (n := 32) hF.2 hlt
      have hx := (xor32u _ _ hF.2 hb).1
      rw [hX] at hx
      rw [hfit] at KT
      cases hm : mayI x with
      | false =>
        rw [hm] at KT
        rw [enR_no hm]
        exact t_enc_f x p.1 _ hq _ _ hx KO KH KB KT w hT
      | true =>
        rw [hm] at KT
        obtain ⟨p2, hp2, _, e, _⟩ := enR_yes hm
        rw [ho] at hp2
        obtain rfl := Option.some.inj hp2
        rw [e]
        exact t_enc_y x p.1 _ hq _ _ hx KO KH KB KT w hT
    · have hm : mayI x = false := by
        cases hm : mayI x with
        | false => rfl
        | true => exact absurd (may_held ho hm) hh
      rw [enR_no hm]
      exact t_enc_h x p.1 _ (by rw [inCE_is]; exact decide_eq_false hh) KO KH w hT)
theorem t_may (x : In) (v : Nat) (e : Int) (b : Bool) (hb : (e == 0) = b) (KE : Box (∀ w, T24 w → Calls Tryd.prog 9 #[.agg (inC x)] w fun r w' => r = .returned (.tuple #[.int .u32 (v : Nat), .int .i64 e]) ∧ Below w.heap.size w w')) (w : World) (hT : T24 w) : Calls Tryd.prog 11 #[.agg (inC x)] w fun r w' => r = .returned (.bool b) ∧ Below w.heap.size w w' := by
  have FF := box hT
  clear hT
  have hif := inC_fold x
  obtain ⟨Rx_0, B0⟩ := opn1 w (Obj.cells (inC x) 27)
  go_enter Tryd.func11, Tryd.ntmps11
  obtain ⟨cx_0_0, cx_0_1, cx_0_2, cx_0_3, cx_0_4, cx_0_5, cx_0_6, cx_0_7, cx_0_8, cx_0_9, cx_0_10⟩ := inC_cells Rx_0
  go_wp2_with fail
  refine (KE.out _ (t24B FF.out B0)).mono ?_
  rintro r w1 ⟨rfl, b1⟩
  have B1 : Below w.heap.size w w1 := btr B0 b1
  have Rx_1 := heap_of b1 _ _ _ Rx_0
  clear b1 B0 Rx_0 cx_0_0 cx_0_1 cx_0_2 cx_0_3 cx_0_4 cx_0_5 cx_0_6 cx_0_7 cx_0_8 cx_0_9 cx_0_10
  obtain ⟨cx_1_0, cx_1_1, cx_1_2, cx_1_3, cx_1_4, cx_1_5, cx_1_6, cx_1_7, cx_1_8, cx_1_9, cx_1_10⟩ := inC_cells Rx_1
  go_wp2
  go_ret
  exact ⟨rfl, B1⟩
theorem kMay (x : In) (hi : InOk x) : Box (∀ w, T24 w → Calls Tryd.prog 11 #[.agg (inC x)] w fun r w' => r = .returned (.bool (mayI x)) ∧ Below w.heap.size w w') := box (fun w hT => t_may x _ _ _ (by
  cases h : mayI x with
  | false => rw [enR_no h]; rfl
  | true => have := enR_may.2 h; rw [this]; rfl) (kEnc x hi) w hT)
theorem kEEach (o : Nat) (ho : o < 256) : Box (∀ W, T24 W → Calls Tryd.prog 19 #[.int .u8 (o : Nat)] W fun r w0 => ∃ lb, r = .returned (.func (.func 33) #[] lb) ∧ Below W.heap.size W w0 ∧ ∀ n', 5 ≤ n' → SeqTop n' Tryd.prog 33 lb (fun x : In => #[Value.agg (inC x)]) w0.heap.size (fun ys => ys = wantI o 136) (fun pre => pre <+: wantI o 136) 136 w0) := box (fun w hT => by
  have b0 := bal w (.cells #[.int .u8 (o : Nat)] 22)
  have r0 := heap_alloc_last w (.cells #[.int .u8 (o : Nat)] 22)
  have HB := box b0
  have H := box (fun n hn => eeach_top o ho w.heap.size _ (t24B hT b0) r0 n hn)
  clear hT b0 r0
  go_enter Tryd.func19, Tryd.ntmps19
  go_wp2
  go_ret
  exact ⟨_, rfl, HB.out, H.out⟩)
theorem hE26 : ∀ args w, (callFunc 33 args).run Tryd.prog w = .ok (.enter 33 args) w := enters_of Tryd.func33 (by kernel_rfl) rfl
theorem live26 : Box (∀ w, T24 w → Calls Tryd.prog 13 #[] w fun r w' => r = .returned (.bool true) ∧ Below w.heap.size w w') := box (fun w hT => lives26 fb25 kEnc kMay w hT)
theorem ops_fin26 (o : Nat) (ho : o < 256) (lv : Int) (w : World) (hT : T24 w) : Calls Tryd.prog 6 #[.int .u8 (o : Nat), .int .i64 lv] w fun r w' => r = .returned (.bool true) ∧ Below w.heap.size w w' := eo_law fb25 o lv _ live26 (box rAll24) (kEEach o ho) hE26 w hT
end Go.Proofs.YtaoccmopfflkmaaDoor
