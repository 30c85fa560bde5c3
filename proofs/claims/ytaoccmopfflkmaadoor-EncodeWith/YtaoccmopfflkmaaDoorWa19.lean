/-
  What the functions that the statement reaches return: part 19 (ZI, ZJ, ZL, SL25).
-/
import Derived.Test.YtaoccmopfflkmaaDoorRows
import Derived.OpenShut
import Derived.LaidMore
import Derived.Lib.LaidTab
import Derived.Stop.Joined
import Derived.Stop.LaidErr
import Derived.Test.YtaoccmopfflkmaaDoorWa18
namespace Go.Proofs.YtaoccmopfflkmaaDoor
set_option maxRecDepth 100000
set_option maxHeartbeats 40000000
set_option maxRecDepth 100000
open Go.RowKit WMath
set_option linter.unusedSimpArgs false
set_option linter.unusedVariables false
theorem imX_s (i : Int) (h1 : -2048 ≤ i) (h2 : i ≤ 2047) : bits .xor .u32 (i % 4294967296 / 32 * 33554432 % 4294967296) (bits .and .u32 (i % 4294967296) 31 * 128 % 4294967296) = ((imX 2 i : Nat) : Int) := by
  obtain ⟨N, hN⟩ : ∃ N : Nat, i % 4294967296 = (N : Int) := ⟨(i % 4294967296).toNat, by omega⟩
  have hN2 : N < 4294967296 := by omega
  have hi := imN_lt h1 h2
  rw [hN, and_low5 N hN2]
  have e1 : (N : Int) / 32 * 33554432 % 4294967296 = ((imN i / 32 * 33554432 : Nat) : Int) := by unfold imN; split <;> omega
  have e2 : ((N % 32 : Nat) : Int) * 128 % 4294967296 = ((imN i % 32 * 128 : Nat) : Int) := by unfold imN; split <;> omega
  rw [e1, e2]
  unfold imX
  rw [if_pos rfl]
  exact (xor32u _ _ (by omega) (by omega)).1
theorem imX_o (l : Nat) (hl : l ≠ 2) (i : Int) (h1 : -2048 ≤ i) (h2 : i ≤ 2047) : i % 4294967296 * 1048576 % 4294967296 = ((imX l i : Nat) : Int) := by
  unfold imX
  rw [if_neg hl]
  unfold imN
  split <;> omega
theorem imX_lt (l : Nat) (i : Int) (h1 : -2048 ≤ i) (h2 : i ≤ 2047) : imX l i < 4294967296 := by
  have hi := imN_lt h1 h2
  unfold imX
  split
  · exact Nat.xor_lt_two_pow (n := 32) (show _ < 4294967296 by omega) (show _ < 4294967296 by omega)
  · omega
theorem t_imm (l : Nat) (i : Int) (h1 : -2048 ≤ i) (h2 : i ≤ 2047) (w : World) : Calls Tryd.prog 38 #[.int .i16 i, .int .u8 (l : Nat)] w fun r w' => r = .returned (.int .u32 (imX l i : Nat)) ∧ Below w.heap.size w w' := by
  by_cases hl : l = 2
  · subst hl
    have h := imX_s i h1 h2
    clear h1 h2
    have B0 : Below w.heap.size w w := (Below.refl _ _)
    go_enter Tryd.func38, Tryd.ntmps38
    go_wp2
    go_ret
    exact ⟨rfl, B0⟩
  · have h := imX_o l hl i h1 h2
    have hq : (((l : Nat) : Int) == 2) = false := by simp; omega
    clear h1 h2 hl
    have B0 : Below w.heap.size w w := (Below.refl _ _)
    go_enter Tryd.func38, Tryd.ntmps38
    go_wp2
    rw [h]
    go_ret
    exact ⟨rfl, B0⟩
theorem xu (a b : Nat) (c : Int) (ha : a < 4294967296) (hb : b < 4294967296) (hc : c = (b : Int)) : bits .xor .u32 ((a : Nat) : Int) c = ((a ^^^ b : Nat) : Int) ∧ a ^^^ b < 4294967296 := by
  subst hc
  exact ⟨(xor32u _ _ ha hb).1, Nat.xor_lt_two_pow (n := 32) ha hb⟩
set_option maxRecDepth 100000 in
set_option maxHeartbeats 8000000 in
theorem t_bits (x : In) (l : Nat) (k1 : x.rd < 32) (k2 : x.rs1 < 32) (k3 : x.rs2 < 32) (k4 : x.rs3 < 32) (k5 : x.rm < 8) (k6 : -2048 ≤ x.imm) (k7 : x.imm ≤ 2047) (k8 : x.csr < 256) (w : World) : Calls Tryd.prog 24 #[.agg (inC x), .int .u8 (l : Nat)] w fun r w' => r = .returned (.int .u32 (btX l x : Nat)) ∧ Below w.heap.size w w' := by
  have KI := box (fun w => t_imm l x.imm k6 k7 w)
  have a0 := imX_lt l x.imm k6 k7
  have hb : btX l x = ((((((imX l x.imm) ^^^ (x.rd * 128)) ^^^ (x.rm * 4096)) ^^^ (x.rs1 * 32768)) ^^^ (x.rs2 * 1048576)) ^^^ (x.rs3 * 134217728)) ^^^ (x.csr * 1048576) := rfl
  rw [hb]
  obtain ⟨V, hV⟩ : ∃ V, imX l x.imm = V := ⟨_, rfl⟩
  rw [hV] at KI a0 ⊢
  clear hb hV
  have a1 := xu V (x.rd * 128) ((x.rd : Int) % 4294967296 * 128 % 4294967296) a0 (by omega) (by omega)
  have a2 := xu _ (x.rm * 4096) ((x.rm : Int) % 4294967296 * 4096 % 4294967296) a1.2 (by omega) (by omega)
  have a3 := xu _ (x.rs1 * 32768) ((x.rs1 : Int) % 4294967296 * 32768 % 4294967296) a2.2 (by omega) (by omega)
  have a4 := xu _ (x.rs2 * 1048576) ((x.rs2 : Int) % 4294967296 * 1048576 % 4294967296) a3.2 (by omega) (by omega)
  have a5 := xu _ (x.rs3 * 134217728) ((x.rs3 : Int) % 4294967296 * 134217728 % 4294967296) a4.2 (by omega) (by omega)
  have a6 := xu _ (x.csr * 1048576) ((x.csr : Int) % 4294967296 * 1048576 % 4294967296) a5.2 (by omega) (by omega)
  obtain ⟨V1, hV1⟩ : ∃ V1, V ^^^ (x.rd * 128) = V1 := ⟨_, rfl⟩
  rw [hV1] at a1 a2 a3 a4 a5 a6 ⊢
  obtain ⟨V2, hV2⟩ : ∃ V2, V1 ^^^ (x.rm * 4096) = V2 := ⟨_, rfl⟩
  rw [hV2] at a2 a3 a4 a5 a6 ⊢
  obtain ⟨V3, hV3⟩ : ∃ V3, V2 ^^^ (x.rs1 * 32768) = V3 := ⟨_, rfl⟩
  rw [hV3] at a3 a4 a5 a6 ⊢
  obtain ⟨V4, hV4⟩ : ∃ V4, V3 ^^^ (x.rs2 * 1048576) = V4 := ⟨_, rfl⟩
  rw [hV4] at a4 a5 a6 ⊢
  obtain ⟨V5, hV5⟩ : ∃ V5, V4 ^^^ (x.rs3 * 134217728) = V5 := ⟨_, rfl⟩
  rw [hV5] at a5 a6 ⊢
  obtain ⟨V6, hV6⟩ : ∃ V6, V5 ^^^ (x.csr * 1048576) = V6 := ⟨_, rfl⟩
  rw [hV6] at a6 ⊢
  have b1 := a1.1
  have b2 := a2.1
  have b3 := a3.1
  have b4 := a4.1
  have b5 := a5.1
  have b6 := a6.1
  clear a0 a1 a2 a3 a4 a5 a6 hV1 hV2 hV3 hV4 hV5 hV6 k1 k2 k3 k4 k5 k6 k7 k8
  obtain ⟨Rx_0, B0⟩ := opn1 w (Obj.cells (inC x) 27)
  go_enter Tryd.func24, Tryd.ntmps24
  obtain ⟨cx_0_0, cx_0_1, cx_0_2, cx_0_3, cx_0_4, cx_0_5, cx_0_6, cx_0_7, cx_0_8, cx_0_9, cx_0_10⟩ := inC_cells Rx_0
  go_wp2_with fail
  refine (KI.out _).mono ?_
  rintro r w1 ⟨rfl, b1⟩
  have B1 : Below w.heap.size w w1 := btr B0 b1
  have Rx_1 := heap_of b1 _ _ _ Rx_0
  clear b1 B0 Rx_0 cx_0_0 cx_0_1 cx_0_2 cx_0_3 cx_0_4 cx_0_5 cx_0_6 cx_0_7 cx_0_8 cx_0_9 cx_0_10
  obtain ⟨cx_1_0, cx_1_1, cx_1_2, cx_1_3, cx_1_4, cx_1_5, cx_1_6, cx_1_7, cx_1_8, cx_1_9, cx_1_10⟩ := inC_cells Rx_1
  go_wp2
  go_ret
  exact ⟨rfl, B1⟩
set_option maxRecDepth 100000 in
set_option maxHeartbeats 8000000 in
theorem t_enc_e (x : In) (ro : Rw) (er : Int) (he : (er != 0) = true) (KO : Box (∀ w, T24 w → Calls Tryd.prog 22 #[.int .u8 (x.op : Nat), .int .u8 (x.form : Nat), .int .u8 (x.frm : Nat), .int .u8 (x.kind : Nat)] w fun r w' => r = .returned (.tuple #[.agg (rwC ro), .int .i64 er]) ∧ Below w.heap.size w w'))  (w : World) (hT : T24 w) : Calls Tryd.prog 9 #[.agg (inC x)] w fun r w' => r = .returned (.tuple #[.int .u32 0, .int .i64 260]) ∧ Below w.heap.size w w' := by
  have FF := box hT
  clear hT
  have hro := rwC_fold ro
  have hrn := rwC_new
  have hif := inC_fold x
  have heqn := eqin
  obtain ⟨Rx_0, B0⟩ := opn1 w (Obj.cells (inC x) 27)
  go_enter Tryd.func9, Tryd.ntmps9
  obtain ⟨cx_0_0, cx_0_1, cx_0_2, cx_0_3, cx_0_4, cx_0_5, cx_0_6, cx_0_7, cx_0_8, cx_0_9, cx_0_10⟩ := inC_cells Rx_0
  go_wp2_with fail
  refine (KO.out _ (t24B FF.out B0)).mono ?_
  rintro r w1 ⟨rfl, b1⟩
  have B1 : Below w.heap.size w w1 := btr B0 b1
  have Rx_1 := heap_of b1 _ _ _ Rx_0
  clear b1 B0 Rx_0 cx_0_0 cx_0_1 cx_0_2 cx_0_3 cx_0_4 cx_0_5 cx_0_6 cx_0_7 cx_0_8 cx_0_9 cx_0_10
  obtain ⟨cx_1_0, cx_1_1, cx_1_2, cx_1_3, cx_1_4, cx_1_5, cx_1_6, cx_1_7, cx_1_8, cx_1_9, cx_1_10⟩ := inC_cells Rx_1
  have S2 := box B1.size
  have Lx_2 : Box (w.heap.size < w1.heap.size) := box (Array.getElem?_eq_some_iff.1 Rx_1).1
  have Rrow_2 := heap_alloc_last w1 (Obj.cells (rwC ro) 45)
  have B2 := btr B1 (bal w1 (Obj.cells (rwC ro) 45))
  have Rx_2 := heap_of (bal w1 (Obj.cells (rwC ro) 45)) _ _ _ Rx_1
  clear B1 Rx_1 cx_1_0 cx_1_1 cx_1_2 cx_1_3 cx_1_4 cx_1_5 cx_1_6 cx_1_7 cx_1_8 cx_1_9 cx_1_10
  obtain ⟨cx_2_0, cx_2_1, cx_2_2, cx_2_3, cx_2_4, cx_2_5, cx_2_6, cx_2_7, cx_2_8, cx_2_9, cx_2_10⟩ := inC_cells Rx_2
  obtain ⟨crow_2_0, crow_2_1, crow_2_2, crow_2_3, crow_2_4, crow_2_5, crow_2_6⟩ := rwC_cells Rrow_2
  go_wp2_with fail
  obtain ⟨F, hF1, hF2⟩ := below_fun (w1.alloc (Obj.cells (rwC ro) 45))
  have fx_0 := fun u => (inC_cells (heap_of (hF1 u) _ _ _ Rx_2)).1
  have fx_1 := fun u => (inC_cells (heap_of (hF1 u) _ _ _ Rx_2)).2.1
  have fx_2 := fun u => (inC_cells (heap_of (hF1 u) _ _ _ Rx_2)).2.2.1
  have fx_3 := fun u => (inC_cells (heap_of (hF1 u) _ _ _ Rx_2)).2.2.2.1
  have fx_4 := fun u => (inC_cells (heap_of (hF1 u) _ _ _ Rx_2)).2.2.2.2.1
  have fx_5 := fun u => (inC_cells (heap_of (hF1 u) _ _ _ Rx_2)).2.2.2.2.2.1
  have fx_6 := fun u => (inC_cells (heap_of (hF1 u) _ _ _ Rx_2)).2.2.2.2.2.2.1
  have fx_7 := fun u => (inC_cells (heap_of (hF1 u) _ _ _ Rx_2)).2.2.2.2.2.2.2.1
  have fx_8 := fun u => (inC_cells (heap_of (hF1 u) _ _ _ Rx_2)).2.2.2.2.2.2.2.2.1
  have fx_9 := fun u => (inC_cells (heap_of (hF1 u) _ _ _ Rx_2)).2.2.2.2.2.2.2.2.2.1
  have fx_10 := fun u => (inC_cells (heap_of (hF1 u) _ _ _ Rx_2)).2.2.2.2.2.2.2.2.2.2
  have frow_0 := fun u => (rwC_cells (heap_of (hF1 u) _ _ _ Rrow_2)).1
  have frow_1 := fun u => (rwC_cells (heap_of (hF1 u) _ _ _ Rrow_2)).2.1
  have frow_2 := fun u => (rwC_cells (heap_of (hF1 u) _ _ _ Rrow_2)).2.2.1
  have frow_3 := fun u => (rwC_cells (heap_of (hF1 u) _ _ _ Rrow_2)).2.2.2.1
  have frow_4 := fun u => (rwC_cells (heap_of (hF1 u) _ _ _ Rrow_2)).2.2.2.2.1
  have frow_5 := fun u => (rwC_cells (heap_of (hF1 u) _ _ _ Rrow_2)).2.2.2.2.2.1
  have frow_6 := fun u => (rwC_cells (heap_of (hF1 u) _ _ _ Rrow_2)).2.2.2.2.2.2
  refine wp_region_below F hF2 (by kernel_rfl) (by kernel_rfl) ?_
  repeat first | go_big_quiet_step (first  | fail) | quiet_step (first  | fail)
  refine wpQuiet_nil ?_
  rintro _ ⟨uW, rfl⟩
  have B3 := btr B2 (hF1 uW)
  have Rx_3 := heap_of (hF1 uW) _ _ _ Rx_2
  have Rrow_3 := heap_of (hF1 uW) _ _ _ Rrow_2
  obtain ⟨w3, hw⟩ : ∃ V, F uW = V := ⟨_, rfl⟩
  rw [hw] at B3 Rx_3 Rrow_3
  try rw [hw]
  clear hw hF1 hF2 B2 fx_0 fx_1 fx_2 fx_3 fx_4 fx_5 fx_6 fx_7 fx_8 fx_9 fx_10 frow_0 frow_1 frow_2 frow_3 frow_4 frow_5 frow_6 Rx_2 cx_2_0 cx_2_1 cx_2_2 cx_2_3 cx_2_4 cx_2_5 cx_2_6 cx_2_7 cx_2_8 cx_2_9 cx_2_10 Rrow_2 crow_2_0 crow_2_1 crow_2_2 crow_2_3 crow_2_4 crow_2_5 crow_2_6
  clear F
  obtain ⟨cx_3_0, cx_3_1, cx_3_2, cx_3_3, cx_3_4, cx_3_5, cx_3_6, cx_3_7, cx_3_8, cx_3_9, cx_3_10⟩ := inC_cells Rx_3
  obtain ⟨crow_3_0, crow_3_1, crow_3_2, crow_3_3, crow_3_4, crow_3_5, crow_3_6⟩ := rwC_cells Rrow_3
  go_wp2
  go_ret2
  exact ⟨rfl, B3⟩
set_option maxRecDepth 100000 in
set_option maxHeartbeats 8000000 in
theorem t_enc_h (x : In) (ro : Rw) (a : In) (hne : inCE a x = false) (KO : Box (∀ w, T24 w → Calls Tryd.prog 22 #[.int .u8 (x.op : Nat), .int .u8 (x.form : Nat), .int .u8 (x.frm : Nat), .int .u8 (x.kind : Nat)] w fun r w' => r = .returned (.tuple #[.agg (rwC ro), .int .i64 0]) ∧ Below w.heap.size w w')) (KH : Box (∀ w, Calls Tryd.prog 23 #[.agg (inC x), .int .u8 (ro.lay : Nat)] w fun r w' => r = .returned (.agg (inC a)) ∧ Below w.heap.size w w')) (w : World) (hT : T24 w) : Calls Tryd.prog 9 #[.agg (inC x)] w fun r w' => r = .returned (.tuple #[.int .u32 0, .int .i64 260]) ∧ Below w.heap.size w w' := by
  have FF := box hT
  clear hT
  have hro := rwC_fold ro
  have hrn := rwC_new
  have hif := inC_fold x
  have heqn := eqin
  obtain ⟨Rx_0, B0⟩ := opn1 w (Obj.cells (inC x) 27)
  go_enter Tryd.func9, Tryd.ntmps9
  obtain ⟨cx_0_0, cx_0_1, cx_0_2, cx_0_3, cx_0_4, cx_0_5, cx_0_6, cx_0_7, cx_0_8, cx_0_9, cx_0_10⟩ := inC_cells Rx_0
  go_wp2_with fail
  refine (KO.out _ (t24B FF.out B0)).mono ?_
  rintro r w1 ⟨rfl, b1⟩
  have B1 : Below w.heap.size w w1 := btr B0 b1
  have Rx_1 := heap_of b1 _ _ _ Rx_0
  clear b1 B0 Rx_0 cx_0_0 cx_0_1 cx_0_2 cx_0_3 cx_0_4 cx_0_5 cx_0_6 cx_0_7 cx_0_8 cx_0_9 cx_0_10
  obtain ⟨cx_1_0, cx_1_1, cx_1_2, cx_1_3, cx_1_4, cx_1_5, cx_1_6, cx_1_7, cx_1_8, cx_1_9, cx_1_10⟩ := inC_cells Rx_1
  have S2 := box B1.size
  have Lx_2 : Box (w.heap.size < w1.heap.size) := box (Array.getElem?_eq_some_iff.1 Rx_1).1
  have Rrow_2 := heap_alloc_last w1 (Obj.cells (rwC ro) 45)
  have B2 := btr B1 (bal w1 (Obj.cells (rwC ro) 45))
  have Rx_2 := heap_of (bal w1 (Obj.cells (rwC ro) 45)) _ _ _ Rx_1
  clear B1 Rx_1 cx_1_0 cx_1_1 cx_1_2 cx_1_3 cx_1_4 cx_1_5 cx_1_6 cx_1_7 cx_1_8 cx_1_9 cx_1_10
  obtain ⟨cx_2_0, cx_2_1, cx_2_2, cx_2_3, cx_2_4, cx_2_5, cx_2_6, cx_2_7, cx_2_8, cx_2_9, cx_2_10⟩ := inC_cells Rx_2
  obtain ⟨crow_2_0, crow_2_1, crow_2_2, crow_2_3, crow_2_4, crow_2_5, crow_2_6⟩ := rwC_cells Rrow_2
  go_wp2_with fail
  obtain ⟨F, hF1, hF2⟩ := below_fun (w1.alloc (Obj.cells (rwC ro) 45))
  have fx_0 := fun u => (inC_cells (heap_of (hF1 u) _ _ _ Rx_2)).1
  have fx_1 := fun u => (inC_cells (heap_of (hF1 u) _ _ _ Rx_2)).2.1
  have fx_2 := fun u => (inC_cells (heap_of (hF1 u) _ _ _ Rx_2)).2.2.1
  have fx_3 := fun u => (inC_cells (heap_of (hF1 u) _ _ _ Rx_2)).2.2.2.1
  have fx_4 := fun u => (inC_cells (heap_of (hF1 u) _ _ _ Rx_2)).2.2.2.2.1
  have fx_5 := fun u => (inC_cells (heap_of (hF1 u) _ _ _ Rx_2)).2.2.2.2.2.1
  have fx_6 := fun u => (inC_cells (heap_of (hF1 u) _ _ _ Rx_2)).2.2.2.2.2.2.1
  have fx_7 := fun u => (inC_cells (heap_of (hF1 u) _ _ _ Rx_2)).2.2.2.2.2.2.2.1
  have fx_8 := fun u => (inC_cells (heap_of (hF1 u) _ _ _ Rx_2)).2.2.2.2.2.2.2.2.1
  have fx_9 := fun u => (inC_cells (heap_of (hF1 u) _ _ _ Rx_2)).2.2.2.2.2.2.2.2.2.1
  have fx_10 := fun u => (inC_cells (heap_of (hF1 u) _ _ _ Rx_2)).2.2.2.2.2.2.2.2.2.2
  have frow_0 := fun u => (rwC_cells (heap_of (hF1 u) _ _ _ Rrow_2)).1
  have frow_1 := fun u => (rwC_cells (heap_of (hF1 u) _ _ _ Rrow_2)).2.1
  have frow_2 := fun u => (rwC_cells (heap_of (hF1 u) _ _ _ Rrow_2)).2.2.1
  have frow_3 := fun u => (rwC_cells (heap_of (hF1 u) _ _ _ Rrow_2)).2.2.2.1
  have frow_4 := fun u => (rwC_cells (heap_of (hF1 u) _ _ _ Rrow_2)).2.2.2.2.1
  have frow_5 := fun u => (rwC_cells (heap_of (hF1 u) _ _ _ Rrow_2)).2.2.2.2.2.1
  have frow_6 := fun u => (rwC_cells (heap_of (hF1 u) _ _ _ Rrow_2)).2.2.2.2.2.2
  refine wp_region_below F hF2 (by kernel_rfl) (by kernel_rfl) ?_
  repeat first | go_big_quiet_step (first | (go_at_call 23; exact quietF hF1 hF2 (KH.out _)) | fail) | quiet_step (first | (go_at_call 23; exact quietF hF1 hF2 (KH.out _)) | fail)
  refine wpQuiet_nil ?_
  rintro _ ⟨uW, rfl⟩
  have B3 := btr B2 (hF1 uW)
  have Rx_3 := heap_of (hF1 uW) _ _ _ Rx_2
  have Rrow_3 := heap_of (hF1 uW) _ _ _ Rrow_2
  obtain ⟨w3, hw⟩ : ∃ V, F uW = V := ⟨_, rfl⟩
  rw [hw] at B3 Rx_3 Rrow_3
  try rw [hw]
  clear hw hF1 hF2 B2 fx_0 fx_1 fx_2 fx_3 fx_4 fx_5 fx_6 fx_7 fx_8 fx_9 fx_10 frow_0 frow_1 frow_2 frow_3 frow_4 frow_5 frow_6 Rx_2 cx_2_0 cx_2_1 cx_2_2 cx_2_3 cx_2_4 cx_2_5 cx_2_6 cx_2_7 cx_2_8 cx_2_9 cx_2_10 Rrow_2 crow_2_0 crow_2_1 crow_2_2 crow_2_3 crow_2_4 crow_2_5 crow_2_6
  clear F
  obtain ⟨cx_3_0, cx_3_1, cx_3_2, cx_3_3, cx_3_4, cx_3_5, cx_3_6, cx_3_7, cx_3_8, cx_3_9, cx_3_10⟩ := inC_cells Rx_3
  obtain ⟨crow_3_0, crow_3_1, crow_3_2, crow_3_3, crow_3_4, crow_3_5, crow_3_6⟩ := rwC_cells Rrow_3
  go_wp2
  go_ret2
  exact ⟨rfl, B3⟩
set_option maxRecDepth 100000 in
set_option maxHeartbeats 8000000 in
theorem t_enc_f (x : In) (ro : Rw) (a : In) (heq : inCE a x = true) (V U : Nat) (hx : bits .xor .u32 (ro.mtch : Nat) (V : Nat) = (U : Nat)) (KO : Box (∀ w, T24 w → Calls Tryd.prog 22 #[.int .u8 (x.op : Nat), .int .u8 (x.form : Nat), .int .u8 (x.frm : Nat), .int .u8 (x.kind : Nat)] w fun r w' => r = .returned (.tuple #[.agg (rwC ro), .int .i64 0]) ∧ Below w.heap.size w w')) (KH : Box (∀ w, Calls Tryd.prog 23 #[.agg (inC x), .int .u8 (ro.lay : Nat)] w fun r w' => r = .returned (.agg (inC a)) ∧ Below w.heap.size w w')) (KB : Box (∀ w, Calls Tryd.prog 24 #[.agg (inC x), .int .u8 (ro.lay : Nat)] w fun r w' => r = .returned (.int .u32 (V : Nat)) ∧ Below w.heap.size w w')) (KT : Box (∀ w, Calls Tryd.prog 25 #[.agg (rwC ro), .int .u32 (U : Nat)] w fun r w' => r = .returned (.bool false) ∧ Below w.heap.size w w')) (w : World) (hT : T24 w) : Calls Tryd.prog 9 #[.agg (inC x)] w fun r w' => r = .returned (.tuple #[.int .u32 0, .int .i64 260]) ∧ Below w.heap.size w w' := by
  have FF := box hT
  clear hT
  have hro := rwC_fold ro
  have hrn := rwC_new
  have hif := inC_fold x
  have heqn := eqin
  obtain ⟨Rx_0, B0⟩ := opn1 w (Obj.cells (inC x) 27)
  go_enter Tryd.func9, Tryd.ntmps9
  obtain ⟨cx_0_0, cx_0_1, cx_0_2, cx_0_3, cx_0_4, cx_0_5, cx_0_6, cx_0_7, cx_0_8, cx_0_9, cx_0_10⟩ := inC_cells Rx_0
  go_wp2_with fail
  refine (KO.out _ (t24B FF.out B0)).mono ?_
  rintro r w1 ⟨rfl, b1⟩
  have B1 : Below w.heap.size w w1 := btr B0 b1
  have Rx_1 := heap_of b1 _ _ _ Rx_0
  clear b1 B0 Rx_0 cx_0_0 cx_0_1 cx_0_2 cx_0_3 cx_0_4 cx_0_5 cx_0_6 cx_0_7 cx_0_8 cx_0_9 cx_0_10
  obtain ⟨cx_1_0, cx_1_1, cx_1_2, cx_1_3, cx_1_4, cx_1_5, cx_1_6, cx_1_7, cx_1_8, cx_1_9, cx_1_10⟩ := inC_cells Rx_1
  have S2 := box B1.size
  have Lx_2 : Box (w.heap.size < w1.heap.size) := box (Array.getElem?_eq_some_iff.1 Rx_1).1
  have Rrow_2 := heap_alloc_last w1 (Obj.cells (rwC ro) 45)
  have B2 := btr B1 (bal w1 (Obj.cells (rwC ro) 45))
  have Rx_2 := heap_of (bal w1 (Obj.cells (rwC ro) 45)) _ _ _ Rx_1
  clear B1 Rx_1 cx_1_0 cx_1_1 cx_1_2 cx_1_3 cx_1_4 cx_1_5 cx_1_6 cx_1_7 cx_1_8 cx_1_9 cx_1_10
  obtain ⟨cx_2_0, cx_2_1, cx_2_2, cx_2_3, cx_2_4, cx_2_5, cx_2_6, cx_2_7, cx_2_8, cx_2_9, cx_2_10⟩ := inC_cells Rx_2
  obtain ⟨crow_2_0, crow_2_1, crow_2_2, crow_2_3, crow_2_4, crow_2_5, crow_2_6⟩ := rwC_cells Rrow_2
  go_wp2_with fail
  obtain ⟨F, hF1, hF2⟩ := below_fun (w1.alloc (Obj.cells (rwC ro) 45))
  have fx_0 := fun u => (inC_cells (heap_of (hF1 u) _ _ _ Rx_2)).1
  have fx_1 := fun u => (inC_cells (heap_of (hF1 u) _ _ _ Rx_2)).2.1
  have fx_2 := fun u => (inC_cells (heap_of (hF1 u) _ _ _ Rx_2)).2.2.1
  have fx_3 := fun u => (inC_cells (heap_of (hF1 u) _ _ _ Rx_2)).2.2.2.1
  have fx_4 := fun u => (inC_cells (heap_of (hF1 u) _ _ _ Rx_2)).2.2.2.2.1
  have fx_5 := fun u => (inC_cells (heap_of (hF1 u) _ _ _ Rx_2)).2.2.2.2.2.1
  have fx_6 := fun u => (inC_cells (heap_of (hF1 u) _ _ _ Rx_2)).2.2.2.2.2.2.1
  have fx_7 := fun u => (inC_cells (heap_of (hF1 u) _ _ _ Rx_2)).2.2.2.2.2.2.2.1
  have fx_8 := fun u => (inC_cells (heap_of (hF1 u) _ _ _ Rx_2)).2.2.2.2.2.2.2.2.1
  have fx_9 := fun u => (inC_cells (heap_of (hF1 u) _ _ _ Rx_2)).2.2.2.2.2.2.2.2.2.1
  have fx_10 := fun u => (inC_cells (heap_of (hF1 u) _ _ _ Rx_2)).2.2.2.2.2.2.2.2.2.2
  have frow_0 := fun u => (rwC_cells (heap_of (hF1 u) _ _ _ Rrow_2)).1
  have frow_1 := fun u => (rwC_cells (heap_of (hF1 u) _ _ _ Rrow_2)).2.1
  have frow_2 := fun u => (rwC_cells (heap_of (hF1 u) _ _ _ Rrow_2)).2.2.1
  have frow_3 := fun u => (rwC_cells (heap_of (hF1 u) _ _ _ Rrow_2)).2.2.2.1
  have frow_4 := fun u => (rwC_cells (heap_of (hF1 u) _ _ _ Rrow_2)).2.2.2.2.1
  have frow_5 := fun u => (rwC_cells (heap_of (hF1 u) _ _ _ Rrow_2)).2.2.2.2.2.1
  have frow_6 := fun u => (rwC_cells (heap_of (hF1 u) _ _ _ Rrow_2)).2.2.2.2.2.2
  refine wp_region_below F hF2 (by kernel_rfl) (by kernel_rfl) ?_
  repeat first | go_big_quiet_step (first | (go_at_call 23; exact quietF hF1 hF2 (KH.out _)) | fail) | quiet_step (first | (go_at_call 23; exact quietF hF1 hF2 (KH.out _)) | fail)
  refine wpQuiet_nil ?_
  rintro _ ⟨uW, rfl⟩
  have B3 := btr B2 (hF1 uW)
  have Rx_3 := heap_of (hF1 uW) _ _ _ Rx_2
  have Rrow_3 := heap_of (hF1 uW) _ _ _ Rrow_2
  obtain ⟨w3, hw⟩ : ∃ V, F uW = V := ⟨_, rfl⟩
  rw [hw] at B3 Rx_3 Rrow_3
  try rw [hw]
  clear hw hF1 hF2 B2 fx_0 fx_1 fx_2 fx_3 fx_4 fx_5 fx_6 fx_7 fx_8 fx_9 fx_10 frow_0 frow_1 frow_2 frow_3 frow_4 frow_5 frow_6 Rx_2 cx_2_0 cx_2_1 cx_2_2 cx_2_3 cx_2_4 cx_2_5 cx_2_6 cx_2_7 cx_2_8 cx_2_9 cx_2_10 Rrow_2 crow_2_0 crow_2_1 crow_2_2 crow_2_3 crow_2_4 crow_2_5 crow_2_6
  clear F
  obtain ⟨cx_3_0, cx_3_1, cx_3_2, cx_3_3, cx_3_4, cx_3_5, cx_3_6, cx_3_7, cx_3_8, cx_3_9, cx_3_10⟩ := inC_cells Rx_3
  obtain ⟨crow_3_0, crow_3_1, crow_3_2, crow_3_3, crow_3_4, crow_3_5, crow_3_6⟩ := rwC_cells Rrow_3
  go_wp2_with fail
  obtain ⟨F, hF1, hF2⟩ := below_fun w3
  have fx_0 := fun u => (inC_cells (heap_of (hF1 u) _ _ _ Rx_3)).1
  have fx_1 := fun u => (inC_cells (heap_of (hF1 u) _ _ _ Rx_3)).2.1
  have fx_2 := fun u => (inC_cells (heap_of (hF1 u) _ _ _ Rx_3)).2.2.1
  have fx_3 := fun u => (inC_cells (heap_of (hF1 u) _ _ _ Rx_3)).2.2.2.1
  have fx_4 := fun u => (inC_cells (heap_of (hF1 u) _ _ _ Rx_3)).2.2.2.2.1
  have fx_5 := fun u => (inC_cells (heap_of (hF1 u) _ _ _ Rx_3)).2.2.2.2.2.1
  have fx_6 := fun u => (inC_cells (heap_of (hF1 u) _ _ _ Rx_3)).2.2.2.2.2.2.1
  have fx_7 := fun u => (inC_cells (heap_of (hF1 u) _ _ _ Rx_3)).2.2.2.2.2.2.2.1
  have fx_8 := fun u => (inC_cells (heap_of (hF1 u) _ _ _ Rx_3)).2.2.2.2.2.2.2.2.1
  have fx_9 := fun u => (inC_cells (heap_of (hF1 u) _ _ _ Rx_3)).2.2.2.2.2.2.2.2.2.1
  have fx_10 := fun u => (inC_cells (heap_of (hF1 u) _ _ _ Rx_3)).2.2.2.2.2.2.2.2.2.2
  have frow_0 := fun u => (rwC_cells (heap_of (hF1 u) _ _ _ Rrow_3)).1
  have frow_1 := fun u => (rwC_cells (heap_of (hF1 u) _ _ _ Rrow_3)).2.1
  have frow_2 := fun u => (rwC_cells (heap_of (hF1 u) _ _ _ Rrow_3)).2.2.1
  have frow_3 := fun u => (rwC_cells (heap_of (hF1 u) _ _ _ Rrow_3)).2.2.2.1
  have frow_4 := fun u => (rwC_cells (heap_of (hF1 u) _ _ _ Rrow_3)).2.2.2.2.1
  have frow_5 := fun u => (rwC_cells (heap_of (hF1 u) _ _ _ Rrow_3)).2.2.2.2.2.1
  have frow_6 := fun u => (rwC_cells (heap_of (hF1 u) _ _ _ Rrow_3)).2.2.2.2.2.2
  refine wp_region_below F hF2 (by kernel_rfl) (by kernel_rfl) ?_
  repeat first | go_big_quiet_step (first | (go_at_call 24; exact quietF hF1 hF2 (KB.out _)) | fail) | quiet_step (first | (go_at_call 24; exact quietF hF1 hF2 (KB.out _)) | fail)
  refine wpQuiet_nil ?_
  rintro _ ⟨uW, rfl⟩
  have B4 := btr B3 (hF1 uW)
  have Rx_4 := heap_of (hF1 uW) _ _ _ Rx_3
  have Rrow_4 := heap_of (hF1 uW) _ _ _ Rrow_3
  obtain ⟨w4, hw⟩ : ∃ V, F uW = V := ⟨_, rfl⟩
  rw [hw] at B4 Rx_4 Rrow_4
  try rw [hw]
  clear hw hF1 hF2 B3 fx_0 fx_1 fx_2 fx_3 fx_4 fx_5 fx_6 fx_7 fx_8 fx_9 fx_10 frow_0 frow_1 frow_2 frow_3 frow_4 frow_5 frow_6 Rx_3 cx_3_0 cx_3_1 cx_3_2 cx_3_3 cx_3_4 cx_3_5 cx_3_6 cx_3_7 cx_3_8 cx_3_9 cx_3_10 Rrow_3 crow_3_0 crow_3_1 crow_3_2 crow_3_3 crow_3_4 crow_3_5 crow_3_6
  clear F
  obtain ⟨cx_4_0, cx_4_1, cx_4_2, cx_4_3, cx_4_4, cx_4_5, cx_4_6, cx_4_7, cx_4_8, cx_4_9, cx_4_10⟩ := inC_cells Rx_4
  obtain ⟨crow_4_0, crow_4_1, crow_4_2, crow_4_3, crow_4_4, crow_4_5, crow_4_6⟩ := rwC_cells Rrow_4
  go_wp2_with fail
  refine (KT.out _).mono ?_
  rintro r w5 ⟨rfl, b5⟩
  have B5 : Below w.heap.size w w5 := btr B4 b5
  have Rx_5 := heap_of b5 _ _ _ Rx_4
  have Rrow_5 := heap_of b5 _ _ _ Rrow_4
  clear b5 B4 Rx_4 cx_4_0 cx_4_1 cx_4_2 cx_4_3 cx_4_4 cx_4_5 cx_4_6 cx_4_7 cx_4_8 cx_4_9 cx_4_10 Rrow_4 crow_4_0 crow_4_1 crow_4_2 crow_4_3 crow_4_4 crow_4_5 crow_4_6
  obtain ⟨cx_5_0, cx_5_1, cx_5_2, cx_5_3, cx_5_4, cx_5_5, cx_5_6, cx_5_7, cx_5_8, cx_5_9, cx_5_10⟩ := inC_cells Rx_5
  obtain ⟨crow_5_0, crow_5_1, crow_5_2, crow_5_3, crow_5_4, crow_5_5, crow_5_6⟩ := rwC_cells Rrow_5
  go_wp2
  go_ret2
  exact ⟨rfl, B5⟩
set_option maxRecDepth 100000 in
set_option maxHeartbeats 8000000 in
theorem t_enc_y (x : In) (ro : Rw) (a : In) (heq : inCE a x = true) (V U : Nat) (hx : bits .xor .u32 (ro.mtch : Nat) (V : Nat) = (U : Nat)) (KO : Box (∀ w, T24 w → Calls Tryd.prog 22 #[.int .u8 (x.op : Nat), .int .u8 (x.form : Nat), .int .u8 (x.frm : Nat), .int .u8 (x.kind : Nat)] w fun r w' => r = .returned (.tuple #[.agg (rwC ro), .int .i64 0]) ∧ Below w.heap.size w w')) (KH : Box (∀ w, Calls Tryd.prog 23 #[.agg (inC x), .int .u8 (ro.lay : Nat)] w fun r w' => r = .returned (.agg (inC a)) ∧ Below w.heap.size w w')) (KB : Box (∀ w, Calls Tryd.prog 24 #[.agg (inC x), .int .u8 (ro.lay : Nat)] w fun r w' => r = .returned (.int .u32 (V : Nat)) ∧ Below w.heap.size w w')) (KT : Box (∀ w, Calls Tryd.prog 25 #[.agg (rwC ro), .int .u32 (U : Nat)] w fun r w' => r = .returned (.bool true) ∧ Below w.heap.size w w')) (w : World) (hT : T24 w) : Calls Tryd.prog 9 #[.agg (inC x)] w fun r w' => r = .returned (.tuple #[.int .u32 (U : Nat), .int .i64 0]) ∧ Below w.heap.size w w' := by
  have FF := box hT
  clear hT
  have hro := rwC_fold ro
  have hrn := rwC_new
  have hif := inC_fold x
  have heqn := eqin
  obtain ⟨Rx_0, B0⟩ := opn1 w (Obj.cells (inC x) 27)
  go_enter Tryd.func9, Tryd.ntmps9
  obtain ⟨cx_0_0, cx_0_1, cx_0_2, cx_0_3, cx_0_4, cx_0_5, cx_0_6, cx_0_7, cx_0_8, cx_0_9, cx_0_10⟩ := inC_cells Rx_0
  go_wp2_with fail
  refine (KO.out _ (t24B FF.out B0)).mono ?_
  rintro r w1 ⟨rfl, b1⟩
  have B1 : Below w.heap.size w w1 := btr B0 b1
  have Rx_1 := heap_of b1 _ _ _ Rx_0
  clear b1 B0 Rx_0 cx_0_0 cx_0_1 cx_0_2 cx_0_3 cx_0_4 cx_0_5 cx_0_6 cx_0_7 cx_0_8 cx_0_9 cx_0_10
  obtain ⟨cx_1_0, cx_1_1, cx_1_2, cx_1_3, cx_1_4, cx_1_5, cx_1_6, cx_1_7, cx_1_8, cx_1_9, cx_1_10⟩ := inC_cells Rx_1
  have S2 := box B1.size
  have Lx_2 : Box (w.heap.size < w1.heap.size) := box (Array.getElem?_eq_some_iff.1 Rx_1).1
  have Rrow_2 := heap_alloc_last w1 (Obj.cells (rwC ro) 45)
  have B2 := btr B1 (bal w1 (Obj.cells (rwC ro) 45))
  have Rx_2 := heap_of (bal w1 (Obj.cells (rwC ro) 45)) _ _ _ Rx_1
  clear B1 Rx_1 cx_1_0 cx_1_1 cx_1_2 cx_1_3 cx_1_4 cx_1_5 cx_1_6 cx_1_7 cx_1_8 cx_1_9 cx_1_10
  obtain ⟨cx_2_0, cx_2_1, cx_2_2, cx_2_3, cx_2_4, cx_2_5, cx_2_6, cx_2_7, cx_2_8, cx_2_9, cx_2_10⟩ := inC_cells Rx_2
  obtain ⟨crow_2_0, crow_2_1, crow_2_2, crow_2_3, crow_2_4, crow_2_5, crow_2_6⟩ := rwC_cells Rrow_2
  go_wp2_with fail
  obtain ⟨F, hF1, hF2⟩ := below_fun (w1.alloc (Obj.cells (rwC ro) 45))
  have fx_0 := fun u => (inC_cells (heap_of (hF1 u) _ _ _ Rx_2)).1
  have fx_1 := fun u => (inC_cells (heap_of (hF1 u) _ _ _ Rx_2)).2.1
  have fx_2 := fun u => (inC_cells (heap_of (hF1 u) _ _ _ Rx_2)).2.2.1
  have fx_3 := fun u => (inC_cells (heap_of (hF1 u) _ _ _ Rx_2)).2.2.2.1
  have fx_4 := fun u => (inC_cells (heap_of (hF1 u) _ _ _ Rx_2)).2.2.2.2.1
  have fx_5 := fun u => (inC_cells (heap_of (hF1 u) _ _ _ Rx_2)).2.2.2.2.2.1
  have fx_6 := fun u => (inC_cells (heap_of (hF1 u) _ _ _ Rx_2)).2.2.2.2.2.2.1
  have fx_7 := fun u => (inC_cells (heap_of (hF1 u) _ _ _ Rx_2)).2.2.2.2.2.2.2.1
  have fx_8 := fun u => (inC_cells (heap_of (hF1 u) _ _ _ Rx_2)).2.2.2.2.2.2.2.2.1
  have fx_9 := fun u => (inC_cells (heap_of (hF1 u) _ _ _ Rx_2)).2.2.2.2.2.2.2.2.2.1
  have fx_10 := fun u => (inC_cells (heap_of (hF1 u) _ _ _ Rx_2)).2.2.2.2.2.2.2.2.2.2
  have frow_0 := fun u => (rwC_cells (heap_of (hF1 u) _ _ _ Rrow_2)).1
  have frow_1 := fun u => (rwC_cells (heap_of (hF1 u) _ _ _ Rrow_2)).2.1
  have frow_2 := fun u => (rwC_cells (heap_of (hF1 u) _ _ _ Rrow_2)).2.2.1
  have frow_3 := fun u => (rwC_cells (heap_of (hF1 u) _ _ _ Rrow_2)).2.2.2.1
  have frow_4 := fun u => (rwC_cells (heap_of (hF1 u) _ _ _ Rrow_2)).2.2.2.2.1
  have frow_5 := fun u => (rwC_cells (heap_of (hF1 u) _ _ _ Rrow_2)).2.2.2.2.2.1
  have frow_6 := fun u => (rwC_cells (heap_of (hF1 u) _ _ _ Rrow_2)).2.2.2.2.2.2
  refine wp_region_below F hF2 (by kernel_rfl) (by kernel_rfl) ?_
  repeat first | go_big_quiet_step (first | (go_at_call 23; exact quietF hF1 hF2 (KH.out _)) | fail) | quiet_step (first | (go_at_call 23; exact quietF hF1 hF2 (KH.out _)) | fail)
  refine wpQuiet_nil ?_
  rintro _ ⟨uW, rfl⟩
  have B3 := btr B2 (hF1 uW)
  have Rx_3 := heap_of (hF1 uW) _ _ _ Rx_2
  have Rrow_3 := heap_of (hF1 uW) _ _ _ Rrow_2
  obtain ⟨w3, hw⟩ : ∃ V, F uW = V := ⟨_, rfl⟩
  rw [hw] at B3 Rx_3 Rrow_3
  try rw [hw]
  clear hw hF1 hF2 B2 fx_0 fx_1 fx_2 fx_3 fx_4 fx_5 fx_6 fx_7 fx_8 fx_9 fx_10 frow_0 frow_1 frow_2 frow_3 frow_4 frow_5 frow_6 Rx_2 cx_2_0 cx_2_1 cx_2_2 cx_2_3 cx_2_4 cx_2_5 cx_2_6 cx_2_7 cx_2_8 cx_2_9 cx_2_10 Rrow_2 crow_2_0 crow_2_1 crow_2_2 crow_2_3 crow_2_4 crow_2_5 crow_2_6
  clear F
  obtain ⟨cx_3_0, cx_3_1, cx_3_2, cx_3_3, cx_3_4, cx_3_5, cx_3_6, cx_3_7, cx_3_8, cx_3_9, cx_3_10⟩ := inC_cells Rx_3
  obtain ⟨crow_3_0, crow_3_1, crow_3_2, crow_3_3, crow_3_4, crow_3_5, crow_3_6⟩ := rwC_cells Rrow_3
  go_wp2_with fail
  obtain ⟨F, hF1, hF2⟩ := below_fun w3
  have fx_0 := fun u => (inC_cells (heap_of (hF1 u) _ _ _ Rx_3)).1
  have fx_1 := fun u => (inC_cells (heap_of (hF1 u) _ _ _ Rx_3)).2.1
  have fx_2 := fun u => (inC_cells (heap_of (hF1 u) _ _ _ Rx_3)).2.2.1
  have fx_3 := fun u => (inC_cells (heap_of (hF1 u) _ _ _ Rx_3)).2.2.2.1
  have fx_4 := fun u => (inC_cells (heap_of (hF1 u) _ _ _ Rx_3)).2.2.2.2.1
  have fx_5 := fun u => (inC_cells (heap_of (hF1 u) _ _ _ Rx_3)).2.2.2.2.2.1
  have fx_6 := fun u => (inC_cells (heap_of (hF1 u) _ _ _ Rx_3)).2.2.2.2.2.2.1
  have fx_7 := fun u => (inC_cells (heap_of (hF1 u) _ _ _ Rx_3)).2.2.2.2.2.2.2.1
  have fx_8 := fun u => (inC_cells (heap_of (hF1 u) _ _ _ Rx_3)).2.2.2.2.2.2.2.2.1
  have fx_9 := fun u => (inC_cells (heap_of (hF1 u) _ _ _ Rx_3)).2.2.2.2.2.2.2.2.2.1
  have fx_10 := fun u => (inC_cells (heap_of (hF1 u) _ _ _ Rx_3)).2.2.2.2.2.2.2.2.2.2
  have frow_0 := fun u => (rwC_cells (heap_of (hF1 u) _ _ _ Rrow_3)).1
  have frow_1 := fun u => (rwC_cells (heap_of (hF1 u) _ _ _ Rrow_3)).2.1
  have frow_2 := fun u => (rwC_cells (heap_of (hF1 u) _ _ _ Rrow_3)).2.2.1
  have frow_3 := fun u => (rwC_cells (heap_of (hF1 u) _ _ _ Rrow_3)).2.2.2.1
  have frow_4 := fun u => (rwC_cells (heap_of (hF1 u) _ _ _ Rrow_3)).2.2.2.2.1
  have frow_5 := fun u => (rwC_cells (heap_of (hF1 u) _ _ _ Rrow_3)).2.2.2.2.2.1
  have frow_6 := fun u => (rwC_cells (heap_of (hF1 u) _ _ _ Rrow_3)).2.2.2.2.2.2
  refine wp_region_below F hF2 (by kernel_rfl) (by kernel_rfl) ?_
  repeat first | go_big_quiet_step (first | (go_at_call 24; exact quietF hF1 hF2 (KB.out _)) | fail) | quiet_step (first | (go_at_call 24; exact quietF hF1 hF2 (KB.out _)) | fail)
  refine wpQuiet_nil ?_
  rintro _ ⟨uW, rfl⟩
  have B4 := btr B3 (hF1 uW)
  have Rx_4 := heap_of (hF1 uW) _ _ _ Rx_3
  have Rrow_4 := heap_of (hF1 uW) _ _ _ Rrow_3
  obtain ⟨w4, hw⟩ : ∃ V, F uW = V := ⟨_, rfl⟩
  rw [hw] at B4 Rx_4 Rrow_4
  try rw [hw]
  clear hw hF1 hF2 B3 fx_0 fx_1 fx_2 fx_3 fx_4 fx_5 fx_6 fx_7 fx_8 fx_9 fx_10 frow_0 frow_1 frow_2 frow_3 frow_4 frow_5 frow_6 Rx_3 cx_3_0 cx_3_1 cx_3_2 cx_3_3 cx_3_4 cx_3_5 cx_3_6 cx_3_7 cx_3_8 cx_3_9 cx_3_10 Rrow_3 crow_3_0 crow_3_1 crow_3_2 crow_3_3 crow_3_4 crow_3_5 crow_3_6
  clear F
  obtain ⟨cx_4_0, cx_4_1, cx_4_2, cx_4_3, cx_4_4, cx_4_5, cx_4_6, cx_4_7, cx_4_8, cx_4_9, cx_4_10⟩ := inC_cells Rx_4
  obtain ⟨crow_4_0, crow_4_1, crow_4_2, crow_4_3, crow_4_4, crow_4_5, crow_4_6⟩ := rwC_cells Rrow_4
  go_wp2_with fail
  refine (KT.out _).mono ?_
  rintro r w5 ⟨rfl, b5⟩
  have B5 : Below w.heap.size w w5 := btr B4 b5
  have Rx_5 := heap_of b5 _ _ _ Rx_4
  have Rrow_5 := heap_of b5 _ _ _ Rrow_4
  clear b5 B4 Rx_4 cx_4_0 cx_4_1 cx_4_2 cx_4_3 cx_4_4 cx_4_5 cx_4_6 cx_4_7 cx_4_8 cx_4_9 cx_4_10 Rrow_4 crow_4_0 crow_4_1 crow_4_2 crow_4_3 crow_4_4 crow_4_5 crow_4_6
  obtain ⟨cx_5_0, cx_5_1, cx_5_2, cx_5_3, cx_5_4, cx_5_5, cx_5_6, cx_5_7, cx_5_8, cx_5_9, cx_5_10⟩ := inC_cells Rx_5
  obtain ⟨crow_5_0, crow_5_1, crow_5_2, crow_5_3, crow_5_4, crow_5_5, crow_5_6⟩ := rwC_cells Rrow_5
  go_wp2
  go_ret2
  exact ⟨rfl, B5⟩
end Go.Proofs.YtaoccmopfflkmaaDoor
namespace Go.Proofs.YtaoccmopfflkmaaDoor
set_option maxRecDepth 100000
set_option maxHeartbeats 40000000
set_option maxRecDepth 100000
open Go.RowKit WMath
set_option linter.unusedSimpArgs false
set_option linter.unusedVariables false
set_option maxRecDepth 100000 in
set_option maxHeartbeats 8000000 in
theorem t_with_nf (W : Nat) (x : In) (ro : Rw) (KF : Box (∀ w, T24 w → Calls Tryd.prog 29 #[.int .u32 (W : Nat)] w fun r w' => r = .returned (.tuple #[.agg (rwC ro), .bool false]) ∧ Below w.heap.size w w')) (w : World) (hT : T24 w) : Calls Tryd.prog 16 #[.int .u32 (W : Nat), .agg (inC x)] w fun r w' => r = .returned (.tuple #[.int .u32 0, .int .i64 250]) ∧ Below w.heap.size w w' := by
  have FF := box hT
  clear hT
  have hro := rwC_fold ro
  have hrn := rwC_new
  have hif := inC_fold x
  obtain ⟨Rx_0, B0⟩ := opn1 w (Obj.cells (inC x) 27)
  go_enter Tryd.func16, Tryd.ntmps16
  obtain ⟨cx_0_0, cx_0_1, cx_0_2, cx_0_3, cx_0_4, cx_0_5, cx_0_6, cx_0_7, cx_0_8, cx_0_9, cx_0_10⟩ := inC_cells Rx_0
  go_wp2_with fail
  refine (KF.out _ (t24B FF.out B0)).mono ?_
  rintro r w1 ⟨rfl, b1⟩
  have B1 : Below w.heap.size w w1 := btr B0 b1
  have Rx_1 := heap_of b1 _ _ _ Rx_0
  clear b1 B0 Rx_0 cx_0_0 cx_0_1 cx_0_2 cx_0_3 cx_0_4 cx_0_5 cx_0_6 cx_0_7 cx_0_8 cx_0_9 cx_0_10
  obtain ⟨cx_1_0, cx_1_1, cx_1_2, cx_1_3, cx_1_4, cx_1_5, cx_1_6, cx_1_7, cx_1_8, cx_1_9, cx_1_10⟩ := inC_cells Rx_1
  have S2 := box B1.size
  have Lx_2 : Box (w.heap.size < w1.heap.size) := box (Array.getElem?_eq_some_iff.1 Rx_1).1
  have Rrow_2 := heap_alloc_last w1 (Obj.cells (rwC ro) 45)
  have B2 := btr B1 (bal w1 (Obj.cells (rwC ro) 45))
  have Rx_2 := heap_of (bal w1 (Obj.cells (rwC ro) 45)) _ _ _ Rx_1
  clear B1 Rx_1 cx_1_0 cx_1_1 cx_1_2 cx_1_3 cx_1_4 cx_1_5 cx_1_6 cx_1_7 cx_1_8 cx_1_9 cx_1_10
  obtain ⟨cx_2_0, cx_2_1, cx_2_2, cx_2_3, cx_2_4, cx_2_5, cx_2_6, cx_2_7, cx_2_8, cx_2_9, cx_2_10⟩ := inC_cells Rx_2
  obtain ⟨crow_2_0, crow_2_1, crow_2_2, crow_2_3, crow_2_4, crow_2_5, crow_2_6⟩ := rwC_cells Rrow_2
  go_wp2
  go_ret2
  exact ⟨rfl, B2⟩
set_option maxRecDepth 100000 in
set_option maxHeartbeats 8000000 in
theorem t_with_e (W : Nat) (x : In) (ro : Rw) (KF : Box (∀ w, T24 w → Calls Tryd.prog 29 #[.int .u32 (W : Nat)] w fun r w' => r = .returned (.tuple #[.agg (rwC ro), .bool true]) ∧ Below w.heap.size w w')) (v : Nat) (er : Int) (he : (er != 0) = true) (KE : Box (∀ w, T24 w → Calls Tryd.prog 9 #[.agg (inC x)] w fun r w' => r = .returned (.tuple #[.int .u32 (v : Nat), .int .i64 er]) ∧ Below w.heap.size w w')) (w : World) (hT : T24 w) : Calls Tryd.prog 16 #[.int .u32 (W : Nat), .agg (inC x)] w fun r w' => r = .returned (.tuple #[.int .u32 0, .int .i64 260]) ∧ Below w.heap.size w w' := by
  have FF := box hT
  clear hT
  have hro := rwC_fold ro
  have hrn := rwC_new
  have hif := inC_fold x
  obtain ⟨Rx_0, B0⟩ := opn1 w (Obj.cells (inC x) 27)
  go_enter Tryd.func16, Tryd.ntmps16
  obtain ⟨cx_0_0, cx_0_1, cx_0_2, cx_0_3, cx_0_4, cx_0_5, cx_0_6, cx_0_7, cx_0_8, cx_0_9, cx_0_10⟩ := inC_cells Rx_0
  go_wp2_with fail
  refine (KF.out _ (t24B FF.out B0)).mono ?_
  rintro r w1 ⟨rfl, b1⟩
  have B1 : Below w.heap.size w w1 := btr B0 b1
  have Rx_1 := heap_of b1 _ _ _ Rx_0
  clear b1 B0 Rx_0 cx_0_0 cx_0_1 cx_0_2 cx_0_3 cx_0_4 cx_0_5 cx_0_6 cx_0_7 cx_0_8 cx_0_9 cx_0_10
  obtain ⟨cx_1_0, cx_1_1, cx_1_2, cx_1_3, cx_1_4, cx_1_5, cx_1_6, cx_1_7, cx_1_8, cx_1_9, cx_1_10⟩ := inC_cells Rx_1
  have S2 := box B1.size
  have Lx_2 : Box (w.heap.size < w1.heap.size) := box (Array.getElem?_eq_some_iff.1 Rx_1).1
  have Rrow_2 := heap_alloc_last w1 (Obj.cells (rwC ro) 45)
  have B2 := btr B1 (bal w1 (Obj.cells (rwC ro) 45))
  have Rx_2 := heap_of (bal w1 (Obj.cells (rwC ro) 45)) _ _ _ Rx_1
  clear B1 Rx_1 cx_1_0 cx_1_1 cx_1_2 cx_1_3 cx_1_4 cx_1_5 cx_1_6 cx_1_7 cx_1_8 cx_1_9 cx_1_10
  obtain ⟨cx_2_0, cx_2_1, cx_2_2, cx_2_3, cx_2_4, cx_2_5, cx_2_6, cx_2_7, cx_2_8, cx_2_9, cx_2_10⟩ := inC_cells Rx_2
  obtain ⟨crow_2_0, crow_2_1, crow_2_2, crow_2_3, crow_2_4, crow_2_5, crow_2_6⟩ := rwC_cells Rrow_2
  go_wp2_with fail
  refine (KE.out _ (t24B FF.out B2)).mono ?_
  rintro r w3 ⟨rfl, b3⟩
  have B3 : Below w.heap.size w w3 := btr B2 b3
  have Rx_3 := heap_of b3 _ _ _ Rx_2
  have Rrow_3 := heap_of b3 _ _ _ Rrow_2
  clear b3 B2 Rx_2 cx_2_0 cx_2_1 cx_2_2 cx_2_3 cx_2_4 cx_2_5 cx_2_6 cx_2_7 cx_2_8 cx_2_9 cx_2_10 Rrow_2 crow_2_0 crow_2_1 crow_2_2 crow_2_3 crow_2_4 crow_2_5 crow_2_6
  obtain ⟨cx_3_0, cx_3_1, cx_3_2, cx_3_3, cx_3_4, cx_3_5, cx_3_6, cx_3_7, cx_3_8, cx_3_9, cx_3_10⟩ := inC_cells Rx_3
  obtain ⟨crow_3_0, crow_3_1, crow_3_2, crow_3_3, crow_3_4, crow_3_5, crow_3_6⟩ := rwC_cells Rrow_3
  go_wp2
  go_ret2
  exact ⟨rfl, B3⟩
set_option maxRecDepth 100000 in
set_option maxHeartbeats 8000000 in
theorem t_with_n (W : Nat) (x : In) (ro : Rw) (KF : Box (∀ w, T24 w → Calls Tryd.prog 29 #[.int .u32 (W : Nat)] w fun r w' => r = .returned (.tuple #[.agg (rwC ro), .bool true]) ∧ Below w.heap.size w w')) (v : Nat) (KE : Box (∀ w, T24 w → Calls Tryd.prog 9 #[.agg (inC x)] w fun r w' => r = .returned (.tuple #[.int .u32 (v : Nat), .int .i64 0]) ∧ Below w.heap.size w w')) (KT : Box (∀ w, Calls Tryd.prog 25 #[.agg (rwC ro), .int .u32 (v : Nat)] w fun r w' => r = .returned (.bool false) ∧ Below w.heap.size w w')) (w : World) (hT : T24 w) : Calls Tryd.prog 16 #[.int .u32 (W : Nat), .agg (inC x)] w fun r w' => r = .returned (.tuple #[.int .u32 0, .int .i64 260]) ∧ Below w.heap.size w w' := by
  have FF := box hT
  clear hT
  have hro := rwC_fold ro
  have hrn := rwC_new
  have hif := inC_fold x
  obtain ⟨Rx_0, B0⟩ := opn1 w (Obj.cells (inC x) 27)
  go_enter Tryd.func16, Tryd.ntmps16
  obtain ⟨cx_0_0, cx_0_1, cx_0_2, cx_0_3, cx_0_4, cx_0_5, cx_0_6, cx_0_7, cx_0_8, cx_0_9, cx_0_10⟩ := inC_cells Rx_0
  go_wp2_with fail
  refine (KF.out _ (t24B FF.out B0)).mono ?_
  rintro r w1 ⟨rfl, b1⟩
  have B1 : Below w.heap.size w w1 := btr B0 b1
  have Rx_1 := heap_of b1 _ _ _ Rx_0
  clear b1 B0 Rx_0 cx_0_0 cx_0_1 cx_0_2 cx_0_3 cx_0_4 cx_0_5 cx_0_6 cx_0_7 cx_0_8 cx_0_9 cx_0_10
  obtain ⟨cx_1_0, cx_1_1, cx_1_2, cx_1_3, cx_1_4, cx_1_5, cx_1_6, cx_1_7, cx_1_8, cx_1_9, cx_1_10⟩ := inC_cells Rx_1
  have S2 := box B1.size
  have Lx_2 : Box (w.heap.size < w1.heap.size) := box (Array.getElem?_eq_some_iff.1 Rx_1).1
  have Rrow_2 := heap_alloc_last w1 (Obj.cells (rwC ro) 45)
  have B2 := btr B1 (bal w1 (Obj.cells (rwC ro) 45))
  have Rx_2 := heap_of (bal w1 (Obj.cells (rwC ro) 45)) _ _ _ Rx_1
  clear B1 Rx_1 cx_1_0 cx_1_1 cx_1_2 cx_1_3 cx_1_4 cx_1_5 cx_1_6 cx_1_7 cx_1_8 cx_1_9 cx_1_10
  obtain ⟨cx_2_0, cx_2_1, cx_2_2, cx_2_3, cx_2_4, cx_2_5, cx_2_6, cx_2_7, cx_2_8, cx_2_9, cx_2_10⟩ := inC_cells Rx_2
  obtain ⟨crow_2_0, crow_2_1, crow_2_2, crow_2_3, crow_2_4, crow_2_5, crow_2_6⟩ := rwC_cells Rrow_2
  go_wp2_with fail
  refine (KE.out _ (t24B FF.out B2)).mono ?_
  rintro r w3 ⟨rfl, b3⟩
  have B3 : Below w.heap.size w w3 := btr B2 b3
  have Rx_3 := heap_of b3 _ _ _ Rx_2
  have Rrow_3 := heap_of b3 _ _ _ Rrow_2
  clear b3 B2 Rx_2 cx_2_0 cx_2_1 cx_2_2 cx_2_3 cx_2_4 cx_2_5 cx_2_6 cx_2_7 cx_2_8 cx_2_9 cx_2_10 Rrow_2 crow_2_0 crow_2_1 crow_2_2 crow_2_3 crow_2_4 crow_2_5 crow_2_6
  obtain ⟨cx_3_0, cx_3_1, cx_3_2, cx_3_3, cx_3_4, cx_3_5, cx_3_6, cx_3_7, cx_3_8, cx_3_9, cx_3_10⟩ := inC_cells Rx_3
  obtain ⟨crow_3_0, crow_3_1, crow_3_2, crow_3_3, crow_3_4, crow_3_5, crow_3_6⟩ := rwC_cells Rrow_3
  go_wp2_with fail
  refine (KT.out _).mono ?_
  rintro r w4 ⟨rfl, b4⟩
  have B4 : Below w.heap.size w w4 := btr B3 b4
  have Rx_4 := heap_of b4 _ _ _ Rx_3
  have Rrow_4 := heap_of b4 _ _ _ Rrow_3
  clear b4 B3 Rx_3 cx_3_0 cx_3_1 cx_3_2 cx_3_3 cx_3_4 cx_3_5 cx_3_6 cx_3_7 cx_3_8 cx_3_9 cx_3_10 Rrow_3 crow_3_0 crow_3_1 crow_3_2 crow_3_3 crow_3_4 crow_3_5 crow_3_6
  obtain ⟨cx_4_0, cx_4_1, cx_4_2, cx_4_3, cx_4_4, cx_4_5, cx_4_6, cx_4_7, cx_4_8, cx_4_9, cx_4_10⟩ := inC_cells Rx_4
  obtain ⟨crow_4_0, crow_4_1, crow_4_2, crow_4_3, crow_4_4, crow_4_5, crow_4_6⟩ := rwC_cells Rrow_4
  go_wp2
  go_ret2
  exact ⟨rfl, B4⟩
set_option maxRecDepth 100000 in
set_option maxHeartbeats 8000000 in
theorem t_with_y (W : Nat) (x : In) (ro : Rw) (KF : Box (∀ w, T24 w → Calls Tryd.prog 29 #[.int .u32 (W : Nat)] w fun r w' => r = .returned (.tuple #[.agg (rwC ro), .bool true]) ∧ Below w.heap.size w w')) (v : Nat) (KE : Box (∀ w, T24 w → Calls Tryd.prog 9 #[.agg (inC x)] w fun r w' => r = .returned (.tuple #[.int .u32 (v : Nat), .int .i64 0]) ∧ Below w.heap.size w w')) (KT : Box (∀ w, Calls Tryd.prog 25 #[.agg (rwC ro), .int .u32 (v : Nat)] w fun r w' => r = .returned (.bool true) ∧ Below w.heap.size w w')) (w : World) (hT : T24 w) : Calls Tryd.prog 16 #[.int .u32 (W : Nat), .agg (inC x)] w fun r w' => r = .returned (.tuple #[.int .u32 (v : Nat), .int .i64 0]) ∧ Below w.heap.size w w' := by
  have FF := box hT
  clear hT
  have hro := rwC_fold ro
  have hrn := rwC_new
  have hif := inC_fold x
  obtain ⟨Rx_0, B0⟩ := opn1 w (Obj.cells (inC x) 27)
  go_enter Tryd.func16, Tryd.ntmps16
  obtain ⟨cx_0_0, cx_0_1, cx_0_2, cx_0_3, cx_0_4, cx_0_5, cx_0_6, cx_0_7, cx_0_8, cx_0_9, cx_0_10⟩ := inC_cells Rx_0
  go_wp2_with fail
  refine (KF.out _ (t24B FF.out B0)).mono ?_
  rintro r w1 ⟨rfl, b1⟩
  have B1 : Below w.heap.size w w1 := btr B0 b1
  have Rx_1 := heap_of b1 _ _ _ Rx_0
  clear b1 B0 Rx_0 cx_0_0 cx_0_1 cx_0_2 cx_0_3 cx_0_4 cx_0_5 cx_0_6 cx_0_7 cx_0_8 cx_0_9 cx_0_10
  obtain ⟨cx_1_0, cx_1_1, cx_1_2, cx_1_3, cx_1_4, cx_1_5, cx_1_6, cx_1_7, cx_1_8, cx_1_9, cx_1_10⟩ := inC_cells Rx_1
  have S2 := box B1.size
  have Lx_2 : Box (w.heap.size < w1.heap.size) := box (Array.getElem?_eq_some_iff.1 Rx_1).1
  have Rrow_2 := heap_alloc_last w1 (Obj.cells (rwC ro) 45)
  have B2 := btr B1 (bal w1 (Obj.cells (rwC ro) 45))
  have Rx_2 := heap_of (bal w1 (Obj.cells (rwC ro) 45)) _ _ _ Rx_1
  clear B1 Rx_1 cx_1_0 cx_1_1 cx_1_2 cx_1_3 cx_1_4 cx_1_5 cx_1_6 cx_1_7 cx_1_8 cx_1_9 cx_1_10
  obtain ⟨cx_2_0, cx_2_1, cx_2_2, cx_2_3, cx_2_4, cx_2_5, cx_2_6, cx_2_7, cx_2_8, cx_2_9, cx_2_10⟩ := inC_cells Rx_2
  obtain ⟨crow_2_0, crow_2_1, crow_2_2, crow_2_3, crow_2_4, crow_2_5, crow_2_6⟩ := rwC_cells Rrow_2
  go_wp2_with fail
  refine (KE.out _ (t24B FF.out B2)).mono ?_
  rintro r w3 ⟨rfl, b3⟩
  have B3 : Below w.heap.size w w3 := btr B2 b3
  have Rx_3 := heap_of b3 _ _ _ Rx_2
  have Rrow_3 := heap_of b3 _ _ _ Rrow_2
  clear b3 B2 Rx_2 cx_2_0 cx_2_1 cx_2_2 cx_2_3 cx_2_4 cx_2_5 cx_2_6 cx_2_7 cx_2_8 cx_2_9 cx_2_10 Rrow_2 crow_2_0 crow_2_1 crow_2_2 crow_2_3 crow_2_4 crow_2_5 crow_2_6
  obtain ⟨cx_3_0, cx_3_1, cx_3_2, cx_3_3, cx_3_4, cx_3_5, cx_3_6, cx_3_7, cx_3_8, cx_3_9, cx_3_10⟩ := inC_cells Rx_3
  obtain ⟨crow_3_0, crow_3_1, crow_3_2, crow_3_3, crow_3_4, crow_3_5, crow_3_6⟩ := rwC_cells Rrow_3
  go_wp2_with fail
  refine (KT.out _).mono ?_
  rintro r w4 ⟨rfl, b4⟩
  have B4 : Below w.heap.size w w4 := btr B3 b4
  have Rx_4 := heap_of b4 _ _ _ Rx_3
  have Rrow_4 := heap_of b4 _ _ _ Rrow_3
  clear b4 B3 Rx_3 cx_3_0 cx_3_1 cx_3_2 cx_3_3 cx_3_4 cx_3_5 cx_3_6 cx_3_7 cx_3_8 cx_3_9 cx_3_10 Rrow_3 crow_3_0 crow_3_1 crow_3_2 crow_3_3 crow_3_4 crow_3_5 crow_3_6
  obtain ⟨cx_4_0, cx_4_1, cx_4_2, cx_4_3, cx_4_4, cx_4_5, cx_4_6, cx_4_7, cx_4_8, cx_4_9, cx_4_10⟩ := inC_cells Rx_4
  obtain ⟨crow_4_0, crow_4_1, crow_4_2, crow_4_3, crow_4_4, crow_4_5, crow_4_6⟩ := rwC_cells Rrow_4
  go_wp2
  go_ret2
  exact ⟨rfl, B4⟩
end Go.Proofs.YtaoccmopfflkmaaDoor
namespace Go.Proofs.YtaoccmopfflkmaaDoor
set_option maxRecDepth 100000
set_option maxHeartbeats 40000000
set_option maxRecDepth 100000
open Go.RowKit Go.Shelf WMath
set_option linter.unusedVariables false
set_option linter.unusedSimpArgs false
theorem erF_some {o f g k : Int} {p : Nm} (h : ofR24 o f g k = some p) : erF o f g k = 0 := by
  unfold ofR24 at h
  unfold erF
  split
  · rw [if_pos (by assumption)] at h; cases h
  · rw [if_neg (by assumption)] at h; rw [h]; rfl
theorem erF_none {o f g k : Int} (h : ofR24 o f g k = none) : (erF o f g k != 0) = true := by
  unfold ofR24 at h
  unfold erF
  split
  · rfl
  · rw [if_neg (by assumption)] at h; rw [h]; rfl
theorem kHeld (x : In) (hi : InOk x) (l : Nat) (h1 : 1 ≤ l) (h9 : l ≤ 9) : Box (∀ w, Calls Tryd.prog 23 #[.agg (inC x), .int .u8 (l : Nat)] w fun r w' => r = .returned (.agg (inC (hkI l x))) ∧ Below w.heap.size w w') := box (fun w => by
  rcases (by omega : l = 1 ∨ l = 2 ∨ l = 3 ∨ l = 4 ∨ l = 5 ∨ l = 6 ∨ l = 7 ∨ l = 8 ∨ l = 9) with rfl | rfl | rfl | rfl | rfl | rfl | rfl | rfl | rfl
  · exact t_held x 1 64 _ rfl rfl rfl rfl (fun w => by rfl) (box (fun w => t_keep1 x hi w)) (enters_of Tryd.func64 (by kernel_rfl) rfl) w
  · exact t_held x 2 67 _ rfl rfl rfl rfl (fun w => by rfl) (box (fun w => t_keep2 x hi w)) (enters_of Tryd.func67 (by kernel_rfl) rfl) w
  · exact t_held x 3 68 _ rfl rfl rfl rfl (fun w => by rfl) (box (fun w => t_keep3 x hi w)) (enters_of Tryd.func68 (by kernel_rfl) rfl) w
  · exact t_held x 4 70 _ rfl rfl rfl rfl (fun w => by rfl) (box (fun w => t_keep4 x hi w)) (enters_of Tryd.func70 (by kernel_rfl) rfl) w
  · exact t_held x 5 71 _ rfl rfl rfl rfl (fun w => by rfl) (box (fun w => t_keep5 x hi w)) (enters_of Tryd.func71 (by kernel_rfl) rfl) w
  · exact t_held x 6 72 _ rfl rfl rfl rfl (fun w => by rfl) (box (fun w => t_keep6 x hi w)) (enters_of Tryd.func72 (by kernel_rfl) rfl) w
  · exact t_held x 7 73 _ rfl rfl rfl rfl (fun w => by rfl) (box (fun w => t_keep7 x hi w)) (enters_of Tryd.func73 (by kernel_rfl) rfl) w
  · exact t_held x 8 74 _ rfl rfl rfl rfl (fun w => by rfl) (box (fun w => t_keep8 x hi w)) (enters_of Tryd.func74 (by kernel_rfl) rfl) w
  · exact t_held x 9 74 _ rfl rfl rfl rfl (fun w => by rfl) (box (fun w => t_keep8 x hi w)) (enters_of Tryd.func74 (by kernel_rfl) rfl) w)
theorem kEnc (x : In) (hi : InOk x) : Box (∀ w, T24 w → Calls Tryd.prog 9 #[.agg (inC x)] w fun r w' => r = .returned (.tuple #[.int .u32 ((enR x).1 : Nat), .int .i64 (enR x).2]) ∧ Below w.heap.size w w') := box (fun w hT => by
  have KO := k_of x.op x.form x.frm x.kind hi.1 hE25
  cases ho : ofR24 x.op x.form x.frm x.kind with
  | none =>
    have hm : mayI x = false := by unfold mayI; rw [ho]
    rw [enR_no hm]
    exact t_enc_e x _ _ (erF_none ho) KO w hT
  | some p =>
    rw [erF_some ho, ho] at KO
    obtain ⟨hp, e1, e2, e3, e4⟩ := of_some ho
    obtain ⟨l1, l9, _⟩ := lay24 hp
    have KH := kHeld x hi p.1.lay l1 l9
    by_cases hh : hkI p.1.lay x = x
    · obtain ⟨hX, hlt, hfit⟩ := held_enc hi.2.2.2.2.2.2.2.2.2.2.2 ho hh
      obtain ⟨k1, k2, k3, k4, k5, k6, k7⟩ := hk_le hh
      have KB := box (fun w => t_bits x p.1.lay k1 k2 k3 k4 k5 k6 k7 hi.2.2.2.2.2.2.2.2.2.2.2 w)
      have hF := fit24 p hp
      have KT := k_fits p.1 hF.1 hF.2 _ hlt
      have hq : inCE (hkI p.1.lay x) x = true := by rw [inCE_is, hh]; exact decide_eq_true rfl
      have hb : btX p.1.lay x < 4294967296 := by
        have : btX p.1.lay x = p.1.mtch ^^^ encW p.1 x := by rw [← hX, ← Nat.xor_assoc, Nat.xor_self, Nat.zero_xor]
        rw [this]
        exact Nat.xor_lt_two_pow (n := 32) hF.2 hlt
      have hx := (xor32u _ _ hF.2 hb).1
      rw [hX] at hx
      rw [hfit] at KT
      cases hm : mayI x with
      | false =>
        rw [hm] at KT
        rw [enR_no hm]
        exact t_enc_f x p.1 _ hq _ _ hx KO KH KB KT w hT
      | true =>
        rw [hm] at KT
        obtain ⟨p2, hp2, _, e, _⟩ := enR_yes hm
        rw [ho] at hp2
        obtain rfl := Option.some.inj hp2
        rw [e]
        exact t_enc_y x p.1 _ hq _ _ hx KO KH KB KT w hT
    · have hm : mayI x = false := by
        cases hm : mayI x with
        | false => rfl
        | true => exact absurd (may_held ho hm) hh
      rw [enR_no hm]
      exact t_enc_h x p.1 _ (by rw [inCE_is]; exact decide_eq_false hh) KO KH w hT)
theorem t_may (x : In) (v : Nat) (e : Int) (b : Bool) (hb : (e == 0) = b) (KE : Box (∀ w, T24 w → Calls Tryd.prog 9 #[.agg (inC x)] w fun r w' => r = .returned (.tuple #[.int .u32 (v : Nat), .int .i64 e]) ∧ Below w.heap.size w w')) (w : World) (hT : T24 w) : Calls Tryd.prog 11 #[.agg (inC x)] w fun r w' => r = .returned (.bool b) ∧ Below w.heap.size w w' := by
  have FF := box hT
  clear hT
  have hif := inC_fold x
  obtain ⟨Rx_0, B0⟩ := opn1 w (Obj.cells (inC x) 27)
  go_enter Tryd.func11, Tryd.ntmps11
  obtain ⟨cx_0_0, cx_0_1, cx_0_2, cx_0_3, cx_0_4, cx_0_5, cx_0_6, cx_0_7, cx_0_8, cx_0_9, cx_0_10⟩ := inC_cells Rx_0
  go_wp2_with fail
  refine (KE.out _ (t24B FF.out B0)).mono ?_
  rintro r w1 ⟨rfl, b1⟩
  have B1 : Below w.heap.size w w1 := btr B0 b1
  have Rx_1 := heap_of b1 _ _ _ Rx_0
  clear b1 B0 Rx_0 cx_0_0 cx_0_1 cx_0_2 cx_0_3 cx_0_4 cx_0_5 cx_0_6 cx_0_7 cx_0_8 cx_0_9 cx_0_10
  obtain ⟨cx_1_0, cx_1_1, cx_1_2, cx_1_3, cx_1_4, cx_1_5, cx_1_6, cx_1_7, cx_1_8, cx_1_9, cx_1_10⟩ := inC_cells Rx_1
  go_wp2
  go_ret
  exact ⟨rfl, B1⟩
theorem kMay (x : In) (hi : InOk x) : Box (∀ w, T24 w → Calls Tryd.prog 11 #[.agg (inC x)] w fun r w' => r = .returned (.bool (mayI x)) ∧ Below w.heap.size w w') := box (fun w hT => t_may x _ _ _ (by
  cases h : mayI x with
  | false => rw [enR_no h]; rfl
  | true => have := enR_may.2 h; rw [this]; rfl) (kEnc x hi) w hT)
theorem kWith (W : Nat) (x : In) (hW : W < 4294967296) (hi : InOk x) : Box (∀ w, T24 w → Calls Tryd.prog 16 #[.int .u32 (W : Nat), .agg (inC x)] w fun r w' => r = .returned (.tuple #[.int .u32 ((wiR W x).1 : Nat), .int .i64 (wiR W x).2]) ∧ Below w.heap.size w w') := box (fun w hT => by
  have KF := cF25 W hW
  have KE := kEnc x hi
  unfold wiR
  cases hf : fdL W with
  | none =>
    rw [hf] at KF
    exact t_with_nf W x _ KF w hT
  | some p =>
    rw [hf] at KF
    simp only
    obtain ⟨hp, _⟩ := fd_mem hf
    cases hm : mayI x with
    | false =>
      rw [enR_no hm] at KE ⊢
      rw [if_neg (by simp)]
      exact t_with_e W x _ KF _ _ (by decide) KE w hT
    | true =>
      obtain ⟨p2, hp2, hm2, e, hlt, hf2, _⟩ := enR_yes hm
      rw [e] at KE ⊢
      have hF := fit24 p hp
      have KT := k_fits p.1 hF.1 hF.2 _ hlt
      obtain ⟨_, e1, e2, e3, e4⟩ := of_some hp2
      by_cases c : fitsL p.1 (encW p2.1 x) = true
      · rw [c] at KT
        have := fd_is hp c
        rw [hf2] at this
        obtain rfl := Option.some.inj this
        rw [if_pos ⟨rfl, e1.symm ▸ rfl, by omega, by omega, by omega⟩]
        exact t_with_y W x _ KF _ KE KT w hT
      · have c2 : fitsL p.1 (encW p2.1 x) = false := by simpa using c
        rw [c2] at KT
        rw [if_neg (fun h => c (by
          have q := of_row hp
          rw [← h.2.1, ← h.2.2.1, ← h.2.2.2.1, ← h.2.2.2.2, hp2] at q
          rw [← Option.some.inj q]
          exact (fd_mem hf2).2))]
        exact t_with_n W x _ KF _ KE KT w hT)
theorem live26 : Box (∀ w, T24 w → Calls Tryd.prog 13 #[] w fun r w' => r = .returned (.bool true) ∧ Below w.heap.size w w') := box (fun w hT => lives26 fb25 kEnc kMay w hT)
theorem with_fin26 (W : Nat) (x : In) (hW : W < 4294967296) (hi : InOk x) (w : World) (hT : T24 w) : Calls Tryd.prog 5 #[.int .u32 (W : Nat), .agg (inC x)] w fun r w' => r = .returned (.bool true) ∧ Below w.heap.size w w' := with26 fb25 kWith live26 W x hW hi w hT
end Go.Proofs.YtaoccmopfflkmaaDoor
set_option linter.unusedSimpArgs false
namespace Go.Proofs.YtaoccmopfflkmaaDoor
set_option maxRecDepth 100000
set_option maxHeartbeats 40000000
set_option maxRecDepth 100000
open WMath
open Go.ChangeShapes Go.WideShapes Go.ChangeAt Go.RowKit
set_option linter.unusedVariables false
theorem list1y {α : Type} (l : List α) (h : l.length = 1) : ∃ a, l = [a] := by
  match l, h with
  | [a], _ => exact ⟨a, rfl⟩
theorem list5y {α : Type} (l : List α) (h : l.length = 5) : ∃ a b c d e, l = [a, b, c, d, e] := by
  match l, h with
  | [a, b, c, d, e], _ => exact ⟨a, b, c, d, e, rfl⟩
theorem int_read24 {w : World} {fuel : Nat} {enc : TypeId × Value → Unit} {base : Nat} {spare : Nat → Bool} {held : Bool} {l : List Value} {t : TypeId} {q : IntKind} {a : Int} {x : DataW Unit × List MemPlace} (ht : Tryd.prog.underlying t = some (.int q))
    (h : DataW.trod enc Tryd.prog w base spare held fuel t l = some x) (hx : x.1 = .lit (.int q a)) (hl : l.length = 1) : l = [.int q a] := by
  obtain ⟨c0, rfl⟩ := list1y l hl
  obtain ⟨x0, e0, k0, w0⟩ := DataW.trod_int ht h
  simp at e0
  subst e0
  rw [k0] at hx
  simp at hx
  rw [hx]
theorem str_read24 {w : World} {fuel : Nat} {enc : TypeId × Value → Unit} {base : Nat} {spare : Nat → Bool} {held : Bool} {l : List Value} {s : List UInt8} {x : DataW Unit × List MemPlace}
    (h : DataW.trod enc Tryd.prog w base spare held fuel 9 l = some x) (hx : x.1 = .lit (.string s)) (hl : l.length = 1) : l = [.string ⟨s.toArray⟩] := by
  obtain ⟨c0, rfl⟩ := list1y l hl
  obtain ⟨x0, e0, k0, w0⟩ := DataW.trod_string Tryd.underlying9 h
  simp at e0
  subst e0
  rw [k0] at hx
  simp at hx
  rw [← hx]
def laid25L : List (String × DataW Unit) := [("abacus/table.fixed", Rows.laid_abacus_table_fixed), ("abacus/table.plans", Rows.laid_abacus_table_plans), ("abacus/table.widths", Rows.laid_abacus_table_widths)]
theorem arr_read24 {W : World} {g : Nat} {t e : TypeId} {n : Nat} {nm : String} {D : List (DataW Unit)} {rest : List (String × DataW Unit)} (V : Nat → Value) (hg : Tryd.prog.globalNamed nm = some g) (ht : (Tryd.prog.globals[g]?).map (·.type) = some t) (hu : Tryd.prog.underlying t = some (.array n e)) (hc : Tryd.prog.cellsOf e = 1) (hct : Tryd.prog.cellsOf t = n)
    (hV : ∀ (i : Nat) (w : World) (fuel : Nat) (base : Nat) (spare : Nat → Bool) (enc : TypeId × Value → Unit) (l : List Value) (x : DataW Unit × List MemPlace), i < n → l.length = 1 → D[i]? = some x.1 → DataW.trod enc Tryd.prog w base spare false fuel e l = some x → l = [V i])
    (hD : D.length = n) (h : laidMet Tryd.prog ((nm, .agg D) :: rest) W) : ∀ i, i < n → W.cell? ⟨g, i, none⟩ = some (V i) := by
  obtain ⟨ps, ⟨g', t', cs, fuel, p, q, hg', ht', hvar, hd, _, _⟩, _⟩ := h
  obtain rfl := Option.some.inj (hg.symm.trans hg')
  obtain rfl := Option.some.inj (ht.symm.trans ht')
  obtain ⟨xs, m, rfl, hx, hl, hxl, hel⟩ := DataW.trod_array hu hd
  rw [hc] at hel
  rw [hct] at hl
  intro i hi
  have hx1 := congrArg Prod.fst hx
  simp at hx1
  have he := hel i hi
  have hix : i < xs.length := by omega
  rw [List.getElem?_eq_getElem hix] at he
  have hdi : D[i]? = some (xs[i]).1 := by rw [hx1, List.getElem?_map, List.getElem?_eq_getElem hix]; rfl
  have hv := hV i _ _ _ _ _ _ _ hi (by rw [List.length_take, List.length_drop]; omega) hdi he
  rw [World.var?_cell hg hvar i]
  have e1 : cs.toList[i]? = ((cs.toList.drop (i * 1)).take 1)[0]? := by rw [List.getElem?_take, if_pos (by decide), List.getElem?_drop]; congr 1; omega
  rw [hv] at e1
  simpa using e1
theorem of_fixed24 {W : World} {rest : List (String × DataW Unit)} (h : laidMet Tryd.prog (("abacus/table.fixed", Rows.laid_abacus_table_fixed) :: rest) W) : ∀ i, i < 10 → W.cell? ⟨1, i, none⟩ = some (.int .u32 (fxN i : Nat)) :=
  arr_read24 (t := 105) (e := 28) (fun i => .int .u32 (fxN i : Nat)) (by kernel_rfl) (by kernel_rfl) Tryd.underlying105 (by kernel_rfl) (by kernel_rfl) (fun i w fuel base spare enc l x hi hl hd hx => by
    refine int_read24 Tryd.underlying28 hx ?_ hl
    rcases (show i = 0 ∨ i = 1 ∨ i = 2 ∨ i = 3 ∨ i = 4 ∨ i = 5 ∨ i = 6 ∨ i = 7 ∨ i = 8 ∨ i = 9 by omega) with rfl | rfl | rfl | rfl | rfl | rfl | rfl | rfl | rfl | rfl <;> exact (Option.some.inj hd).symm) rfl h
theorem of_widths24 {W : World} {rest : List (String × DataW Unit)} (h : laidMet Tryd.prog (("abacus/table.widths", Rows.laid_abacus_table_widths) :: rest) W) : ∀ i, i < 4 → W.cell? ⟨2, i, none⟩ = some (.int .u8 (wdN i : Nat)) :=
  arr_read24 (t := 123) (e := 5) (fun i => .int .u8 (wdN i : Nat)) (by kernel_rfl) (by kernel_rfl) Tryd.underlying123 (by kernel_rfl) (by kernel_rfl) (fun i w fuel base spare enc l x hi hl hd hx => by
    refine int_read24 Tryd.underlying5 hx ?_ hl
    rcases (show i = 0 ∨ i = 1 ∨ i = 2 ∨ i = 3 by omega) with rfl | rfl | rfl | rfl <;> exact (Option.some.inj hd).symm) rfl h
def plD (p : Pl) : DataW Unit := .agg [.lit (.string p.nm), .lit (.int .u8 (p.opc : Nat)), .lit (.int .u8 (p.rs3 : Nat)), .lit (.int .u8 (p.rm : Nat)), .lit (.int .u8 (p.lay : Nat))]
theorem plans_D : Rows.laid_abacus_table_plans = .slice (plL.map plD) [] := rfl
theorem plan_read24 {w : World} {fuel : Nat} {enc : TypeId × Value → Unit} {base : Nat} {spare : Nat → Bool} {held : Bool} {l : List Value} {p : Pl} {x : DataW Unit × List MemPlace}
    (h : DataW.trod enc Tryd.prog w base spare held fuel 101 l = some x) (hx : x.1 = plD p) : l = (plV (plB p)).toList := by
  have hc5 : Tryd.prog.cellsOf 5 = 1 := by kernel_rfl
  have hc9 : Tryd.prog.cellsOf 9 = 1 := by kernel_rfl
  have hcl : Tryd.prog.cellsOf 43 = 1 := by kernel_rfl
  have hcp : Tryd.prog.cellsOf 101 = 5 := by kernel_rfl
  obtain ⟨xs, n, rfl, rfl, hl, hlen, hf⟩ := DataW.trod_struct Tryd.underlying101 h
  rw [hcp] at hl
  obtain ⟨c0, c1, c2, c3, c4, rfl⟩ := list5y l hl
  match xs, hlen with
  | [y0, y1, y2, y3, y4], _ =>
    have g0 : DataW.trod enc Tryd.prog w base spare held n 9 (([c0, c1, c2, c3, c4].drop 0).take (Tryd.prog.cellsOf 9)) = some y0 := hf 0 _ rfl
    have g1 : DataW.trod enc Tryd.prog w base spare held n 5 (([c0, c1, c2, c3, c4].drop 1).take (Tryd.prog.cellsOf 5)) = some y1 := hf 1 _ rfl
    have g2 : DataW.trod enc Tryd.prog w base spare held n 5 (([c0, c1, c2, c3, c4].drop 2).take (Tryd.prog.cellsOf 5)) = some y2 := hf 2 _ rfl
    have g3 : DataW.trod enc Tryd.prog w base spare held n 5 (([c0, c1, c2, c3, c4].drop 3).take (Tryd.prog.cellsOf 5)) = some y3 := hf 3 _ rfl
    have g4 : DataW.trod enc Tryd.prog w base spare held n 43 (([c0, c1, c2, c3, c4].drop 4).take (Tryd.prog.cellsOf 43)) = some y4 := hf 4 _ rfl
    rw [hc9] at g0
    rw [hc5] at g1 g2 g3
    rw [hcl] at g4
    simp only [plD, List.map_cons, List.map_nil, DataW.agg.injEq, List.cons.injEq, and_true] at hx
    obtain ⟨h0, h1, h2, h3, h4⟩ := hx
    simp only [List.drop_zero, List.drop_succ_cons, List.take_succ_cons, List.take_zero] at g0 g1 g2 g3 g4
    have z0 := str_read24 g0 h0 rfl
    have z1 := int_read24 Tryd.underlying5 g1 h1 rfl
    have z2 := int_read24 Tryd.underlying5 g2 h2 rfl
    have z3 := int_read24 Tryd.underlying5 g3 h3 rfl
    have z4 := int_read24 Tryd.underlying43 g4 h4 rfl
    simp only [List.cons.injEq, and_true] at z0 z1 z2 z3 z4
    rw [z0, z1, z2, z3, z4]
    rfl
theorem cells5y {w : World} {base : Nat} {a : Addr} {l : List Value} (h : w.cells? base a 5 = some l) : ∃ c0 c1 c2 c3 c4, l = [c0, c1, c2, c3, c4] ∧ w.cell? (a.add 0) = some c0 ∧ w.cell? (a.add 1) = some c1 ∧ w.cell? (a.add 2) = some c2 ∧ w.cell? (a.add 3) = some c3 ∧ w.cell? (a.add 4) = some c4 := by
  unfold World.cells? at h
  split at h
  · simp only [show List.range 5 = [0, 1, 2, 3, 4] from rfl, List.mapM_cons, List.mapM_nil, Option.bind_eq_bind, Option.bind_eq_some_iff, Option.pure_def, Option.some.injEq] at h
    obtain ⟨a1, d0, _, ⟨a3, d1, _, ⟨a5, d2, _, ⟨a7, d3, _, ⟨a9, d4, _, rfl, rfl⟩, rfl⟩, rfl⟩, rfl⟩, rfl⟩ := h
    exact ⟨a1, a3, a5, a7, a9, rfl, d0, d1, d2, d3, d4⟩
  · cases h
theorem of_plans24 {W : World} {rest : List (String × DataW Unit)} (h : laidMet Tryd.prog (("abacus/table.plans", Rows.laid_abacus_table_plans) :: rest) W) : ∃ b o cap : Nat, W.cell? ⟨0, 0, none⟩ = some (.slice (some ⟨b, o, none⟩) 32 cap) ∧ ∀ i, i < 32 → PlAt W b (o + i * 5) (plB (plN i)) := by
  have hg0 : Tryd.prog.globalNamed "abacus/table.plans" = some 0 := by kernel_rfl
  have ht0 : (Tryd.prog.globals[0]?).map (·.type) = some 89 := by kernel_rfl
  have hcp : Tryd.prog.cellsOf 101 = 5 := by kernel_rfl
  obtain ⟨ps, ⟨g', t', cs, fuel, p, q, hg', ht', hvar, hd, _, _⟩, _⟩ := h
  obtain rfl := Option.some.inj (hg0.symm.trans hg')
  obtain rfl := Option.some.inj (ht0.symm.trans ht')
  rw [plans_D] at hd
  rcases DataW.trod_slice Tryd.underlying89 hd with ⟨_, hx⟩ | ⟨a, len, cap, elems, rs, n, _, hcs, hx, _, hl, _, hlen, hel, _⟩
  · simp at hx
  · simp only [Prod.mk.injEq, DataW.slice.injEq] at hx
    obtain ⟨⟨hx1, _⟩, _⟩ := hx
    have h32 : len = 32 := by
      rw [← hlen]
      have := congrArg List.length hx1
      exact (by simpa using this.symm : elems.length = plL.length).trans rfl
    subst h32
    have main : ∀ i, i < 32 → ∃ c0 c1 c2 c3 c4, [c0, c1, c2, c3, c4] = (plV (plB (plN i))).toList ∧ W.cell? ((a.add (i * 5)).add 0) = some c0 ∧ W.cell? ((a.add (i * 5)).add 1) = some c1 ∧ W.cell? ((a.add (i * 5)).add 2) = some c2 ∧ W.cell? ((a.add (i * 5)).add 3) = some c3 ∧ W.cell? ((a.add (i * 5)).add 4) = some c4 := by
      intro i hi
      have hE := hel i hi
      rw [hcp] at hE
      have hix : i < elems.length := by omega
      rw [List.getElem?_eq_getElem hix, Option.bind_eq_some_iff] at hE
      obtain ⟨l, h1, h2⟩ := hE
      obtain ⟨c0, c1, c2, c3, c4, rfl, d0, d1, d2, d3, d4⟩ := cells5y h1
      have hp : (elems[i]).1 = plD (plN i) := by
        have q1 : (plL.map plD)[i]? = (elems.map (·.1))[i]? := by rw [hx1]
        rw [List.getElem?_map, List.getElem?_map, List.getElem?_eq_getElem hix, List.getElem?_eq_getElem (show i < plL.length from hi)] at q1
        have q2 : plD (plL[i]'(show i < plL.length from hi)) = (elems[i]).1 := Option.some.inj q1
        rw [← q2]
        unfold plN
        rw [List.getElem?_eq_getElem (show i < plL.length from hi)]
        rfl
      exact ⟨c0, c1, c2, c3, c4, plan_read24 h2 hp, d0, d1, d2, d3, d4⟩
    obtain ⟨_, _, _, _, _, _, s0, _⟩ := main 0 (by decide)
    have hsp : a.spot = none := by
      have := World.cell?_spot s0
      simpa [Addr.add] using this
    obtain ⟨b, o, sp⟩ := a
    simp only at hsp
    subst hsp
    refine ⟨b, o, cap, ?_, fun i hi => ?_⟩
    · rw [World.var?_cell hg0 hvar 0, ← Array.getElem?_toList, hcs]
      rfl
    · obtain ⟨c0, c1, c2, c3, c4, e, d0, d1, d2, d3, d4⟩ := main i hi
      have ad : ∀ j, ((⟨b, o, none⟩ : Addr).add (i * 5)).add j = ⟨b, o + i * 5 + j, none⟩ := fun j => by
        unfold Addr.add
        by_cases h1 : i * 5 = 0 <;> by_cases h2 : j = 0 <;> simp [h1, h2]
      rw [ad] at d0 d1 d2 d3 d4
      simp only [plV, List.cons.injEq, and_true] at e
      obtain ⟨rfl, rfl, rfl, rfl, rfl⟩ := e
      exact ⟨d0, d1, d2, d3, d4⟩
theorem of_laid25 {W : World} (h : laidMetH Tryd.prog laid25L W) : T24 W := by
  rw [MakeChecks.laidMetH_plain _ _ _ (by kernel_rfl)] at h
  have h1 := laidMet.tail h
  have h2 := laidMet.tail h1
  exact ⟨of_fixed24 h, trivial, of_widths24 h2, of_plans24 h1⟩
theorem door_met25 (os : Os) (args : Array Value) : laidMetH Tryd.prog laid25L ((World.doorLaid Tryd.prog 400 os).forCall (fun _ _ => 0) ⟨#[], args, []⟩).memory :=
  laidMetH_of_parts3 (fuel := 8) (laidMet_of_run' 8 (by kernel_rfl) (by kernel_rfl)) (by kernel_rfl) (by kernel_rfl)
end Go.Proofs.YtaoccmopfflkmaaDoor
