/-
  What the functions that the statement reaches return: part 7 (ZB).
-/
import Derived.Test.YtamlcgmipdcgjaaDoorBa06
namespace Go.Proofs.YtamlcgmipdcgjaaDoor
set_option maxRecDepth 100000
set_option maxHeartbeats 40000000
set_option maxRecDepth 100000
open Go.RowKit WMath
set_option linter.unusedSimpArgs false
set_option linter.unusedVariables false
set_option maxRecDepth 100000 in
set_option maxHeartbeats 8000000 in
theorem t_dec_no (x : Nat) (ro : Rw) (KF : Box (∀ w, T24 w → Calls Tryd.prog 23 #[.int .u32 (x : Nat)] w fun r w' => r = .returned (.tuple #[.agg (rwC ro), .bool false]) ∧ Below w.heap.size w w')) (w : World) (hT : T24 w) : Calls Tryd.prog 9 #[.int .u32 (x : Nat)] w fun r w' => r = .returned (.tuple #[.agg (inC inZ), .int .i64 250]) ∧ Below w.heap.size w w' := by
  have FF := box hT
  clear hT
  have hiz := in_zero
  have hro := rwC_fold ro
  have hrn := rwC_new
  obtain ⟨Rz_0, B0⟩ := opn1 w (Obj.cells #[.int .u8 0, .int .u8 0, .int .u8 0, .int .u8 0, .int .u8 0, .int .u8 0, .int .u8 0, .int .u8 0, .int .u8 0, .int .i16 0, .int .u8 0] 28)
  go_enter Tryd.func9, Tryd.ntmps9
  go_wp2_with fail
  refine (KF.out _ (t24B FF.out B0)).mono ?_
  rintro r w1 ⟨rfl, b1⟩
  have B1 : Below w.heap.size w w1 := btr B0 b1
  have Rz_1 := heap_of b1 _ _ _ Rz_0
  clear b1 B0 Rz_0
  have S2 := box B1.size
  have Lz_2 : Box (w.heap.size < w1.heap.size) := box (Array.getElem?_eq_some_iff.1 Rz_1).1
  have Rt_2 := heap_alloc_last w1 (Obj.cells (rwC ro) 54)
  have B2 := btr B1 (bal w1 (Obj.cells (rwC ro) 54))
  have Rz_2 := heap_of (bal w1 (Obj.cells (rwC ro) 54)) _ _ _ Rz_1
  clear B1 Rz_1
  obtain ⟨ct_2_0, ct_2_1, ct_2_2, ct_2_3, ct_2_4, ct_2_5, ct_2_6⟩ := rwC_cells Rt_2
  have hst := inC_store (x := inZ) Rz_2 rfl
  have rz := setRow_row (c' := inC inZ) Rz_2
  have bz : Below w.heap.size w ((w1.alloc (Obj.cells (rwC ro) 54)).setRow (w.heap.size) (inC inZ)) := Below.setRow B2 (show w.heap.size ≤ w.heap.size by first | exact Nat.le_refl _ | omega | (have := S2.out; have := Lz_2.out; omega))
  obtain ⟨wz, hwz⟩ : ∃ V, (w1.alloc (Obj.cells (rwC ro) 54)).setRow (w.heap.size) (inC inZ) = V := ⟨_, rfl⟩
  rw [hwz] at hst rz bz
  clear hwz
  go_wp2
  exact bodyPost_ret (v := .tuple #[.agg (inC inZ), .int .i64 250]) (res_inC Tryd.results9 rfl rz) rfl ⟨rfl, bz⟩
set_option maxRecDepth 100000 in
set_option maxHeartbeats 8000000 in
theorem t_dec_y (x : Nat) (ro : Rw) (gf : Nat) (j : In) (hix : ∀ w : World, (Instr.index 71 (.agg rdrs) (.int .u8 (ro.lay : Nat))).run Tryd.prog w = .ok (.func (.func gf) #[] #[]) w)
    (KR : Box (∀ (b : Nat) (w : World), w.heap[b]? = some (.cells (inC ⟨ro.op, ro.form, ro.frm, ro.kind, 0, 0, 0, 0, 0, 0, 0⟩) 28) → Calls Tryd.prog gf #[.int .u32 (x : Nat), .pointer (some ⟨b, 0, none⟩)] w (Rd b 28 j w)))
    (hE : ∀ args w, (callFunc gf args).run Tryd.prog w = .ok (.enter gf args) w)
    (KF : Box (∀ w, T24 w → Calls Tryd.prog 23 #[.int .u32 (x : Nat)] w fun r w' => r = .returned (.tuple #[.agg (rwC ro), .bool true]) ∧ Below w.heap.size w w')) (w : World) (hT : T24 w) : Calls Tryd.prog 9 #[.int .u32 (x : Nat)] w fun r w' => r = .returned (.tuple #[.agg (inC j), .int .i64 0]) ∧ Below w.heap.size w w' := by
  have FF := box hT
  clear hT
  have hro := rwC_fold ro
  have hrn := rwC_new
  have hin := inC_new
  have hif := in_fold0
  have hjf := inC_fold j
  have hr0 := rw_at0
  have hr1 := rw_at1
  have hr2 := rw_at2
  have hr3 := rw_at3
  have hr4 := rw_at4
  have hr5 := rw_at5
  have hr6 := rw_at6
  obtain ⟨Rz_0, B0⟩ := opn1 w (Obj.cells #[.int .u8 0, .int .u8 0, .int .u8 0, .int .u8 0, .int .u8 0, .int .u8 0, .int .u8 0, .int .u8 0, .int .u8 0, .int .i16 0, .int .u8 0] 28)
  go_enter Tryd.func9, Tryd.ntmps9
  go_wp2_with fail
  refine (KF.out _ (t24B FF.out B0)).mono ?_
  rintro r w1 ⟨rfl, b1⟩
  have B1 : Below w.heap.size w w1 := btr B0 b1
  have Rz_1 := heap_of b1 _ _ _ Rz_0
  clear b1 B0 Rz_0
  have S2 := box B1.size
  have Lz_2 : Box (w.heap.size < w1.heap.size) := box (Array.getElem?_eq_some_iff.1 Rz_1).1
  have Rt_2 := heap_alloc_last w1 (Obj.cells (rwC ro) 54)
  have B2 := btr B1 (bal w1 (Obj.cells (rwC ro) 54))
  have Rz_2 := heap_of (bal w1 (Obj.cells (rwC ro) 54)) _ _ _ Rz_1
  clear B1 Rz_1
  obtain ⟨ct_2_0, ct_2_1, ct_2_2, ct_2_3, ct_2_4, ct_2_5, ct_2_6⟩ := rwC_cells Rt_2
  have S3 := box B2.size
  have Lz_3 : Box (w.heap.size < (w1.alloc (Obj.cells (rwC ro) 54)).heap.size) := box (Array.getElem?_eq_some_iff.1 Rz_2).1
  have Lt_3 : Box (w1.heap.size < (w1.alloc (Obj.cells (rwC ro) 54)).heap.size) := box (Array.getElem?_eq_some_iff.1 Rt_2).1
  have Z3 := box (size_al w1 (Obj.cells (rwC ro) 54))
  have Ri_3 : ((w1.alloc (Obj.cells (rwC ro) 54)).alloc (Obj.cells (inC ⟨ro.op, ro.form, ro.frm, ro.kind, 0, 0, 0, 0, 0, 0, 0⟩) 28)).heap[w1.heap.size + 1]? = some (Obj.cells (inC ⟨ro.op, ro.form, ro.frm, ro.kind, 0, 0, 0, 0, 0, 0, 0⟩) 28) := by have := heap_alloc_last (w1.alloc (Obj.cells (rwC ro) 54)) (Obj.cells (inC ⟨ro.op, ro.form, ro.frm, ro.kind, 0, 0, 0, 0, 0, 0, 0⟩) 28); simpa only [size_al] using this
  have B3 := btr B2 (bal (w1.alloc (Obj.cells (rwC ro) 54)) (Obj.cells (inC ⟨ro.op, ro.form, ro.frm, ro.kind, 0, 0, 0, 0, 0, 0, 0⟩) 28))
  have Rz_3 := heap_of (bal (w1.alloc (Obj.cells (rwC ro) 54)) (Obj.cells (inC ⟨ro.op, ro.form, ro.frm, ro.kind, 0, 0, 0, 0, 0, 0, 0⟩) 28)) _ _ _ Rz_2
  have Rt_3 := heap_of (bal (w1.alloc (Obj.cells (rwC ro) 54)) (Obj.cells (inC ⟨ro.op, ro.form, ro.frm, ro.kind, 0, 0, 0, 0, 0, 0, 0⟩) 28)) _ _ _ Rt_2
  clear B2 Rz_2 Rt_2 ct_2_0 ct_2_1 ct_2_2 ct_2_3 ct_2_4 ct_2_5 ct_2_6
  obtain ⟨ct_3_0, ct_3_1, ct_3_2, ct_3_3, ct_3_4, ct_3_5, ct_3_6⟩ := rwC_cells Rt_3
  obtain ⟨ci_3_0, ci_3_1, ci_3_2, ci_3_3, ci_3_4, ci_3_5, ci_3_6, ci_3_7, ci_3_8, ci_3_9, ci_3_10⟩ := inC_cells Ri_3
  clear ci_3_0 ci_3_1 ci_3_2 ci_3_3 ci_3_4 ci_3_5 ci_3_6 ci_3_7 ci_3_8 ci_3_9 ci_3_10
  go_wp2_with fail
  obtain ⟨F, hF1, hF2⟩ := below_fun ((w1.alloc (Obj.cells (rwC ro) 54)).alloc (Obj.cells (inC ⟨ro.op, ro.form, ro.frm, ro.kind, 0, 0, 0, 0, 0, 0, 0⟩) 28))
  have fz_0 := fun u => cells4 (heap_of (hF1 u) _ _ _ Rz_3) 0 _ rfl
  have fz_1 := fun u => cells4 (heap_of (hF1 u) _ _ _ Rz_3) 1 _ rfl
  have fz_2 := fun u => cells4 (heap_of (hF1 u) _ _ _ Rz_3) 2 _ rfl
  have fz_3 := fun u => cells4 (heap_of (hF1 u) _ _ _ Rz_3) 3 _ rfl
  have fz_4 := fun u => cells4 (heap_of (hF1 u) _ _ _ Rz_3) 4 _ rfl
  have fz_5 := fun u => cells4 (heap_of (hF1 u) _ _ _ Rz_3) 5 _ rfl
  have fz_6 := fun u => cells4 (heap_of (hF1 u) _ _ _ Rz_3) 6 _ rfl
  have fz_7 := fun u => cells4 (heap_of (hF1 u) _ _ _ Rz_3) 7 _ rfl
  have fz_8 := fun u => cells4 (heap_of (hF1 u) _ _ _ Rz_3) 8 _ rfl
  have fz_9 := fun u => cells4 (heap_of (hF1 u) _ _ _ Rz_3) 9 _ rfl
  have fz_10 := fun u => cells4 (heap_of (hF1 u) _ _ _ Rz_3) 10 _ rfl
  have ft_0 := fun u => (rwC_cells (heap_of (hF1 u) _ _ _ Rt_3)).1
  have ft_1 := fun u => (rwC_cells (heap_of (hF1 u) _ _ _ Rt_3)).2.1
  have ft_2 := fun u => (rwC_cells (heap_of (hF1 u) _ _ _ Rt_3)).2.2.1
  have ft_3 := fun u => (rwC_cells (heap_of (hF1 u) _ _ _ Rt_3)).2.2.2.1
  have ft_4 := fun u => (rwC_cells (heap_of (hF1 u) _ _ _ Rt_3)).2.2.2.2.1
  have ft_5 := fun u => (rwC_cells (heap_of (hF1 u) _ _ _ Rt_3)).2.2.2.2.2.1
  have ft_6 := fun u => (rwC_cells (heap_of (hF1 u) _ _ _ Rt_3)).2.2.2.2.2.2
  refine wp_region_below F hF2 (by kernel_rfl) (by kernel_rfl) ?_
  repeat first | go_big_quiet_step (first | (go_at_call 24; exact quietF hF1 hF2 (t_readers _)) | fail) | quiet_step (first | (go_at_call 24; exact quietF hF1 hF2 (t_readers _)) | fail)
  refine wpQuiet_nil ?_
  rintro _ ⟨uW, rfl⟩
  have B4 := btr B3 (hF1 uW)
  have Rz_4 := heap_of (hF1 uW) _ _ _ Rz_3
  have Rt_4 := heap_of (hF1 uW) _ _ _ Rt_3
  have Ri_4 := heap_of (hF1 uW) _ _ _ Ri_3
  obtain ⟨w4, hw⟩ : ∃ V, F uW = V := ⟨_, rfl⟩
  rw [hw] at B4 Rz_4 Rt_4 Ri_4
  try rw [hw]
  clear hw hF1 hF2 B3 fz_0 fz_1 fz_2 fz_3 fz_4 fz_5 fz_6 fz_7 fz_8 fz_9 fz_10 ft_0 ft_1 ft_2 ft_3 ft_4 ft_5 ft_6 Rz_3 Rt_3 ct_3_0 ct_3_1 ct_3_2 ct_3_3 ct_3_4 ct_3_5 ct_3_6 Ri_3
  clear F
  obtain ⟨ct_4_0, ct_4_1, ct_4_2, ct_4_3, ct_4_4, ct_4_5, ct_4_6⟩ := rwC_cells Rt_4
  go_wp2_with fail
  refine (KR.out _ _ Ri_4).mono ?_
  rintro r w5 ⟨⟨v5, rfl⟩, Ri_5, b5⟩
  have B5 : Below w.heap.size w w5 := B4.trans (b5 _ (by first | exact Nat.le_refl _ | (have := S2.out; have := Lz_2.out; have := Z3.out; have := S3.out; have := Lz_3.out; have := Lt_3.out; show w.heap.size ≤ w1.heap.size + 1; omega)))
  have Rz_5 : w5.heap[w.heap.size]? = some (Obj.cells #[.int .u8 0, .int .u8 0, .int .u8 0, .int .u8 0, .int .u8 0, .int .u8 0, .int .u8 0, .int .u8 0, .int .u8 0, .int .i16 0, .int .u8 0] 28) := by rw [(b5 _ (Nat.le_refl _)).block _ (by first | omega | (have := S2.out; have := Lz_2.out; have := Z3.out; have := S3.out; have := Lz_3.out; have := Lt_3.out; omega))]; exact Rz_4
  have Rt_5 : w5.heap[w1.heap.size]? = some (Obj.cells (rwC ro) 54) := by rw [(b5 _ (Nat.le_refl _)).block _ (by first | omega | (have := S2.out; have := Lz_2.out; have := Z3.out; have := S3.out; have := Lz_3.out; have := Lt_3.out; omega))]; exact Rt_4
  clear b5 B4 Rz_4 Rt_4 ct_4_0 ct_4_1 ct_4_2 ct_4_3 ct_4_4 ct_4_5 ct_4_6 Ri_4
  obtain ⟨ct_5_0, ct_5_1, ct_5_2, ct_5_3, ct_5_4, ct_5_5, ct_5_6⟩ := rwC_cells Rt_5
  clear Rt_5 ct_5_0 ct_5_1 ct_5_2 ct_5_3 ct_5_4 ct_5_5 ct_5_6
  obtain ⟨ci_5_0, ci_5_1, ci_5_2, ci_5_3, ci_5_4, ci_5_5, ci_5_6, ci_5_7, ci_5_8, ci_5_9, ci_5_10⟩ := inC_cells Ri_5
  have hst := inC_store (x := j) Rz_5 rfl
  have rz := setRow_row (c' := inC j) Rz_5
  have bz : Below w.heap.size w (w5.setRow (w.heap.size) (inC j)) := Below.setRow B5 (show w.heap.size ≤ w.heap.size by first | exact Nat.le_refl _ | omega | (have := S2.out; have := Lz_2.out; have := Z3.out; have := S3.out; have := Lz_3.out; have := Lt_3.out; omega))
  obtain ⟨wz, hwz⟩ : ∃ V, w5.setRow (w.heap.size) (inC j) = V := ⟨_, rfl⟩
  rw [hwz] at hst rz bz
  clear hwz
  go_wp2
  exact bodyPost_ret (v := .tuple #[.agg (inC j), .int .i64 0]) (res_inC Tryd.results9 rfl rz) rfl ⟨rfl, bz⟩
set_option maxRecDepth 100000 in
set_option maxHeartbeats 8000000 in
theorem t_set (r A : Nat) (pa : (2 : Int) ^ min r 32 % 4294967296 = (A : Nat)) (w : World) : Calls Tryd.prog 52 #[.int .u8 (r : Nat)] w fun e w' => e = .returned (.int .u32 (A : Nat)) ∧ w' = w := by
  go_enter Tryd.func52, Tryd.ntmps52
  go_wp2
  rw [pa]
  go_ret
  exact ⟨rfl, rfl⟩
set_option maxRecDepth 100000 in
set_option maxHeartbeats 8000000 in
theorem t_uses1 (op : Nat) (ho : op = 1 ∨ op = 22 ∨ op = 25) (fo fr kd rd rs1 rs2 rs3 rm : Nat) (im : Int) (cs A B C D AB ABC : Nat) (pa : (2 : Int) ^ min rs1 32 % 4294967296 = (A : Nat)) (pb : (2 : Int) ^ min rs2 32 % 4294967296 = (B : Nat)) (pc : (2 : Int) ^ min rs3 32 % 4294967296 = (C : Nat)) (pd : (2 : Int) ^ min rd 32 % 4294967296 = (D : Nat)) (ob : bits .or .u32 (A : Nat) (B : Nat) = (AB : Nat)) (oc : bits .or .u32 (AB : Nat) (C : Nat) = (ABC : Nat)) (w : World) : Calls Tryd.prog 27 #[.agg (inC ⟨op, fo, fr, kd, rd, rs1, rs2, rs3, rm, im, cs⟩)] w fun r w' => r = .returned (.agg (usC ⟨A, 0, 0, D⟩)) ∧ Below w.heap.size w w' := by
  have hf : #[Value.int .u32 (A : Nat), .int .u32 0, .int .u32 0, .int .u32 (D : Nat)] = usC ⟨A, 0, 0, D⟩ := rfl
  have KA := box (fun w => t_set rs1 A pa w)
  have KB := box (fun w => t_set rs2 B pb w)
  have KC := box (fun w => t_set rs3 C pc w)
  have KD := box (fun w => t_set rd D pd w)
  clear pa pb pc pd
  rcases ho with rfl | rfl | rfl
  · have hO : True := trivial
    obtain ⟨Rx_0, Rz_0, B0⟩ := opn2 w (Obj.cells (inC ⟨1, fo, fr, kd, rd, rs1, rs2, rs3, rm, im, cs⟩) 28) (Obj.cells #[.int .u32 0, .int .u32 0, .int .u32 0, .int .u32 0] 33)
    go_enter Tryd.func27, Tryd.ntmps27
    obtain ⟨cx_0_0, cx_0_1, cx_0_2, cx_0_3, cx_0_4, cx_0_5, cx_0_6, cx_0_7, cx_0_8, cx_0_9, cx_0_10⟩ := inC_cells Rx_0
    go_wp2_with fail
    go_quiet ((go_at_call 52; with_reducible first | exact (KD.out _).mono (fun _ _ h => ⟨h.1, _, h.2⟩) | exact (KA.out _).mono (fun _ _ h => ⟨h.1, _, h.2⟩) | exact (KB.out _).mono (fun _ _ h => ⟨h.1, _, h.2⟩) | exact (KC.out _).mono (fun _ _ h => ⟨h.1, _, h.2⟩)))
    obtain ⟨w1, hw, B1, hh⟩ := quiet_world B0 nq
    rw [hw]
    have Rx_1 : w1.heap[w.heap.size]? = some (Obj.cells (inC ⟨1, fo, fr, kd, rd, rs1, rs2, rs3, rm, im, cs⟩) 28) := by rw [hh]; exact Rx_0
    have Rz_1 : w1.heap[w.heap.size + 1]? = some (Obj.cells #[.int .u32 0, .int .u32 0, .int .u32 0, .int .u32 0] 33) := by rw [hh]; exact Rz_0
    clear hw hh B0 Rx_0 cx_0_0 cx_0_1 cx_0_2 cx_0_3 cx_0_4 cx_0_5 cx_0_6 cx_0_7 cx_0_8 cx_0_9 cx_0_10 Rz_0
    obtain ⟨cx_1_0, cx_1_1, cx_1_2, cx_1_3, cx_1_4, cx_1_5, cx_1_6, cx_1_7, cx_1_8, cx_1_9, cx_1_10⟩ := inC_cells Rx_1
    have hst := usC_store (x := ⟨A, 0, 0, D⟩) Rz_1 rfl
    have rz := setRow_row (c' := usC ⟨A, 0, 0, D⟩) Rz_1
    have bz : Below w.heap.size w (w1.setRow (w.heap.size + 1) (usC ⟨A, 0, 0, D⟩)) := Below.setRow B1 (show w.heap.size ≤ w.heap.size + 1 by first | exact Nat.le_refl _ | omega | (skip; omega))
    obtain ⟨wz, hwz⟩ : ∃ V, w1.setRow (w.heap.size + 1) (usC ⟨A, 0, 0, D⟩) = V := ⟨_, rfl⟩
    rw [hwz] at hst rz bz
    clear hwz
    go_wp2
    exact bodyPost_ret (v := .agg (usC ⟨A, 0, 0, D⟩)) (res_usC Tryd.results27 rfl rz) rfl ⟨rfl, bz⟩
  · have hO : True := trivial
    obtain ⟨Rx_0, Rz_0, B0⟩ := opn2 w (Obj.cells (inC ⟨22, fo, fr, kd, rd, rs1, rs2, rs3, rm, im, cs⟩) 28) (Obj.cells #[.int .u32 0, .int .u32 0, .int .u32 0, .int .u32 0] 33)
    go_enter Tryd.func27, Tryd.ntmps27
    obtain ⟨cx_0_0, cx_0_1, cx_0_2, cx_0_3, cx_0_4, cx_0_5, cx_0_6, cx_0_7, cx_0_8, cx_0_9, cx_0_10⟩ := inC_cells Rx_0
    go_wp2_with fail
    go_quiet ((go_at_call 52; with_reducible first | exact (KD.out _).mono (fun _ _ h => ⟨h.1, _, h.2⟩) | exact (KA.out _).mono (fun _ _ h => ⟨h.1, _, h.2⟩) | exact (KB.out _).mono (fun _ _ h => ⟨h.1, _, h.2⟩) | exact (KC.out _).mono (fun _ _ h => ⟨h.1, _, h.2⟩)))
    obtain ⟨w1, hw, B1, hh⟩ := quiet_world B0 nq
    rw [hw]
    have Rx_1 : w1.heap[w.heap.size]? = some (Obj.cells (inC ⟨22, fo, fr, kd, rd, rs1, rs2, rs3, rm, im, cs⟩) 28) := by rw [hh]; exact Rx_0
    have Rz_1 : w1.heap[w.heap.size + 1]? = some (Obj.cells #[.int .u32 0, .int .u32 0, .int .u32 0, .int .u32 0] 33) := by rw [hh]; exact Rz_0
    clear hw hh B0 Rx_0 cx_0_0 cx_0_1 cx_0_2 cx_0_3 cx_0_4 cx_0_5 cx_0_6 cx_0_7 cx_0_8 cx_0_9 cx_0_10 Rz_0
    obtain ⟨cx_1_0, cx_1_1, cx_1_2, cx_1_3, cx_1_4, cx_1_5, cx_1_6, cx_1_7, cx_1_8, cx_1_9, cx_1_10⟩ := inC_cells Rx_1
    have hst := usC_store (x := ⟨A, 0, 0, D⟩) Rz_1 rfl
    have rz := setRow_row (c' := usC ⟨A, 0, 0, D⟩) Rz_1
    have bz : Below w.heap.size w (w1.setRow (w.heap.size + 1) (usC ⟨A, 0, 0, D⟩)) := Below.setRow B1 (show w.heap.size ≤ w.heap.size + 1 by first | exact Nat.le_refl _ | omega | (skip; omega))
    obtain ⟨wz, hwz⟩ : ∃ V, w1.setRow (w.heap.size + 1) (usC ⟨A, 0, 0, D⟩) = V := ⟨_, rfl⟩
    rw [hwz] at hst rz bz
    clear hwz
    go_wp2
    exact bodyPost_ret (v := .agg (usC ⟨A, 0, 0, D⟩)) (res_usC Tryd.results27 rfl rz) rfl ⟨rfl, bz⟩
  · have hO : True := trivial
    obtain ⟨Rx_0, Rz_0, B0⟩ := opn2 w (Obj.cells (inC ⟨25, fo, fr, kd, rd, rs1, rs2, rs3, rm, im, cs⟩) 28) (Obj.cells #[.int .u32 0, .int .u32 0, .int .u32 0, .int .u32 0] 33)
    go_enter Tryd.func27, Tryd.ntmps27
    obtain ⟨cx_0_0, cx_0_1, cx_0_2, cx_0_3, cx_0_4, cx_0_5, cx_0_6, cx_0_7, cx_0_8, cx_0_9, cx_0_10⟩ := inC_cells Rx_0
    go_wp2_with fail
    go_quiet ((go_at_call 52; with_reducible first | exact (KD.out _).mono (fun _ _ h => ⟨h.1, _, h.2⟩) | exact (KA.out _).mono (fun _ _ h => ⟨h.1, _, h.2⟩) | exact (KB.out _).mono (fun _ _ h => ⟨h.1, _, h.2⟩) | exact (KC.out _).mono (fun _ _ h => ⟨h.1, _, h.2⟩)))
    obtain ⟨w1, hw, B1, hh⟩ := quiet_world B0 nq
    rw [hw]
    have Rx_1 : w1.heap[w.heap.size]? = some (Obj.cells (inC ⟨25, fo, fr, kd, rd, rs1, rs2, rs3, rm, im, cs⟩) 28) := by rw [hh]; exact Rx_0
    have Rz_1 : w1.heap[w.heap.size + 1]? = some (Obj.cells #[.int .u32 0, .int .u32 0, .int .u32 0, .int .u32 0] 33) := by rw [hh]; exact Rz_0
    clear hw hh B0 Rx_0 cx_0_0 cx_0_1 cx_0_2 cx_0_3 cx_0_4 cx_0_5 cx_0_6 cx_0_7 cx_0_8 cx_0_9 cx_0_10 Rz_0
    obtain ⟨cx_1_0, cx_1_1, cx_1_2, cx_1_3, cx_1_4, cx_1_5, cx_1_6, cx_1_7, cx_1_8, cx_1_9, cx_1_10⟩ := inC_cells Rx_1
    have hst := usC_store (x := ⟨A, 0, 0, D⟩) Rz_1 rfl
    have rz := setRow_row (c' := usC ⟨A, 0, 0, D⟩) Rz_1
    have bz : Below w.heap.size w (w1.setRow (w.heap.size + 1) (usC ⟨A, 0, 0, D⟩)) := Below.setRow B1 (show w.heap.size ≤ w.heap.size + 1 by first | exact Nat.le_refl _ | omega | (skip; omega))
    obtain ⟨wz, hwz⟩ : ∃ V, w1.setRow (w.heap.size + 1) (usC ⟨A, 0, 0, D⟩) = V := ⟨_, rfl⟩
    rw [hwz] at hst rz bz
    clear hwz
    go_wp2
    exact bodyPost_ret (v := .agg (usC ⟨A, 0, 0, D⟩)) (res_usC Tryd.results27 rfl rz) rfl ⟨rfl, bz⟩
set_option maxRecDepth 100000 in
set_option maxHeartbeats 8000000 in
theorem t_uses2 (op : Nat) (ho : op = 2) (fo fr kd rd rs1 rs2 rs3 rm : Nat) (im : Int) (cs A B C D AB ABC : Nat) (pa : (2 : Int) ^ min rs1 32 % 4294967296 = (A : Nat)) (pb : (2 : Int) ^ min rs2 32 % 4294967296 = (B : Nat)) (pc : (2 : Int) ^ min rs3 32 % 4294967296 = (C : Nat)) (pd : (2 : Int) ^ min rd 32 % 4294967296 = (D : Nat)) (ob : bits .or .u32 (A : Nat) (B : Nat) = (AB : Nat)) (oc : bits .or .u32 (AB : Nat) (C : Nat) = (ABC : Nat)) (w : World) : Calls Tryd.prog 27 #[.agg (inC ⟨op, fo, fr, kd, rd, rs1, rs2, rs3, rm, im, cs⟩)] w fun r w' => r = .returned (.agg (usC ⟨A, B, 0, 0⟩)) ∧ Below w.heap.size w w' := by
  have hf : #[Value.int .u32 (A : Nat), .int .u32 (B : Nat), .int .u32 0, .int .u32 0] = usC ⟨A, B, 0, 0⟩ := rfl
  have KA := box (fun w => t_set rs1 A pa w)
  have KB := box (fun w => t_set rs2 B pb w)
  have KC := box (fun w => t_set rs3 C pc w)
  have KD := box (fun w => t_set rd D pd w)
  clear pa pb pc pd
  rcases ho with rfl
  · have hO : True := trivial
    obtain ⟨Rx_0, Rz_0, B0⟩ := opn2 w (Obj.cells (inC ⟨2, fo, fr, kd, rd, rs1, rs2, rs3, rm, im, cs⟩) 28) (Obj.cells #[.int .u32 0, .int .u32 0, .int .u32 0, .int .u32 0] 33)
    go_enter Tryd.func27, Tryd.ntmps27
    obtain ⟨cx_0_0, cx_0_1, cx_0_2, cx_0_3, cx_0_4, cx_0_5, cx_0_6, cx_0_7, cx_0_8, cx_0_9, cx_0_10⟩ := inC_cells Rx_0
    go_wp2_with fail
    go_quiet ((go_at_call 52; with_reducible first | exact (KD.out _).mono (fun _ _ h => ⟨h.1, _, h.2⟩) | exact (KA.out _).mono (fun _ _ h => ⟨h.1, _, h.2⟩) | exact (KB.out _).mono (fun _ _ h => ⟨h.1, _, h.2⟩) | exact (KC.out _).mono (fun _ _ h => ⟨h.1, _, h.2⟩)))
    obtain ⟨w1, hw, B1, hh⟩ := quiet_world B0 nq
    rw [hw]
    have Rx_1 : w1.heap[w.heap.size]? = some (Obj.cells (inC ⟨2, fo, fr, kd, rd, rs1, rs2, rs3, rm, im, cs⟩) 28) := by rw [hh]; exact Rx_0
    have Rz_1 : w1.heap[w.heap.size + 1]? = some (Obj.cells #[.int .u32 0, .int .u32 0, .int .u32 0, .int .u32 0] 33) := by rw [hh]; exact Rz_0
    clear hw hh B0 Rx_0 cx_0_0 cx_0_1 cx_0_2 cx_0_3 cx_0_4 cx_0_5 cx_0_6 cx_0_7 cx_0_8 cx_0_9 cx_0_10 Rz_0
    obtain ⟨cx_1_0, cx_1_1, cx_1_2, cx_1_3, cx_1_4, cx_1_5, cx_1_6, cx_1_7, cx_1_8, cx_1_9, cx_1_10⟩ := inC_cells Rx_1
    have hst := usC_store (x := ⟨A, B, 0, 0⟩) Rz_1 rfl
    have rz := setRow_row (c' := usC ⟨A, B, 0, 0⟩) Rz_1
    have bz : Below w.heap.size w (w1.setRow (w.heap.size + 1) (usC ⟨A, B, 0, 0⟩)) := Below.setRow B1 (show w.heap.size ≤ w.heap.size + 1 by first | exact Nat.le_refl _ | omega | (skip; omega))
    obtain ⟨wz, hwz⟩ : ∃ V, w1.setRow (w.heap.size + 1) (usC ⟨A, B, 0, 0⟩) = V := ⟨_, rfl⟩
    rw [hwz] at hst rz bz
    clear hwz
    go_wp2
    exact bodyPost_ret (v := .agg (usC ⟨A, B, 0, 0⟩)) (res_usC Tryd.results27 rfl rz) rfl ⟨rfl, bz⟩
set_option maxRecDepth 100000 in
set_option maxHeartbeats 8000000 in
theorem t_uses3 (op : Nat) (ho : op = 3 ∨ op = 4 ∨ op = 5 ∨ op = 6) (fo fr kd rd rs1 rs2 rs3 rm : Nat) (im : Int) (cs A B C D AB ABC : Nat) (pa : (2 : Int) ^ min rs1 32 % 4294967296 = (A : Nat)) (pb : (2 : Int) ^ min rs2 32 % 4294967296 = (B : Nat)) (pc : (2 : Int) ^ min rs3 32 % 4294967296 = (C : Nat)) (pd : (2 : Int) ^ min rd 32 % 4294967296 = (D : Nat)) (ob : bits .or .u32 (A : Nat) (B : Nat) = (AB : Nat)) (oc : bits .or .u32 (AB : Nat) (C : Nat) = (ABC : Nat)) (w : World) : Calls Tryd.prog 27 #[.agg (inC ⟨op, fo, fr, kd, rd, rs1, rs2, rs3, rm, im, cs⟩)] w fun r w' => r = .returned (.agg (usC ⟨0, ABC, 0, D⟩)) ∧ Below w.heap.size w w' := by
  have hf : #[Value.int .u32 0, .int .u32 (ABC : Nat), .int .u32 0, .int .u32 (D : Nat)] = usC ⟨0, ABC, 0, D⟩ := rfl
  have KA := box (fun w => t_set rs1 A pa w)
  have KB := box (fun w => t_set rs2 B pb w)
  have KC := box (fun w => t_set rs3 C pc w)
  have KD := box (fun w => t_set rd D pd w)
  clear pa pb pc pd
  rcases ho with rfl | rfl | rfl | rfl
  · have hO : True := trivial
    obtain ⟨Rx_0, Rz_0, B0⟩ := opn2 w (Obj.cells (inC ⟨3, fo, fr, kd, rd, rs1, rs2, rs3, rm, im, cs⟩) 28) (Obj.cells #[.int .u32 0, .int .u32 0, .int .u32 0, .int .u32 0] 33)
    go_enter Tryd.func27, Tryd.ntmps27
    obtain ⟨cx_0_0, cx_0_1, cx_0_2, cx_0_3, cx_0_4, cx_0_5, cx_0_6, cx_0_7, cx_0_8, cx_0_9, cx_0_10⟩ := inC_cells Rx_0
    go_wp2_with fail
    go_quiet ((go_at_call 52; with_reducible first | exact (KD.out _).mono (fun _ _ h => ⟨h.1, _, h.2⟩) | exact (KA.out _).mono (fun _ _ h => ⟨h.1, _, h.2⟩) | exact (KB.out _).mono (fun _ _ h => ⟨h.1, _, h.2⟩) | exact (KC.out _).mono (fun _ _ h => ⟨h.1, _, h.2⟩)))
    obtain ⟨w1, hw, B1, hh⟩ := quiet_world B0 nq
    rw [hw]
    have Rx_1 : w1.heap[w.heap.size]? = some (Obj.cells (inC ⟨3, fo, fr, kd, rd, rs1, rs2, rs3, rm, im, cs⟩) 28) := by rw [hh]; exact Rx_0
    have Rz_1 : w1.heap[w.heap.size + 1]? = some (Obj.cells #[.int .u32 0, .int .u32 0, .int .u32 0, .int .u32 0] 33) := by rw [hh]; exact Rz_0
    clear hw hh B0 Rx_0 cx_0_0 cx_0_1 cx_0_2 cx_0_3 cx_0_4 cx_0_5 cx_0_6 cx_0_7 cx_0_8 cx_0_9 cx_0_10 Rz_0
    obtain ⟨cx_1_0, cx_1_1, cx_1_2, cx_1_3, cx_1_4, cx_1_5, cx_1_6, cx_1_7, cx_1_8, cx_1_9, cx_1_10⟩ := inC_cells Rx_1
    have hst := usC_store (x := ⟨0, ABC, 0, D⟩) Rz_1 rfl
    have rz := setRow_row (c' := usC ⟨0, ABC, 0, D⟩) Rz_1
    have bz : Below w.heap.size w (w1.setRow (w.heap.size + 1) (usC ⟨0, ABC, 0, D⟩)) := Below.setRow B1 (show w.heap.size ≤ w.heap.size + 1 by first | exact Nat.le_refl _ | omega | (skip; omega))
    obtain ⟨wz, hwz⟩ : ∃ V, w1.setRow (w.heap.size + 1) (usC ⟨0, ABC, 0, D⟩) = V := ⟨_, rfl⟩
    rw [hwz] at hst rz bz
    clear hwz
    go_wp2
    exact bodyPost_ret (v := .agg (usC ⟨0, ABC, 0, D⟩)) (res_usC Tryd.results27 rfl rz) rfl ⟨rfl, bz⟩
  · have hO : True := trivial
    obtain ⟨Rx_0, Rz_0, B0⟩ := opn2 w (Obj.cells (inC ⟨4, fo, fr, kd, rd, rs1, rs2, rs3, rm, im, cs⟩) 28) (Obj.cells #[.int .u32 0, .int .u32 0, .int .u32 0, .int .u32 0] 33)
    go_enter Tryd.func27, Tryd.ntmps27
    obtain ⟨cx_0_0, cx_0_1, cx_0_2, cx_0_3, cx_0_4, cx_0_5, cx_0_6, cx_0_7, cx_0_8, cx_0_9, cx_0_10⟩ := inC_cells Rx_0
    go_wp2_with fail
    go_quiet ((go_at_call 52; with_reducible first | exact (KD.out _).mono (fun _ _ h => ⟨h.1, _, h.2⟩) | exact (KA.out _).mono (fun _ _ h => ⟨h.1, _, h.2⟩) | exact (KB.out _).mono (fun _ _ h => ⟨h.1, _, h.2⟩) | exact (KC.out _).mono (fun _ _ h => ⟨h.1, _, h.2⟩)))
    obtain ⟨w1, hw, B1, hh⟩ := quiet_world B0 nq
    rw [hw]
    have Rx_1 : w1.heap[w.heap.size]? = some (Obj.cells (inC ⟨4, fo, fr, kd, rd, rs1, rs2, rs3, rm, im, cs⟩) 28) := by rw [hh]; exact Rx_0
    have Rz_1 : w1.heap[w.heap.size + 1]? = some (Obj.cells #[.int .u32 0, .int .u32 0, .int .u32 0, .int .u32 0] 33) := by rw [hh]; exact Rz_0
    clear hw hh B0 Rx_0 cx_0_0 cx_0_1 cx_0_2 cx_0_3 cx_0_4 cx_0_5 cx_0_6 cx_0_7 cx_0_8 cx_0_9 cx_0_10 Rz_0
    obtain ⟨cx_1_0, cx_1_1, cx_1_2, cx_1_3, cx_1_4, cx_1_5, cx_1_6, cx_1_7, cx_1_8, cx_1_9, cx_1_10⟩ := inC_cells Rx_1
    have hst := usC_store (x := ⟨0, ABC, 0, D⟩) Rz_1 rfl
    have rz := setRow_row (c' := usC ⟨0, ABC, 0, D⟩) Rz_1
    have bz : Below w.heap.size w (w1.setRow (w.heap.size + 1) (usC ⟨0, ABC, 0, D⟩)) := Below.setRow B1 (show w.heap.size ≤ w.heap.size + 1 by first | exact Nat.le_refl _ | omega | (skip; omega))
    obtain ⟨wz, hwz⟩ : ∃ V, w1.setRow (w.heap.size + 1) (usC ⟨0, ABC, 0, D⟩) = V := ⟨_, rfl⟩
    rw [hwz] at hst rz bz
    clear hwz
    go_wp2
    exact bodyPost_ret (v := .agg (usC ⟨0, ABC, 0, D⟩)) (res_usC Tryd.results27 rfl rz) rfl ⟨rfl, bz⟩
  · have hO : True := trivial
    obtain ⟨Rx_0, Rz_0, B0⟩ := opn2 w (Obj.cells (inC ⟨5, fo, fr, kd, rd, rs1, rs2, rs3, rm, im, cs⟩) 28) (Obj.cells #[.int .u32 0, .int .u32 0, .int .u32 0, .int .u32 0] 33)
    go_enter Tryd.func27, Tryd.ntmps27
    obtain ⟨cx_0_0, cx_0_1, cx_0_2, cx_0_3, cx_0_4, cx_0_5, cx_0_6, cx_0_7, cx_0_8, cx_0_9, cx_0_10⟩ := inC_cells Rx_0
    go_wp2_with fail
    go_quiet ((go_at_call 52; with_reducible first | exact (KD.out _).mono (fun _ _ h => ⟨h.1, _, h.2⟩) | exact (KA.out _).mono (fun _ _ h => ⟨h.1, _, h.2⟩) | exact (KB.out _).mono (fun _ _ h => ⟨h.1, _, h.2⟩) | exact (KC.out _).mono (fun _ _ h => ⟨h.1, _, h.2⟩)))
    obtain ⟨w1, hw, B1, hh⟩ := quiet_world B0 nq
    rw [hw]
    have Rx_1 : w1.heap[w.heap.size]? = some (Obj.cells (inC ⟨5, fo, fr, kd, rd, rs1, rs2, rs3, rm, im, cs⟩) 28) := by rw [hh]; exact Rx_0
    have Rz_1 : w1.heap[w.heap.size + 1]? = some (Obj.cells #[.int .u32 0, .int .u32 0, .int .u32 0, .int .u32 0] 33) := by rw [hh]; exact Rz_0
    clear hw hh B0 Rx_0 cx_0_0 cx_0_1 cx_0_2 cx_0_3 cx_0_4 cx_0_5 cx_0_6 cx_0_7 cx_0_8 cx_0_9 cx_0_10 Rz_0
    obtain ⟨cx_1_0, cx_1_1, cx_1_2, cx_1_3, cx_1_4, cx_1_5, cx_1_6, cx_1_7, cx_1_8, cx_1_9, cx_1_10⟩ := inC_cells Rx_1
    have hst := usC_store (x := ⟨0, ABC, 0, D⟩) Rz_1 rfl
    have rz := setRow_row (c' := usC ⟨0, ABC, 0, D⟩) Rz_1
    have bz : Below w.heap.size w (w1.setRow (w.heap.size + 1) (usC ⟨0, ABC, 0, D⟩)) := Below.setRow B1 (show w.heap.size ≤ w.heap.size + 1 by first | exact Nat.le_refl _ | omega | (skip; omega))
    obtain ⟨wz, hwz⟩ : ∃ V, w1.setRow (w.heap.size + 1) (usC ⟨0, ABC, 0, D⟩) = V := ⟨_, rfl⟩
    rw [hwz] at hst rz bz
    clear hwz
    go_wp2
    exact bodyPost_ret (v := .agg (usC ⟨0, ABC, 0, D⟩)) (res_usC Tryd.results27 rfl rz) rfl ⟨rfl, bz⟩
  · have hO : True := trivial
    obtain ⟨Rx_0, Rz_0, B0⟩ := opn2 w (Obj.cells (inC ⟨6, fo, fr, kd, rd, rs1, rs2, rs3, rm, im, cs⟩) 28) (Obj.cells #[.int .u32 0, .int .u32 0, .int .u32 0, .int .u32 0] 33)
    go_enter Tryd.func27, Tryd.ntmps27
    obtain ⟨cx_0_0, cx_0_1, cx_0_2, cx_0_3, cx_0_4, cx_0_5, cx_0_6, cx_0_7, cx_0_8, cx_0_9, cx_0_10⟩ := inC_cells Rx_0
    go_wp2_with fail
    go_quiet ((go_at_call 52; with_reducible first | exact (KD.out _).mono (fun _ _ h => ⟨h.1, _, h.2⟩) | exact (KA.out _).mono (fun _ _ h => ⟨h.1, _, h.2⟩) | exact (KB.out _).mono (fun _ _ h => ⟨h.1, _, h.2⟩) | exact (KC.out _).mono (fun _ _ h => ⟨h.1, _, h.2⟩)))
    obtain ⟨w1, hw, B1, hh⟩ := quiet_world B0 nq
    rw [hw]
    have Rx_1 : w1.heap[w.heap.size]? = some (Obj.cells (inC ⟨6, fo, fr, kd, rd, rs1, rs2, rs3, rm, im, cs⟩) 28) := by rw [hh]; exact Rx_0
    have Rz_1 : w1.heap[w.heap.size + 1]? = some (Obj.cells #[.int .u32 0, .int .u32 0, .int .u32 0, .int .u32 0] 33) := by rw [hh]; exact Rz_0
    clear hw hh B0 Rx_0 cx_0_0 cx_0_1 cx_0_2 cx_0_3 cx_0_4 cx_0_5 cx_0_6 cx_0_7 cx_0_8 cx_0_9 cx_0_10 Rz_0
    obtain ⟨cx_1_0, cx_1_1, cx_1_2, cx_1_3, cx_1_4, cx_1_5, cx_1_6, cx_1_7, cx_1_8, cx_1_9, cx_1_10⟩ := inC_cells Rx_1
    have hst := usC_store (x := ⟨0, ABC, 0, D⟩) Rz_1 rfl
    have rz := setRow_row (c' := usC ⟨0, ABC, 0, D⟩) Rz_1
    have bz : Below w.heap.size w (w1.setRow (w.heap.size + 1) (usC ⟨0, ABC, 0, D⟩)) := Below.setRow B1 (show w.heap.size ≤ w.heap.size + 1 by first | exact Nat.le_refl _ | omega | (skip; omega))
    obtain ⟨wz, hwz⟩ : ∃ V, w1.setRow (w.heap.size + 1) (usC ⟨0, ABC, 0, D⟩) = V := ⟨_, rfl⟩
    rw [hwz] at hst rz bz
    clear hwz
    go_wp2
    exact bodyPost_ret (v := .agg (usC ⟨0, ABC, 0, D⟩)) (res_usC Tryd.results27 rfl rz) rfl ⟨rfl, bz⟩
set_option maxRecDepth 100000 in
set_option maxHeartbeats 8000000 in
theorem t_uses7 (op : Nat) (ho : op = 7 ∨ op = 8 ∨ op = 9 ∨ op = 10 ∨ op = 12 ∨ op = 13 ∨ op = 14 ∨ op = 15 ∨ op = 16) (fo fr kd rd rs1 rs2 rs3 rm : Nat) (im : Int) (cs A B C D AB ABC : Nat) (pa : (2 : Int) ^ min rs1 32 % 4294967296 = (A : Nat)) (pb : (2 : Int) ^ min rs2 32 % 4294967296 = (B : Nat)) (pc : (2 : Int) ^ min rs3 32 % 4294967296 = (C : Nat)) (pd : (2 : Int) ^ min rd 32 % 4294967296 = (D : Nat)) (ob : bits .or .u32 (A : Nat) (B : Nat) = (AB : Nat)) (oc : bits .or .u32 (AB : Nat) (C : Nat) = (ABC : Nat)) (w : World) : Calls Tryd.prog 27 #[.agg (inC ⟨op, fo, fr, kd, rd, rs1, rs2, rs3, rm, im, cs⟩)] w fun r w' => r = .returned (.agg (usC ⟨0, AB, 0, D⟩)) ∧ Below w.heap.size w w' := by
  have hf : #[Value.int .u32 0, .int .u32 (AB : Nat), .int .u32 0, .int .u32 (D : Nat)] = usC ⟨0, AB, 0, D⟩ := rfl
  have KA := box (fun w => t_set rs1 A pa w)
  have KB := box (fun w => t_set rs2 B pb w)
  have KC := box (fun w => t_set rs3 C pc w)
  have KD := box (fun w => t_set rd D pd w)
  clear pa pb pc pd
  rcases ho with rfl | rfl | rfl | rfl | rfl | rfl | rfl | rfl | rfl
  · have hO : True := trivial
    obtain ⟨Rx_0, Rz_0, B0⟩ := opn2 w (Obj.cells (inC ⟨7, fo, fr, kd, rd, rs1, rs2, rs3, rm, im, cs⟩) 28) (Obj.cells #[.int .u32 0, .int .u32 0, .int .u32 0, .int .u32 0] 33)
    go_enter Tryd.func27, Tryd.ntmps27
    obtain ⟨cx_0_0, cx_0_1, cx_0_2, cx_0_3, cx_0_4, cx_0_5, cx_0_6, cx_0_7, cx_0_8, cx_0_9, cx_0_10⟩ := inC_cells Rx_0
    go_wp2_with fail
    go_quiet ((go_at_call 52; with_reducible first | exact (KD.out _).mono (fun _ _ h => ⟨h.1, _, h.2⟩) | exact (KA.out _).mono (fun _ _ h => ⟨h.1, _, h.2⟩) | exact (KB.out _).mono (fun _ _ h => ⟨h.1, _, h.2⟩) | exact (KC.out _).mono (fun _ _ h => ⟨h.1, _, h.2⟩)))
    obtain ⟨w1, hw, B1, hh⟩ := quiet_world B0 nq
    rw [hw]
    have Rx_1 : w1.heap[w.heap.size]? = some (Obj.cells (inC ⟨7, fo, fr, kd, rd, rs1, rs2, rs3, rm, im, cs⟩) 28) := by rw [hh]; exact Rx_0
    have Rz_1 : w1.heap[w.heap.size + 1]? = some (Obj.cells #[.int .u32 0, .int .u32 0, .int .u32 0, .int .u32 0] 33) := by rw [hh]; exact Rz_0
    clear hw hh B0 Rx_0 cx_0_0 cx_0_1 cx_0_2 cx_0_3 cx_0_4 cx_0_5 cx_0_6 cx_0_7 cx_0_8 cx_0_9 cx_0_10 Rz_0
    obtain ⟨cx_1_0, cx_1_1, cx_1_2, cx_1_3, cx_1_4, cx_1_5, cx_1_6, cx_1_7, cx_1_8, cx_1_9, cx_1_10⟩ := inC_cells Rx_1
    have hst := usC_store (x := ⟨0, AB, 0, D⟩) Rz_1 rfl
    have rz := setRow_row (c' := usC ⟨0, AB, 0, D⟩) Rz_1
    have bz : Below w.heap.size w (w1.setRow (w.heap.size + 1) (usC ⟨0, AB, 0, D⟩)) := Below.setRow B1 (show w.heap.size ≤ w.heap.size + 1 by first | exact Nat.le_refl _ | omega | (skip; omega))
    obtain ⟨wz, hwz⟩ : ∃ V, w1.setRow (w.heap.size + 1) (usC ⟨0, AB, 0, D⟩) = V := ⟨_, rfl⟩
    rw [hwz] at hst rz bz
    clear hwz
    go_wp2
    exact bodyPost_ret (v := .agg (usC ⟨0, AB, 0, D⟩)) (res_usC Tryd.results27 rfl rz) rfl ⟨rfl, bz⟩
  · have hO : True := trivial
    obtain ⟨Rx_0, Rz_0, B0⟩ := opn2 w (Obj.cells (inC ⟨8, fo, fr, kd, rd, rs1, rs2, rs3, rm, im, cs⟩) 28) (Obj.cells #[.int .u32 0, .int .u32 0, .int .u32 0, .int .u32 0] 33)
    go_enter Tryd.func27, Tryd.ntmps27
    obtain ⟨cx_0_0, cx_0_1, cx_0_2, cx_0_3, cx_0_4, cx_0_5, cx_0_6, cx_0_7, cx_0_8, cx_0_9, cx_0_10⟩ := inC_cells Rx_0
    go_wp2_with fail
    go_quiet ((go_at_call 52; with_reducible first | exact (KD.out _).mono (fun _ _ h => ⟨h.1, _, h.2⟩) | exact (KA.out _).mono (fun _ _ h => ⟨h.1, _, h.2⟩) | exact (KB.out _).mono (fun _ _ h => ⟨h.1, _, h.2⟩) | exact (KC.out _).mono (fun _ _ h => ⟨h.1, _, h.2⟩)))
    obtain ⟨w1, hw, B1, hh⟩ := quiet_world B0 nq
    rw [hw]
    have Rx_1 : w1.heap[w.heap.size]? = some (Obj.cells (inC ⟨8, fo, fr, kd, rd, rs1, rs2, rs3, rm, im, cs⟩) 28) := by rw [hh]; exact Rx_0
    have Rz_1 : w1.heap[w.heap.size + 1]? = some (Obj.cells #[.int .u32 0, .int .u32 0, .int .u32 0, .int .u32 0] 33) := by rw [hh]; exact Rz_0
    clear hw hh B0 Rx_0 cx_0_0 cx_0_1 cx_0_2 cx_0_3 cx_0_4 cx_0_5 cx_0_6 cx_0_7 cx_0_8 cx_0_9 cx_0_10 Rz_0
    obtain ⟨cx_1_0, cx_1_1, cx_1_2, cx_1_3, cx_1_4, cx_1_5, cx_1_6, cx_1_7, cx_1_8, cx_1_9, cx_1_10⟩ := inC_cells Rx_1
    have hst := usC_store (x := ⟨0, AB, 0, D⟩) Rz_1 rfl
    have rz := setRow_row (c' := usC ⟨0, AB, 0, D⟩) Rz_1
    have bz : Below w.heap.size w (w1.setRow (w.heap.size + 1) (usC ⟨0, AB, 0, D⟩)) := Below.setRow B1 (show w.heap.size ≤ w.heap.size + 1 by first | exact Nat.le_refl _ | omega | (skip; omega))
    obtain ⟨wz, hwz⟩ : ∃ V, w1.setRow (w.heap.size + 1) (usC ⟨0, AB, 0, D⟩) = V := ⟨_, rfl⟩
    rw [hwz] at hst rz bz
    clear hwz
    go_wp2
    exact bodyPost_ret (v := .agg (usC ⟨0, AB, 0, D⟩)) (res_usC Tryd.results27 rfl rz) rfl ⟨rfl, bz⟩
  · have hO : True := trivial
    obtain ⟨Rx_0, Rz_0, B0⟩ := opn2 w (Obj.cells (inC ⟨9, fo, fr, kd, rd, rs1, rs2, rs3, rm, im, cs⟩) 28) (Obj.cells #[.int .u32 0, .int .u32 0, .int .u32 0, .int .u32 0] 33)
    go_enter Tryd.func27, Tryd.ntmps27
    obtain ⟨cx_0_0, cx_0_1, cx_0_2, cx_0_3, cx_0_4, cx_0_5, cx_0_6, cx_0_7, cx_0_8, cx_0_9, cx_0_10⟩ := inC_cells Rx_0
    go_wp2_with fail
    go_quiet ((go_at_call 52; with_reducible first | exact (KD.out _).mono (fun _ _ h => ⟨h.1, _, h.2⟩) | exact (KA.out _).mono (fun _ _ h => ⟨h.1, _, h.2⟩) | exact (KB.out _).mono (fun _ _ h => ⟨h.1, _, h.2⟩) | exact (KC.out _).mono (fun _ _ h => ⟨h.1, _, h.2⟩)))
    obtain ⟨w1, hw, B1, hh⟩ := quiet_world B0 nq
    rw [hw]
    have Rx_1 : w1.heap[w.heap.size]? = some (Obj.cells (inC ⟨9, fo, fr, kd, rd, rs1, rs2, rs3, rm, im, cs⟩) 28) := by rw [hh]; exact Rx_0
    have Rz_1 : w1.heap[w.heap.size + 1]? = some (Obj.cells #[.int .u32 0, .int .u32 0, .int .u32 0, .int .u32 0] 33) := by rw [hh]; exact Rz_0
    clear hw hh B0 Rx_0 cx_0_0 cx_0_1 cx_0_2 cx_0_3 cx_0_4 cx_0_5 cx_0_6 cx_0_7 cx_0_8 cx_0_9 cx_0_10 Rz_0
    obtain ⟨cx_1_0, cx_1_1, cx_1_2, cx_1_3, cx_1_4, cx_1_5, cx_1_6, cx_1_7, cx_1_8, cx_1_9, cx_1_10⟩ := inC_cells Rx_1
    have hst := usC_store (x := ⟨0, AB, 0, D⟩) Rz_1 rfl
    have rz := setRow_row (c' := usC ⟨0, AB, 0, D⟩) Rz_1
    have bz : Below w.heap.size w (w1.setRow (w.heap.size + 1) (usC ⟨0, AB, 0, D⟩)) := Below.setRow B1 (show w.heap.size ≤ w.heap.size + 1 by first | exact Nat.le_refl _ | omega | (skip; omega))
    obtain ⟨wz, hwz⟩ : ∃ V, w1.setRow (w.heap.size + 1) (usC ⟨0, AB, 0, D⟩) = V := ⟨_, rfl⟩
    rw [hwz] at hst rz bz
    clear hwz
    go_wp2
    exact bodyPost_ret (v := .agg (usC ⟨0, AB, 0, D⟩)) (res_usC Tryd.results27 rfl rz) rfl ⟨rfl, bz⟩
  · have hO : True := trivial
    obtain ⟨Rx_0, Rz_0, B0⟩ := opn2 w (Obj.cells (inC ⟨10, fo, fr, kd, rd, rs1, rs2, rs3, rm, im, cs⟩) 28) (Obj.cells #[.int .u32 0, .int .u32 0, .int .u32 0, .int .u32 0] 33)
    go_enter Tryd.func27, Tryd.ntmps27
    obtain ⟨cx_0_0, cx_0_1, cx_0_2, cx_0_3, cx_0_4, cx_0_5, cx_0_6, cx_0_7, cx_0_8, cx_0_9, cx_0_10⟩ := inC_cells Rx_0
    go_wp2_with fail
    go_quiet ((go_at_call 52; with_reducible first | exact (KD.out _).mono (fun _ _ h => ⟨h.1, _, h.2⟩) | exact (KA.out _).mono (fun _ _ h => ⟨h.1, _, h.2⟩) | exact (KB.out _).mono (fun _ _ h => ⟨h.1, _, h.2⟩) | exact (KC.out _).mono (fun _ _ h => ⟨h.1, _, h.2⟩)))
    obtain ⟨w1, hw, B1, hh⟩ := quiet_world B0 nq
    rw [hw]
    have Rx_1 : w1.heap[w.heap.size]? = some (Obj.cells (inC ⟨10, fo, fr, kd, rd, rs1, rs2, rs3, rm, im, cs⟩) 28) := by rw [hh]; exact Rx_0
    have Rz_1 : w1.heap[w.heap.size + 1]? = some (Obj.cells #[.int .u32 0, .int .u32 0, .int .u32 0, .int .u32 0] 33) := by rw [hh]; exact Rz_0
    clear hw hh B0 Rx_0 cx_0_0 cx_0_1 cx_0_2 cx_0_3 cx_0_4 cx_0_5 cx_0_6 cx_0_7 cx_0_8 cx_0_9 cx_0_10 Rz_0
    obtain ⟨cx_1_0, cx_1_1, cx_1_2, cx_1_3, cx_1_4, cx_1_5, cx_1_6, cx_1_7, cx_1_8, cx_1_9, cx_1_10⟩ := inC_cells Rx_1
    have hst := usC_store (x := ⟨0, AB, 0, D⟩) Rz_1 rfl
    have rz := setRow_row (c' := usC ⟨0, AB, 0, D⟩) Rz_1
    have bz : Below w.heap.size w (w1.setRow (w.heap.size + 1) (usC ⟨0, AB, 0, D⟩)) := Below.setRow B1 (show w.heap.size ≤ w.heap.size + 1 by first | exact Nat.le_refl _ | omega | (skip; omega))
    obtain ⟨wz, hwz⟩ : ∃ V, w1.setRow (w.heap.size + 1) (usC ⟨0, AB, 0, D⟩) = V := ⟨_, rfl⟩
    rw [hwz] at hst rz bz
    clear hwz
    go_wp2
    exact bodyPost_ret (v := .agg (usC ⟨0, AB, 0, D⟩)) (res_usC Tryd.results27 rfl rz) rfl ⟨rfl, bz⟩
  · have hO : True := trivial
    obtain ⟨Rx_0, Rz_0, B0⟩ := opn2 w (Obj.cells (inC ⟨12, fo, fr, kd, rd, rs1, rs2, rs3, rm, im, cs⟩) 28) (Obj.cells #[.int .u32 0, .int .u32 0, .int .u32 0, .int .u32 0] 33)
    go_enter Tryd.func27, Tryd.ntmps27
    obtain ⟨cx_0_0, cx_0_1, cx_0_2, cx_0_3, cx_0_4, cx_0_5, cx_0_6, cx_0_7, cx_0_8, cx_0_9, cx_0_10⟩ := inC_cells Rx_0
    go_wp2_with fail
    go_quiet ((go_at_call 52; with_reducible first | exact (KD.out _).mono (fun _ _ h => ⟨h.1, _, h.2⟩) | exact (KA.out _).mono (fun _ _ h => ⟨h.1, _, h.2⟩) | exact (KB.out _).mono (fun _ _ h => ⟨h.1, _, h.2⟩) | exact (KC.out _).mono (fun _ _ h => ⟨h.1, _, h.2⟩)))
    obtain ⟨w1, hw, B1, hh⟩ := quiet_world B0 nq
    rw [hw]
    have Rx_1 : w1.heap[w.heap.size]? = some (Obj.cells (inC ⟨12, fo, fr, kd, rd, rs1, rs2, rs3, rm, im, cs⟩) 28) := by rw [hh]; exact Rx_0
    have Rz_1 : w1.heap[w.heap.size + 1]? = some (Obj.cells #[.int .u32 0, .int .u32 0, .int .u32 0, .int .u32 0] 33) := by rw [hh]; exact Rz_0
    clear hw hh B0 Rx_0 cx_0_0 cx_0_1 cx_0_2 cx_0_3 cx_0_4 cx_0_5 cx_0_6 cx_0_7 cx_0_8 cx_0_9 cx_0_10 Rz_0
    obtain ⟨cx_1_0, cx_1_1, cx_1_2, cx_1_3, cx_1_4, cx_1_5, cx_1_6, cx_1_7, cx_1_8, cx_1_9, cx_1_10⟩ := inC_cells Rx_1
    have hst := usC_store (x := ⟨0, AB, 0, D⟩) Rz_1 rfl
    have rz := setRow_row (c' := usC ⟨0, AB, 0, D⟩) Rz_1
    have bz : Below w.heap.size w (w1.setRow (w.heap.size + 1) (usC ⟨0, AB, 0, D⟩)) := Below.setRow B1 (show w.heap.size ≤ w.heap.size + 1 by first | exact Nat.le_refl _ | omega | (skip; omega))
    obtain ⟨wz, hwz⟩ : ∃ V, w1.setRow (w.heap.size + 1) (usC ⟨0, AB, 0, D⟩) = V := ⟨_, rfl⟩
    rw [hwz] at hst rz bz
    clear hwz
    go_wp2
    exact bodyPost_ret (v := .agg (usC ⟨0, AB, 0, D⟩)) (res_usC Tryd.results27 rfl rz) rfl ⟨rfl, bz⟩
  · have hO : True := trivial
    obtain ⟨Rx_0, Rz_0, B0⟩ := opn2 w (Obj.cells (inC ⟨13, fo, fr, kd, rd, rs1, rs2, rs3, rm, im, cs⟩) 28) (Obj.cells #[.int .u32 0, .int .u32 0, .int .u32 0, .int .u32 0] 33)
    go_enter Tryd.func27, Tryd.ntmps27
    obtain ⟨cx_0_0, cx_0_1, cx_0_2, cx_0_3, cx_0_4, cx_0_5, cx_0_6, cx_0_7, cx_0_8, cx_0_9, cx_0_10⟩ := inC_cells Rx_0
    go_wp2_with fail
    go_quiet ((go_at_call 52; with_reducible first | exact (KD.out _).mono (fun _ _ h => ⟨h.1, _, h.2⟩) | exact (KA.out _).mono (fun _ _ h => ⟨h.1, _, h.2⟩) | exact (KB.out _).mono (fun _ _ h => ⟨h.1, _, h.2⟩) | exact (KC.out _).mono (fun _ _ h => ⟨h.1, _, h.2⟩)))
    obtain ⟨w1, hw, B1, hh⟩ := quiet_world B0 nq
    rw [hw]
    have Rx_1 : w1.heap[w.heap.size]? = some (Obj.cells (inC ⟨13, fo, fr, kd, rd, rs1, rs2, rs3, rm, im, cs⟩) 28) := by rw [hh]; exact Rx_0
    have Rz_1 : w1.heap[w.heap.size + 1]? = some (Obj.cells #[.int .u32 0, .int .u32 0, .int .u32 0, .int .u32 0] 33) := by rw [hh]; exact Rz_0
    clear hw hh B0 Rx_0 cx_0_0 cx_0_1 cx_0_2 cx_0_3 cx_0_4 cx_0_5 cx_0_6 cx_0_7 cx_0_8 cx_0_9 cx_0_10 Rz_0
    obtain ⟨cx_1_0, cx_1_1, cx_1_2, cx_1_3, cx_1_4, cx_1_5, cx_1_6, cx_1_7, cx_1_8, cx_1_9, cx_1_10⟩ := inC_cells Rx_1
    have hst := usC_store (x := ⟨0, AB, 0, D⟩) Rz_1 rfl
    have rz := setRow_row (c' := usC ⟨0, AB, 0, D⟩) Rz_1
    have bz : Below w.heap.size w (w1.setRow (w.heap.size + 1) (usC ⟨0, AB, 0, D⟩)) := Below.setRow B1 (show w.heap.size ≤ w.heap.size + 1 by first | exact Nat.le_refl _ | omega | (skip; omega))
    obtain ⟨wz, hwz⟩ : ∃ V, w1.setRow (w.heap.size + 1) (usC ⟨0, AB, 0, D⟩) = V := ⟨_, rfl⟩
    rw [hwz] at hst rz bz
    clear hwz
    go_wp2
    exact bodyPost_ret (v := .agg (usC ⟨0, AB, 0, D⟩)) (res_usC Tryd.results27 rfl rz) rfl ⟨rfl, bz⟩
  · have hO : True := trivial
    obtain ⟨Rx_0, Rz_0, B0⟩ := opn2 w (Obj.cells (inC ⟨14, fo, fr, kd, rd, rs1, rs2, rs3, rm, im, cs⟩) 28) (Obj.cells #[.int .u32 0, .int .u32 0, .int .u32 0, .int .u32 0] 33)
    go_enter Tryd.func27, Tryd.ntmps27
    obtain ⟨cx_0_0, cx_0_1, cx_0_2, cx_0_3, cx_0_4, cx_0_5, cx_0_6, cx_0_7, cx_0_8, cx_0_9, cx_0_10⟩ := inC_cells Rx_0
    go_wp2_with fail
    go_quiet ((go_at_call 52; with_reducible first | exact (KD.out _).mono (fun _ _ h => ⟨h.1, _, h.2⟩) | exact (KA.out _).mono (fun _ _ h => ⟨h.1, _, h.2⟩) | exact (KB.out _).mono (fun _ _ h => ⟨h.1, _, h.2⟩) | exact (KC.out _).mono (fun _ _ h => ⟨h.1, _, h.2⟩)))
    obtain ⟨w1, hw, B1, hh⟩ := quiet_world B0 nq
    rw [hw]
    have Rx_1 : w1.heap[w.heap.size]? = some (Obj.cells (inC ⟨14, fo, fr, kd, rd, rs1, rs2, rs3, rm, im, cs⟩) 28) := by rw [hh]; exact Rx_0
    have Rz_1 : w1.heap[w.heap.size + 1]? = some (Obj.cells #[.int .u32 0, .int .u32 0, .int .u32 0, .int .u32 0] 33) := by rw [hh]; exact Rz_0
    clear hw hh B0 Rx_0 cx_0_0 cx_0_1 cx_0_2 cx_0_3 cx_0_4 cx_0_5 cx_0_6 cx_0_7 cx_0_8 cx_0_9 cx_0_10 Rz_0
    obtain ⟨cx_1_0, cx_1_1, cx_1_2, cx_1_3, cx_1_4, cx_1_5, cx_1_6, cx_1_7, cx_1_8, cx_1_9, cx_1_10⟩ := inC_cells Rx_1
    have hst := usC_store (x := ⟨0, AB, 0, D⟩) Rz_1 rfl
    have rz := setRow_row (c' := usC ⟨0, AB, 0, D⟩) Rz_1
    have bz : Below w.heap.size w (w1.setRow (w.heap.size + 1) (usC ⟨0, AB, 0, D⟩)) := Below.setRow B1 (show w.heap.size ≤ w.heap.size + 1 by first | exact Nat.le_refl _ | omega | (skip; omega))
    obtain ⟨wz, hwz⟩ : ∃ V, w1.setRow (w.heap.size + 1) (usC ⟨0, AB, 0, D⟩) = V := ⟨_, rfl⟩
    rw [hwz] at hst rz bz
    clear hwz
    go_wp2
    exact bodyPost_ret (v := .agg (usC ⟨0, AB, 0, D⟩)) (res_usC Tryd.results27 rfl rz) rfl ⟨rfl, bz⟩
  · have hO : True := trivial
    obtain ⟨Rx_0, Rz_0, B0⟩ := opn2 w (Obj.cells (inC ⟨15, fo, fr, kd, rd, rs1, rs2, rs3, rm, im, cs⟩) 28) (Obj.cells #[.int .u32 0, .int .u32 0, .int .u32 0, .int .u32 0] 33)
    go_enter Tryd.func27, Tryd.ntmps27
    obtain ⟨cx_0_0, cx_0_1, cx_0_2, cx_0_3, cx_0_4, cx_0_5, cx_0_6, cx_0_7, cx_0_8, cx_0_9, cx_0_10⟩ := inC_cells Rx_0
    go_wp2_with fail
    go_quiet ((go_at_call 52; with_reducible first | exact (KD.out _).mono (fun _ _ h => ⟨h.1, _, h.2⟩) | exact (KA.out _).mono (fun _ _ h => ⟨h.1, _, h.2⟩) | exact (KB.out _).mono (fun _ _ h => ⟨h.1, _, h.2⟩) | exact (KC.out _).mono (fun _ _ h => ⟨h.1, _, h.2⟩)))
    obtain ⟨w1, hw, B1, hh⟩ := quiet_world B0 nq
    rw [hw]
    have Rx_1 : w1.heap[w.heap.size]? = some (Obj.cells (inC ⟨15, fo, fr, kd, rd, rs1, rs2, rs3, rm, im, cs⟩) 28) := by rw [hh]; exact Rx_0
    have Rz_1 : w1.heap[w.heap.size + 1]? = some (Obj.cells #[.int .u32 0, .int .u32 0, .int .u32 0, .int .u32 0] 33) := by rw [hh]; exact Rz_0
    clear hw hh B0 Rx_0 cx_0_0 cx_0_1 cx_0_2 cx_0_3 cx_0_4 cx_0_5 cx_0_6 cx_0_7 cx_0_8 cx_0_9 cx_0_10 Rz_0
    obtain ⟨cx_1_0, cx_1_1, cx_1_2, cx_1_3, cx_1_4, cx_1_5, cx_1_6, cx_1_7, cx_1_8, cx_1_9, cx_1_10⟩ := inC_cells Rx_1
    have hst := usC_store (x := ⟨0, AB, 0, D⟩) Rz_1 rfl
    have rz := setRow_row (c' := usC ⟨0, AB, 0, D⟩) Rz_1
    have bz : Below w.heap.size w (w1.setRow (w.heap.size + 1) (usC ⟨0, AB, 0, D⟩)) := Below.setRow B1 (show w.heap.size ≤ w.heap.size + 1 by first | exact Nat.le_refl _ | omega | (skip; omega))
    obtain ⟨wz, hwz⟩ : ∃ V, w1.setRow (w.heap.size + 1) (usC ⟨0, AB, 0, D⟩) = V := ⟨_, rfl⟩
    rw [hwz] at hst rz bz
    clear hwz
    go_wp2
    exact bodyPost_ret (v := .agg (usC ⟨0, AB, 0, D⟩)) (res_usC Tryd.results27 rfl rz) rfl ⟨rfl, bz⟩
  · have hO : True := trivial
    obtain ⟨Rx_0, Rz_0, B0⟩ := opn2 w (Obj.cells (inC ⟨16, fo, fr, kd, rd, rs1, rs2, rs3, rm, im, cs⟩) 28) (Obj.cells #[.int .u32 0, .int .u32 0, .int .u32 0, .int .u32 0] 33)
    go_enter Tryd.func27, Tryd.ntmps27
    obtain ⟨cx_0_0, cx_0_1, cx_0_2, cx_0_3, cx_0_4, cx_0_5, cx_0_6, cx_0_7, cx_0_8, cx_0_9, cx_0_10⟩ := inC_cells Rx_0
    go_wp2_with fail
    go_quiet ((go_at_call 52; with_reducible first | exact (KD.out _).mono (fun _ _ h => ⟨h.1, _, h.2⟩) | exact (KA.out _).mono (fun _ _ h => ⟨h.1, _, h.2⟩) | exact (KB.out _).mono (fun _ _ h => ⟨h.1, _, h.2⟩) | exact (KC.out _).mono (fun _ _ h => ⟨h.1, _, h.2⟩)))
    obtain ⟨w1, hw, B1, hh⟩ := quiet_world B0 nq
    rw [hw]
    have Rx_1 : w1.heap[w.heap.size]? = some (Obj.cells (inC ⟨16, fo, fr, kd, rd, rs1, rs2, rs3, rm, im, cs⟩) 28) := by rw [hh]; exact Rx_0
    have Rz_1 : w1.heap[w.heap.size + 1]? = some (Obj.cells #[.int .u32 0, .int .u32 0, .int .u32 0, .int .u32 0] 33) := by rw [hh]; exact Rz_0
    clear hw hh B0 Rx_0 cx_0_0 cx_0_1 cx_0_2 cx_0_3 cx_0_4 cx_0_5 cx_0_6 cx_0_7 cx_0_8 cx_0_9 cx_0_10 Rz_0
    obtain ⟨cx_1_0, cx_1_1, cx_1_2, cx_1_3, cx_1_4, cx_1_5, cx_1_6, cx_1_7, cx_1_8, cx_1_9, cx_1_10⟩ := inC_cells Rx_1
    have hst := usC_store (x := ⟨0, AB, 0, D⟩) Rz_1 rfl
    have rz := setRow_row (c' := usC ⟨0, AB, 0, D⟩) Rz_1
    have bz : Below w.heap.size w (w1.setRow (w.heap.size + 1) (usC ⟨0, AB, 0, D⟩)) := Below.setRow B1 (show w.heap.size ≤ w.heap.size + 1 by first | exact Nat.le_refl _ | omega | (skip; omega))
    obtain ⟨wz, hwz⟩ : ∃ V, w1.setRow (w.heap.size + 1) (usC ⟨0, AB, 0, D⟩) = V := ⟨_, rfl⟩
    rw [hwz] at hst rz bz
    clear hwz
    go_wp2
    exact bodyPost_ret (v := .agg (usC ⟨0, AB, 0, D⟩)) (res_usC Tryd.results27 rfl rz) rfl ⟨rfl, bz⟩
set_option maxRecDepth 100000 in
set_option maxHeartbeats 8000000 in
theorem t_uses11 (op : Nat) (ho : op = 11 ∨ op = 17) (fo fr kd rd rs1 rs2 rs3 rm : Nat) (im : Int) (cs A B C D AB ABC : Nat) (pa : (2 : Int) ^ min rs1 32 % 4294967296 = (A : Nat)) (pb : (2 : Int) ^ min rs2 32 % 4294967296 = (B : Nat)) (pc : (2 : Int) ^ min rs3 32 % 4294967296 = (C : Nat)) (pd : (2 : Int) ^ min rd 32 % 4294967296 = (D : Nat)) (ob : bits .or .u32 (A : Nat) (B : Nat) = (AB : Nat)) (oc : bits .or .u32 (AB : Nat) (C : Nat) = (ABC : Nat)) (w : World) : Calls Tryd.prog 27 #[.agg (inC ⟨op, fo, fr, kd, rd, rs1, rs2, rs3, rm, im, cs⟩)] w fun r w' => r = .returned (.agg (usC ⟨0, A, 0, D⟩)) ∧ Below w.heap.size w w' := by
  have hf : #[Value.int .u32 0, .int .u32 (A : Nat), .int .u32 0, .int .u32 (D : Nat)] = usC ⟨0, A, 0, D⟩ := rfl
  have KA := box (fun w => t_set rs1 A pa w)
  have KB := box (fun w => t_set rs2 B pb w)
  have KC := box (fun w => t_set rs3 C pc w)
  have KD := box (fun w => t_set rd D pd w)
  clear pa pb pc pd
  rcases ho with rfl | rfl
  · have hO : True := trivial
    obtain ⟨Rx_0, Rz_0, B0⟩ := opn2 w (Obj.cells (inC ⟨11, fo, fr, kd, rd, rs1, rs2, rs3, rm, im, cs⟩) 28) (Obj.cells #[.int .u32 0, .int .u32 0, .int .u32 0, .int .u32 0] 33)
    go_enter Tryd.func27, Tryd.ntmps27
    obtain ⟨cx_0_0, cx_0_1, cx_0_2, cx_0_3, cx_0_4, cx_0_5, cx_0_6, cx_0_7, cx_0_8, cx_0_9, cx_0_10⟩ := inC_cells Rx_0
    go_wp2_with fail
    go_quiet ((go_at_call 52; with_reducible first | exact (KD.out _).mono (fun _ _ h => ⟨h.1, _, h.2⟩) | exact (KA.out _).mono (fun _ _ h => ⟨h.1, _, h.2⟩) | exact (KB.out _).mono (fun _ _ h => ⟨h.1, _, h.2⟩) | exact (KC.out _).mono (fun _ _ h => ⟨h.1, _, h.2⟩)))
    obtain ⟨w1, hw, B1, hh⟩ := quiet_world B0 nq
    rw [hw]
    have Rx_1 : w1.heap[w.heap.size]? = some (Obj.cells (inC ⟨11, fo, fr, kd, rd, rs1, rs2, rs3, rm, im, cs⟩) 28) := by rw [hh]; exact Rx_0
    have Rz_1 : w1.heap[w.heap.size + 1]? = some (Obj.cells #[.int .u32 0, .int .u32 0, .int .u32 0, .int .u32 0] 33) := by rw [hh]; exact Rz_0
    clear hw hh B0 Rx_0 cx_0_0 cx_0_1 cx_0_2 cx_0_3 cx_0_4 cx_0_5 cx_0_6 cx_0_7 cx_0_8 cx_0_9 cx_0_10 Rz_0
    obtain ⟨cx_1_0, cx_1_1, cx_1_2, cx_1_3, cx_1_4, cx_1_5, cx_1_6, cx_1_7, cx_1_8, cx_1_9, cx_1_10⟩ := inC_cells Rx_1
    have hst := usC_store (x := ⟨0, A, 0, D⟩) Rz_1 rfl
    have rz := setRow_row (c' := usC ⟨0, A, 0, D⟩) Rz_1
    have bz : Below w.heap.size w (w1.setRow (w.heap.size + 1) (usC ⟨0, A, 0, D⟩)) := Below.setRow B1 (show w.heap.size ≤ w.heap.size + 1 by first | exact Nat.le_refl _ | omega | (skip; omega))
    obtain ⟨wz, hwz⟩ : ∃ V, w1.setRow (w.heap.size + 1) (usC ⟨0, A, 0, D⟩) = V := ⟨_, rfl⟩
    rw [hwz] at hst rz bz
    clear hwz
    go_wp2
    exact bodyPost_ret (v := .agg (usC ⟨0, A, 0, D⟩)) (res_usC Tryd.results27 rfl rz) rfl ⟨rfl, bz⟩
  · have hO : True := trivial
    obtain ⟨Rx_0, Rz_0, B0⟩ := opn2 w (Obj.cells (inC ⟨17, fo, fr, kd, rd, rs1, rs2, rs3, rm, im, cs⟩) 28) (Obj.cells #[.int .u32 0, .int .u32 0, .int .u32 0, .int .u32 0] 33)
    go_enter Tryd.func27, Tryd.ntmps27
    obtain ⟨cx_0_0, cx_0_1, cx_0_2, cx_0_3, cx_0_4, cx_0_5, cx_0_6, cx_0_7, cx_0_8, cx_0_9, cx_0_10⟩ := inC_cells Rx_0
    go_wp2_with fail
    go_quiet ((go_at_call 52; with_reducible first | exact (KD.out _).mono (fun _ _ h => ⟨h.1, _, h.2⟩) | exact (KA.out _).mono (fun _ _ h => ⟨h.1, _, h.2⟩) | exact (KB.out _).mono (fun _ _ h => ⟨h.1, _, h.2⟩) | exact (KC.out _).mono (fun _ _ h => ⟨h.1, _, h.2⟩)))
    obtain ⟨w1, hw, B1, hh⟩ := quiet_world B0 nq
    rw [hw]
    have Rx_1 : w1.heap[w.heap.size]? = some (Obj.cells (inC ⟨17, fo, fr, kd, rd, rs1, rs2, rs3, rm, im, cs⟩) 28) := by rw [hh]; exact Rx_0
    have Rz_1 : w1.heap[w.heap.size + 1]? = some (Obj.cells #[.int .u32 0, .int .u32 0, .int .u32 0, .int .u32 0] 33) := by rw [hh]; exact Rz_0
    clear hw hh B0 Rx_0 cx_0_0 cx_0_1 cx_0_2 cx_0_3 cx_0_4 cx_0_5 cx_0_6 cx_0_7 cx_0_8 cx_0_9 cx_0_10 Rz_0
    obtain ⟨cx_1_0, cx_1_1, cx_1_2, cx_1_3, cx_1_4, cx_1_5, cx_1_6, cx_1_7, cx_1_8, cx_1_9, cx_1_10⟩ := inC_cells Rx_1
    have hst := usC_store (x := ⟨0, A, 0, D⟩) Rz_1 rfl
    have rz := setRow_row (c' := usC ⟨0, A, 0, D⟩) Rz_1
    have bz : Below w.heap.size w (w1.setRow (w.heap.size + 1) (usC ⟨0, A, 0, D⟩)) := Below.setRow B1 (show w.heap.size ≤ w.heap.size + 1 by first | exact Nat.le_refl _ | omega | (skip; omega))
    obtain ⟨wz, hwz⟩ : ∃ V, w1.setRow (w.heap.size + 1) (usC ⟨0, A, 0, D⟩) = V := ⟨_, rfl⟩
    rw [hwz] at hst rz bz
    clear hwz
    go_wp2
    exact bodyPost_ret (v := .agg (usC ⟨0, A, 0, D⟩)) (res_usC Tryd.results27 rfl rz) rfl ⟨rfl, bz⟩
set_option maxRecDepth 100000 in
set_option maxHeartbeats 8000000 in
theorem t_uses18 (op : Nat) (ho : op = 18 ∨ op = 19 ∨ op = 20) (fo fr kd rd rs1 rs2 rs3 rm : Nat) (im : Int) (cs A B C D AB ABC : Nat) (pa : (2 : Int) ^ min rs1 32 % 4294967296 = (A : Nat)) (pb : (2 : Int) ^ min rs2 32 % 4294967296 = (B : Nat)) (pc : (2 : Int) ^ min rs3 32 % 4294967296 = (C : Nat)) (pd : (2 : Int) ^ min rd 32 % 4294967296 = (D : Nat)) (ob : bits .or .u32 (A : Nat) (B : Nat) = (AB : Nat)) (oc : bits .or .u32 (AB : Nat) (C : Nat) = (ABC : Nat)) (w : World) : Calls Tryd.prog 27 #[.agg (inC ⟨op, fo, fr, kd, rd, rs1, rs2, rs3, rm, im, cs⟩)] w fun r w' => r = .returned (.agg (usC ⟨0, AB, D, 0⟩)) ∧ Below w.heap.size w w' := by
  have hf : #[Value.int .u32 0, .int .u32 (AB : Nat), .int .u32 (D : Nat), .int .u32 0] = usC ⟨0, AB, D, 0⟩ := rfl
  have KA := box (fun w => t_set rs1 A pa w)
  have KB := box (fun w => t_set rs2 B pb w)
  have KC := box (fun w => t_set rs3 C pc w)
  have KD := box (fun w => t_set rd D pd w)
  clear pa pb pc pd
  rcases ho with rfl | rfl | rfl
  · have hO : True := trivial
    obtain ⟨Rx_0, Rz_0, B0⟩ := opn2 w (Obj.cells (inC ⟨18, fo, fr, kd, rd, rs1, rs2, rs3, rm, im, cs⟩) 28) (Obj.cells #[.int .u32 0, .int .u32 0, .int .u32 0, .int .u32 0] 33)
    go_enter Tryd.func27, Tryd.ntmps27
    obtain ⟨cx_0_0, cx_0_1, cx_0_2, cx_0_3, cx_0_4, cx_0_5, cx_0_6, cx_0_7, cx_0_8, cx_0_9, cx_0_10⟩ := inC_cells Rx_0
    go_wp2_with fail
    go_quiet ((go_at_call 52; with_reducible first | exact (KD.out _).mono (fun _ _ h => ⟨h.1, _, h.2⟩) | exact (KA.out _).mono (fun _ _ h => ⟨h.1, _, h.2⟩) | exact (KB.out _).mono (fun _ _ h => ⟨h.1, _, h.2⟩) | exact (KC.out _).mono (fun _ _ h => ⟨h.1, _, h.2⟩)))
    obtain ⟨w1, hw, B1, hh⟩ := quiet_world B0 nq
    rw [hw]
    have Rx_1 : w1.heap[w.heap.size]? = some (Obj.cells (inC ⟨18, fo, fr, kd, rd, rs1, rs2, rs3, rm, im, cs⟩) 28) := by rw [hh]; exact Rx_0
    have Rz_1 : w1.heap[w.heap.size + 1]? = some (Obj.cells #[.int .u32 0, .int .u32 0, .int .u32 0, .int .u32 0] 33) := by rw [hh]; exact Rz_0
    clear hw hh B0 Rx_0 cx_0_0 cx_0_1 cx_0_2 cx_0_3 cx_0_4 cx_0_5 cx_0_6 cx_0_7 cx_0_8 cx_0_9 cx_0_10 Rz_0
    obtain ⟨cx_1_0, cx_1_1, cx_1_2, cx_1_3, cx_1_4, cx_1_5, cx_1_6, cx_1_7, cx_1_8, cx_1_9, cx_1_10⟩ := inC_cells Rx_1
    have hst := usC_store (x := ⟨0, AB, D, 0⟩) Rz_1 rfl
    have rz := setRow_row (c' := usC ⟨0, AB, D, 0⟩) Rz_1
    have bz : Below w.heap.size w (w1.setRow (w.heap.size + 1) (usC ⟨0, AB, D, 0⟩)) := Below.setRow B1 (show w.heap.size ≤ w.heap.size + 1 by first | exact Nat.le_refl _ | omega | (skip; omega))
    obtain ⟨wz, hwz⟩ : ∃ V, w1.setRow (w.heap.size + 1) (usC ⟨0, AB, D, 0⟩) = V := ⟨_, rfl⟩
    rw [hwz] at hst rz bz
    clear hwz
    go_wp2
    exact bodyPost_ret (v := .agg (usC ⟨0, AB, D, 0⟩)) (res_usC Tryd.results27 rfl rz) rfl ⟨rfl, bz⟩
  · have hO : True := trivial
    obtain ⟨Rx_0, Rz_0, B0⟩ := opn2 w (Obj.cells (inC ⟨19, fo, fr, kd, rd, rs1, rs2, rs3, rm, im, cs⟩) 28) (Obj.cells #[.int .u32 0, .int .u32 0, .int .u32 0, .int .u32 0] 33)
    go_enter Tryd.func27, Tryd.ntmps27
    obtain ⟨cx_0_0, cx_0_1, cx_0_2, cx_0_3, cx_0_4, cx_0_5, cx_0_6, cx_0_7, cx_0_8, cx_0_9, cx_0_10⟩ := inC_cells Rx_0
    go_wp2_with fail
    go_quiet ((go_at_call 52; with_reducible first | exact (KD.out _).mono (fun _ _ h => ⟨h.1, _, h.2⟩) | exact (KA.out _).mono (fun _ _ h => ⟨h.1, _, h.2⟩) | exact (KB.out _).mono (fun _ _ h => ⟨h.1, _, h.2⟩) | exact (KC.out _).mono (fun _ _ h => ⟨h.1, _, h.2⟩)))
    obtain ⟨w1, hw, B1, hh⟩ := quiet_world B0 nq
    rw [hw]
    have Rx_1 : w1.heap[w.heap.size]? = some (Obj.cells (inC ⟨19, fo, fr, kd, rd, rs1, rs2, rs3, rm, im, cs⟩) 28) := by rw [hh]; exact Rx_0
    have Rz_1 : w1.heap[w.heap.size + 1]? = some (Obj.cells #[.int .u32 0, .int .u32 0, .int .u32 0, .int .u32 0] 33) := by rw [hh]; exact Rz_0
    clear hw hh B0 Rx_0 cx_0_0 cx_0_1 cx_0_2 cx_0_3 cx_0_4 cx_0_5 cx_0_6 cx_0_7 cx_0_8 cx_0_9 cx_0_10 Rz_0
    obtain ⟨cx_1_0, cx_1_1, cx_1_2, cx_1_3, cx_1_4, cx_1_5, cx_1_6, cx_1_7, cx_1_8, cx_1_9, cx_1_10⟩ := inC_cells Rx_1
    have hst := usC_store (x := ⟨0, AB, D, 0⟩) Rz_1 rfl
    have rz := setRow_row (c' := usC ⟨0, AB, D, 0⟩) Rz_1
    have bz : Below w.heap.size w (w1.setRow (w.heap.size + 1) (usC ⟨0, AB, D, 0⟩)) := Below.setRow B1 (show w.heap.size ≤ w.heap.size + 1 by first | exact Nat.le_refl _ | omega | (skip; omega))
    obtain ⟨wz, hwz⟩ : ∃ V, w1.setRow (w.heap.size + 1) (usC ⟨0, AB, D, 0⟩) = V := ⟨_, rfl⟩
    rw [hwz] at hst rz bz
    clear hwz
    go_wp2
    exact bodyPost_ret (v := .agg (usC ⟨0, AB, D, 0⟩)) (res_usC Tryd.results27 rfl rz) rfl ⟨rfl, bz⟩
  · have hO : True := trivial
    obtain ⟨Rx_0, Rz_0, B0⟩ := opn2 w (Obj.cells (inC ⟨20, fo, fr, kd, rd, rs1, rs2, rs3, rm, im, cs⟩) 28) (Obj.cells #[.int .u32 0, .int .u32 0, .int .u32 0, .int .u32 0] 33)
    go_enter Tryd.func27, Tryd.ntmps27
    obtain ⟨cx_0_0, cx_0_1, cx_0_2, cx_0_3, cx_0_4, cx_0_5, cx_0_6, cx_0_7, cx_0_8, cx_0_9, cx_0_10⟩ := inC_cells Rx_0
    go_wp2_with fail
    go_quiet ((go_at_call 52; with_reducible first | exact (KD.out _).mono (fun _ _ h => ⟨h.1, _, h.2⟩) | exact (KA.out _).mono (fun _ _ h => ⟨h.1, _, h.2⟩) | exact (KB.out _).mono (fun _ _ h => ⟨h.1, _, h.2⟩) | exact (KC.out _).mono (fun _ _ h => ⟨h.1, _, h.2⟩)))
    obtain ⟨w1, hw, B1, hh⟩ := quiet_world B0 nq
    rw [hw]
    have Rx_1 : w1.heap[w.heap.size]? = some (Obj.cells (inC ⟨20, fo, fr, kd, rd, rs1, rs2, rs3, rm, im, cs⟩) 28) := by rw [hh]; exact Rx_0
    have Rz_1 : w1.heap[w.heap.size + 1]? = some (Obj.cells #[.int .u32 0, .int .u32 0, .int .u32 0, .int .u32 0] 33) := by rw [hh]; exact Rz_0
    clear hw hh B0 Rx_0 cx_0_0 cx_0_1 cx_0_2 cx_0_3 cx_0_4 cx_0_5 cx_0_6 cx_0_7 cx_0_8 cx_0_9 cx_0_10 Rz_0
    obtain ⟨cx_1_0, cx_1_1, cx_1_2, cx_1_3, cx_1_4, cx_1_5, cx_1_6, cx_1_7, cx_1_8, cx_1_9, cx_1_10⟩ := inC_cells Rx_1
    have hst := usC_store (x := ⟨0, AB, D, 0⟩) Rz_1 rfl
    have rz := setRow_row (c' := usC ⟨0, AB, D, 0⟩) Rz_1
    have bz : Below w.heap.size w (w1.setRow (w.heap.size + 1) (usC ⟨0, AB, D, 0⟩)) := Below.setRow B1 (show w.heap.size ≤ w.heap.size + 1 by first | exact Nat.le_refl _ | omega | (skip; omega))
    obtain ⟨wz, hwz⟩ : ∃ V, w1.setRow (w.heap.size + 1) (usC ⟨0, AB, D, 0⟩) = V := ⟨_, rfl⟩
    rw [hwz] at hst rz bz
    clear hwz
    go_wp2
    exact bodyPost_ret (v := .agg (usC ⟨0, AB, D, 0⟩)) (res_usC Tryd.results27 rfl rz) rfl ⟨rfl, bz⟩
set_option maxRecDepth 100000 in
set_option maxHeartbeats 8000000 in
theorem t_uses21 (op : Nat) (ho : op = 21 ∨ op = 23 ∨ op = 24) (fo fr kd rd rs1 rs2 rs3 rm : Nat) (im : Int) (cs A B C D AB ABC : Nat) (pa : (2 : Int) ^ min rs1 32 % 4294967296 = (A : Nat)) (pb : (2 : Int) ^ min rs2 32 % 4294967296 = (B : Nat)) (pc : (2 : Int) ^ min rs3 32 % 4294967296 = (C : Nat)) (pd : (2 : Int) ^ min rd 32 % 4294967296 = (D : Nat)) (ob : bits .or .u32 (A : Nat) (B : Nat) = (AB : Nat)) (oc : bits .or .u32 (AB : Nat) (C : Nat) = (ABC : Nat)) (w : World) : Calls Tryd.prog 27 #[.agg (inC ⟨op, fo, fr, kd, rd, rs1, rs2, rs3, rm, im, cs⟩)] w fun r w' => r = .returned (.agg (usC ⟨0, A, D, 0⟩)) ∧ Below w.heap.size w w' := by
  have hf : #[Value.int .u32 0, .int .u32 (A : Nat), .int .u32 (D : Nat), .int .u32 0] = usC ⟨0, A, D, 0⟩ := rfl
  have KA := box (fun w => t_set rs1 A pa w)
  have KB := box (fun w => t_set rs2 B pb w)
  have KC := box (fun w => t_set rs3 C pc w)
  have KD := box (fun w => t_set rd D pd w)
  clear pa pb pc pd
  rcases ho with rfl | rfl | rfl
  · have hO : True := trivial
    obtain ⟨Rx_0, Rz_0, B0⟩ := opn2 w (Obj.cells (inC ⟨21, fo, fr, kd, rd, rs1, rs2, rs3, rm, im, cs⟩) 28) (Obj.cells #[.int .u32 0, .int .u32 0, .int .u32 0, .int .u32 0] 33)
    go_enter Tryd.func27, Tryd.ntmps27
    obtain ⟨cx_0_0, cx_0_1, cx_0_2, cx_0_3, cx_0_4, cx_0_5, cx_0_6, cx_0_7, cx_0_8, cx_0_9, cx_0_10⟩ := inC_cells Rx_0
    go_wp2_with fail
    go_quiet ((go_at_call 52; with_reducible first | exact (KD.out _).mono (fun _ _ h => ⟨h.1, _, h.2⟩) | exact (KA.out _).mono (fun _ _ h => ⟨h.1, _, h.2⟩) | exact (KB.out _).mono (fun _ _ h => ⟨h.1, _, h.2⟩) | exact (KC.out _).mono (fun _ _ h => ⟨h.1, _, h.2⟩)))
    obtain ⟨w1, hw, B1, hh⟩ := quiet_world B0 nq
    rw [hw]
    have Rx_1 : w1.heap[w.heap.size]? = some (Obj.cells (inC ⟨21, fo, fr, kd, rd, rs1, rs2, rs3, rm, im, cs⟩) 28) := by rw [hh]; exact Rx_0
    have Rz_1 : w1.heap[w.heap.size + 1]? = some (Obj.cells #[.int .u32 0, .int .u32 0, .int .u32 0, .int .u32 0] 33) := by rw [hh]; exact Rz_0
    clear hw hh B0 Rx_0 cx_0_0 cx_0_1 cx_0_2 cx_0_3 cx_0_4 cx_0_5 cx_0_6 cx_0_7 cx_0_8 cx_0_9 cx_0_10 Rz_0
    obtain ⟨cx_1_0, cx_1_1, cx_1_2, cx_1_3, cx_1_4, cx_1_5, cx_1_6, cx_1_7, cx_1_8, cx_1_9, cx_1_10⟩ := inC_cells Rx_1
    have hst := usC_store (x := ⟨0, A, D, 0⟩) Rz_1 rfl
    have rz := setRow_row (c' := usC ⟨0, A, D, 0⟩) Rz_1
    have bz : Below w.heap.size w (w1.setRow (w.heap.size + 1) (usC ⟨0, A, D, 0⟩)) := Below.setRow B1 (show w.heap.size ≤ w.heap.size + 1 by first | exact Nat.le_refl _ | omega | (skip; omega))
    obtain ⟨wz, hwz⟩ : ∃ V, w1.setRow (w.heap.size + 1) (usC ⟨0, A, D, 0⟩) = V := ⟨_, rfl⟩
    rw [hwz] at hst rz bz
    clear hwz
    go_wp2
    exact bodyPost_ret (v := .agg (usC ⟨0, A, D, 0⟩)) (res_usC Tryd.results27 rfl rz) rfl ⟨rfl, bz⟩
  · have hO : True := trivial
    obtain ⟨Rx_0, Rz_0, B0⟩ := opn2 w (Obj.cells (inC ⟨23, fo, fr, kd, rd, rs1, rs2, rs3, rm, im, cs⟩) 28) (Obj.cells #[.int .u32 0, .int .u32 0, .int .u32 0, .int .u32 0] 33)
    go_enter Tryd.func27, Tryd.ntmps27
    obtain ⟨cx_0_0, cx_0_1, cx_0_2, cx_0_3, cx_0_4, cx_0_5, cx_0_6, cx_0_7, cx_0_8, cx_0_9, cx_0_10⟩ := inC_cells Rx_0
    go_wp2_with fail
    go_quiet ((go_at_call 52; with_reducible first | exact (KD.out _).mono (fun _ _ h => ⟨h.1, _, h.2⟩) | exact (KA.out _).mono (fun _ _ h => ⟨h.1, _, h.2⟩) | exact (KB.out _).mono (fun _ _ h => ⟨h.1, _, h.2⟩) | exact (KC.out _).mono (fun _ _ h => ⟨h.1, _, h.2⟩)))
    obtain ⟨w1, hw, B1, hh⟩ := quiet_world B0 nq
    rw [hw]
    have Rx_1 : w1.heap[w.heap.size]? = some (Obj.cells (inC ⟨23, fo, fr, kd, rd, rs1, rs2, rs3, rm, im, cs⟩) 28) := by rw [hh]; exact Rx_0
    have Rz_1 : w1.heap[w.heap.size + 1]? = some (Obj.cells #[.int .u32 0, .int .u32 0, .int .u32 0, .int .u32 0] 33) := by rw [hh]; exact Rz_0
    clear hw hh B0 Rx_0 cx_0_0 cx_0_1 cx_0_2 cx_0_3 cx_0_4 cx_0_5 cx_0_6 cx_0_7 cx_0_8 cx_0_9 cx_0_10 Rz_0
    obtain ⟨cx_1_0, cx_1_1, cx_1_2, cx_1_3, cx_1_4, cx_1_5, cx_1_6, cx_1_7, cx_1_8, cx_1_9, cx_1_10⟩ := inC_cells Rx_1
    have hst := usC_store (x := ⟨0, A, D, 0⟩) Rz_1 rfl
    have rz := setRow_row (c' := usC ⟨0, A, D, 0⟩) Rz_1
    have bz : Below w.heap.size w (w1.setRow (w.heap.size + 1) (usC ⟨0, A, D, 0⟩)) := Below.setRow B1 (show w.heap.size ≤ w.heap.size + 1 by first | exact Nat.le_refl _ | omega | (skip; omega))
    obtain ⟨wz, hwz⟩ : ∃ V, w1.setRow (w.heap.size + 1) (usC ⟨0, A, D, 0⟩) = V := ⟨_, rfl⟩
    rw [hwz] at hst rz bz
    clear hwz
    go_wp2
    exact bodyPost_ret (v := .agg (usC ⟨0, A, D, 0⟩)) (res_usC Tryd.results27 rfl rz) rfl ⟨rfl, bz⟩
  · have hO : True := trivial
    obtain ⟨Rx_0, Rz_0, B0⟩ := opn2 w (Obj.cells (inC ⟨24, fo, fr, kd, rd, rs1, rs2, rs3, rm, im, cs⟩) 28) (Obj.cells #[.int .u32 0, .int .u32 0, .int .u32 0, .int .u32 0] 33)
    go_enter Tryd.func27, Tryd.ntmps27
    obtain ⟨cx_0_0, cx_0_1, cx_0_2, cx_0_3, cx_0_4, cx_0_5, cx_0_6, cx_0_7, cx_0_8, cx_0_9, cx_0_10⟩ := inC_cells Rx_0
    go_wp2_with fail
    go_quiet ((go_at_call 52; with_reducible first | exact (KD.out _).mono (fun _ _ h => ⟨h.1, _, h.2⟩) | exact (KA.out _).mono (fun _ _ h => ⟨h.1, _, h.2⟩) | exact (KB.out _).mono (fun _ _ h => ⟨h.1, _, h.2⟩) | exact (KC.out _).mono (fun _ _ h => ⟨h.1, _, h.2⟩)))
    obtain ⟨w1, hw, B1, hh⟩ := quiet_world B0 nq
    rw [hw]
    have Rx_1 : w1.heap[w.heap.size]? = some (Obj.cells (inC ⟨24, fo, fr, kd, rd, rs1, rs2, rs3, rm, im, cs⟩) 28) := by rw [hh]; exact Rx_0
    have Rz_1 : w1.heap[w.heap.size + 1]? = some (Obj.cells #[.int .u32 0, .int .u32 0, .int .u32 0, .int .u32 0] 33) := by rw [hh]; exact Rz_0
    clear hw hh B0 Rx_0 cx_0_0 cx_0_1 cx_0_2 cx_0_3 cx_0_4 cx_0_5 cx_0_6 cx_0_7 cx_0_8 cx_0_9 cx_0_10 Rz_0
    obtain ⟨cx_1_0, cx_1_1, cx_1_2, cx_1_3, cx_1_4, cx_1_5, cx_1_6, cx_1_7, cx_1_8, cx_1_9, cx_1_10⟩ := inC_cells Rx_1
    have hst := usC_store (x := ⟨0, A, D, 0⟩) Rz_1 rfl
    have rz := setRow_row (c' := usC ⟨0, A, D, 0⟩) Rz_1
    have bz : Below w.heap.size w (w1.setRow (w.heap.size + 1) (usC ⟨0, A, D, 0⟩)) := Below.setRow B1 (show w.heap.size ≤ w.heap.size + 1 by first | exact Nat.le_refl _ | omega | (skip; omega))
    obtain ⟨wz, hwz⟩ : ∃ V, w1.setRow (w.heap.size + 1) (usC ⟨0, A, D, 0⟩) = V := ⟨_, rfl⟩
    rw [hwz] at hst rz bz
    clear hwz
    go_wp2
    exact bodyPost_ret (v := .agg (usC ⟨0, A, D, 0⟩)) (res_usC Tryd.results27 rfl rz) rfl ⟨rfl, bz⟩
set_option maxRecDepth 100000 in
set_option maxHeartbeats 8000000 in
theorem t_uses26 (op : Nat) (ho : op = 26 ∨ op = 27 ∨ op = 28) (fo fr kd rd rs1 rs2 rs3 rm : Nat) (im : Int) (cs A B C D AB ABC : Nat) (pa : (2 : Int) ^ min rs1 32 % 4294967296 = (A : Nat)) (pb : (2 : Int) ^ min rs2 32 % 4294967296 = (B : Nat)) (pc : (2 : Int) ^ min rs3 32 % 4294967296 = (C : Nat)) (pd : (2 : Int) ^ min rd 32 % 4294967296 = (D : Nat)) (ob : bits .or .u32 (A : Nat) (B : Nat) = (AB : Nat)) (oc : bits .or .u32 (AB : Nat) (C : Nat) = (ABC : Nat)) (w : World) : Calls Tryd.prog 27 #[.agg (inC ⟨op, fo, fr, kd, rd, rs1, rs2, rs3, rm, im, cs⟩)] w fun r w' => r = .returned (.agg (usC ⟨A, 0, D, 0⟩)) ∧ Below w.heap.size w w' := by
  have hf : #[Value.int .u32 (A : Nat), .int .u32 0, .int .u32 (D : Nat), .int .u32 0] = usC ⟨A, 0, D, 0⟩ := rfl
  have KA := box (fun w => t_set rs1 A pa w)
  have KB := box (fun w => t_set rs2 B pb w)
  have KC := box (fun w => t_set rs3 C pc w)
  have KD := box (fun w => t_set rd D pd w)
  clear pa pb pc pd
  rcases ho with rfl | rfl | rfl
  · have hO : True := trivial
    obtain ⟨Rx_0, Rz_0, B0⟩ := opn2 w (Obj.cells (inC ⟨26, fo, fr, kd, rd, rs1, rs2, rs3, rm, im, cs⟩) 28) (Obj.cells #[.int .u32 0, .int .u32 0, .int .u32 0, .int .u32 0] 33)
    go_enter Tryd.func27, Tryd.ntmps27
    obtain ⟨cx_0_0, cx_0_1, cx_0_2, cx_0_3, cx_0_4, cx_0_5, cx_0_6, cx_0_7, cx_0_8, cx_0_9, cx_0_10⟩ := inC_cells Rx_0
    go_wp2_with fail
    go_quiet ((go_at_call 52; with_reducible first | exact (KD.out _).mono (fun _ _ h => ⟨h.1, _, h.2⟩) | exact (KA.out _).mono (fun _ _ h => ⟨h.1, _, h.2⟩) | exact (KB.out _).mono (fun _ _ h => ⟨h.1, _, h.2⟩) | exact (KC.out _).mono (fun _ _ h => ⟨h.1, _, h.2⟩)))
    obtain ⟨w1, hw, B1, hh⟩ := quiet_world B0 nq
    rw [hw]
    have Rx_1 : w1.heap[w.heap.size]? = some (Obj.cells (inC ⟨26, fo, fr, kd, rd, rs1, rs2, rs3, rm, im, cs⟩) 28) := by rw [hh]; exact Rx_0
    have Rz_1 : w1.heap[w.heap.size + 1]? = some (Obj.cells #[.int .u32 0, .int .u32 0, .int .u32 0, .int .u32 0] 33) := by rw [hh]; exact Rz_0
    clear hw hh B0 Rx_0 cx_0_0 cx_0_1 cx_0_2 cx_0_3 cx_0_4 cx_0_5 cx_0_6 cx_0_7 cx_0_8 cx_0_9 cx_0_10 Rz_0
    obtain ⟨cx_1_0, cx_1_1, cx_1_2, cx_1_3, cx_1_4, cx_1_5, cx_1_6, cx_1_7, cx_1_8, cx_1_9, cx_1_10⟩ := inC_cells Rx_1
    have hst := usC_store (x := ⟨A, 0, D, 0⟩) Rz_1 rfl
    have rz := setRow_row (c' := usC ⟨A, 0, D, 0⟩) Rz_1
    have bz : Below w.heap.size w (w1.setRow (w.heap.size + 1) (usC ⟨A, 0, D, 0⟩)) := Below.setRow B1 (show w.heap.size ≤ w.heap.size + 1 by first | exact Nat.le_refl _ | omega | (skip; omega))
    obtain ⟨wz, hwz⟩ : ∃ V, w1.setRow (w.heap.size + 1) (usC ⟨A, 0, D, 0⟩) = V := ⟨_, rfl⟩
    rw [hwz] at hst rz bz
    clear hwz
    go_wp2
    exact bodyPost_ret (v := .agg (usC ⟨A, 0, D, 0⟩)) (res_usC Tryd.results27 rfl rz) rfl ⟨rfl, bz⟩
  · have hO : True := trivial
    obtain ⟨Rx_0, Rz_0, B0⟩ := opn2 w (Obj.cells (inC ⟨27, fo, fr, kd, rd, rs1, rs2, rs3, rm, im, cs⟩) 28) (Obj.cells #[.int .u32 0, .int .u32 0, .int .u32 0, .int .u32 0] 33)
    go_enter Tryd.func27, Tryd.ntmps27
    obtain ⟨cx_0_0, cx_0_1, cx_0_2, cx_0_3, cx_0_4, cx_0_5, cx_0_6, cx_0_7, cx_0_8, cx_0_9, cx_0_10⟩ := inC_cells Rx_0
    go_wp2_with fail
    go_quiet ((go_at_call 52; with_reducible first | exact (KD.out _).mono (fun _ _ h => ⟨h.1, _, h.2⟩) | exact (KA.out _).mono (fun _ _ h => ⟨h.1, _, h.2⟩) | exact (KB.out _).mono (fun _ _ h => ⟨h.1, _, h.2⟩) | exact (KC.out _).mono (fun _ _ h => ⟨h.1, _, h.2⟩)))
    obtain ⟨w1, hw, B1, hh⟩ := quiet_world B0 nq
    rw [hw]
    have Rx_1 : w1.heap[w.heap.size]? = some (Obj.cells (inC ⟨27, fo, fr, kd, rd, rs1, rs2, rs3, rm, im, cs⟩) 28) := by rw [hh]; exact Rx_0
    have Rz_1 : w1.heap[w.heap.size + 1]? = some (Obj.cells #[.int .u32 0, .int .u32 0, .int .u32 0, .int .u32 0] 33) := by rw [hh]; exact Rz_0
    clear hw hh B0 Rx_0 cx_0_0 cx_0_1 cx_0_2 cx_0_3 cx_0_4 cx_0_5 cx_0_6 cx_0_7 cx_0_8 cx_0_9 cx_0_10 Rz_0
    obtain ⟨cx_1_0, cx_1_1, cx_1_2, cx_1_3, cx_1_4, cx_1_5, cx_1_6, cx_1_7, cx_1_8, cx_1_9, cx_1_10⟩ := inC_cells Rx_1
    have hst := usC_store (x := ⟨A, 0, D, 0⟩) Rz_1 rfl
    have rz := setRow_row (c' := usC ⟨A, 0, D, 0⟩) Rz_1
    have bz : Below w.heap.size w (w1.setRow (w.heap.size + 1) (usC ⟨A, 0, D, 0⟩)) := Below.setRow B1 (show w.heap.size ≤ w.heap.size + 1 by first | exact Nat.le_refl _ | omega | (skip; omega))
    obtain ⟨wz, hwz⟩ : ∃ V, w1.setRow (w.heap.size + 1) (usC ⟨A, 0, D, 0⟩) = V := ⟨_, rfl⟩
    rw [hwz] at hst rz bz
    clear hwz
    go_wp2
    exact bodyPost_ret (v := .agg (usC ⟨A, 0, D, 0⟩)) (res_usC Tryd.results27 rfl rz) rfl ⟨rfl, bz⟩
  · have hO : True := trivial
    obtain ⟨Rx_0, Rz_0, B0⟩ := opn2 w (Obj.cells (inC ⟨28, fo, fr, kd, rd, rs1, rs2, rs3, rm, im, cs⟩) 28) (Obj.cells #[.int .u32 0, .int .u32 0, .int .u32 0, .int .u32 0] 33)
    go_enter Tryd.func27, Tryd.ntmps27
    obtain ⟨cx_0_0, cx_0_1, cx_0_2, cx_0_3, cx_0_4, cx_0_5, cx_0_6, cx_0_7, cx_0_8, cx_0_9, cx_0_10⟩ := inC_cells Rx_0
    go_wp2_with fail
    go_quiet ((go_at_call 52; with_reducible first | exact (KD.out _).mono (fun _ _ h => ⟨h.1, _, h.2⟩) | exact (KA.out _).mono (fun _ _ h => ⟨h.1, _, h.2⟩) | exact (KB.out _).mono (fun _ _ h => ⟨h.1, _, h.2⟩) | exact (KC.out _).mono (fun _ _ h => ⟨h.1, _, h.2⟩)))
    obtain ⟨w1, hw, B1, hh⟩ := quiet_world B0 nq
    rw [hw]
    have Rx_1 : w1.heap[w.heap.size]? = some (Obj.cells (inC ⟨28, fo, fr, kd, rd, rs1, rs2, rs3, rm, im, cs⟩) 28) := by rw [hh]; exact Rx_0
    have Rz_1 : w1.heap[w.heap.size + 1]? = some (Obj.cells #[.int .u32 0, .int .u32 0, .int .u32 0, .int .u32 0] 33) := by rw [hh]; exact Rz_0
    clear hw hh B0 Rx_0 cx_0_0 cx_0_1 cx_0_2 cx_0_3 cx_0_4 cx_0_5 cx_0_6 cx_0_7 cx_0_8 cx_0_9 cx_0_10 Rz_0
    obtain ⟨cx_1_0, cx_1_1, cx_1_2, cx_1_3, cx_1_4, cx_1_5, cx_1_6, cx_1_7, cx_1_8, cx_1_9, cx_1_10⟩ := inC_cells Rx_1
    have hst := usC_store (x := ⟨A, 0, D, 0⟩) Rz_1 rfl
    have rz := setRow_row (c' := usC ⟨A, 0, D, 0⟩) Rz_1
    have bz : Below w.heap.size w (w1.setRow (w.heap.size + 1) (usC ⟨A, 0, D, 0⟩)) := Below.setRow B1 (show w.heap.size ≤ w.heap.size + 1 by first | exact Nat.le_refl _ | omega | (skip; omega))
    obtain ⟨wz, hwz⟩ : ∃ V, w1.setRow (w.heap.size + 1) (usC ⟨A, 0, D, 0⟩) = V := ⟨_, rfl⟩
    rw [hwz] at hst rz bz
    clear hwz
    go_wp2
    exact bodyPost_ret (v := .agg (usC ⟨A, 0, D, 0⟩)) (res_usC Tryd.results27 rfl rz) rfl ⟨rfl, bz⟩
set_option maxRecDepth 100000 in
set_option maxHeartbeats 8000000 in
theorem t_uses29 (op : Nat) (ho : op = 29 ∨ op = 30 ∨ op = 31) (fo fr kd rd rs1 rs2 rs3 rm : Nat) (im : Int) (cs A B C D AB ABC : Nat) (pa : (2 : Int) ^ min rs1 32 % 4294967296 = (A : Nat)) (pb : (2 : Int) ^ min rs2 32 % 4294967296 = (B : Nat)) (pc : (2 : Int) ^ min rs3 32 % 4294967296 = (C : Nat)) (pd : (2 : Int) ^ min rd 32 % 4294967296 = (D : Nat)) (ob : bits .or .u32 (A : Nat) (B : Nat) = (AB : Nat)) (oc : bits .or .u32 (AB : Nat) (C : Nat) = (ABC : Nat)) (w : World) : Calls Tryd.prog 27 #[.agg (inC ⟨op, fo, fr, kd, rd, rs1, rs2, rs3, rm, im, cs⟩)] w fun r w' => r = .returned (.agg (usC ⟨0, 0, D, 0⟩)) ∧ Below w.heap.size w w' := by
  have hf : #[Value.int .u32 0, .int .u32 0, .int .u32 (D : Nat), .int .u32 0] = usC ⟨0, 0, D, 0⟩ := rfl
  have KA := box (fun w => t_set rs1 A pa w)
  have KB := box (fun w => t_set rs2 B pb w)
  have KC := box (fun w => t_set rs3 C pc w)
  have KD := box (fun w => t_set rd D pd w)
  clear pa pb pc pd
  rcases ho with rfl | rfl | rfl
  · have hO : True := trivial
    obtain ⟨Rx_0, Rz_0, B0⟩ := opn2 w (Obj.cells (inC ⟨29, fo, fr, kd, rd, rs1, rs2, rs3, rm, im, cs⟩) 28) (Obj.cells #[.int .u32 0, .int .u32 0, .int .u32 0, .int .u32 0] 33)
    go_enter Tryd.func27, Tryd.ntmps27
    obtain ⟨cx_0_0, cx_0_1, cx_0_2, cx_0_3, cx_0_4, cx_0_5, cx_0_6, cx_0_7, cx_0_8, cx_0_9, cx_0_10⟩ := inC_cells Rx_0
    go_wp2_with fail
    go_quiet ((go_at_call 52; with_reducible first | exact (KD.out _).mono (fun _ _ h => ⟨h.1, _, h.2⟩) | exact (KA.out _).mono (fun _ _ h => ⟨h.1, _, h.2⟩) | exact (KB.out _).mono (fun _ _ h => ⟨h.1, _, h.2⟩) | exact (KC.out _).mono (fun _ _ h => ⟨h.1, _, h.2⟩)))
    obtain ⟨w1, hw, B1, hh⟩ := quiet_world B0 nq
    rw [hw]
    have Rx_1 : w1.heap[w.heap.size]? = some (Obj.cells (inC ⟨29, fo, fr, kd, rd, rs1, rs2, rs3, rm, im, cs⟩) 28) := by rw [hh]; exact Rx_0
    have Rz_1 : w1.heap[w.heap.size + 1]? = some (Obj.cells #[.int .u32 0, .int .u32 0, .int .u32 0, .int .u32 0] 33) := by rw [hh]; exact Rz_0
    clear hw hh B0 Rx_0 cx_0_0 cx_0_1 cx_0_2 cx_0_3 cx_0_4 cx_0_5 cx_0_6 cx_0_7 cx_0_8 cx_0_9 cx_0_10 Rz_0
    obtain ⟨cx_1_0, cx_1_1, cx_1_2, cx_1_3, cx_1_4, cx_1_5, cx_1_6, cx_1_7, cx_1_8, cx_1_9, cx_1_10⟩ := inC_cells Rx_1
    have hst := usC_store (x := ⟨0, 0, D, 0⟩) Rz_1 rfl
    have rz := setRow_row (c' := usC ⟨0, 0, D, 0⟩) Rz_1
    have bz : Below w.heap.size w (w1.setRow (w.heap.size + 1) (usC ⟨0, 0, D, 0⟩)) := Below.setRow B1 (show w.heap.size ≤ w.heap.size + 1 by first | exact Nat.le_refl _ | omega | (skip; omega))
    obtain ⟨wz, hwz⟩ : ∃ V, w1.setRow (w.heap.size + 1) (usC ⟨0, 0, D, 0⟩) = V := ⟨_, rfl⟩
    rw [hwz] at hst rz bz
    clear hwz
    go_wp2
    exact bodyPost_ret (v := .agg (usC ⟨0, 0, D, 0⟩)) (res_usC Tryd.results27 rfl rz) rfl ⟨rfl, bz⟩
  · have hO : True := trivial
    obtain ⟨Rx_0, Rz_0, B0⟩ := opn2 w (Obj.cells (inC ⟨30, fo, fr, kd, rd, rs1, rs2, rs3, rm, im, cs⟩) 28) (Obj.cells #[.int .u32 0, .int .u32 0, .int .u32 0, .int .u32 0] 33)
    go_enter Tryd.func27, Tryd.ntmps27
    obtain ⟨cx_0_0, cx_0_1, cx_0_2, cx_0_3, cx_0_4, cx_0_5, cx_0_6, cx_0_7, cx_0_8, cx_0_9, cx_0_10⟩ := inC_cells Rx_0
    go_wp2_with fail
    go_quiet ((go_at_call 52; with_reducible first | exact (KD.out _).mono (fun _ _ h => ⟨h.1, _, h.2⟩) | exact (KA.out _).mono (fun _ _ h => ⟨h.1, _, h.2⟩) | exact (KB.out _).mono (fun _ _ h => ⟨h.1, _, h.2⟩) | exact (KC.out _).mono (fun _ _ h => ⟨h.1, _, h.2⟩)))
    obtain ⟨w1, hw, B1, hh⟩ := quiet_world B0 nq
    rw [hw]
    have Rx_1 : w1.heap[w.heap.size]? = some (Obj.cells (inC ⟨30, fo, fr, kd, rd, rs1, rs2, rs3, rm, im, cs⟩) 28) := by rw [hh]; exact Rx_0
    have Rz_1 : w1.heap[w.heap.size + 1]? = some (Obj.cells #[.int .u32 0, .int .u32 0, .int .u32 0, .int .u32 0] 33) := by rw [hh]; exact Rz_0
    clear hw hh B0 Rx_0 cx_0_0 cx_0_1 cx_0_2 cx_0_3 cx_0_4 cx_0_5 cx_0_6 cx_0_7 cx_0_8 cx_0_9 cx_0_10 Rz_0
    obtain ⟨cx_1_0, cx_1_1, cx_1_2, cx_1_3, cx_1_4, cx_1_5, cx_1_6, cx_1_7, cx_1_8, cx_1_9, cx_1_10⟩ := inC_cells Rx_1
    have hst := usC_store (x := ⟨0, 0, D, 0⟩) Rz_1 rfl
    have rz := setRow_row (c' := usC ⟨0, 0, D, 0⟩) Rz_1
    have bz : Below w.heap.size w (w1.setRow (w.heap.size + 1) (usC ⟨0, 0, D, 0⟩)) := Below.setRow B1 (show w.heap.size ≤ w.heap.size + 1 by first | exact Nat.le_refl _ | omega | (skip; omega))
    obtain ⟨wz, hwz⟩ : ∃ V, w1.setRow (w.heap.size + 1) (usC ⟨0, 0, D, 0⟩) = V := ⟨_, rfl⟩
    rw [hwz] at hst rz bz
    clear hwz
    go_wp2
    exact bodyPost_ret (v := .agg (usC ⟨0, 0, D, 0⟩)) (res_usC Tryd.results27 rfl rz) rfl ⟨rfl, bz⟩
  · have hO : True := trivial
    obtain ⟨Rx_0, Rz_0, B0⟩ := opn2 w (Obj.cells (inC ⟨31, fo, fr, kd, rd, rs1, rs2, rs3, rm, im, cs⟩) 28) (Obj.cells #[.int .u32 0, .int .u32 0, .int .u32 0, .int .u32 0] 33)
    go_enter Tryd.func27, Tryd.ntmps27
    obtain ⟨cx_0_0, cx_0_1, cx_0_2, cx_0_3, cx_0_4, cx_0_5, cx_0_6, cx_0_7, cx_0_8, cx_0_9, cx_0_10⟩ := inC_cells Rx_0
    go_wp2_with fail
    go_quiet ((go_at_call 52; with_reducible first | exact (KD.out _).mono (fun _ _ h => ⟨h.1, _, h.2⟩) | exact (KA.out _).mono (fun _ _ h => ⟨h.1, _, h.2⟩) | exact (KB.out _).mono (fun _ _ h => ⟨h.1, _, h.2⟩) | exact (KC.out _).mono (fun _ _ h => ⟨h.1, _, h.2⟩)))
    obtain ⟨w1, hw, B1, hh⟩ := quiet_world B0 nq
    rw [hw]
    have Rx_1 : w1.heap[w.heap.size]? = some (Obj.cells (inC ⟨31, fo, fr, kd, rd, rs1, rs2, rs3, rm, im, cs⟩) 28) := by rw [hh]; exact Rx_0
    have Rz_1 : w1.heap[w.heap.size + 1]? = some (Obj.cells #[.int .u32 0, .int .u32 0, .int .u32 0, .int .u32 0] 33) := by rw [hh]; exact Rz_0
    clear hw hh B0 Rx_0 cx_0_0 cx_0_1 cx_0_2 cx_0_3 cx_0_4 cx_0_5 cx_0_6 cx_0_7 cx_0_8 cx_0_9 cx_0_10 Rz_0
    obtain ⟨cx_1_0, cx_1_1, cx_1_2, cx_1_3, cx_1_4, cx_1_5, cx_1_6, cx_1_7, cx_1_8, cx_1_9, cx_1_10⟩ := inC_cells Rx_1
    have hst := usC_store (x := ⟨0, 0, D, 0⟩) Rz_1 rfl
    have rz := setRow_row (c' := usC ⟨0, 0, D, 0⟩) Rz_1
    have bz : Below w.heap.size w (w1.setRow (w.heap.size + 1) (usC ⟨0, 0, D, 0⟩)) := Below.setRow B1 (show w.heap.size ≤ w.heap.size + 1 by first | exact Nat.le_refl _ | omega | (skip; omega))
    obtain ⟨wz, hwz⟩ : ∃ V, w1.setRow (w.heap.size + 1) (usC ⟨0, 0, D, 0⟩) = V := ⟨_, rfl⟩
    rw [hwz] at hst rz bz
    clear hwz
    go_wp2
    exact bodyPost_ret (v := .agg (usC ⟨0, 0, D, 0⟩)) (res_usC Tryd.results27 rfl rz) rfl ⟨rfl, bz⟩
theorem res_usC2 {fn : Func} {z t : Tmp} (h : fn.results = #[.cell z 33, .tmp t]) {tmps : Array Value} {w : World} {b : Nat} {x : Us} {T : TypeId} (hz : tmps.getD z undef = .pointer (some ⟨b, 0, none⟩)) (hr : w.heap[b]? = some (.cells (usC x) T)) : (results fn tmps).run Tryd.prog w = .ok (.tuple #[.agg (usC x), tmps.getD t undef]) w := by
  have q := usC_lv hr
  have hz2 : tmps[z]?.getD undef = .pointer (some ⟨b, 0, none⟩) := by rw [← Array.getD_eq_getD_getElem?]; exact hz
  simp [results, h, hz2, asAddr, q, Result.andThen]
theorem us_zero : #[Value.int .u32 0, .int .u32 0, .int .u32 0, .int .u32 0] = usC ⟨0, 0, 0, 0⟩ := rfl
set_option maxRecDepth 100000 in
set_option maxHeartbeats 8000000 in
theorem t_Uses_no (x : Nat) (i : In) (e : Int) (he : (e != 0) = true) (KF : Box (∀ w, T24 w → Calls Tryd.prog 9 #[.int .u32 (x : Nat)] w fun r w' => r = .returned (.tuple #[.agg (inC i), .int .i64 e]) ∧ Below w.heap.size w w')) (w : World) (hT : T24 w) : Calls Tryd.prog 11 #[.int .u32 (x : Nat)] w fun r w' => r = .returned (.tuple #[.agg (usC ⟨0, 0, 0, 0⟩), .int .i64 e]) ∧ Below w.heap.size w w' := by
  have FF := box hT
  clear hT
  have huz := us_zero
  have hif := inC_fold i
  have hin := inC_new
  obtain ⟨Rz_0, B0⟩ := opn1 w (Obj.cells #[.int .u32 0, .int .u32 0, .int .u32 0, .int .u32 0] 33)
  go_enter Tryd.func11, Tryd.ntmps11
  go_wp2_with fail
  refine (KF.out _ (t24B FF.out B0)).mono ?_
  rintro r w1 ⟨rfl, b1⟩
  have B1 : Below w.heap.size w w1 := btr B0 b1
  have Rz_1 := heap_of b1 _ _ _ Rz_0
  clear b1 B0 Rz_0
  have S2 := box B1.size
  have Lz_2 : Box (w.heap.size < w1.heap.size) := box (Array.getElem?_eq_some_iff.1 Rz_1).1
  have Ri_2 := heap_alloc_last w1 (Obj.cells (inC i) 28)
  have B2 := btr B1 (bal w1 (Obj.cells (inC i) 28))
  have Rz_2 := heap_of (bal w1 (Obj.cells (inC i) 28)) _ _ _ Rz_1
  clear B1 Rz_1
  obtain ⟨ci_2_0, ci_2_1, ci_2_2, ci_2_3, ci_2_4, ci_2_5, ci_2_6, ci_2_7, ci_2_8, ci_2_9, ci_2_10⟩ := inC_cells Ri_2
  have hst := usC_store (x := ⟨0, 0, 0, 0⟩) Rz_2 rfl
  have rz := setRow_row (c' := usC ⟨0, 0, 0, 0⟩) Rz_2
  have bz : Below w.heap.size w ((w1.alloc (Obj.cells (inC i) 28)).setRow (w.heap.size) (usC ⟨0, 0, 0, 0⟩)) := Below.setRow B2 (show w.heap.size ≤ w.heap.size by first | exact Nat.le_refl _ | omega | (have := S2.out; have := Lz_2.out; omega))
  obtain ⟨wz, hwz⟩ : ∃ V, (w1.alloc (Obj.cells (inC i) 28)).setRow (w.heap.size) (usC ⟨0, 0, 0, 0⟩) = V := ⟨_, rfl⟩
  rw [hwz] at hst rz bz
  clear hwz
  go_wp2
  exact bodyPost_ret (v := .tuple #[.agg (usC ⟨0, 0, 0, 0⟩), .int .i64 e]) (res_usC2 Tryd.results11 rfl rz) rfl ⟨rfl, bz⟩
set_option maxRecDepth 100000 in
set_option maxHeartbeats 8000000 in
theorem t_Uses_y (x : Nat) (i : In) (u : Us) (KF : Box (∀ w, T24 w → Calls Tryd.prog 9 #[.int .u32 (x : Nat)] w fun r w' => r = .returned (.tuple #[.agg (inC i), .int .i64 0]) ∧ Below w.heap.size w w')) (KU : Box (∀ w, Calls Tryd.prog 27 #[.agg (inC i)] w fun r w' => r = .returned (.agg (usC u)) ∧ Below w.heap.size w w')) (w : World) (hT : T24 w) : Calls Tryd.prog 11 #[.int .u32 (x : Nat)] w fun r w' => r = .returned (.tuple #[.agg (usC u), .int .i64 0]) ∧ Below w.heap.size w w' := by
  have FF := box hT
  clear hT
  have hif := inC_fold i
  have hin := inC_new
  have huf := usC_fold u
  obtain ⟨Rz_0, B0⟩ := opn1 w (Obj.cells #[.int .u32 0, .int .u32 0, .int .u32 0, .int .u32 0] 33)
  go_enter Tryd.func11, Tryd.ntmps11
  go_wp2_with fail
  refine (KF.out _ (t24B FF.out B0)).mono ?_
  rintro r w1 ⟨rfl, b1⟩
  have B1 : Below w.heap.size w w1 := btr B0 b1
  have Rz_1 := heap_of b1 _ _ _ Rz_0
  clear b1 B0 Rz_0
  have S2 := box B1.size
  have Lz_2 : Box (w.heap.size < w1.heap.size) := box (Array.getElem?_eq_some_iff.1 Rz_1).1
  have Ri_2 := heap_alloc_last w1 (Obj.cells (inC i) 28)
  have B2 := btr B1 (bal w1 (Obj.cells (inC i) 28))
  have Rz_2 := heap_of (bal w1 (Obj.cells (inC i) 28)) _ _ _ Rz_1
  clear B1 Rz_1
  obtain ⟨ci_2_0, ci_2_1, ci_2_2, ci_2_3, ci_2_4, ci_2_5, ci_2_6, ci_2_7, ci_2_8, ci_2_9, ci_2_10⟩ := inC_cells Ri_2
  go_wp2_with fail
  refine (KU.out _).mono ?_
  rintro r w3 ⟨rfl, b3⟩
  have B3 : Below w.heap.size w w3 := btr B2 b3
  have Rz_3 := heap_of b3 _ _ _ Rz_2
  have Ri_3 := heap_of b3 _ _ _ Ri_2
  clear b3 B2 Rz_2 Ri_2 ci_2_0 ci_2_1 ci_2_2 ci_2_3 ci_2_4 ci_2_5 ci_2_6 ci_2_7 ci_2_8 ci_2_9 ci_2_10
  obtain ⟨ci_3_0, ci_3_1, ci_3_2, ci_3_3, ci_3_4, ci_3_5, ci_3_6, ci_3_7, ci_3_8, ci_3_9, ci_3_10⟩ := inC_cells Ri_3
  have hst := usC_store (x := u) Rz_3 rfl
  have rz := setRow_row (c' := usC u) Rz_3
  have bz : Below w.heap.size w (w3.setRow (w.heap.size) (usC u)) := Below.setRow B3 (show w.heap.size ≤ w.heap.size by first | exact Nat.le_refl _ | omega | (have := S2.out; have := Lz_2.out; omega))
  obtain ⟨wz, hwz⟩ : ∃ V, w3.setRow (w.heap.size) (usC u) = V := ⟨_, rfl⟩
  rw [hwz] at hst rz bz
  clear hwz
  go_wp2
  exact bodyPost_ret (v := .tuple #[.agg (usC u), .int .i64 0]) (res_usC2 Tryd.results11 rfl rz) rfl ⟨rfl, bz⟩
end Go.Proofs.YtamlcgmipdcgjaaDoor
