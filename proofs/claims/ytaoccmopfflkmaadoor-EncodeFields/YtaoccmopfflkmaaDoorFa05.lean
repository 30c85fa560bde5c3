/-
  What the functions that the statement reaches return: part 5 (ZB, ZD, WD, WF, WG).
-/
import Derived.Laws.AppendOwn
import Derived.Laws.OwnMore
import Derived.Laws.Cover3
import Derived.Test.YtaoccmopfflkmaaDoorFa04
namespace Go.Proofs.YtaoccmopfflkmaaDoor
set_option maxRecDepth 100000
set_option maxHeartbeats 40000000
set_option maxRecDepth 100000
open Go.RowKit WMath
set_option linter.unusedSimpArgs false
set_option linter.unusedVariables false
set_option maxRecDepth 100000 in
set_option maxHeartbeats 8000000 in
theorem t_same_n1 (x y : Nat) (r1 r2 : Rw) (o : Bool) (KF : Box (∀ w, T24 w → Calls Tryd.prog 29 #[.int .u32 (x : Nat)] w fun r w' => r = .returned (.tuple #[.agg (rwC r1), .bool false]) ∧ Below w.heap.size w w')) (KG : Box (∀ w, T24 w → Calls Tryd.prog 29 #[.int .u32 (y : Nat)] w fun r w' => r = .returned (.tuple #[.agg (rwC r2), .bool o]) ∧ Below w.heap.size w w')) (w : World) (hT : T24 w) : Calls Tryd.prog 21 #[.int .u32 (x : Nat), .int .u32 (y : Nat)] w fun r w' => r = .returned (.tuple #[.int .u32 0, .int .i64 250]) ∧ Below w.heap.size w w' := by
  have FF := box hT
  clear hT
  have hr1 := rwC_fold r1
  have hr2 := rwC_fold r2
  have hrn := rwC_new
  have heq := eqr r1 r2
  have B0 : Below w.heap.size w w := (Below.refl _ _)
  go_enter Tryd.func21, Tryd.ntmps21
  go_wp2_with fail
  refine (KF.out _ (t24B FF.out B0)).mono ?_
  rintro r w1 ⟨rfl, b1⟩
  have B1 : Below w.heap.size w w1 := btr B0 b1
  clear b1 B0 
  have S2 := box B1.size
  have Ra_2 := heap_alloc_last w1 (Obj.cells (rwC r1) 45)
  have B2 := btr B1 (bal w1 (Obj.cells (rwC r1) 45))
  clear B1 
  obtain ⟨ca_2_0, ca_2_1, ca_2_2, ca_2_3, ca_2_4, ca_2_5, ca_2_6⟩ := rwC_cells Ra_2
  go_wp2_with fail
  refine (KG.out _ (t24B FF.out B2)).mono ?_
  rintro r w3 ⟨rfl, b3⟩
  have B3 : Below w.heap.size w w3 := btr B2 b3
  have Ra_3 := heap_of b3 _ _ _ Ra_2
  clear b3 B2 Ra_2 ca_2_0 ca_2_1 ca_2_2 ca_2_3 ca_2_4 ca_2_5 ca_2_6
  obtain ⟨ca_3_0, ca_3_1, ca_3_2, ca_3_3, ca_3_4, ca_3_5, ca_3_6⟩ := rwC_cells Ra_3
  have S4 := box B3.size
  have La_4 : Box (w1.heap.size < w3.heap.size) := box (Array.getElem?_eq_some_iff.1 Ra_3).1
  have Rb_4 := heap_alloc_last w3 (Obj.cells (rwC r2) 45)
  have B4 := btr B3 (bal w3 (Obj.cells (rwC r2) 45))
  have Ra_4 := heap_of (bal w3 (Obj.cells (rwC r2) 45)) _ _ _ Ra_3
  clear B3 Ra_3 ca_3_0 ca_3_1 ca_3_2 ca_3_3 ca_3_4 ca_3_5 ca_3_6
  obtain ⟨ca_4_0, ca_4_1, ca_4_2, ca_4_3, ca_4_4, ca_4_5, ca_4_6⟩ := rwC_cells Ra_4
  obtain ⟨cb_4_0, cb_4_1, cb_4_2, cb_4_3, cb_4_4, cb_4_5, cb_4_6⟩ := rwC_cells Rb_4
  go_wp2
  go_ret2
  exact ⟨rfl, B4⟩
set_option maxRecDepth 100000 in
set_option maxHeartbeats 8000000 in
theorem t_same_n2 (x y : Nat) (r1 r2 : Rw) (KF : Box (∀ w, T24 w → Calls Tryd.prog 29 #[.int .u32 (x : Nat)] w fun r w' => r = .returned (.tuple #[.agg (rwC r1), .bool true]) ∧ Below w.heap.size w w')) (KG : Box (∀ w, T24 w → Calls Tryd.prog 29 #[.int .u32 (y : Nat)] w fun r w' => r = .returned (.tuple #[.agg (rwC r2), .bool false]) ∧ Below w.heap.size w w')) (w : World) (hT : T24 w) : Calls Tryd.prog 21 #[.int .u32 (x : Nat), .int .u32 (y : Nat)] w fun r w' => r = .returned (.tuple #[.int .u32 0, .int .i64 250]) ∧ Below w.heap.size w w' := by
  have FF := box hT
  clear hT
  have hr1 := rwC_fold r1
  have hr2 := rwC_fold r2
  have hrn := rwC_new
  have heq := eqr r1 r2
  have B0 : Below w.heap.size w w := (Below.refl _ _)
  go_enter Tryd.func21, Tryd.ntmps21
  go_wp2_with fail
  refine (KF.out _ (t24B FF.out B0)).mono ?_
  rintro r w1 ⟨rfl, b1⟩
  have B1 : Below w.heap.size w w1 := btr B0 b1
  clear b1 B0 
  have S2 := box B1.size
  have Ra_2 := heap_alloc_last w1 (Obj.cells (rwC r1) 45)
  have B2 := btr B1 (bal w1 (Obj.cells (rwC r1) 45))
  clear B1 
  obtain ⟨ca_2_0, ca_2_1, ca_2_2, ca_2_3, ca_2_4, ca_2_5, ca_2_6⟩ := rwC_cells Ra_2
  go_wp2_with fail
  refine (KG.out _ (t24B FF.out B2)).mono ?_
  rintro r w3 ⟨rfl, b3⟩
  have B3 : Below w.heap.size w w3 := btr B2 b3
  have Ra_3 := heap_of b3 _ _ _ Ra_2
  clear b3 B2 Ra_2 ca_2_0 ca_2_1 ca_2_2 ca_2_3 ca_2_4 ca_2_5 ca_2_6
  obtain ⟨ca_3_0, ca_3_1, ca_3_2, ca_3_3, ca_3_4, ca_3_5, ca_3_6⟩ := rwC_cells Ra_3
  have S4 := box B3.size
  have La_4 : Box (w1.heap.size < w3.heap.size) := box (Array.getElem?_eq_some_iff.1 Ra_3).1
  have Rb_4 := heap_alloc_last w3 (Obj.cells (rwC r2) 45)
  have B4 := btr B3 (bal w3 (Obj.cells (rwC r2) 45))
  have Ra_4 := heap_of (bal w3 (Obj.cells (rwC r2) 45)) _ _ _ Ra_3
  clear B3 Ra_3 ca_3_0 ca_3_1 ca_3_2 ca_3_3 ca_3_4 ca_3_5 ca_3_6
  obtain ⟨ca_4_0, ca_4_1, ca_4_2, ca_4_3, ca_4_4, ca_4_5, ca_4_6⟩ := rwC_cells Ra_4
  obtain ⟨cb_4_0, cb_4_1, cb_4_2, cb_4_3, cb_4_4, cb_4_5, cb_4_6⟩ := rwC_cells Rb_4
  go_wp2
  go_ret2
  exact ⟨rfl, B4⟩
set_option maxRecDepth 100000 in
set_option maxHeartbeats 8000000 in
theorem t_same_ne (x y : Nat) (r1 r2 : Rw) (hne : rwE r1 r2 = false) (KF : Box (∀ w, T24 w → Calls Tryd.prog 29 #[.int .u32 (x : Nat)] w fun r w' => r = .returned (.tuple #[.agg (rwC r1), .bool true]) ∧ Below w.heap.size w w')) (KG : Box (∀ w, T24 w → Calls Tryd.prog 29 #[.int .u32 (y : Nat)] w fun r w' => r = .returned (.tuple #[.agg (rwC r2), .bool true]) ∧ Below w.heap.size w w')) (w : World) (hT : T24 w) : Calls Tryd.prog 21 #[.int .u32 (x : Nat), .int .u32 (y : Nat)] w fun r w' => r = .returned (.tuple #[.int .u32 0, .int .i64 2]) ∧ Below w.heap.size w w' := by
  have FF := box hT
  clear hT
  have hr1 := rwC_fold r1
  have hr2 := rwC_fold r2
  have hrn := rwC_new
  have heq := eqr r1 r2
  have B0 : Below w.heap.size w w := (Below.refl _ _)
  go_enter Tryd.func21, Tryd.ntmps21
  go_wp2_with fail
  refine (KF.out _ (t24B FF.out B0)).mono ?_
  rintro r w1 ⟨rfl, b1⟩
  have B1 : Below w.heap.size w w1 := btr B0 b1
  clear b1 B0 
  have S2 := box B1.size
  have Ra_2 := heap_alloc_last w1 (Obj.cells (rwC r1) 45)
  have B2 := btr B1 (bal w1 (Obj.cells (rwC r1) 45))
  clear B1 
  obtain ⟨ca_2_0, ca_2_1, ca_2_2, ca_2_3, ca_2_4, ca_2_5, ca_2_6⟩ := rwC_cells Ra_2
  go_wp2_with fail
  refine (KG.out _ (t24B FF.out B2)).mono ?_
  rintro r w3 ⟨rfl, b3⟩
  have B3 : Below w.heap.size w w3 := btr B2 b3
  have Ra_3 := heap_of b3 _ _ _ Ra_2
  clear b3 B2 Ra_2 ca_2_0 ca_2_1 ca_2_2 ca_2_3 ca_2_4 ca_2_5 ca_2_6
  obtain ⟨ca_3_0, ca_3_1, ca_3_2, ca_3_3, ca_3_4, ca_3_5, ca_3_6⟩ := rwC_cells Ra_3
  have S4 := box B3.size
  have La_4 : Box (w1.heap.size < w3.heap.size) := box (Array.getElem?_eq_some_iff.1 Ra_3).1
  have Rb_4 := heap_alloc_last w3 (Obj.cells (rwC r2) 45)
  have B4 := btr B3 (bal w3 (Obj.cells (rwC r2) 45))
  have Ra_4 := heap_of (bal w3 (Obj.cells (rwC r2) 45)) _ _ _ Ra_3
  clear B3 Ra_3 ca_3_0 ca_3_1 ca_3_2 ca_3_3 ca_3_4 ca_3_5 ca_3_6
  obtain ⟨ca_4_0, ca_4_1, ca_4_2, ca_4_3, ca_4_4, ca_4_5, ca_4_6⟩ := rwC_cells Ra_4
  obtain ⟨cb_4_0, cb_4_1, cb_4_2, cb_4_3, cb_4_4, cb_4_5, cb_4_6⟩ := rwC_cells Rb_4
  go_wp2
  go_ret2
  exact ⟨rfl, B4⟩
set_option maxRecDepth 100000 in
set_option maxHeartbeats 8000000 in
theorem t_same_y (x y : Nat) (r1 r2 : Rw) (m : Nat) (hm : bits .xor .u32 IntKind.u32.max (r1.mask : Nat) = (m : Nat)) (hye : rwE r1 r2 = true) (KF : Box (∀ w, T24 w → Calls Tryd.prog 29 #[.int .u32 (x : Nat)] w fun r w' => r = .returned (.tuple #[.agg (rwC r1), .bool true]) ∧ Below w.heap.size w w')) (KG : Box (∀ w, T24 w → Calls Tryd.prog 29 #[.int .u32 (y : Nat)] w fun r w' => r = .returned (.tuple #[.agg (rwC r2), .bool true]) ∧ Below w.heap.size w w')) (w : World) (hT : T24 w) : Calls Tryd.prog 21 #[.int .u32 (x : Nat), .int .u32 (y : Nat)] w fun r w' => r = .returned (.tuple #[.int .u32 (m : Nat), .int .i64 0]) ∧ Below w.heap.size w w' := by
  have FF := box hT
  clear hT
  have hr1 := rwC_fold r1
  have hr2 := rwC_fold r2
  have hrn := rwC_new
  have heq := eqr r1 r2
  have B0 : Below w.heap.size w w := (Below.refl _ _)
  go_enter Tryd.func21, Tryd.ntmps21
  go_wp2_with fail
  refine (KF.out _ (t24B FF.out B0)).mono ?_
  rintro r w1 ⟨rfl, b1⟩
  have B1 : Below w.heap.size w w1 := btr B0 b1
  clear b1 B0 
  have S2 := box B1.size
  have Ra_2 := heap_alloc_last w1 (Obj.cells (rwC r1) 45)
  have B2 := btr B1 (bal w1 (Obj.cells (rwC r1) 45))
  clear B1 
  obtain ⟨ca_2_0, ca_2_1, ca_2_2, ca_2_3, ca_2_4, ca_2_5, ca_2_6⟩ := rwC_cells Ra_2
  go_wp2_with fail
  refine (KG.out _ (t24B FF.out B2)).mono ?_
  rintro r w3 ⟨rfl, b3⟩
  have B3 : Below w.heap.size w w3 := btr B2 b3
  have Ra_3 := heap_of b3 _ _ _ Ra_2
  clear b3 B2 Ra_2 ca_2_0 ca_2_1 ca_2_2 ca_2_3 ca_2_4 ca_2_5 ca_2_6
  obtain ⟨ca_3_0, ca_3_1, ca_3_2, ca_3_3, ca_3_4, ca_3_5, ca_3_6⟩ := rwC_cells Ra_3
  have S4 := box B3.size
  have La_4 : Box (w1.heap.size < w3.heap.size) := box (Array.getElem?_eq_some_iff.1 Ra_3).1
  have Rb_4 := heap_alloc_last w3 (Obj.cells (rwC r2) 45)
  have B4 := btr B3 (bal w3 (Obj.cells (rwC r2) 45))
  have Ra_4 := heap_of (bal w3 (Obj.cells (rwC r2) 45)) _ _ _ Ra_3
  clear B3 Ra_3 ca_3_0 ca_3_1 ca_3_2 ca_3_3 ca_3_4 ca_3_5 ca_3_6
  obtain ⟨ca_4_0, ca_4_1, ca_4_2, ca_4_3, ca_4_4, ca_4_5, ca_4_6⟩ := rwC_cells Ra_4
  obtain ⟨cb_4_0, cb_4_1, cb_4_2, cb_4_3, cb_4_4, cb_4_5, cb_4_6⟩ := rwC_cells Rb_4
  go_wp2
  go_ret2
  exact ⟨rfl, B4⟩
end Go.Proofs.YtaoccmopfflkmaaDoor
namespace Go.Proofs.YtaoccmopfflkmaaDoor
set_option maxRecDepth 100000
set_option maxHeartbeats 40000000
set_option maxRecDepth 100000
open Go.RowKit Go.Shelf WMath
set_option linter.unusedSimpArgs false
set_option linter.unusedVariables false
theorem hE25 : ∀ args w, (callFunc 48 args).run Tryd.prog w = .ok (.enter 48 args) w := enters_of Tryd.func48 (by kernel_rfl) rfl
theorem fb25 : Box (∀ {w w' : World}, T24 w → Below w.heap.size w w' → T24 w') := box (fun h b => t24B h b)
theorem cF25 (x : Nat) (hx : x < 4294967296) : Box (∀ w, T24 w → Calls Tryd.prog 29 #[.int .u32 (x : Nat)] w fun r w' => r = .returned (.tuple #[.agg (rwC (ndO (fdL x)).1), .bool (fdL x).isSome]) ∧ Below w.heap.size w w') := box (fun w hT => t_find x hx hE25 _ _ rfl w hT)
theorem mk_all : (allL.all fun p => decide (p.1.mask ^^^ 4294967295 = mkL p.1.lay ∧ p.1.mask < 4294967296)) = true := by decide +kernel
theorem mk_of {p : Nm} (h : p ∈ allL) : bits .xor .u32 IntKind.u32.max (p.1.mask : Nat) = (mkL p.1.lay : Nat) := by
  obtain ⟨h1, h2⟩ := of_decide_eq_true (List.all_eq_true.1 mk_all p h)
  have q := (xor32u 4294967295 p.1.mask (by decide) h2).1
  rw [Nat.xor_comm, h1] at q
  exact q
theorem rwE_of {p q : Rw} : rwE p q = decide (p = q) := by
  obtain ⟨a1, a2, a3, a4, a5, a6, a7⟩ := p
  obtain ⟨b1, b2, b3, b4, b5, b6, b7⟩ := q
  unfold rwE
  rw [Bool.eq_iff_iff]
  simp
  omega
theorem kSame (v u : Nat) (hv : v < 4294967296) (hu : u < 4294967296) : Box (∀ w, T24 w → Calls Tryd.prog 21 #[.int .u32 (v : Nat), .int .u32 (u : Nat)] w fun r w' => r = .returned (.tuple #[.int .u32 ((smR v u).1 : Nat), .int .i64 (smR v u).2]) ∧ Below w.heap.size w w') := box (fun w hT => by
  have F := cF25 v hv
  have G := cF25 u hu
  cases h : fdL v with
  | none =>
    rw [h] at F
    rw [smR_n1 h]
    exact t_same_n1 v u _ _ _ F G w hT
  | some p =>
    rw [h] at F
    cases g : fdL u with
    | none =>
      rw [g] at G
      rw [smR_n2 h g]
      exact t_same_n2 v u _ _ F G w hT
    | some q =>
      rw [g] at G
      rw [smR_y h g]
      by_cases e : p.1 = q.1
      · rw [if_pos e]
        exact t_same_y v u _ _ _ (mk_of (fd_mem h).1) (by rw [rwE_of]; exact decide_eq_true e) F G w hT
      · rw [if_neg e]
        exact t_same_ne v u _ _ (by rw [rwE_of]; exact decide_eq_false e) F G w hT)
end Go.Proofs.YtaoccmopfflkmaaDoor
namespace Go.Proofs.YtaoccmopfflkmaaDoor
set_option maxRecDepth 100000
set_option maxHeartbeats 40000000
set_option maxRecDepth 100000
open Go.RowKit WMath
set_option linter.unusedSimpArgs false
set_option linter.unusedVariables false
def bndI (x : In) : Bool := decide (x.rd ≤ 31 ∧ x.rs1 ≤ 31 ∧ x.rs2 ≤ 31 ∧ x.rs3 ≤ 31 ∧ x.rm ≤ 7 ∧ x.rm ≠ 5 ∧ x.rm ≠ 6 ∧ -2048 ≤ x.imm ∧ x.imm ≤ 2047 ∧ x.csr ≤ 3)
def fitI (h : Hs) (x : In) : Bool := (h.rd || decide (x.rd = 0)) && (h.rs2 || decide (x.rs2 = 0)) && (h.rs3 || decide (x.rs3 = 0)) && (h.rm || decide (x.rm = 0)) && (h.imm || decide (x.imm = 0)) && (h.csr == !decide (x.csr = 0))
def mayI (x : In) : Bool := match ofR24 x.op x.form x.frm x.kind with | some p => bndI x && fitI (hsL p.1.lay) x | none => false
def imN (i : Int) : Nat := (if i < 0 then i + 4096 else i).toNat
def fsW (l : Nat) (x : In) : Nat := x.rs1 * 32768 + (if l = 1 then x.rd * 128 + imN x.imm * 1048576 else if l = 2 then x.rs2 * 1048576 + (imN x.imm / 32 * 33554432 + imN x.imm % 32 * 128) else if l = 3 then x.rd * 128 + x.rs2 * 1048576 + x.rs3 * 134217728 + x.rm * 4096 else if l = 4 then x.rd * 128 + x.rs2 * 1048576 + x.rm * 4096 else if l = 5 then x.rd * 128 + x.rs2 * 1048576 else if l = 6 then x.rd * 128 + x.rm * 4096 else if l = 7 then x.rd * 128 else if l = 8 then x.rd * 128 + x.csr * 1048576 else x.rd * 128 + x.csr * 1048576)
def encW (p : Rw) (x : In) : Nat := p.mtch + fsW p.lay x
def enR (x : In) : Nat × Int := if mayI x then (encW (ndO (ofR24 x.op x.form x.frm x.kind)).1 x, 0) else (0, 260)
theorem maskIs : allL.all (fun p => decide (p.1.mask = 4294967295 - mkL p.1.lay ∧ p.1.mtch < 4294967296)) = true := by decide +kernel
theorem mt1 : allL.all (fun p => !decide (p.1.lay = 1) || decide (p.1.mtch / 128 % 32 = 0 ∧ p.1.mtch / 32768 % 32 = 0 ∧ p.1.mtch / 1048576 % 32 = 0 ∧ p.1.mtch / 33554432 % 4 = 0 ∧ p.1.mtch / 134217728 % 32 = 0)) = true := by decide +kernel
theorem gm1 : ∀ k, k < 32 → (4294967295 - mkL 1).testBit k = true → (0 ≤ k ∧ k < 7) ∨ (12 ≤ k ∧ k < 15) := by decide +kernel
theorem mt2 : allL.all (fun p => !decide (p.1.lay = 2) || decide (p.1.mtch / 128 % 32 = 0 ∧ p.1.mtch / 32768 % 32 = 0 ∧ p.1.mtch / 1048576 % 32 = 0 ∧ p.1.mtch / 33554432 % 4 = 0 ∧ p.1.mtch / 134217728 % 32 = 0)) = true := by decide +kernel
theorem gm2 : ∀ k, k < 32 → (4294967295 - mkL 2).testBit k = true → (0 ≤ k ∧ k < 7) ∨ (12 ≤ k ∧ k < 15) := by decide +kernel
theorem mt3 : allL.all (fun p => !decide (p.1.lay = 3) || decide (p.1.mtch / 128 % 32 = 0 ∧ p.1.mtch / 4096 % 8 = 0 ∧ p.1.mtch / 32768 % 32 = 0 ∧ p.1.mtch / 1048576 % 32 = 0 ∧ p.1.mtch / 134217728 % 32 = 0)) = true := by decide +kernel
theorem gm3 : ∀ k, k < 32 → (4294967295 - mkL 3).testBit k = true → (0 ≤ k ∧ k < 7) ∨ (25 ≤ k ∧ k < 27) := by decide +kernel
theorem mt4 : allL.all (fun p => !decide (p.1.lay = 4) || decide (p.1.mtch / 128 % 32 = 0 ∧ p.1.mtch / 4096 % 8 = 0 ∧ p.1.mtch / 32768 % 32 = 0 ∧ p.1.mtch / 1048576 % 32 = 0)) = true := by decide +kernel
theorem gm4 : ∀ k, k < 32 → (4294967295 - mkL 4).testBit k = true → (0 ≤ k ∧ k < 7) ∨ (25 ≤ k ∧ k < 27) ∨ (27 ≤ k ∧ k < 32) := by decide +kernel
theorem mt5 : allL.all (fun p => !decide (p.1.lay = 5) || decide (p.1.mtch / 128 % 32 = 0 ∧ p.1.mtch / 32768 % 32 = 0 ∧ p.1.mtch / 1048576 % 32 = 0)) = true := by decide +kernel
theorem gm5 : ∀ k, k < 32 → (4294967295 - mkL 5).testBit k = true → (0 ≤ k ∧ k < 7) ∨ (12 ≤ k ∧ k < 15) ∨ (25 ≤ k ∧ k < 27) ∨ (27 ≤ k ∧ k < 32) := by decide +kernel
theorem mt6 : allL.all (fun p => !decide (p.1.lay = 6) || decide (p.1.mtch / 128 % 32 = 0 ∧ p.1.mtch / 4096 % 8 = 0 ∧ p.1.mtch / 32768 % 32 = 0)) = true := by decide +kernel
theorem gm6 : ∀ k, k < 32 → (4294967295 - mkL 6).testBit k = true → (0 ≤ k ∧ k < 7) ∨ (20 ≤ k ∧ k < 25) ∨ (25 ≤ k ∧ k < 27) ∨ (27 ≤ k ∧ k < 32) := by decide +kernel
theorem mt7 : allL.all (fun p => !decide (p.1.lay = 7) || decide (p.1.mtch / 128 % 32 = 0 ∧ p.1.mtch / 32768 % 32 = 0)) = true := by decide +kernel
theorem gm7 : ∀ k, k < 32 → (4294967295 - mkL 7).testBit k = true → (0 ≤ k ∧ k < 7) ∨ (12 ≤ k ∧ k < 15) ∨ (20 ≤ k ∧ k < 25) ∨ (25 ≤ k ∧ k < 27) ∨ (27 ≤ k ∧ k < 32) := by decide +kernel
theorem mt8 : allL.all (fun p => !decide (p.1.lay = 8) || decide (p.1.mtch / 128 % 32 = 0 ∧ p.1.mtch / 32768 % 32 = 0 ∧ p.1.mtch / 1048576 % 32 = 0 ∧ p.1.mtch / 33554432 % 4 = 0 ∧ p.1.mtch / 134217728 % 32 = 0)) = true := by decide +kernel
theorem gm8 : ∀ k, k < 32 → (4294967295 - mkL 8).testBit k = true → (0 ≤ k ∧ k < 7) ∨ (12 ≤ k ∧ k < 15) := by decide +kernel
theorem mt9 : allL.all (fun p => !decide (p.1.lay = 9) || decide (p.1.mtch / 128 % 32 = 0 ∧ p.1.mtch / 32768 % 32 = 0 ∧ p.1.mtch / 1048576 % 32 = 0 ∧ p.1.mtch / 33554432 % 4 = 0 ∧ p.1.mtch / 134217728 % 32 = 0)) = true := by decide +kernel
theorem gm9 : ∀ k, k < 32 → (4294967295 - mkL 9).testBit k = true → (0 ≤ k ∧ k < 7) ∨ (12 ≤ k ∧ k < 15) := by decide +kernel
theorem imN_lt {i : Int} (h1 : -2048 ≤ i) (h2 : i ≤ 2047) : imN i < 4096 := by
  unfold imN
  split <;> omega
theorem imN_sg {i : Int} (h1 : -2048 ≤ i) (h2 : i ≤ 2047) : sg12 (imN i) = i := by
  unfold imN sg12
  split <;> split <;> omega
theorem and_same {v w m : Nat} (h : ∀ k, m.testBit k = true → v.testBit k = w.testBit k) : v &&& m = w &&& m := by
  apply Nat.eq_of_testBit_eq
  intro k
  rw [Nat.testBit_and, Nat.testBit_and]
  cases q : m.testBit k
  · simp
  · rw [h k q]
theorem hi_bit {m k : Nat} (hm : m < 4294967296) (h : m.testBit k = true) : k < 32 := by
  apply Decidable.byContradiction
  intro hk
  have : m.testBit k = false := Nat.testBit_lt_two_pow (Nat.lt_of_lt_of_le hm (by rw [show 4294967296 = 2 ^ 32 from rfl]; exact Nat.pow_le_pow_right (by decide) (by omega)))
  rw [this] at h
  cases h
theorem ena1 {r : Rw} {x : In} (hl : r.lay = 1) (hlt : r.mtch < 4294967296) (hm : r.mask = 4294967295 - mkL 1) (a1 : x.rd ≤ 31) (a2 : x.rs1 ≤ 31) (a3 : x.rs2 ≤ 31) (a4 : x.rs3 ≤ 31) (a5 : x.rm ≤ 7) (a6 : x.rm ≠ 5) (a7 : x.rm ≠ 6) (a8 : -2048 ≤ x.imm) (a9 : x.imm ≤ 2047) (a10 : x.csr ≤ 3) (z1 : x.rs2 = 0) (z2 : x.rs3 = 0) (z3 : x.rm = 0) (zc : x.csr = 0) (m7 : r.mtch / 128 % 32 = 0) (m15 : r.mtch / 32768 % 32 = 0) (m20 : r.mtch / 1048576 % 32 = 0) (m25 : r.mtch / 33554432 % 4 = 0) (m27 : r.mtch / 134217728 % 32 = 0) (e1 : x.op = r.op) (e2 : x.form = r.form) (e3 : x.frm = r.frm) (e4 : x.kind = r.kind) : encW r x < 4294967296 ∧ fitsL r (encW r x) = true ∧ dcI r (encW r x) = x := by
  obtain ⟨W, hW⟩ : ∃ W, encW r x = W := ⟨_, rfl⟩
  have hi := imN_lt a8 a9
  have hs := imN_sg a8 a9
  obtain ⟨I, hI⟩ : ∃ I, imN x.imm = I := ⟨_, rfl⟩
  rw [hI] at hi hs
  have e : W = r.mtch + (x.rs1 * 32768 + (x.rd * 128 + I * 1048576)) := by
    rw [← hW]
    unfold encW fsW
    rw [hl, hI]
    simp
  rw [hW]
  obtain ⟨M, hM⟩ : ∃ M, r.mtch = M := ⟨_, rfl⟩
  rw [hM] at e hlt m7 m15 m20 m25 m27
  have w32 : W < 4294967296 := by omega
  have g0 : fld W 0 7 = fld M 0 7 := by unfold fld; omega
  have g7 : fld W 7 5 = x.rd := by unfold fld; omega
  have g12 : fld W 12 3 = fld M 12 3 := by unfold fld; omega
  have g15 : fld W 15 5 = x.rs1 := by unfold fld; omega
  have g20 : fld W 20 5 = fld W 20 5 := by unfold fld; omega
  have g25 : fld W 25 2 = fld W 25 2 := by unfold fld; omega
  have g27 : fld W 27 5 = fld W 27 5 := by unfold fld; omega
  have gI : fld W 20 12 = I := by unfold fld; omega
  refine ⟨w32, ?_, ?_⟩
  · unfold fitsL
    rw [hl, hm, hM]
    have k : W &&& (4294967295 - mkL 1) = M &&& (4294967295 - mkL 1) := and_same (fun k hk => by
      have k32 := hi_bit (by decide) hk
      rcases gm1 k k32 hk with ⟨c1, c2⟩ | ⟨c1, c2⟩
      · exact fld_bit g0 c1 c2
      · exact fld_bit g12 c1 c2)
    rw [decide_eq_true k]
    simp
  · unfold dcI
    rw [hl]
    obtain ⟨op, form, frm, kind, rd, rs1, rs2, rs3, rm, imm, csr⟩ := x
    simp only at *
    simp only [g7, g15, gI]
    simp [*]
    try omega
theorem ena2 {r : Rw} {x : In} (hl : r.lay = 2) (hlt : r.mtch < 4294967296) (hm : r.mask = 4294967295 - mkL 2) (a1 : x.rd ≤ 31) (a2 : x.rs1 ≤ 31) (a3 : x.rs2 ≤ 31) (a4 : x.rs3 ≤ 31) (a5 : x.rm ≤ 7) (a6 : x.rm ≠ 5) (a7 : x.rm ≠ 6) (a8 : -2048 ≤ x.imm) (a9 : x.imm ≤ 2047) (a10 : x.csr ≤ 3) (z0 : x.rd = 0) (z2 : x.rs3 = 0) (z3 : x.rm = 0) (zc : x.csr = 0) (m7 : r.mtch / 128 % 32 = 0) (m15 : r.mtch / 32768 % 32 = 0) (m20 : r.mtch / 1048576 % 32 = 0) (m25 : r.mtch / 33554432 % 4 = 0) (m27 : r.mtch / 134217728 % 32 = 0) (e1 : x.op = r.op) (e2 : x.form = r.form) (e3 : x.frm = r.frm) (e4 : x.kind = r.kind) : encW r x < 4294967296 ∧ fitsL r (encW r x) = true ∧ dcI r (encW r x) = x := by
  obtain ⟨W, hW⟩ : ∃ W, encW r x = W := ⟨_, rfl⟩
  have hi := imN_lt a8 a9
  have hs := imN_sg a8 a9
  obtain ⟨I, hI⟩ : ∃ I, imN x.imm = I := ⟨_, rfl⟩
  rw [hI] at hi hs
  have e : W = r.mtch + (x.rs1 * 32768 + (x.rs2 * 1048576 + (I / 32 * 33554432 + I % 32 * 128))) := by
    rw [← hW]
    unfold encW fsW
    rw [hl, hI]
    simp
  rw [hW]
  obtain ⟨M, hM⟩ : ∃ M, r.mtch = M := ⟨_, rfl⟩
  rw [hM] at e hlt m7 m15 m20 m25 m27
  obtain ⟨H, hH⟩ : ∃ H, I / 32 = H := ⟨_, rfl⟩
  obtain ⟨Lo, hLo⟩ : ∃ Lo, I % 32 = Lo := ⟨_, rfl⟩
  have hH1 : H ≤ 127 := by omega
  have hL1 : Lo ≤ 31 := by omega
  have hIL : 32 * H + Lo = I := by omega
  rw [hH, hLo] at e
  clear hH hLo
  have hM15 : M < 32768 := by omega
  clear m15 m20 m25 m27
  have w32 : W < 4294967296 := by omega
  obtain ⟨A, hA⟩ : ∃ A, M + x.rs1 * 32768 + Lo * 128 = A := ⟨_, rfl⟩
  have hA1 : A < 1048576 := by omega
  have hA2 : W = A + 1048576 * (x.rs2 + 32 * H) := by omega
  have d20 : W / 1048576 = x.rs2 + 32 * H := by clear e hA; omega
  have d25 : W / 33554432 = W / 1048576 / 32 := by clear e hA hA2 d20; omega
  have g0 : fld W 0 7 = fld M 0 7 := by unfold fld; omega
  have g7 : fld W 7 5 = Lo := by unfold fld; omega
  have g12 : fld W 12 3 = fld M 12 3 := by unfold fld; omega
  have g15 : fld W 15 5 = x.rs1 := by unfold fld; omega
  have g20 : fld W 20 5 = x.rs2 := by clear e hA hA2 d25; unfold fld; omega
  have g25 : fld W 25 2 = fld W 25 2 := by unfold fld; omega
  have g27 : fld W 27 5 = fld W 27 5 := by unfold fld; omega
  have gH : fld W 25 7 = H := by clear e hA hA2; unfold fld; omega
  refine ⟨w32, ?_, ?_⟩
  · unfold fitsL
    rw [hl, hm, hM]
    have k : W &&& (4294967295 - mkL 2) = M &&& (4294967295 - mkL 2) := and_same (fun k hk => by
      have k32 := hi_bit (by decide) hk
      rcases gm2 k k32 hk with ⟨c1, c2⟩ | ⟨c1, c2⟩
      · exact fld_bit g0 c1 c2
      · exact fld_bit g12 c1 c2)
    rw [decide_eq_true k]
    simp
  · unfold dcI
    rw [hl]
    obtain ⟨op, form, frm, kind, rd, rs1, rs2, rs3, rm, imm, csr⟩ := x
    simp only at *
    simp only [g7, g15, g20, gH]
    simp [*]
    try omega
theorem ena3 {r : Rw} {x : In} (hl : r.lay = 3) (hlt : r.mtch < 4294967296) (hm : r.mask = 4294967295 - mkL 3) (a1 : x.rd ≤ 31) (a2 : x.rs1 ≤ 31) (a3 : x.rs2 ≤ 31) (a4 : x.rs3 ≤ 31) (a5 : x.rm ≤ 7) (a6 : x.rm ≠ 5) (a7 : x.rm ≠ 6) (a8 : -2048 ≤ x.imm) (a9 : x.imm ≤ 2047) (a10 : x.csr ≤ 3) (z4 : x.imm = 0) (zc : x.csr = 0) (m7 : r.mtch / 128 % 32 = 0) (m12 : r.mtch / 4096 % 8 = 0) (m15 : r.mtch / 32768 % 32 = 0) (m20 : r.mtch / 1048576 % 32 = 0) (m27 : r.mtch / 134217728 % 32 = 0) (e1 : x.op = r.op) (e2 : x.form = r.form) (e3 : x.frm = r.frm) (e4 : x.kind = r.kind) : encW r x < 4294967296 ∧ fitsL r (encW r x) = true ∧ dcI r (encW r x) = x := by
  obtain ⟨W, hW⟩ : ∃ W, encW r x = W := ⟨_, rfl⟩
  have hi := imN_lt a8 a9
  have hs := imN_sg a8 a9
  obtain ⟨I, hI⟩ : ∃ I, imN x.imm = I := ⟨_, rfl⟩
  rw [hI] at hi hs
  have e : W = r.mtch + (x.rs1 * 32768 + (x.rd * 128 + x.rs2 * 1048576 + x.rs3 * 134217728 + x.rm * 4096)) := by
    rw [← hW]
    unfold encW fsW
    rw [hl, hI]
    simp
  rw [hW]
  obtain ⟨M, hM⟩ : ∃ M, r.mtch = M := ⟨_, rfl⟩
  rw [hM] at e hlt m7 m12 m15 m20 m27
  have w32 : W < 4294967296 := by omega
  have g0 : fld W 0 7 = fld M 0 7 := by unfold fld; omega
  have g7 : fld W 7 5 = x.rd := by unfold fld; omega
  have g12 : fld W 12 3 = x.rm := by unfold fld; omega
  have g15 : fld W 15 5 = x.rs1 := by unfold fld; omega
  have g20 : fld W 20 5 = x.rs2 := by unfold fld; omega
  have g25 : fld W 25 2 = fld M 25 2 := by unfold fld; omega
  have g27 : fld W 27 5 = x.rs3 := by unfold fld; omega
  refine ⟨w32, ?_, ?_⟩
  · unfold fitsL
    rw [hl, hm, hM]
    have k : W &&& (4294967295 - mkL 3) = M &&& (4294967295 - mkL 3) := and_same (fun k hk => by
      have k32 := hi_bit (by decide) hk
      rcases gm3 k k32 hk with ⟨c1, c2⟩ | ⟨c1, c2⟩
      · exact fld_bit g0 c1 c2
      · exact fld_bit g25 c1 c2)
    rw [decide_eq_true k]
    have r5 : W / 4096 % 8 = x.rm := by have := g12; unfold fld at this; exact this
    rw [r5]
    simp [a6, a7]
  · unfold dcI
    rw [hl]
    obtain ⟨op, form, frm, kind, rd, rs1, rs2, rs3, rm, imm, csr⟩ := x
    simp only at *
    simp only [g7, g15, g20, g27, g12]
    simp [*]
    try omega
theorem ena4 {r : Rw} {x : In} (hl : r.lay = 4) (hlt : r.mtch < 4294967296) (hm : r.mask = 4294967295 - mkL 4) (a1 : x.rd ≤ 31) (a2 : x.rs1 ≤ 31) (a3 : x.rs2 ≤ 31) (a4 : x.rs3 ≤ 31) (a5 : x.rm ≤ 7) (a6 : x.rm ≠ 5) (a7 : x.rm ≠ 6) (a8 : -2048 ≤ x.imm) (a9 : x.imm ≤ 2047) (a10 : x.csr ≤ 3) (z2 : x.rs3 = 0) (z4 : x.imm = 0) (zc : x.csr = 0) (m7 : r.mtch / 128 % 32 = 0) (m12 : r.mtch / 4096 % 8 = 0) (m15 : r.mtch / 32768 % 32 = 0) (m20 : r.mtch / 1048576 % 32 = 0) (e1 : x.op = r.op) (e2 : x.form = r.form) (e3 : x.frm = r.frm) (e4 : x.kind = r.kind) : encW r x < 4294967296 ∧ fitsL r (encW r x) = true ∧ dcI r (encW r x) = x := by
  obtain ⟨W, hW⟩ : ∃ W, encW r x = W := ⟨_, rfl⟩
  have hi := imN_lt a8 a9
  have hs := imN_sg a8 a9
  obtain ⟨I, hI⟩ : ∃ I, imN x.imm = I := ⟨_, rfl⟩
  rw [hI] at hi hs
  have e : W = r.mtch + (x.rs1 * 32768 + (x.rd * 128 + x.rs2 * 1048576 + x.rm * 4096)) := by
    rw [← hW]
    unfold encW fsW
    rw [hl, hI]
    simp
  rw [hW]
  obtain ⟨M, hM⟩ : ∃ M, r.mtch = M := ⟨_, rfl⟩
  rw [hM] at e hlt m7 m12 m15 m20
  have w32 : W < 4294967296 := by omega
  have g0 : fld W 0 7 = fld M 0 7 := by unfold fld; omega
  have g7 : fld W 7 5 = x.rd := by unfold fld; omega
  have g12 : fld W 12 3 = x.rm := by unfold fld; omega
  have g15 : fld W 15 5 = x.rs1 := by unfold fld; omega
  have g20 : fld W 20 5 = x.rs2 := by unfold fld; omega
  have g25 : fld W 25 2 = fld M 25 2 := by unfold fld; omega
  have g27 : fld W 27 5 = fld M 27 5 := by unfold fld; omega
  refine ⟨w32, ?_, ?_⟩
  · unfold fitsL
    rw [hl, hm, hM]
    have k : W &&& (4294967295 - mkL 4) = M &&& (4294967295 - mkL 4) := and_same (fun k hk => by
      have k32 := hi_bit (by decide) hk
      rcases gm4 k k32 hk with ⟨c1, c2⟩ | ⟨c1, c2⟩ | ⟨c1, c2⟩
      · exact fld_bit g0 c1 c2
      · exact fld_bit g25 c1 c2
      · exact fld_bit g27 c1 c2)
    rw [decide_eq_true k]
    have r5 : W / 4096 % 8 = x.rm := by have := g12; unfold fld at this; exact this
    rw [r5]
    simp [a6, a7]
  · unfold dcI
    rw [hl]
    obtain ⟨op, form, frm, kind, rd, rs1, rs2, rs3, rm, imm, csr⟩ := x
    simp only at *
    simp only [g7, g15, g20, g12]
    simp [*]
    try omega
theorem ena5 {r : Rw} {x : In} (hl : r.lay = 5) (hlt : r.mtch < 4294967296) (hm : r.mask = 4294967295 - mkL 5) (a1 : x.rd ≤ 31) (a2 : x.rs1 ≤ 31) (a3 : x.rs2 ≤ 31) (a4 : x.rs3 ≤ 31) (a5 : x.rm ≤ 7) (a6 : x.rm ≠ 5) (a7 : x.rm ≠ 6) (a8 : -2048 ≤ x.imm) (a9 : x.imm ≤ 2047) (a10 : x.csr ≤ 3) (z2 : x.rs3 = 0) (z3 : x.rm = 0) (z4 : x.imm = 0) (zc : x.csr = 0) (m7 : r.mtch / 128 % 32 = 0) (m15 : r.mtch / 32768 % 32 = 0) (m20 : r.mtch / 1048576 % 32 = 0) (e1 : x.op = r.op) (e2 : x.form = r.form) (e3 : x.frm = r.frm) (e4 : x.kind = r.kind) : encW r x < 4294967296 ∧ fitsL r (encW r x) = true ∧ dcI r (encW r x) = x := by
  obtain ⟨W, hW⟩ : ∃ W, encW r x = W := ⟨_, rfl⟩
  have hi := imN_lt a8 a9
  have hs := imN_sg a8 a9
  obtain ⟨I, hI⟩ : ∃ I, imN x.imm = I := ⟨_, rfl⟩
  rw [hI] at hi hs
  have e : W = r.mtch + (x.rs1 * 32768 + (x.rd * 128 + x.rs2 * 1048576)) := by
    rw [← hW]
    unfold encW fsW
    rw [hl, hI]
    simp
  rw [hW]
  obtain ⟨M, hM⟩ : ∃ M, r.mtch = M := ⟨_, rfl⟩
  rw [hM] at e hlt m7 m15 m20
  have w32 : W < 4294967296 := by omega
  have g0 : fld W 0 7 = fld M 0 7 := by unfold fld; omega
  have g7 : fld W 7 5 = x.rd := by unfold fld; omega
  have g12 : fld W 12 3 = fld M 12 3 := by unfold fld; omega
  have g15 : fld W 15 5 = x.rs1 := by unfold fld; omega
  have g20 : fld W 20 5 = x.rs2 := by unfold fld; omega
  have g25 : fld W 25 2 = fld M 25 2 := by unfold fld; omega
  have g27 : fld W 27 5 = fld M 27 5 := by unfold fld; omega
  refine ⟨w32, ?_, ?_⟩
  · unfold fitsL
    rw [hl, hm, hM]
    have k : W &&& (4294967295 - mkL 5) = M &&& (4294967295 - mkL 5) := and_same (fun k hk => by
      have k32 := hi_bit (by decide) hk
      rcases gm5 k k32 hk with ⟨c1, c2⟩ | ⟨c1, c2⟩ | ⟨c1, c2⟩ | ⟨c1, c2⟩
      · exact fld_bit g0 c1 c2
      · exact fld_bit g12 c1 c2
      · exact fld_bit g25 c1 c2
      · exact fld_bit g27 c1 c2)
    rw [decide_eq_true k]
    simp
  · unfold dcI
    rw [hl]
    obtain ⟨op, form, frm, kind, rd, rs1, rs2, rs3, rm, imm, csr⟩ := x
    simp only at *
    simp only [g7, g15, g20]
    simp [*]
    try omega
theorem ena6 {r : Rw} {x : In} (hl : r.lay = 6) (hlt : r.mtch < 4294967296) (hm : r.mask = 4294967295 - mkL 6) (a1 : x.rd ≤ 31) (a2 : x.rs1 ≤ 31) (a3 : x.rs2 ≤ 31) (a4 : x.rs3 ≤ 31) (a5 : x.rm ≤ 7) (a6 : x.rm ≠ 5) (a7 : x.rm ≠ 6) (a8 : -2048 ≤ x.imm) (a9 : x.imm ≤ 2047) (a10 : x.csr ≤ 3) (z1 : x.rs2 = 0) (z2 : x.rs3 = 0) (z4 : x.imm = 0) (zc : x.csr = 0) (m7 : r.mtch / 128 % 32 = 0) (m12 : r.mtch / 4096 % 8 = 0) (m15 : r.mtch / 32768 % 32 = 0) (e1 : x.op = r.op) (e2 : x.form = r.form) (e3 : x.frm = r.frm) (e4 : x.kind = r.kind) : encW r x < 4294967296 ∧ fitsL r (encW r x) = true ∧ dcI r (encW r x) = x := by
  obtain ⟨W, hW⟩ : ∃ W, encW r x = W := ⟨_, rfl⟩
  have hi := imN_lt a8 a9
  have hs := imN_sg a8 a9
  obtain ⟨I, hI⟩ : ∃ I, imN x.imm = I := ⟨_, rfl⟩
  rw [hI] at hi hs
  have e : W = r.mtch + (x.rs1 * 32768 + (x.rd * 128 + x.rm * 4096)) := by
    rw [← hW]
    unfold encW fsW
    rw [hl, hI]
    simp
  rw [hW]
  obtain ⟨M, hM⟩ : ∃ M, r.mtch = M := ⟨_, rfl⟩
  rw [hM] at e hlt m7 m12 m15
  have w32 : W < 4294967296 := by omega
  have g0 : fld W 0 7 = fld M 0 7 := by unfold fld; omega
  have g7 : fld W 7 5 = x.rd := by unfold fld; omega
  have g12 : fld W 12 3 = x.rm := by unfold fld; omega
  have g15 : fld W 15 5 = x.rs1 := by unfold fld; omega
  have g20 : fld W 20 5 = fld M 20 5 := by unfold fld; omega
  have g25 : fld W 25 2 = fld M 25 2 := by unfold fld; omega
  have g27 : fld W 27 5 = fld M 27 5 := by unfold fld; omega
  refine ⟨w32, ?_, ?_⟩
  · unfold fitsL
    rw [hl, hm, hM]
    have k : W &&& (4294967295 - mkL 6) = M &&& (4294967295 - mkL 6) := and_same (fun k hk => by
      have k32 := hi_bit (by decide) hk
      rcases gm6 k k32 hk with ⟨c1, c2⟩ | ⟨c1, c2⟩ | ⟨c1, c2⟩ | ⟨c1, c2⟩
      · exact fld_bit g0 c1 c2
      · exact fld_bit g20 c1 c2
      · exact fld_bit g25 c1 c2
      · exact fld_bit g27 c1 c2)
    rw [decide_eq_true k]
    have r5 : W / 4096 % 8 = x.rm := by have := g12; unfold fld at this; exact this
    rw [r5]
    simp [a6, a7]
  · unfold dcI
    rw [hl]
    obtain ⟨op, form, frm, kind, rd, rs1, rs2, rs3, rm, imm, csr⟩ := x
    simp only at *
    simp only [g7, g15, g12]
    simp [*]
    try omega
theorem ena7 {r : Rw} {x : In} (hl : r.lay = 7) (hlt : r.mtch < 4294967296) (hm : r.mask = 4294967295 - mkL 7) (a1 : x.rd ≤ 31) (a2 : x.rs1 ≤ 31) (a3 : x.rs2 ≤ 31) (a4 : x.rs3 ≤ 31) (a5 : x.rm ≤ 7) (a6 : x.rm ≠ 5) (a7 : x.rm ≠ 6) (a8 : -2048 ≤ x.imm) (a9 : x.imm ≤ 2047) (a10 : x.csr ≤ 3) (z1 : x.rs2 = 0) (z2 : x.rs3 = 0) (z3 : x.rm = 0) (z4 : x.imm = 0) (zc : x.csr = 0) (m7 : r.mtch / 128 % 32 = 0) (m15 : r.mtch / 32768 % 32 = 0) (e1 : x.op = r.op) (e2 : x.form = r.form) (e3 : x.frm = r.frm) (e4 : x.kind = r.kind) : encW r x < 4294967296 ∧ fitsL r (encW r x) = true ∧ dcI r (encW r x) = x := by
  obtain ⟨W, hW⟩ : ∃ W, encW r x = W := ⟨_, rfl⟩
  have hi := imN_lt a8 a9
  have hs := imN_sg a8 a9
  obtain ⟨I, hI⟩ : ∃ I, imN x.imm = I := ⟨_, rfl⟩
  rw [hI] at hi hs
  have e : W = r.mtch + (x.rs1 * 32768 + (x.rd * 128)) := by
    rw [← hW]
    unfold encW fsW
    rw [hl, hI]
    simp
  rw [hW]
  obtain ⟨M, hM⟩ : ∃ M, r.mtch = M := ⟨_, rfl⟩
  rw [hM] at e hlt m7 m15
  have w32 : W < 4294967296 := by omega
  have g0 : fld W 0 7 = fld M 0 7 := by unfold fld; omega
  have g7 : fld W 7 5 = x.rd := by unfold fld; omega
  have g12 : fld W 12 3 = fld M 12 3 := by unfold fld; omega
  have g15 : fld W 15 5 = x.rs1 := by unfold fld; omega
  have g20 : fld W 20 5 = fld M 20 5 := by unfold fld; omega
  have g25 : fld W 25 2 = fld M 25 2 := by unfold fld; omega
  have g27 : fld W 27 5 = fld M 27 5 := by unfold fld; omega
  refine ⟨w32, ?_, ?_⟩
  · unfold fitsL
    rw [hl, hm, hM]
    have k : W &&& (4294967295 - mkL 7) = M &&& (4294967295 - mkL 7) := and_same (fun k hk => by
      have k32 := hi_bit (by decide) hk
      rcases gm7 k k32 hk with ⟨c1, c2⟩ | ⟨c1, c2⟩ | ⟨c1, c2⟩ | ⟨c1, c2⟩ | ⟨c1, c2⟩
      · exact fld_bit g0 c1 c2
      · exact fld_bit g12 c1 c2
      · exact fld_bit g20 c1 c2
      · exact fld_bit g25 c1 c2
      · exact fld_bit g27 c1 c2)
    rw [decide_eq_true k]
    simp
  · unfold dcI
    rw [hl]
    obtain ⟨op, form, frm, kind, rd, rs1, rs2, rs3, rm, imm, csr⟩ := x
    simp only at *
    simp only [g7, g15]
    simp [*]
    try omega
theorem ena8 {r : Rw} {x : In} (hl : r.lay = 8) (hlt : r.mtch < 4294967296) (hm : r.mask = 4294967295 - mkL 8) (a1 : x.rd ≤ 31) (a2 : x.rs1 ≤ 31) (a3 : x.rs2 ≤ 31) (a4 : x.rs3 ≤ 31) (a5 : x.rm ≤ 7) (a6 : x.rm ≠ 5) (a7 : x.rm ≠ 6) (a8 : -2048 ≤ x.imm) (a9 : x.imm ≤ 2047) (a10 : x.csr ≤ 3) (z1 : x.rs2 = 0) (z2 : x.rs3 = 0) (z3 : x.rm = 0) (z4 : x.imm = 0) (zc : x.csr ≠ 0) (m7 : r.mtch / 128 % 32 = 0) (m15 : r.mtch / 32768 % 32 = 0) (m20 : r.mtch / 1048576 % 32 = 0) (m25 : r.mtch / 33554432 % 4 = 0) (m27 : r.mtch / 134217728 % 32 = 0) (e1 : x.op = r.op) (e2 : x.form = r.form) (e3 : x.frm = r.frm) (e4 : x.kind = r.kind) : encW r x < 4294967296 ∧ fitsL r (encW r x) = true ∧ dcI r (encW r x) = x := by
  obtain ⟨W, hW⟩ : ∃ W, encW r x = W := ⟨_, rfl⟩
  have hi := imN_lt a8 a9
  have hs := imN_sg a8 a9
  obtain ⟨I, hI⟩ : ∃ I, imN x.imm = I := ⟨_, rfl⟩
  rw [hI] at hi hs
  have e : W = r.mtch + (x.rs1 * 32768 + (x.rd * 128 + x.csr * 1048576)) := by
    rw [← hW]
    unfold encW fsW
    rw [hl, hI]
    simp
  rw [hW]
  obtain ⟨M, hM⟩ : ∃ M, r.mtch = M := ⟨_, rfl⟩
  rw [hM] at e hlt m7 m15 m20 m25 m27
  have w32 : W < 4294967296 := by omega
  have g0 : fld W 0 7 = fld M 0 7 := by unfold fld; omega
  have g7 : fld W 7 5 = x.rd := by unfold fld; omega
  have g12 : fld W 12 3 = fld M 12 3 := by unfold fld; omega
  have g15 : fld W 15 5 = x.rs1 := by unfold fld; omega
  have g20 : fld W 20 5 = fld W 20 5 := by unfold fld; omega
  have g25 : fld W 25 2 = fld W 25 2 := by unfold fld; omega
  have g27 : fld W 27 5 = fld W 27 5 := by unfold fld; omega
  have gC : fld W 20 12 = x.csr := by unfold fld; omega
  have gD : W / 1048576 = x.csr := by omega
  refine ⟨w32, ?_, ?_⟩
  · unfold fitsL
    rw [hl, hm, hM]
    have k : W &&& (4294967295 - mkL 8) = M &&& (4294967295 - mkL 8) := and_same (fun k hk => by
      have k32 := hi_bit (by decide) hk
      rcases gm8 k k32 hk with ⟨c1, c2⟩ | ⟨c1, c2⟩
      · exact fld_bit g0 c1 c2
      · exact fld_bit g12 c1 c2)
    rw [decide_eq_true k]
    rw [gD]
    simp
    omega
  · unfold dcI
    rw [hl]
    obtain ⟨op, form, frm, kind, rd, rs1, rs2, rs3, rm, imm, csr⟩ := x
    simp only at *
    simp only [g7, g15, gC]
    simp [*]
    try omega
theorem ena9 {r : Rw} {x : In} (hl : r.lay = 9) (hlt : r.mtch < 4294967296) (hm : r.mask = 4294967295 - mkL 9) (a1 : x.rd ≤ 31) (a2 : x.rs1 ≤ 31) (a3 : x.rs2 ≤ 31) (a4 : x.rs3 ≤ 31) (a5 : x.rm ≤ 7) (a6 : x.rm ≠ 5) (a7 : x.rm ≠ 6) (a8 : -2048 ≤ x.imm) (a9 : x.imm ≤ 2047) (a10 : x.csr ≤ 3) (z1 : x.rs2 = 0) (z2 : x.rs3 = 0) (z3 : x.rm = 0) (z4 : x.imm = 0) (zc : x.csr ≠ 0) (m7 : r.mtch / 128 % 32 = 0) (m15 : r.mtch / 32768 % 32 = 0) (m20 : r.mtch / 1048576 % 32 = 0) (m25 : r.mtch / 33554432 % 4 = 0) (m27 : r.mtch / 134217728 % 32 = 0) (e1 : x.op = r.op) (e2 : x.form = r.form) (e3 : x.frm = r.frm) (e4 : x.kind = r.kind) : encW r x < 4294967296 ∧ fitsL r (encW r x) = true ∧ dcI r (encW r x) = x := by
  obtain ⟨W, hW⟩ : ∃ W, encW r x = W := ⟨_, rfl⟩
  have hi := imN_lt a8 a9
  have hs := imN_sg a8 a9
  obtain ⟨I, hI⟩ : ∃ I, imN x.imm = I := ⟨_, rfl⟩
  rw [hI] at hi hs
  have e : W = r.mtch + (x.rs1 * 32768 + (x.rd * 128 + x.csr * 1048576)) := by
    rw [← hW]
    unfold encW fsW
    rw [hl, hI]
    simp
  rw [hW]
  obtain ⟨M, hM⟩ : ∃ M, r.mtch = M := ⟨_, rfl⟩
  rw [hM] at e hlt m7 m15 m20 m25 m27
  have w32 : W < 4294967296 := by omega
  have g0 : fld W 0 7 = fld M 0 7 := by unfold fld; omega
  have g7 : fld W 7 5 = x.rd := by unfold fld; omega
  have g12 : fld W 12 3 = fld M 12 3 := by unfold fld; omega
  have g15 : fld W 15 5 = x.rs1 := by unfold fld; omega
  have g20 : fld W 20 5 = fld W 20 5 := by unfold fld; omega
  have g25 : fld W 25 2 = fld W 25 2 := by unfold fld; omega
  have g27 : fld W 27 5 = fld W 27 5 := by unfold fld; omega
  have gC : fld W 20 12 = x.csr := by unfold fld; omega
  have gD : W / 1048576 = x.csr := by omega
  refine ⟨w32, ?_, ?_⟩
  · unfold fitsL
    rw [hl, hm, hM]
    have k : W &&& (4294967295 - mkL 9) = M &&& (4294967295 - mkL 9) := and_same (fun k hk => by
      have k32 := hi_bit (by decide) hk
      rcases gm9 k k32 hk with ⟨c1, c2⟩ | ⟨c1, c2⟩
      · exact fld_bit g0 c1 c2
      · exact fld_bit g12 c1 c2)
    rw [decide_eq_true k]
    rw [gD]
    simp
    omega
  · unfold dcI
    rw [hl]
    obtain ⟨op, form, frm, kind, rd, rs1, rs2, rs3, rm, imm, csr⟩ := x
    simp only at *
    simp only [g7, g15, gC]
    simp [*]
    try omega
theorem of_some {o f g k : Nat} {p : Nm} (h : ofR24 o f g k = some p) : p ∈ allL ∧ p.1.op = o ∧ p.1.form = f ∧ p.1.frm = g ∧ p.1.kind = k := by
  unfold ofR24 at h
  split at h
  · cases h
  · unfold fstL at h
    have q := List.find?_some h
    unfold ofB at q
    simp only [Bool.and_eq_true, beq_iff_eq] at q
    exact ⟨List.mem_of_find?_eq_some h, by omega, by omega, by omega, by omega⟩
theorem fd_is {w : Nat} {p : Nm} (hp : p ∈ allL) (hf : fitsL p.1 w = true) : fdL w = some p := by
  cases q : fdL w with
  | none =>
    unfold fdL fstL at q
    rw [List.find?_eq_none] at q
    exact absurd hf (q p hp)
  | some r =>
    obtain ⟨hr, hg⟩ := fd_mem q
    obtain ⟨j, hj⟩ := List.getElem?_of_mem hp
    obtain ⟨k, hk⟩ := List.getElem?_of_mem hr
    have e := one24 hj hk hf hg
    rw [e, hk] at hj
    rw [Option.some.inj hj]
theorem enc_dec {x : In} (h : mayI x = true) : ∃ p, ofR24 x.op x.form x.frm x.kind = some p ∧ p ∈ allL ∧ encW p.1 x < 4294967296 ∧ fdL (encW p.1 x) = some p ∧ dcI p.1 (encW p.1 x) = x := by
  unfold mayI at h
  cases q : ofR24 x.op x.form x.frm x.kind with
  | none => rw [q] at h; cases h
  | some p =>
    rw [q] at h
    simp only [Bool.and_eq_true] at h
    obtain ⟨hb, hf⟩ := h
    obtain ⟨hp, e1, e2, e3, e4⟩ := of_some q
    unfold bndI at hb
    obtain ⟨a1, a2, a3, a4, a5, a6, a7, a8, a9, a10⟩ := of_decide_eq_true hb
    have hm := of_decide_eq_true (List.all_eq_true.1 maskIs p hp)
    obtain ⟨l1, l9, _⟩ := lay24 hp
    refine ⟨p, rfl, hp, ?_⟩
    have key : encW p.1 x < 4294967296 ∧ fitsL p.1 (encW p.1 x) = true ∧ dcI p.1 (encW p.1 x) = x := by
      obtain ⟨r, nn⟩ := p
      simp only at *
      rcases (by omega : r.lay = 1 ∨ r.lay = 2 ∨ r.lay = 3 ∨ r.lay = 4 ∨ r.lay = 5 ∨ r.lay = 6 ∨ r.lay = 7 ∨ r.lay = 8 ∨ r.lay = 9) with hl | hl | hl | hl | hl | hl | hl | hl | hl
      · rw [hl] at hf hm
        have mt := List.all_eq_true.1 mt1 (r, nn) hp
        simp [hl] at mt
        simp [fitI, hsL] at hf
        exact ena1 hl hm.2 hm.1 a1 a2 a3 a4 a5 a6 a7 a8 a9 a10 (by simp_all) (by simp_all) (by simp_all) (by simp_all) (by omega) (by omega) (by omega) (by omega) (by omega) e1.symm e2.symm e3.symm e4.symm
      · rw [hl] at hf hm
        have mt := List.all_eq_true.1 mt2 (r, nn) hp
        simp [hl] at mt
        simp [fitI, hsL] at hf
        exact ena2 hl hm.2 hm.1 a1 a2 a3 a4 a5 a6 a7 a8 a9 a10 (by simp_all) (by simp_all) (by simp_all) (by simp_all) (by omega) (by omega) (by omega) (by omega) (by omega) e1.symm e2.symm e3.symm e4.symm
      · rw [hl] at hf hm
        have mt := List.all_eq_true.1 mt3 (r, nn) hp
        simp [hl] at mt
        simp [fitI, hsL] at hf
        exact ena3 hl hm.2 hm.1 a1 a2 a3 a4 a5 a6 a7 a8 a9 a10 (by simp_all) (by simp_all) (by omega) (by omega) (by omega) (by omega) (by omega) e1.symm e2.symm e3.symm e4.symm
      · rw [hl] at hf hm
        have mt := List.all_eq_true.1 mt4 (r, nn) hp
        simp [hl] at mt
        simp [fitI, hsL] at hf
        exact ena4 hl hm.2 hm.1 a1 a2 a3 a4 a5 a6 a7 a8 a9 a10 (by simp_all) (by simp_all) (by simp_all) (by omega) (by omega) (by omega) (by omega) e1.symm e2.symm e3.symm e4.symm
      · rw [hl] at hf hm
        have mt := List.all_eq_true.1 mt5 (r, nn) hp
        simp [hl] at mt
        simp [fitI, hsL] at hf
        exact ena5 hl hm.2 hm.1 a1 a2 a3 a4 a5 a6 a7 a8 a9 a10 (by simp_all) (by simp_all) (by simp_all) (by simp_all) (by omega) (by omega) (by omega) e1.symm e2.symm e3.symm e4.symm
      · rw [hl] at hf hm
        have mt := List.all_eq_true.1 mt6 (r, nn) hp
        simp [hl] at mt
        simp [fitI, hsL] at hf
        exact ena6 hl hm.2 hm.1 a1 a2 a3 a4 a5 a6 a7 a8 a9 a10 (by simp_all) (by simp_all) (by simp_all) (by simp_all) (by omega) (by omega) (by omega) e1.symm e2.symm e3.symm e4.symm
      · rw [hl] at hf hm
        have mt := List.all_eq_true.1 mt7 (r, nn) hp
        simp [hl] at mt
        simp [fitI, hsL] at hf
        exact ena7 hl hm.2 hm.1 a1 a2 a3 a4 a5 a6 a7 a8 a9 a10 (by simp_all) (by simp_all) (by simp_all) (by simp_all) (by simp_all) (by omega) (by omega) e1.symm e2.symm e3.symm e4.symm
      · rw [hl] at hf hm
        have mt := List.all_eq_true.1 mt8 (r, nn) hp
        simp [hl] at mt
        simp [fitI, hsL] at hf
        exact ena8 hl hm.2 hm.1 a1 a2 a3 a4 a5 a6 a7 a8 a9 a10 (by simp_all) (by simp_all) (by simp_all) (by simp_all) (by simp_all) (by omega) (by omega) (by omega) (by omega) (by omega) e1.symm e2.symm e3.symm e4.symm
      · rw [hl] at hf hm
        have mt := List.all_eq_true.1 mt9 (r, nn) hp
        simp [hl] at mt
        simp [fitI, hsL] at hf
        exact ena9 hl hm.2 hm.1 a1 a2 a3 a4 a5 a6 a7 a8 a9 a10 (by simp_all) (by simp_all) (by simp_all) (by simp_all) (by simp_all) (by omega) (by omega) (by omega) (by omega) (by omega) e1.symm e2.symm e3.symm e4.symm
    exact ⟨key.1, fd_is hp key.2.1, key.2.2⟩
end Go.Proofs.YtaoccmopfflkmaaDoor
namespace Go.Proofs.YtaoccmopfflkmaaDoor
set_option maxRecDepth 100000
set_option maxHeartbeats 40000000
set_option maxRecDepth 100000
open Go.RowKit WMath
set_option linter.unusedSimpArgs false
set_option linter.unusedVariables false
set_option maxRecDepth 100000 in
set_option maxHeartbeats 8000000 in
theorem en_lives {T : World → Prop} (FB : Box (∀ {w w' : World}, T w → Below w.heap.size w w' → T w')) (K1 : Box (∀ w, T w → Calls Tryd.prog 9 #[.agg #[.int .u8 7, .int .u8 0, .int .u8 0, .int .u8 0, .int .u8 1, .int .u8 2, .int .u8 3, .int .u8 0, .int .u8 0, .int .i16 0, .int .u8 0]] w fun r w' => r = .returned (.tuple #[.int .u32 3211475, .int .i64 0]) ∧ Below w.heap.size w w')) (K2 : Box (∀ w, T w → Calls Tryd.prog 9 #[.agg #[.int .u8 2, .int .u8 0, .int .u8 0, .int .u8 0, .int .u8 0, .int .u8 2, .int .u8 1, .int .u8 0, .int .u8 0, .int .i16 (-4), .int .u8 0]] w fun r w' => r = .returned (.tuple #[.int .u32 4262538791, .int .i64 0]) ∧ Below w.heap.size w w')) (v3 : Nat) (K3 : Box (∀ w, T w → Calls Tryd.prog 9 #[.agg #[.int .u8 7, .int .u8 0, .int .u8 0, .int .u8 0, .int .u8 0, .int .u8 0, .int .u8 0, .int .u8 0, .int .u8 5, .int .i16 0, .int .u8 0]] w fun r w' => r = .returned (.tuple #[.int .u32 (v3 : Nat), .int .i64 260]) ∧ Below w.heap.size w w')) (K4 : Box (∀ w, T w → Calls Tryd.prog 11 #[.agg #[.int .u8 23, .int .u8 3, .int .u8 0, .int .u8 0, .int .u8 0, .int .u8 0, .int .u8 0, .int .u8 0, .int .u8 0, .int .i16 0, .int .u8 0]] w fun r w' => r = .returned (.bool false) ∧ Below w.heap.size w w')) (w : World) (hT : T w) : Calls Tryd.prog 13 #[] w fun r w' => r = .returned (.bool true) ∧ Below w.heap.size w w' := by
  have FF := box hT
  clear hT
  have B0 : Below w.heap.size w w := (Below.refl _ _)
  go_enter Tryd.func13, Tryd.ntmps13
  go_wp2_with fail
  refine (K1.out _ (FB.out FF.out B0)).mono ?_
  rintro r w1 ⟨rfl, b1⟩
  have B1 : Below w.heap.size w w1 := btr B0 b1
  clear b1 B0 
  go_wp2_with fail
  refine (K2.out _ (FB.out FF.out B1)).mono ?_
  rintro r w2 ⟨rfl, b2⟩
  have B2 : Below w.heap.size w w2 := btr B1 b2
  clear b2 B1 
  go_wp2_with fail
  refine (K3.out _ (FB.out FF.out B2)).mono ?_
  rintro r w3 ⟨rfl, b3⟩
  have B3 : Below w.heap.size w w3 := btr B2 b3
  clear b3 B2 
  go_wp2_with fail
  refine (K4.out _ (FB.out FF.out B3)).mono ?_
  rintro r w4 ⟨rfl, b4⟩
  have B4 : Below w.heap.size w w4 := btr B3 b4
  clear b4 B3 
  go_wp2
  go_ret
  exact ⟨rfl, B4⟩
set_option maxRecDepth 100000 in
set_option maxHeartbeats 8000000 in
theorem en_fields_ny {T : World → Prop} (FB : Box (∀ {w w' : World}, T w → Below w.heap.size w w' → T w')) (x y : In) (n A B : Nat) (e : Int) (hne : (e == 0) = false) (hne2 : (e != 0) = true) (K1 : Box (∀ w, T w → Calls Tryd.prog 9 #[.agg (inC x)] w fun r w' => r = .returned (.tuple #[.int .u32 (A : Nat), .int .i64 e]) ∧ Below w.heap.size w w')) (K2 : Box (∀ w, T w → Calls Tryd.prog 9 #[.agg (inC y)] w fun r w' => r = .returned (.tuple #[.int .u32 (B : Nat), .int .i64 0]) ∧ Below w.heap.size w w'))  (KL : Box (∀ w, T w → Calls Tryd.prog 13 #[] w fun r w' => r = .returned (.bool true) ∧ Below w.heap.size w w')) (w : World) (hT : T w) : Calls Tryd.prog 8 #[.agg (inC x), .agg (inC y), .int .u8 (n : Nat)] w fun r w' => r = .returned (.bool true) ∧ Below w.heap.size w w' := by
  have FF := box hT
  clear hT
  have hin := inC_new
  have he := eqin
  have hif := inC_fold
  obtain ⟨Rx_0, Ry_0, B0⟩ := opn2 w (Obj.cells (inC x) 27) (Obj.cells (inC y) 27)
  go_enter Tryd.func8, Tryd.ntmps8
  obtain ⟨cx_0_0, cx_0_1, cx_0_2, cx_0_3, cx_0_4, cx_0_5, cx_0_6, cx_0_7, cx_0_8, cx_0_9, cx_0_10⟩ := inC_cells Rx_0
  go_wp2_with fail
  refine (K1.out _ (FB.out FF.out B0)).mono ?_
  rintro r w1 ⟨rfl, b1⟩
  have B1 : Below w.heap.size w w1 := btr B0 b1
  have Rx_1 := heap_of b1 _ _ _ Rx_0
  have Ry_1 := heap_of b1 _ _ _ Ry_0
  clear b1 B0 Rx_0 cx_0_0 cx_0_1 cx_0_2 cx_0_3 cx_0_4 cx_0_5 cx_0_6 cx_0_7 cx_0_8 cx_0_9 cx_0_10 Ry_0
  obtain ⟨cx_1_0, cx_1_1, cx_1_2, cx_1_3, cx_1_4, cx_1_5, cx_1_6, cx_1_7, cx_1_8, cx_1_9, cx_1_10⟩ := inC_cells Rx_1
  clear cx_1_0 cx_1_1 cx_1_2 cx_1_3 cx_1_4 cx_1_5 cx_1_6 cx_1_7 cx_1_8 cx_1_9 cx_1_10
  obtain ⟨cy_1_0, cy_1_1, cy_1_2, cy_1_3, cy_1_4, cy_1_5, cy_1_6, cy_1_7, cy_1_8, cy_1_9, cy_1_10⟩ := inC_cells Ry_1
  go_wp2_with fail
  refine (K2.out _ (FB.out FF.out B1)).mono ?_
  rintro r w2 ⟨rfl, b2⟩
  have B2 : Below w.heap.size w w2 := btr B1 b2
  have Rx_2 := heap_of b2 _ _ _ Rx_1
  have Ry_2 := heap_of b2 _ _ _ Ry_1
  clear b2 B1 Rx_1 Ry_1 cy_1_0 cy_1_1 cy_1_2 cy_1_3 cy_1_4 cy_1_5 cy_1_6 cy_1_7 cy_1_8 cy_1_9 cy_1_10
  obtain ⟨cy_2_0, cy_2_1, cy_2_2, cy_2_3, cy_2_4, cy_2_5, cy_2_6, cy_2_7, cy_2_8, cy_2_9, cy_2_10⟩ := inC_cells Ry_2
  go_wp2_with fail
  refine (KL.out _ (FB.out FF.out B2)).mono ?_
  rintro r w3 ⟨rfl, b3⟩
  have B3 : Below w.heap.size w w3 := btr B2 b3
  have Rx_3 := heap_of b3 _ _ _ Rx_2
  have Ry_3 := heap_of b3 _ _ _ Ry_2
  clear b3 B2 Rx_2 Ry_2 cy_2_0 cy_2_1 cy_2_2 cy_2_3 cy_2_4 cy_2_5 cy_2_6 cy_2_7 cy_2_8 cy_2_9 cy_2_10
  obtain ⟨cy_3_0, cy_3_1, cy_3_2, cy_3_3, cy_3_4, cy_3_5, cy_3_6, cy_3_7, cy_3_8, cy_3_9, cy_3_10⟩ := inC_cells Ry_3
  go_wp2
  go_ret
  exact ⟨rfl, B3⟩
set_option maxRecDepth 100000 in
set_option maxHeartbeats 8000000 in
theorem en_fields_nn {T : World → Prop} (FB : Box (∀ {w w' : World}, T w → Below w.heap.size w w' → T w')) (x y : In) (n A B : Nat) (e : Int) (hne : (e == 0) = false) (hne2 : (e != 0) = true) (f : Int) (hnf : (f == 0) = false) (K1 : Box (∀ w, T w → Calls Tryd.prog 9 #[.agg (inC x)] w fun r w' => r = .returned (.tuple #[.int .u32 (A : Nat), .int .i64 e]) ∧ Below w.heap.size w w')) (K2 : Box (∀ w, T w → Calls Tryd.prog 9 #[.agg (inC y)] w fun r w' => r = .returned (.tuple #[.int .u32 (B : Nat), .int .i64 f]) ∧ Below w.heap.size w w'))  (KL : Box (∀ w, T w → Calls Tryd.prog 13 #[] w fun r w' => r = .returned (.bool true) ∧ Below w.heap.size w w')) (w : World) (hT : T w) : Calls Tryd.prog 8 #[.agg (inC x), .agg (inC y), .int .u8 (n : Nat)] w fun r w' => r = .returned (.bool true) ∧ Below w.heap.size w w' := by
  have FF := box hT
  clear hT
  have hin := inC_new
  have he := eqin
  have hif := inC_fold
  obtain ⟨Rx_0, Ry_0, B0⟩ := opn2 w (Obj.cells (inC x) 27) (Obj.cells (inC y) 27)
  go_enter Tryd.func8, Tryd.ntmps8
  obtain ⟨cx_0_0, cx_0_1, cx_0_2, cx_0_3, cx_0_4, cx_0_5, cx_0_6, cx_0_7, cx_0_8, cx_0_9, cx_0_10⟩ := inC_cells Rx_0
  go_wp2_with fail
  refine (K1.out _ (FB.out FF.out B0)).mono ?_
  rintro r w1 ⟨rfl, b1⟩
  have B1 : Below w.heap.size w w1 := btr B0 b1
  have Rx_1 := heap_of b1 _ _ _ Rx_0
  have Ry_1 := heap_of b1 _ _ _ Ry_0
  clear b1 B0 Rx_0 cx_0_0 cx_0_1 cx_0_2 cx_0_3 cx_0_4 cx_0_5 cx_0_6 cx_0_7 cx_0_8 cx_0_9 cx_0_10 Ry_0
  obtain ⟨cx_1_0, cx_1_1, cx_1_2, cx_1_3, cx_1_4, cx_1_5, cx_1_6, cx_1_7, cx_1_8, cx_1_9, cx_1_10⟩ := inC_cells Rx_1
  clear cx_1_0 cx_1_1 cx_1_2 cx_1_3 cx_1_4 cx_1_5 cx_1_6 cx_1_7 cx_1_8 cx_1_9 cx_1_10
  obtain ⟨cy_1_0, cy_1_1, cy_1_2, cy_1_3, cy_1_4, cy_1_5, cy_1_6, cy_1_7, cy_1_8, cy_1_9, cy_1_10⟩ := inC_cells Ry_1
  go_wp2_with fail
  refine (K2.out _ (FB.out FF.out B1)).mono ?_
  rintro r w2 ⟨rfl, b2⟩
  have B2 : Below w.heap.size w w2 := btr B1 b2
  have Rx_2 := heap_of b2 _ _ _ Rx_1
  have Ry_2 := heap_of b2 _ _ _ Ry_1
  clear b2 B1 Rx_1 Ry_1 cy_1_0 cy_1_1 cy_1_2 cy_1_3 cy_1_4 cy_1_5 cy_1_6 cy_1_7 cy_1_8 cy_1_9 cy_1_10
  obtain ⟨cy_2_0, cy_2_1, cy_2_2, cy_2_3, cy_2_4, cy_2_5, cy_2_6, cy_2_7, cy_2_8, cy_2_9, cy_2_10⟩ := inC_cells Ry_2
  go_wp2_with fail
  refine (KL.out _ (FB.out FF.out B2)).mono ?_
  rintro r w3 ⟨rfl, b3⟩
  have B3 : Below w.heap.size w w3 := btr B2 b3
  have Rx_3 := heap_of b3 _ _ _ Rx_2
  have Ry_3 := heap_of b3 _ _ _ Ry_2
  clear b3 B2 Rx_2 Ry_2 cy_2_0 cy_2_1 cy_2_2 cy_2_3 cy_2_4 cy_2_5 cy_2_6 cy_2_7 cy_2_8 cy_2_9 cy_2_10
  obtain ⟨cy_3_0, cy_3_1, cy_3_2, cy_3_3, cy_3_4, cy_3_5, cy_3_6, cy_3_7, cy_3_8, cy_3_9, cy_3_10⟩ := inC_cells Ry_3
  go_wp2
  go_ret
  exact ⟨rfl, B3⟩
set_option maxRecDepth 100000 in
set_option maxHeartbeats 8000000 in
theorem en_fields_yn {T : World → Prop} (FB : Box (∀ {w w' : World}, T w → Below w.heap.size w w' → T w')) (x y : In) (n A B : Nat) (f : Int) (hnf : (f == 0) = false) (k : Nat) (hmod : ((n : Nat) : Int) % 32 = (k : Nat)) (z : In) (hz : z = ⟨x.op, x.form, x.frm, x.kind, x.rd, k, x.rs2, x.rs3, x.rm, x.imm, x.csr⟩) (C m X : Nat) (hx : bits .xor .u32 (A : Nat) (C : Nat) = (X : Nat)) (hn1 : bits .andNot .u32 (X : Nat) (m : Nat) = 0) (hn2 : bits .andNot .u32 (X : Nat) 1015808 = 0) (K1 : Box (∀ w, T w → Calls Tryd.prog 9 #[.agg (inC x)] w fun r w' => r = .returned (.tuple #[.int .u32 (A : Nat), .int .i64 0]) ∧ Below w.heap.size w w')) (K2 : Box (∀ w, T w → Calls Tryd.prog 9 #[.agg (inC y)] w fun r w' => r = .returned (.tuple #[.int .u32 (B : Nat), .int .i64 f]) ∧ Below w.heap.size w w')) (K3 : Box (∀ w, T w → Calls Tryd.prog 9 #[.agg (inC z)] w fun r w' => r = .returned (.tuple #[.int .u32 (C : Nat), .int .i64 0]) ∧ Below w.heap.size w w')) (K4 : Box (∀ w, T w → Calls Tryd.prog 21 #[.int .u32 (A : Nat), .int .u32 (C : Nat)] w fun r w' => r = .returned (.tuple #[.int .u32 (m : Nat), .int .i64 0]) ∧ Below w.heap.size w w'))  (KL : Box (∀ w, T w → Calls Tryd.prog 13 #[] w fun r w' => r = .returned (.bool true) ∧ Below w.heap.size w w')) (w : World) (hT : T w) : Calls Tryd.prog 8 #[.agg (inC x), .agg (inC y), .int .u8 (n : Nat)] w fun r w' => r = .returned (.bool true) ∧ Below w.heap.size w w' := by
  have FF := box hT
  clear hT
  have hin := inC_new
  have he := eqin
  have hif := inC_fold
  subst hz
  obtain ⟨Rx_0, Ry_0, B0⟩ := opn2 w (Obj.cells (inC x) 27) (Obj.cells (inC y) 27)
  go_enter Tryd.func8, Tryd.ntmps8
  obtain ⟨cx_0_0, cx_0_1, cx_0_2, cx_0_3, cx_0_4, cx_0_5, cx_0_6, cx_0_7, cx_0_8, cx_0_9, cx_0_10⟩ := inC_cells Rx_0
  go_wp2_with fail
  refine (K1.out _ (FB.out FF.out B0)).mono ?_
  rintro r w1 ⟨rfl, b1⟩
  have B1 : Below w.heap.size w w1 := btr B0 b1
  have Rx_1 := heap_of b1 _ _ _ Rx_0
  have Ry_1 := heap_of b1 _ _ _ Ry_0
  clear b1 B0 Rx_0 cx_0_0 cx_0_1 cx_0_2 cx_0_3 cx_0_4 cx_0_5 cx_0_6 cx_0_7 cx_0_8 cx_0_9 cx_0_10 Ry_0
  obtain ⟨cx_1_0, cx_1_1, cx_1_2, cx_1_3, cx_1_4, cx_1_5, cx_1_6, cx_1_7, cx_1_8, cx_1_9, cx_1_10⟩ := inC_cells Rx_1
  clear cx_1_0 cx_1_1 cx_1_2 cx_1_3 cx_1_4 cx_1_5 cx_1_6 cx_1_7 cx_1_8 cx_1_9 cx_1_10
  obtain ⟨cy_1_0, cy_1_1, cy_1_2, cy_1_3, cy_1_4, cy_1_5, cy_1_6, cy_1_7, cy_1_8, cy_1_9, cy_1_10⟩ := inC_cells Ry_1
  go_wp2_with fail
  refine (K2.out _ (FB.out FF.out B1)).mono ?_
  rintro r w2 ⟨rfl, b2⟩
  have B2 : Below w.heap.size w w2 := btr B1 b2
  have Rx_2 := heap_of b2 _ _ _ Rx_1
  have Ry_2 := heap_of b2 _ _ _ Ry_1
  clear b2 B1 Rx_1 Ry_1 cy_1_0 cy_1_1 cy_1_2 cy_1_3 cy_1_4 cy_1_5 cy_1_6 cy_1_7 cy_1_8 cy_1_9 cy_1_10
  obtain ⟨cy_2_0, cy_2_1, cy_2_2, cy_2_3, cy_2_4, cy_2_5, cy_2_6, cy_2_7, cy_2_8, cy_2_9, cy_2_10⟩ := inC_cells Ry_2
  clear cy_2_0 cy_2_1 cy_2_2 cy_2_3 cy_2_4 cy_2_5 cy_2_6 cy_2_7 cy_2_8 cy_2_9 cy_2_10
  obtain ⟨cx_2_0, cx_2_1, cx_2_2, cx_2_3, cx_2_4, cx_2_5, cx_2_6, cx_2_7, cx_2_8, cx_2_9, cx_2_10⟩ := inC_cells Rx_2
  have kx0 := cx_2_0
  have kx1 := cx_2_1
  have kx2 := cx_2_2
  have kx3 := cx_2_3
  have kx4 := cx_2_4
  have kx5 := cx_2_5
  have kx6 := cx_2_6
  have kx7 := cx_2_7
  have kx8 := cx_2_8
  have kx9 := cx_2_9
  have kx10 := cx_2_10
  have S3 := box B2.size
  have Lx_3 : Box (w.heap.size < w2.heap.size) := box (Array.getElem?_eq_some_iff.1 Rx_2).1
  have Ly_3 : Box (w.heap.size + 1 < w2.heap.size) := box (Array.getElem?_eq_some_iff.1 Ry_2).1
  have Rz_3 := heap_alloc_last w2 (Obj.cells (inC x) 27)
  have B3 := btr B2 (bal w2 (Obj.cells (inC x) 27))
  have Rx_3 := heap_of (bal w2 (Obj.cells (inC x) 27)) _ _ _ Rx_2
  have Ry_3 := heap_of (bal w2 (Obj.cells (inC x) 27)) _ _ _ Ry_2
  clear B2 Rx_2 cx_2_0 cx_2_1 cx_2_2 cx_2_3 cx_2_4 cx_2_5 cx_2_6 cx_2_7 cx_2_8 cx_2_9 cx_2_10 Ry_2
  obtain ⟨cx_3_0, cx_3_1, cx_3_2, cx_3_3, cx_3_4, cx_3_5, cx_3_6, cx_3_7, cx_3_8, cx_3_9, cx_3_10⟩ := inC_cells Rx_3
  obtain ⟨cz_3_0, cz_3_1, cz_3_2, cz_3_3, cz_3_4, cz_3_5, cz_3_6, cz_3_7, cz_3_8, cz_3_9, cz_3_10⟩ := inC_cells Rz_3
  have qz_3 := fz (k := 5) Rz_3
  have B4 : Below w.heap.size w ((w2.alloc (Obj.cells (inC x) 27)).setCell ⟨w2.heap.size, 5, none⟩ (.int .u8 (k : Nat))) := B3.setCell (by first | exact Nat.le_refl _ | (have := S3.out; have := Lx_3.out; have := Ly_3.out; show w.heap.size ≤ w2.heap.size; omega)) _
  have Rz_4 : ((w2.alloc (Obj.cells (inC x) 27)).setCell ⟨w2.heap.size, 5, none⟩ (.int .u8 (k : Nat))).heap[w2.heap.size]? = some (Obj.cells (inC ⟨x.op, x.form, x.frm, x.kind, x.rd, k, x.rs2, x.rs3, x.rm, x.imm, x.csr⟩) 27) := by rw [setCell_row Rz_3]; rfl
  have Rx_4 : ((w2.alloc (Obj.cells (inC x) 27)).setCell ⟨w2.heap.size, 5, none⟩ (.int .u8 (k : Nat))).heap[w.heap.size]? = some (Obj.cells (inC x) 27) := by rw [setCell_other (by first | omega | (have := S3.out; have := Lx_3.out; have := Ly_3.out; omega))]; exact Rx_3
  have Ry_4 : ((w2.alloc (Obj.cells (inC x) 27)).setCell ⟨w2.heap.size, 5, none⟩ (.int .u8 (k : Nat))).heap[w.heap.size + 1]? = some (Obj.cells (inC y) 27) := by rw [setCell_other (by first | omega | (have := S3.out; have := Lx_3.out; have := Ly_3.out; omega))]; exact Ry_3
  obtain ⟨w4, hw4⟩ : ∃ V, ((w2.alloc (Obj.cells (inC x) 27)).setCell ⟨w2.heap.size, 5, none⟩ (.int .u8 (k : Nat))) = V := ⟨_, rfl⟩
  rw [hw4] at B4 Rx_4 Ry_4 Rz_4
  obtain ⟨cx_4_0, cx_4_1, cx_4_2, cx_4_3, cx_4_4, cx_4_5, cx_4_6, cx_4_7, cx_4_8, cx_4_9, cx_4_10⟩ := inC_cells Rx_4
  obtain ⟨cz_4_0, cz_4_1, cz_4_2, cz_4_3, cz_4_4, cz_4_5, cz_4_6, cz_4_7, cz_4_8, cz_4_9, cz_4_10⟩ := inC_cells Rz_4
  clear Rx_4 cx_4_0 cx_4_1 cx_4_2 cx_4_3 cx_4_4 cx_4_5 cx_4_6 cx_4_7 cx_4_8 cx_4_9 cx_4_10
  clear Ry_4 
  obtain ⟨cz_4_0, cz_4_1, cz_4_2, cz_4_3, cz_4_4, cz_4_5, cz_4_6, cz_4_7, cz_4_8, cz_4_9, cz_4_10⟩ := inC_cells Rz_4
  go_wp2_with fail
  refine (K3.out _ (FB.out FF.out B4)).mono ?_
  rintro r w5 ⟨rfl, b5⟩
  have B5 : Below w.heap.size w w5 := btr B4 b5
  have Rz_5 := heap_of b5 _ _ _ Rz_4
  clear b5 B4 Rz_4 cz_4_0 cz_4_1 cz_4_2 cz_4_3 cz_4_4 cz_4_5 cz_4_6 cz_4_7 cz_4_8 cz_4_9 cz_4_10
  obtain ⟨cz_5_0, cz_5_1, cz_5_2, cz_5_3, cz_5_4, cz_5_5, cz_5_6, cz_5_7, cz_5_8, cz_5_9, cz_5_10⟩ := inC_cells Rz_5
  clear cz_5_0 cz_5_1 cz_5_2 cz_5_3 cz_5_4 cz_5_5 cz_5_6 cz_5_7 cz_5_8 cz_5_9 cz_5_10
  go_wp2_with fail
  refine (K4.out _ (FB.out FF.out B5)).mono ?_
  rintro r w6 ⟨rfl, b6⟩
  have B6 : Below w.heap.size w w6 := btr B5 b6
  have Rz_6 := heap_of b6 _ _ _ Rz_5
  clear b6 B5 Rz_5
  go_wp2_with fail
  refine (KL.out _ (FB.out FF.out B6)).mono ?_
  rintro r w7 ⟨rfl, b7⟩
  have B7 : Below w.heap.size w w7 := btr B6 b7
  have Rz_7 := heap_of b7 _ _ _ Rz_6
  clear b7 B6 Rz_6
  go_wp2
  go_ret
  exact ⟨rfl, B7⟩
set_option maxRecDepth 100000 in
set_option maxHeartbeats 8000000 in
theorem en_fields_yy {T : World → Prop} (FB : Box (∀ {w w' : World}, T w → Below w.heap.size w w' → T w')) (x y : In) (n A B : Nat) (q : Bool) (hq1 : (((A : Nat) : Int) == ((B : Nat) : Int)) = q) (hq2 : inCE x y = q) (k : Nat) (hmod : ((n : Nat) : Int) % 32 = (k : Nat)) (z : In) (hz : z = ⟨x.op, x.form, x.frm, x.kind, x.rd, k, x.rs2, x.rs3, x.rm, x.imm, x.csr⟩) (C m X : Nat) (hx : bits .xor .u32 (A : Nat) (C : Nat) = (X : Nat)) (hn1 : bits .andNot .u32 (X : Nat) (m : Nat) = 0) (hn2 : bits .andNot .u32 (X : Nat) 1015808 = 0) (K1 : Box (∀ w, T w → Calls Tryd.prog 9 #[.agg (inC x)] w fun r w' => r = .returned (.tuple #[.int .u32 (A : Nat), .int .i64 0]) ∧ Below w.heap.size w w')) (K2 : Box (∀ w, T w → Calls Tryd.prog 9 #[.agg (inC y)] w fun r w' => r = .returned (.tuple #[.int .u32 (B : Nat), .int .i64 0]) ∧ Below w.heap.size w w')) (K3 : Box (∀ w, T w → Calls Tryd.prog 9 #[.agg (inC z)] w fun r w' => r = .returned (.tuple #[.int .u32 (C : Nat), .int .i64 0]) ∧ Below w.heap.size w w')) (K4 : Box (∀ w, T w → Calls Tryd.prog 21 #[.int .u32 (A : Nat), .int .u32 (C : Nat)] w fun r w' => r = .returned (.tuple #[.int .u32 (m : Nat), .int .i64 0]) ∧ Below w.heap.size w w'))  (KL : Box (∀ w, T w → Calls Tryd.prog 13 #[] w fun r w' => r = .returned (.bool true) ∧ Below w.heap.size w w')) (w : World) (hT : T w) : Calls Tryd.prog 8 #[.agg (inC x), .agg (inC y), .int .u8 (n : Nat)] w fun r w' => r = .returned (.bool true) ∧ Below w.heap.size w w' := by
  have FF := box hT
  clear hT
  have hin := inC_new
  have he := eqin
  have hif := inC_fold
  subst hz
  obtain ⟨Rx_0, Ry_0, B0⟩ := opn2 w (Obj.cells (inC x) 27) (Obj.cells (inC y) 27)
  go_enter Tryd.func8, Tryd.ntmps8
  obtain ⟨cx_0_0, cx_0_1, cx_0_2, cx_0_3, cx_0_4, cx_0_5, cx_0_6, cx_0_7, cx_0_8, cx_0_9, cx_0_10⟩ := inC_cells Rx_0
  go_wp2_with fail
  refine (K1.out _ (FB.out FF.out B0)).mono ?_
  rintro r w1 ⟨rfl, b1⟩
  have B1 : Below w.heap.size w w1 := btr B0 b1
  have Rx_1 := heap_of b1 _ _ _ Rx_0
  have Ry_1 := heap_of b1 _ _ _ Ry_0
  clear b1 B0 Rx_0 cx_0_0 cx_0_1 cx_0_2 cx_0_3 cx_0_4 cx_0_5 cx_0_6 cx_0_7 cx_0_8 cx_0_9 cx_0_10 Ry_0
  obtain ⟨cx_1_0, cx_1_1, cx_1_2, cx_1_3, cx_1_4, cx_1_5, cx_1_6, cx_1_7, cx_1_8, cx_1_9, cx_1_10⟩ := inC_cells Rx_1
  clear cx_1_0 cx_1_1 cx_1_2 cx_1_3 cx_1_4 cx_1_5 cx_1_6 cx_1_7 cx_1_8 cx_1_9 cx_1_10
  obtain ⟨cy_1_0, cy_1_1, cy_1_2, cy_1_3, cy_1_4, cy_1_5, cy_1_6, cy_1_7, cy_1_8, cy_1_9, cy_1_10⟩ := inC_cells Ry_1
  go_wp2_with fail
  refine (K2.out _ (FB.out FF.out B1)).mono ?_
  rintro r w2 ⟨rfl, b2⟩
  have B2 : Below w.heap.size w w2 := btr B1 b2
  have Rx_2 := heap_of b2 _ _ _ Rx_1
  have Ry_2 := heap_of b2 _ _ _ Ry_1
  clear b2 B1 Rx_1 Ry_1 cy_1_0 cy_1_1 cy_1_2 cy_1_3 cy_1_4 cy_1_5 cy_1_6 cy_1_7 cy_1_8 cy_1_9 cy_1_10
  obtain ⟨cy_2_0, cy_2_1, cy_2_2, cy_2_3, cy_2_4, cy_2_5, cy_2_6, cy_2_7, cy_2_8, cy_2_9, cy_2_10⟩ := inC_cells Ry_2
  have ky0 := cy_2_0
  have ky1 := cy_2_1
  have ky2 := cy_2_2
  have ky3 := cy_2_3
  have ky4 := cy_2_4
  have ky5 := cy_2_5
  have ky6 := cy_2_6
  have ky7 := cy_2_7
  have ky8 := cy_2_8
  have ky9 := cy_2_9
  have ky10 := cy_2_10
  clear cy_2_0 cy_2_1 cy_2_2 cy_2_3 cy_2_4 cy_2_5 cy_2_6 cy_2_7 cy_2_8 cy_2_9 cy_2_10
  obtain ⟨cx_2_0, cx_2_1, cx_2_2, cx_2_3, cx_2_4, cx_2_5, cx_2_6, cx_2_7, cx_2_8, cx_2_9, cx_2_10⟩ := inC_cells Rx_2
  have kx0 := cx_2_0
  have kx1 := cx_2_1
  have kx2 := cx_2_2
  have kx3 := cx_2_3
  have kx4 := cx_2_4
  have kx5 := cx_2_5
  have kx6 := cx_2_6
  have kx7 := cx_2_7
  have kx8 := cx_2_8
  have kx9 := cx_2_9
  have kx10 := cx_2_10
  have S3 := box B2.size
  have Lx_3 : Box (w.heap.size < w2.heap.size) := box (Array.getElem?_eq_some_iff.1 Rx_2).1
  have Ly_3 : Box (w.heap.size + 1 < w2.heap.size) := box (Array.getElem?_eq_some_iff.1 Ry_2).1
  have Rz_3 := heap_alloc_last w2 (Obj.cells (inC x) 27)
  have B3 := btr B2 (bal w2 (Obj.cells (inC x) 27))
  have Rx_3 := heap_of (bal w2 (Obj.cells (inC x) 27)) _ _ _ Rx_2
  have Ry_3 := heap_of (bal w2 (Obj.cells (inC x) 27)) _ _ _ Ry_2
  clear B2 Rx_2 cx_2_0 cx_2_1 cx_2_2 cx_2_3 cx_2_4 cx_2_5 cx_2_6 cx_2_7 cx_2_8 cx_2_9 cx_2_10 Ry_2
  obtain ⟨cx_3_0, cx_3_1, cx_3_2, cx_3_3, cx_3_4, cx_3_5, cx_3_6, cx_3_7, cx_3_8, cx_3_9, cx_3_10⟩ := inC_cells Rx_3
  obtain ⟨cz_3_0, cz_3_1, cz_3_2, cz_3_3, cz_3_4, cz_3_5, cz_3_6, cz_3_7, cz_3_8, cz_3_9, cz_3_10⟩ := inC_cells Rz_3
  have qz_3 := fz (k := 5) Rz_3
  have B4 : Below w.heap.size w ((w2.alloc (Obj.cells (inC x) 27)).setCell ⟨w2.heap.size, 5, none⟩ (.int .u8 (k : Nat))) := B3.setCell (by first | exact Nat.le_refl _ | (have := S3.out; have := Lx_3.out; have := Ly_3.out; show w.heap.size ≤ w2.heap.size; omega)) _
  have Rz_4 : ((w2.alloc (Obj.cells (inC x) 27)).setCell ⟨w2.heap.size, 5, none⟩ (.int .u8 (k : Nat))).heap[w2.heap.size]? = some (Obj.cells (inC ⟨x.op, x.form, x.frm, x.kind, x.rd, k, x.rs2, x.rs3, x.rm, x.imm, x.csr⟩) 27) := by rw [setCell_row Rz_3]; rfl
  have Rx_4 : ((w2.alloc (Obj.cells (inC x) 27)).setCell ⟨w2.heap.size, 5, none⟩ (.int .u8 (k : Nat))).heap[w.heap.size]? = some (Obj.cells (inC x) 27) := by rw [setCell_other (by first | omega | (have := S3.out; have := Lx_3.out; have := Ly_3.out; omega))]; exact Rx_3
  have Ry_4 : ((w2.alloc (Obj.cells (inC x) 27)).setCell ⟨w2.heap.size, 5, none⟩ (.int .u8 (k : Nat))).heap[w.heap.size + 1]? = some (Obj.cells (inC y) 27) := by rw [setCell_other (by first | omega | (have := S3.out; have := Lx_3.out; have := Ly_3.out; omega))]; exact Ry_3
  obtain ⟨w4, hw4⟩ : ∃ V, ((w2.alloc (Obj.cells (inC x) 27)).setCell ⟨w2.heap.size, 5, none⟩ (.int .u8 (k : Nat))) = V := ⟨_, rfl⟩
  rw [hw4] at B4 Rx_4 Ry_4 Rz_4
  obtain ⟨cx_4_0, cx_4_1, cx_4_2, cx_4_3, cx_4_4, cx_4_5, cx_4_6, cx_4_7, cx_4_8, cx_4_9, cx_4_10⟩ := inC_cells Rx_4
  obtain ⟨cz_4_0, cz_4_1, cz_4_2, cz_4_3, cz_4_4, cz_4_5, cz_4_6, cz_4_7, cz_4_8, cz_4_9, cz_4_10⟩ := inC_cells Rz_4
  clear Rx_4 cx_4_0 cx_4_1 cx_4_2 cx_4_3 cx_4_4 cx_4_5 cx_4_6 cx_4_7 cx_4_8 cx_4_9 cx_4_10
  clear Ry_4 
  obtain ⟨cz_4_0, cz_4_1, cz_4_2, cz_4_3, cz_4_4, cz_4_5, cz_4_6, cz_4_7, cz_4_8, cz_4_9, cz_4_10⟩ := inC_cells Rz_4
  go_wp2_with fail
  refine (K3.out _ (FB.out FF.out B4)).mono ?_
  rintro r w5 ⟨rfl, b5⟩
  have B5 : Below w.heap.size w w5 := btr B4 b5
  have Rz_5 := heap_of b5 _ _ _ Rz_4
  clear b5 B4 Rz_4 cz_4_0 cz_4_1 cz_4_2 cz_4_3 cz_4_4 cz_4_5 cz_4_6 cz_4_7 cz_4_8 cz_4_9 cz_4_10
  obtain ⟨cz_5_0, cz_5_1, cz_5_2, cz_5_3, cz_5_4, cz_5_5, cz_5_6, cz_5_7, cz_5_8, cz_5_9, cz_5_10⟩ := inC_cells Rz_5
  clear cz_5_0 cz_5_1 cz_5_2 cz_5_3 cz_5_4 cz_5_5 cz_5_6 cz_5_7 cz_5_8 cz_5_9 cz_5_10
  go_wp2_with fail
  refine (K4.out _ (FB.out FF.out B5)).mono ?_
  rintro r w6 ⟨rfl, b6⟩
  have B6 : Below w.heap.size w w6 := btr B5 b6
  have Rz_6 := heap_of b6 _ _ _ Rz_5
  clear b6 B5 Rz_5
  go_wp2_with fail
  refine (KL.out _ (FB.out FF.out B6)).mono ?_
  rintro r w7 ⟨rfl, b7⟩
  have B7 : Below w.heap.size w w7 := btr B6 b7
  have Rz_7 := heap_of b7 _ _ _ Rz_6
  clear b7 B6 Rz_6
  go_wp2
  go_ret
  exact ⟨rfl, B7⟩
end Go.Proofs.YtaoccmopfflkmaaDoor
namespace Go.Proofs.YtaoccmopfflkmaaDoor
set_option maxRecDepth 100000
set_option maxHeartbeats 40000000
set_option maxRecDepth 100000
open Go.RowKit WMath
set_option linter.unusedSimpArgs false
set_option linter.unusedVariables false
def CAt (W : World) (g o : Nat) (x : In) : Prop := W.cell? ⟨g, o, none⟩ = some (.int .u8 (x.op : Nat)) ∧ W.cell? ⟨g, o + 1, none⟩ = some (.int .u8 (x.form : Nat)) ∧ W.cell? ⟨g, o + 2, none⟩ = some (.int .u8 (x.frm : Nat)) ∧ W.cell? ⟨g, o + 3, none⟩ = some (.int .u8 (x.kind : Nat)) ∧ W.cell? ⟨g, o + 4, none⟩ = some (.int .u8 (x.rd : Nat)) ∧ W.cell? ⟨g, o + 5, none⟩ = some (.int .u8 (x.rs1 : Nat)) ∧ W.cell? ⟨g, o + 6, none⟩ = some (.int .u8 (x.rs2 : Nat)) ∧ W.cell? ⟨g, o + 7, none⟩ = some (.int .u8 (x.rs3 : Nat)) ∧ W.cell? ⟨g, o + 8, none⟩ = some (.int .u8 (x.rm : Nat)) ∧ W.cell? ⟨g, o + 9, none⟩ = some (.int .i16 x.imm) ∧ W.cell? ⟨g, o + 10, none⟩ = some (.int .u8 (x.csr : Nat))
theorem CAt.below {W V : World} {g o : Nat} {x : In} (h : CAt W g o x) (b : Below W.heap.size W V) : CAt V g o x := by
  obtain ⟨h0, h1, h2, h3, h4, h5, h6, h7, h8, h9, h10⟩ := h
  exact ⟨cellB b h0, cellB b h1, cellB b h2, cellB b h3, cellB b h4, cellB b h5, cellB b h6, cellB b h7, cellB b h8, cellB b h9, cellB b h10⟩
end Go.Proofs.YtaoccmopfflkmaaDoor
