/-
  What the functions that the statement reaches return: part 10 (DD, DE, DF, DG, DH).
-/
import Derived.Maps.OwnIn
import Derived.DeepKeys4
import Derived.Maps.OwnSet
import Derived.Stop.RegionWithIn
import Derived.Test.YtaoccmopfflkmaaDoorIa09
namespace Go.Proofs.YtaoccmopfflkmaaDoor
set_option maxRecDepth 100000
set_option maxHeartbeats 40000000
set_option maxRecDepth 100000
open Go.RowKit WMath
set_option linter.unusedSimpArgs false
set_option linter.unusedVariables false
theorem beqN24 (a b : Nat) : (((a : Nat) : Int) == ((b : Nat) : Int)) = decide (a = b) := by
  rw [Bool.eq_iff_iff, beq_iff_eq, decide_eq_true_iff]
  omega
theorem k_isMem (o : Nat) : Box (∀ w, Calls Tryd.prog 75 #[.agg (plV (plB (plN o)))] w fun r w' => r = .returned (.bool (decide ((plN o).lay = 1) || decide ((plN o).lay = 2))) ∧ Below w.heap.size w w') :=
  box (fun w => t_isMem (plB (plN o)) _ _ (beqN24 (plN o).lay 1) (beqN24 (plN o).lay 2) w)
theorem k_rmOf (o f : Nat) (hf : f < 4) : Box (∀ w, T24 w → Calls Tryd.prog 76 #[.agg (plV (plB (plN o))), .int .u8 (f : Nat)] w fun r w' => r = .returned (.int .u8 (rmP o f : Nat)) ∧ Below w.heap.size w w') := box (fun w hT => by
  have K := k_isMem o
  unfold rmP
  by_cases h : (plN o).lay = 1 ∨ (plN o).lay = 2
  · rw [if_pos h]
    refine t_rmOf_y (plB (plN o)) f hf w hT ?_
    have e : (decide ((plN o).lay = 1) || decide ((plN o).lay = 2)) = true := by simpa using h
    rw [e] at K
    exact K
  · rw [if_neg h]
    refine t_rmOf_n (plB (plN o)) f w ?_
    have e : (decide ((plN o).lay = 1) || decide ((plN o).lay = 2)) = false := by simpa using h
    rw [e] at K
    exact K)
theorem shl24 (a c : Nat) (h : a * c < 4294967296) : ((a : Nat) : Int) * ((c : Nat) : Int) % 4294967296 = ((a * c : Nat) : Int) := by
  rw [← Int.natCast_mul]
  generalize a * c = x at *
  omega
def FdOk (F : Fd) : Prop := F.opc < 128 ∧ F.rm < 8 ∧ F.rs2 < 32 ∧ F.form < 4 ∧ F.rs3 < 32
theorem k_word (F : Fd) (h : FdOk F) : Box (∀ w, Calls Tryd.prog 77 #[.agg (fdC (fdB F))] w fun r w' => r = .returned (.int .u32 (wordF F : Nat)) ∧ Below w.heap.size w w') := box (fun w => by
  obtain ⟨h0, h1, h2, h3, h4⟩ := h
  have b1 : F.rm * 4096 < 4294967296 := Nat.lt_of_le_of_lt (Nat.mul_le_mul_right 4096 (Nat.le_of_lt h1)) (by decide)
  have b2 : F.rs2 * 1048576 < 4294967296 := Nat.lt_of_le_of_lt (Nat.mul_le_mul_right 1048576 (Nat.le_of_lt h2)) (by decide)
  have b3 : F.form * 33554432 < 4294967296 := Nat.lt_of_le_of_lt (Nat.mul_le_mul_right 33554432 (Nat.le_of_lt h3)) (by decide)
  have b4 : F.rs3 * 134217728 < 4294967296 := Nat.lt_of_le_of_lt (Nat.mul_le_mul_right 134217728 (Nat.le_of_lt_succ h4)) (by decide)
  have c0 : F.opc < 4294967296 := Nat.lt_trans h0 (by decide)
  have c1 : (F.opc ||| F.rm * 4096) < 4294967296 := Nat.or_lt_two_pow (n := 32) c0 b1
  have c2 : ((F.opc ||| F.rm * 4096) ||| F.rs2 * 1048576) < 4294967296 := Nat.or_lt_two_pow (n := 32) c1 b2
  have c3 : (((F.opc ||| F.rm * 4096) ||| F.rs2 * 1048576) ||| F.form * 33554432) < 4294967296 := Nat.or_lt_two_pow (n := 32) c2 b3
  refine t_word (fdB F) (F.rm * 4096) (F.rs2 * 1048576) (F.form * 33554432) (F.rs3 * 134217728) _ _ _ (wordF F) ?_ ?_ ?_ ?_ ?_ (shl24 _ 4096 b1) (shl24 _ 1048576 b2) (shl24 _ 33554432 b3) (shl24 _ 134217728 b4) (or32t _ _ c0 b1) (or32t _ _ c1 b2) (or32t _ _ c2 b3) (or32t _ _ c3 b4) w
  all_goals (simp only [fdB]; omega))
theorem pl_ok : ((List.range 32).all fun o => decide ((plN o).lay < 10 ∧ (plN o).opc < 128 ∧ (plN o).rm < 8 ∧ (plN o).rs3 < 32)) = true := by decide +kernel
theorem plOk {o : Nat} (h : o < 32) : (plN o).lay < 10 ∧ (plN o).opc < 128 ∧ (plN o).rm < 8 ∧ (plN o).rs3 < 32 := of_decide_eq_true (List.all_eq_true.1 pl_ok o (List.mem_range.2 h))
theorem fx_lt : ((List.range 10).all fun o => decide (fxN o < 4294967296)) = true := by decide +kernel
theorem fxLt {l : Nat} (h : l < 10) : fxN l < 4294967296 := of_decide_eq_true (List.all_eq_true.1 fx_lt l (List.mem_range.2 h))
theorem wd_lt {f : Nat} (h : f < 4) : wdN f < 8 := by
  rcases (show f = 0 ∨ f = 1 ∨ f = 2 ∨ f = 3 by omega) with rfl | rfl | rfl | rfl <;> decide
theorem or8 (a b : Nat) (ha : a < 256) (hb : b < 256) : bits .or .u8 ((a : Nat) : Int) ((b : Nat) : Int) = ((a ||| b : Nat) : Int) := by
  have h1 : (BitVec.ofInt 8 ((a : Nat) : Int)).toNat = a := by rw [BitVec.ofInt_natCast, BitVec.toNat_ofNat]; exact Nat.mod_eq_of_lt ha
  have h2 : (BitVec.ofInt 8 ((b : Nat) : Int)).toNat = b := by rw [BitVec.ofInt_natCast, BitVec.toNat_ofNat]; exact Nat.mod_eq_of_lt hb
  show IntKind.u8.wrap ((BitVec.ofInt 8 ((a : Nat) : Int) ||| BitVec.ofInt 8 ((b : Nat) : Int)).toNat : Int) = _
  rw [BitVec.toNat_or, h1, h2, IntKind.wrap_u8]
  have : a ||| b < 2 ^ 8 := Nat.or_lt_two_pow ha hb
  omega
theorem fdP_ok {o f g k : Nat} (ho : o < 32) (hf : f < 4) (hg : g < 4) (hk : k < 4) : FdOk (fdP o f g k) := by
  obtain ⟨_, h1, h2, h3⟩ := plOk ho
  refine ⟨h1, ?_, Nat.lt_trans (Nat.or_lt_two_pow (n := 2) hg hk) (by decide), hf, h3⟩
  show rmP o f < 8
  unfold rmP
  split
  · exact wd_lt hf
  · exact h2
theorem word_lt (F : Fd) (h : FdOk F) : wordF F < 4294967296 := by
  obtain ⟨h0, h1, h2, h3, h4⟩ := h
  have b1 : F.rm * 4096 < 4294967296 := Nat.lt_of_le_of_lt (Nat.mul_le_mul_right 4096 (Nat.le_of_lt h1)) (by decide)
  have b2 : F.rs2 * 1048576 < 4294967296 := Nat.lt_of_le_of_lt (Nat.mul_le_mul_right 1048576 (Nat.le_of_lt h2)) (by decide)
  have b3 : F.form * 33554432 < 4294967296 := Nat.lt_of_le_of_lt (Nat.mul_le_mul_right 33554432 (Nat.le_of_lt h3)) (by decide)
  have b4 : F.rs3 * 134217728 < 4294967296 := Nat.lt_of_le_of_lt (Nat.mul_le_mul_right 134217728 (Nat.le_of_lt_succ h4)) (by decide)
  exact Nat.or_lt_two_pow (n := 32) (Nat.or_lt_two_pow (n := 32) (Nat.or_lt_two_pow (n := 32) (Nat.or_lt_two_pow (n := 32) (Nat.lt_trans h0 (by decide)) b1) b2) b3) b4
theorem k_row (o f g k : Nat) (ho : o < 32) (hf : f < 4) (hg : g < 4) (hk : k < 4) : Box (∀ w, T24 w → Calls Tryd.prog 51 #[.agg (plV (plB (plN o))), .int .u8 (o : Nat), .int .u8 (f : Nat), .int .u8 (g : Nat), .int .u8 (k : Nat)] w fun r w' => r = .returned (.agg (rwC (rwP24 o f g k))) ∧ Below w.heap.size w w') :=
  box (fun w hT => t_row (plB (plN o)) (fdB (fdP o f g k)) (rwP24 o f g k) o f g k (g ||| k) (rmP o f) (wordF (fdP o f g k)) (fxN (plN o).lay) _ rfl (plOk ho).1 rfl rfl (or8 g k (by omega) (by omega)) (and32t _ _ (word_lt _ (fdP_ok ho hf hg hk)) (fxLt (plOk ho).1)) (k_rmOf o f hf) (k_word _ (fdP_ok ho hf hg hk)) w hT)
theorem plN_out {o : Nat} (h : 32 ≤ o) : plN o = plZ := by
  unfold plN
  rw [List.getElem?_eq_none (by show 32 ≤ o; exact h)]
  rfl
set_option maxRecDepth 100000 in
set_option maxHeartbeats 8000000 in
theorem t_planOf_no (o : Nat) (ho : 32 ≤ o) (h9 : o < 256) (w : World) (hT : T24 w) : Calls Tryd.prog 49 #[.int .u8 (o : Nat)] w fun r w' => r = .returned (.agg (plV (plB plZ))) ∧ Below w.heap.size w w' := by
  obtain ⟨_, _, _, b, a, cap, hs, hp⟩ := t24_al hT (.cells #[.string ⟨#[]⟩, .int .u8 0, .int .u8 0, .int .u8 0, .int .u8 0] 101)
  clear hp
  have h1 : decide ((o : Int) < 32) = false := decide_eq_false (by omega)
  have h2 : decide ((32 : Int) ≤ (o : Int)) = true := decide_eq_true (by omega)
  have h3 : IntKind.i64.wrap (o : Int) = (o : Int) := by rw [IntKind.wrap_i64]; omega
  have h4 : wrap64 (o : Int) = (o : Int) := by first | exact h3 | (unfold wrap64; omega)
  show Calls Tryd.prog 49 #[.int .u8 (o : Nat)] w fun r w' => r = .returned (.agg #[.string ⟨#[]⟩, .int .u8 0, .int .u8 0, .int .u8 0, .int .u8 0]) ∧ Below w.heap.size w w'
  obtain ⟨Rz_0, B0⟩ := opn1 w (Obj.cells #[.string ⟨#[]⟩, .int .u8 0, .int .u8 0, .int .u8 0, .int .u8 0] 101)
  go_enter Tryd.func49, Tryd.ntmps49
  clear B0 Rz_0
  go_wp2
  exact bodyPost_ret (v := .agg #[.string ⟨#[]⟩, .int .u8 0, .int .u8 0, .int .u8 0, .int .u8 0]) (by simp [results, Tryd.results49, go_sem]) rfl ⟨rfl, bal w _⟩
theorem k_planOf (o : Nat) (h9 : o < 256) : Box (∀ w, T24 w → Calls Tryd.prog 49 #[.int .u8 (o : Nat)] w fun r w' => r = .returned (.agg (plV (plB (plN o)))) ∧ Below w.heap.size w w') := box (fun w hT => by
  by_cases h : o < 32
  · exact t_planOf o h w hT
  · rw [plN_out (by omega)]
    exact t_planOf_no o (by omega) h9 w hT)
set_option maxRecDepth 100000 in
set_option maxHeartbeats 8000000 in
theorem t_counts (o : Nat) (P : PlS) (b0 b1 b2 b3 b4 b5 b6 b7 : Bool) (a1 a2 a3 : Nat) (h0 : (((P.lay : Nat) : Int) == 0) = b0) (h1 : (((P.lay : Nat) : Int) == 8) = b1) (h2 : (((P.lay : Nat) : Int) == 9) = b2) (h3 : ((o : Int) == 23) = b3) (h4 : ((o : Int) == 25) = b4) (h5 : ((o : Int) == 17) = b5) (h6 : ((o : Int) == 21) = b6) (h7 : ((o : Int) == 22) = b7)
    (hr : (a1, a2, a3) = if b0 then (0, 0, 0) else if b1 || b2 then (1, 1, 1) else if b3 || b4 then (3, 1, 1) else if b5 then (4, 4, 1) else if b6 || b7 then (4, 1, 4) else (4, 1, 1)) (K : Box (∀ w, T24 w → Calls Tryd.prog 49 #[.int .u8 (o : Nat)] w fun r w' => r = .returned (.agg #[.string P.nm, .int .u8 (P.opc : Nat), .int .u8 (P.rs3 : Nat), .int .u8 (P.rm : Nat), .int .u8 (P.lay : Nat)]) ∧ Below w.heap.size w w')) (w : World) (hT : T24 w) :
    Calls Tryd.prog 50 #[.int .u8 (o : Nat)] w fun r w' => r = .returned (.tuple #[.int .u8 (a1 : Nat), .int .u8 (a2 : Nat), .int .u8 (a3 : Nat)]) ∧ Below w.heap.size w w' := by
  have FF := box hT
  clear hT
  have hfl : ∀ V : World, (Instr.field 101 (.agg #[.string P.nm, .int .u8 (P.opc : Nat), .int .u8 (P.rs3 : Nat), .int .u8 (P.rm : Nat), .int .u8 (P.lay : Nat)]) 4).run Tryd.prog V = .ok (.int .u8 (P.lay : Nat)) V := fun _ => by kernel_rfl
  have B0 : Below w.heap.size w w := (Below.refl _ _)
  go_enter Tryd.func50, Tryd.ntmps50
  go_wp2_with fail
  refine (K.out _ FF.out).mono ?_
  rintro r w1 ⟨rfl, bw⟩
  cases b0
  · skip
    cases b1
    · cases b2
      · skip
        cases b3
        · cases b4
          · skip
            cases b5
            · skip
              cases b6
              · cases b7
                · skip
                  simp at hr
                  obtain ⟨rfl, rfl, rfl⟩ := hr
                  go_wp2
                  go_ret3
                  exact ⟨rfl, bw⟩
                · skip
                  simp at hr
                  obtain ⟨rfl, rfl, rfl⟩ := hr
                  go_wp2
                  go_ret3
                  exact ⟨rfl, bw⟩
              · skip
                simp at hr
                obtain ⟨rfl, rfl, rfl⟩ := hr
                go_wp2
                go_ret3
                exact ⟨rfl, bw⟩
            · skip
              simp at hr
              obtain ⟨rfl, rfl, rfl⟩ := hr
              go_wp2
              go_ret3
              exact ⟨rfl, bw⟩
          · skip
            simp at hr
            obtain ⟨rfl, rfl, rfl⟩ := hr
            go_wp2
            go_ret3
            exact ⟨rfl, bw⟩
        · skip
          simp at hr
          obtain ⟨rfl, rfl, rfl⟩ := hr
          go_wp2
          go_ret3
          exact ⟨rfl, bw⟩
      · skip
        simp at hr
        obtain ⟨rfl, rfl, rfl⟩ := hr
        go_wp2
        go_ret3
        exact ⟨rfl, bw⟩
    · skip
      simp at hr
      obtain ⟨rfl, rfl, rfl⟩ := hr
      go_wp2
      go_ret3
      exact ⟨rfl, bw⟩
  · skip
    simp at hr
    obtain ⟨rfl, rfl, rfl⟩ := hr
    go_wp2
    go_ret3
    exact ⟨rfl, bw⟩
theorem k_counts (o : Nat) (ho : o < 256) : Box (∀ w, T24 w → Calls Tryd.prog 50 #[.int .u8 (o : Nat)] w fun r w' => r = .returned (.tuple #[.int .u8 ((cnQ o).1 : Nat), .int .u8 ((cnQ o).2.1 : Nat), .int .u8 ((cnQ o).2.2 : Nat)]) ∧ Below w.heap.size w w') := box (fun w hT => by
  refine t_counts o (plB (plN o)) _ _ _ _ _ _ _ _ _ _ _ (beqN24 (plN o).lay 0) (beqN24 (plN o).lay 8) (beqN24 (plN o).lay 9) (beqN24 o 23) (beqN24 o 25) (beqN24 o 17) (beqN24 o 21) (beqN24 o 22) ?_ (k_planOf o ho) w hT
  show cnQ o = _
  unfold cnQ
  simp only [Bool.or_eq_true, decide_eq_true_eq])
set_option maxRecDepth 100000 in
set_option maxHeartbeats 8000000 in
theorem t_moded (l : Nat) (b1 b2 b3 : Bool) (h1 : ((l : Int) == 3) = b1) (h2 : ((l : Int) == 4) = b2) (h3 : ((l : Int) == 6) = b3) (w : World) : Calls Tryd.prog 39 #[.int .u8 (l : Nat)] w fun r w' => r = .returned (.bool (b1 || b2 || b3)) ∧ Below w.heap.size w w' := by
  cases b1
  · cases b2
    · cases b3
      · have B0 : Below w.heap.size w w := (Below.refl _ _)
        go_enter Tryd.func39, Tryd.ntmps39
        go_wp2
        go_ret
        exact ⟨rfl, B0⟩
      · have B0 : Below w.heap.size w w := (Below.refl _ _)
        go_enter Tryd.func39, Tryd.ntmps39
        go_wp2
        go_ret
        exact ⟨rfl, B0⟩
    · have B0 : Below w.heap.size w w := (Below.refl _ _)
      go_enter Tryd.func39, Tryd.ntmps39
      go_wp2
      go_ret
      exact ⟨rfl, B0⟩
  · have B0 : Below w.heap.size w w := (Below.refl _ _)
    go_enter Tryd.func39, Tryd.ntmps39
    go_wp2
    go_ret
    exact ⟨rfl, B0⟩
theorem k_moded (l : Nat) : Box (∀ w, Calls Tryd.prog 39 #[.int .u8 (l : Nat)] w fun r w' => r = .returned (.bool (mdL l)) ∧ Below w.heap.size w w') := box (fun w => by
  have e : mdL l = (decide (l = 3) || decide (l = 4) || decide (l = 6)) := by
    unfold mdL
    rw [Bool.eq_iff_iff]
    simp [or_assoc]
  rw [e]
  exact t_moded l _ _ _ (beqN24 l 3) (beqN24 l 4) (beqN24 l 6) w)
set_option maxRecDepth 100000 in
set_option maxHeartbeats 8000000 in
theorem t_fits_no (q : Rw) (x a c : Nat) (hx : bits .xor .u32 (x : Int) ((q.mtch : Nat) : Int) = (a : Nat)) (ha : bits .and .u32 (a : Int) ((q.mask : Nat) : Int) = (c : Nat)) (hc : ((c : Int) != 0) = true) (w : World) : Calls Tryd.prog 25 #[.agg (rwC q), .int .u32 (x : Nat)] w fun r w' => r = .returned (.bool false) ∧ Below w.heap.size w w' := by
  obtain ⟨Rr_0, B0⟩ := opn1 w (Obj.cells (rwC q) 45)
  go_enter Tryd.func25, Tryd.ntmps25
  obtain ⟨cr_0_0, cr_0_1, cr_0_2, cr_0_3, cr_0_4, cr_0_5, cr_0_6⟩ := rwC_cells Rr_0
  go_wp2
  go_ret
  exact ⟨rfl, B0⟩
set_option maxRecDepth 100000 in
set_option maxHeartbeats 8000000 in
theorem t_fits_m (q : Rw) (x a : Nat) (D : FdS) (b1 b2 : Bool) (hx : bits .xor .u32 (x : Int) ((q.mtch : Nat) : Int) = (a : Nat)) (ha : bits .and .u32 (a : Int) ((q.mask : Nat) : Int) = 0) (h1 : (((D.rm : Nat) : Int) != 5) = b1) (h2 : (((D.rm : Nat) : Int) != 6) = b2)
    (KM : Box (∀ w, Calls Tryd.prog 39 #[.int .u8 (q.lay : Nat)] w fun r w' => r = .returned (.bool true) ∧ Below w.heap.size w w')) (KC : Box (∀ w, Calls Tryd.prog 40 #[.int .u32 (x : Nat)] w fun r w' => r = .returned (.agg #[.int .u8 (D.opc : Nat), .int .u8 (D.rm : Nat), .int .u8 (D.rs2 : Nat), .int .u8 (D.form : Nat), .int .u8 (D.rs3 : Nat)]) ∧ Below w.heap.size w w')) (w : World) : Calls Tryd.prog 25 #[.agg (rwC q), .int .u32 (x : Nat)] w fun r w' => r = .returned (.bool (b1 && b2)) ∧ Below w.heap.size w w' := by
  have hfl : ∀ V : World, (Instr.field 98 (.agg #[.int .u8 (D.opc : Nat), .int .u8 (D.rm : Nat), .int .u8 (D.rs2 : Nat), .int .u8 (D.form : Nat), .int .u8 (D.rs3 : Nat)]) 1).run Tryd.prog V = .ok (.int .u8 (D.rm : Nat)) V := fun _ => by kernel_rfl
  obtain ⟨Rr_0, B0⟩ := opn1 w (Obj.cells (rwC q) 45)
  go_enter Tryd.func25, Tryd.ntmps25
  obtain ⟨cr_0_0, cr_0_1, cr_0_2, cr_0_3, cr_0_4, cr_0_5, cr_0_6⟩ := rwC_cells Rr_0
  go_wp2_with fail
  refine (KM.out _).mono ?_
  rintro r w1 ⟨rfl, b1⟩
  have B1 : Below w.heap.size w w1 := btr B0 b1
  have Rr_1 := heap_of b1 _ _ _ Rr_0
  clear b1 B0 Rr_0 cr_0_0 cr_0_1 cr_0_2 cr_0_3 cr_0_4 cr_0_5 cr_0_6
  obtain ⟨cr_1_0, cr_1_1, cr_1_2, cr_1_3, cr_1_4, cr_1_5, cr_1_6⟩ := rwC_cells Rr_1
  go_wp2_with fail
  refine (KC.out _).mono ?_
  rintro r w2 ⟨rfl, b2⟩
  have B2 : Below w.heap.size w w2 := btr B1 b2
  have Rr_2 := heap_of b2 _ _ _ Rr_1
  clear b2 B1 Rr_1 cr_1_0 cr_1_1 cr_1_2 cr_1_3 cr_1_4 cr_1_5 cr_1_6
  obtain ⟨cr_2_0, cr_2_1, cr_2_2, cr_2_3, cr_2_4, cr_2_5, cr_2_6⟩ := rwC_cells Rr_2
  cases b1
  · go_wp2
    go_ret
    exact ⟨rfl, B2⟩
  · cases b2
    · go_wp2
      go_ret
      exact ⟨rfl, B2⟩
    · go_wp2
      go_ret
      exact ⟨rfl, B2⟩
set_option maxRecDepth 100000 in
set_option maxHeartbeats 8000000 in
theorem t_fits_c (q : Rw) (x a v : Nat) (b0 b1 b2 b3 : Bool) (hx : bits .xor .u32 (x : Int) ((q.mtch : Nat) : Int) = (a : Nat)) (ha : bits .and .u32 (a : Int) ((q.mask : Nat) : Int) = 0) (h0 : (((q.lay : Nat) : Int) == 8) = b0) (h1 : (((q.lay : Nat) : Int) == 9) = b1) (hv : (x : Int) / 1048576 = (v : Nat)) (h2 : decide ((1 : Int) ≤ (v : Int)) = b2) (h3 : decide ((v : Int) ≤ 3) = b3)
    (KM : Box (∀ w, Calls Tryd.prog 39 #[.int .u8 (q.lay : Nat)] w fun r w' => r = .returned (.bool false) ∧ Below w.heap.size w w')) (w : World) : Calls Tryd.prog 25 #[.agg (rwC q), .int .u32 (x : Nat)] w fun r w' => r = .returned (.bool (!(b0 || b1) || (b2 && b3))) ∧ Below w.heap.size w w' := by
  obtain ⟨Rr_0, B0⟩ := opn1 w (Obj.cells (rwC q) 45)
  go_enter Tryd.func25, Tryd.ntmps25
  obtain ⟨cr_0_0, cr_0_1, cr_0_2, cr_0_3, cr_0_4, cr_0_5, cr_0_6⟩ := rwC_cells Rr_0
  go_wp2_with fail
  refine (KM.out _).mono ?_
  rintro r w1 ⟨rfl, b1⟩
  have B1 : Below w.heap.size w w1 := btr B0 b1
  have Rr_1 := heap_of b1 _ _ _ Rr_0
  clear b1 B0 Rr_0 cr_0_0 cr_0_1 cr_0_2 cr_0_3 cr_0_4 cr_0_5 cr_0_6
  obtain ⟨cr_1_0, cr_1_1, cr_1_2, cr_1_3, cr_1_4, cr_1_5, cr_1_6⟩ := rwC_cells Rr_1
  cases b0
  · cases b1
    · go_wp2
      go_ret
      exact ⟨rfl, B1⟩
    · cases b2
      · go_wp2
        go_ret
        exact ⟨rfl, B1⟩
      · cases b3
        · go_wp2
          go_ret
          exact ⟨rfl, B1⟩
        · go_wp2
          go_ret
          exact ⟨rfl, B1⟩
  · cases b2
    · go_wp2
      go_ret
      exact ⟨rfl, B1⟩
    · cases b3
      · go_wp2
        go_ret
        exact ⟨rfl, B1⟩
      · go_wp2
        go_ret
        exact ⟨rfl, B1⟩
theorem xor32t (a b : Nat) (ha : a < 4294967296) (hb : b < 4294967296) : bits .xor .u32 ((a : Nat) : Int) ((b : Nat) : Int) = ((a ^^^ b : Nat) : Int) := by
  have h1 : (BitVec.ofInt 32 ((a : Nat) : Int)).toNat = a := by rw [BitVec.ofInt_natCast, BitVec.toNat_ofNat]; exact Nat.mod_eq_of_lt ha
  have h2 : (BitVec.ofInt 32 ((b : Nat) : Int)).toNat = b := by rw [BitVec.ofInt_natCast, BitVec.toNat_ofNat]; exact Nat.mod_eq_of_lt hb
  show IntKind.u32.wrap ((BitVec.ofInt 32 ((a : Nat) : Int) ^^^ BitVec.ofInt 32 ((b : Nat) : Int)).toNat : Int) = _
  rw [BitVec.toNat_xor, h1, h2, IntKind.wrap_u32]
  have : a ^^^ b < 2 ^ 32 := Nat.xor_lt_two_pow ha hb
  omega
theorem xor_and24 (x m k : Nat) : (x ^^^ m) &&& k = 0 ↔ x &&& k = m &&& k := by
  rw [Nat.and_xor_distrib_right]
  exact ⟨fun h => by have := congrArg (· ^^^ (m &&& k)) h; simpa [Nat.xor_assoc] using this, fun h => by rw [h, Nat.xor_self]⟩
theorem k_fits (q : Rw) (hm : q.mask < 4294967296) (ht : q.mtch < 4294967296) (x : Nat) (hx : x < 4294967296) : Box (∀ w, Calls Tryd.prog 25 #[.agg (rwC q), .int .u32 (x : Nat)] w fun r w' => r = .returned (.bool (fitsL q x)) ∧ Below w.heap.size w w') := box (fun w => by
  have ex := xor32t x q.mtch hx ht
  have ea := and32t (x ^^^ q.mtch) q.mask (Nat.xor_lt_two_pow (n := 32) hx ht) hm
  by_cases h : x &&& q.mask = q.mtch &&& q.mask
  · have hz : (x ^^^ q.mtch) &&& q.mask = 0 := (xor_and24 _ _ _).2 h
    rw [hz] at ea
    rw [fits_parts q x h]
    have KM := k_moded q.lay
    cases hmd : mdL q.lay
    · rw [hmd] at KM
      have e : (!(false && rmB x) && (!decide (q.lay = 8 ∨ q.lay = 9) || crB x)) = (!(decide (q.lay = 8) || decide (q.lay = 9)) || (decide (1 ≤ x / 1048576) && decide (x / 1048576 ≤ 3))) := by
        rw [Bool.eq_iff_iff]
        simp [crB]
      rw [e]
      exact t_fits_c q x _ (x / 1048576) _ _ _ _ ex ea (beqN24 q.lay 8) (beqN24 q.lay 9) (by omega) (by congr 1; exact propext (by omega)) (by congr 1; exact propext (by omega)) KM w
    · rw [hmd] at KM
      have hl : q.lay = 3 ∨ q.lay = 4 ∨ q.lay = 6 := of_decide_eq_true hmd
      have e : (!(true && rmB x) && (!decide (q.lay = 8 ∨ q.lay = 9) || crB x)) = (!decide (x / 4096 % 8 = 5) && !decide (x / 4096 % 8 = 6)) := by
        have h8 : decide (q.lay = 8 ∨ q.lay = 9) = false := decide_eq_false (by omega)
        rw [h8, Bool.eq_iff_iff]
        simp [rmB]
      rw [e]
      have n5 : ∀ b : Nat, (((x / 4096 % 8 : Nat) : Int) != ((b : Nat) : Int)) = !decide (x / 4096 % 8 = b) := fun b => by rw [bne, beqN24]
      exact t_fits_m q x _ (fdB (cutF x)) _ _ ex ea (n5 5) (n5 6) KM (box (fun w => t_cut x hx _ rfl w)) w
  · have hz : ¬ (x ^^^ q.mtch) &&& q.mask = 0 := fun e => h ((xor_and24 _ _ _).1 e)
    have e : fitsL q x = false := by
      unfold fitsL
      rw [decide_eq_false h]
      rfl
    rw [e]
    exact t_fits_no q x _ _ ex ea (by simp; omega) w)
end Go.Proofs.YtaoccmopfflkmaaDoor
namespace Go.Proofs.YtaoccmopfflkmaaDoor
set_option maxRecDepth 100000
set_option maxHeartbeats 40000000
set_option maxRecDepth 100000
open Go.RowKit Go.Shelf WMath
set_option linter.unusedVariables false
set_option linter.unusedSimpArgs false
attribute [local go_sem] Oper.semAt_some

theorem fm_pre {α β : Type} (f : α → List β) {l m : List α} (h : l <+: m) : l.flatMap f <+: m.flatMap f := by
  obtain ⟨t, rfl⟩ := h
  rw [List.flatMap_append]
  exact List.prefix_append _ _
theorem range_pre {a b : Nat} (h : a ≤ b) : List.range a <+: List.range b := by
  have : List.range a = (List.range b).take a := by rw [List.take_range, Nat.min_eq_left h]
  rw [this]
  exact List.take_prefix _ _
def preA (o f g k : Nat) : List Rw := fP24 o f ++ (gP24 o f g ++ kP24 o f g k)
theorem preA_k (o f g k : Nat) : preA o f g (k + 1) = preA o f g k ++ inP24 o f g k := by
  unfold preA
  rw [kP_next]
  simp only [List.append_assoc]
theorem preA_g (o f g : Nat) : preA o f (g + 1) 0 = preA o f g (cnQ o).2.2 := by
  unfold preA
  rw [gP_next]
  simp [kP24]
theorem preA_f (o f : Nat) : preA o (f + 1) 0 0 = preA o f (cnQ o).2.1 0 := by
  unfold preA
  rw [fP24_next]
  simp [kP24, gP24]
theorem preA_0 (o : Nat) : preA o 0 0 0 = [] := by simp [preA, kP24, gP24, fP24]
theorem preA_end (o : Nat) : preA o (cnQ o).1 0 0 = rwsO o := by simp [preA, kP24, gP24, rwsO]
theorem pre_in24 {o f g k : Nat} (hf : f < (cnQ o).1) (hg : g < (cnQ o).2.1) (hk : k < (cnQ o).2.2) : preA o f g k ++ inP24 o f g k <+: rwsO o := by
  rw [← preA_k]
  refine List.IsPrefix.trans (l₂ := preA o f (g + 1) 0) ?_ (List.IsPrefix.trans (l₂ := preA o (f + 1) 0 0) ?_ ?_)
  · rw [preA_g]
    unfold preA
    exact (List.prefix_append_right_inj _).2 ((List.prefix_append_right_inj _).2 (fm_pre _ (range_pre hk)))
  · rw [preA_f]
    unfold preA
    refine (List.prefix_append_right_inj _).2 ?_
    simp only [kP24, List.range_zero, List.flatMap_nil, List.append_nil]
    exact fm_pre _ (range_pre hg)
  · rw [← preA_end]
    unfold preA
    simp only [kP24, gP24, List.range_zero, List.flatMap_nil, List.append_nil]
    exact fm_pre _ (range_pre hf)
theorem rws_len : ((List.range 32).all fun o => decide ((rwsO o).length ≤ 16)) = true := by decide +kernel
theorem rwsLen (o : Nat) : (rwsO o).length ≤ 16 := by
  by_cases h : o < 32
  · exact of_decide_eq_true (List.all_eq_true.1 rws_len o (List.mem_range.2 h))
  · rw [rwsO_out (by omega)]
    exact Nat.zero_le _
theorem cnQ_out {o : Nat} (h : 32 ≤ o) : cnQ o = (0, 0, 0) := by
  unfold cnQ
  rw [plN_out h]
  rfl
theorem cnQ4 {o : Nat} : (cnQ o).1 ≤ 4 ∧ (cnQ o).2.1 ≤ 4 ∧ (cnQ o).2.2 ≤ 4 := by
  by_cases h : o < 32
  · exact of_decide_eq_true (List.all_eq_true.1 cnQ_le o (List.mem_range.2 h))
  · rw [cnQ_out (by omega)]
    decide
theorem below_grown24 {V V' : World} (h : Below V.heap.size V V') : V.grownBy V' none := ⟨h.os, h.tape, h.output, h.size, fun k hk _ => h.block k hk⟩
theorem own_calls24 {β : Type} {B : Nat} {I : β → World → Prop} (h : OwnFrom B I) {s : β} {V V' : World} (hs : I s V) (b : Below V.heap.size V V') : I s V' := h s V V' none hs (below_grown24 b) (fun r e => by cases e)
theorem plV_store24 {w : World} {P : PlS} {b : Nat} (hb : b = w.heap.size) : (storeCells ⟨b, 0, none⟩ (plV P).toList 0).run Tryd.prog (w.alloc (.cells #[.string ⟨#[]⟩, .int .u8 0, .int .u8 0, .int .u8 0, .int .u8 0] 101)) = .ok () (w.alloc (.cells (plV P) 101)) := plV_new w b P hb
structure EaA (o B : Nat) (V : World) : Prop where
  t : T24 V
  o : V.heap[B]? = some (.cells #[.int .u8 (o : Nat)] 22)
structure EaK (J : List Rw → World → Prop) (gp : Nat) (M : Nat) (P : PlS) (pre : List Rw) (V : World) : Prop where
  j : J pre V
  p : V.heap[gp]? = some (.cells (plV P) 101)
  m : M ≤ V.heap.size
set_option maxRecDepth 100000 in
set_option maxHeartbeats 8000000 in
theorem each1_top (o : Nat) (ho : o < 256) (B : Nat) (n : Nat) (hn : 1 ≤ n) :
    SeqTopM n Tryd.prog 48 #[.pointer (some ⟨B, 0, none⟩)] (fun x : Rw => #[Value.agg (rwC x)]) (EaA o B) (fun ys => ys = rwsO o) (fun pre => pre <+: rwsO o) 136 := fun l J Jx W hA hJ hJx hY h0 => by
  have AW : EaA o B W := hA _ _ _ (h0 W.heap.size (Nat.le_refl _))
  have KP := k_planOf o ho
  have KC := k_counts o ho
  obtain ⟨P, hP⟩ : ∃ P, plB (plN o) = P := ⟨_, rfl⟩
  have KR : Box (∀ f g k : Nat, f < (cnQ o).1 → g < (cnQ o).2.1 → k < (cnQ o).2.2 → ∀ w, T24 w → Calls Tryd.prog 51 #[.agg (plV P), .int .u8 (o : Nat), .int .u8 (f : Nat), .int .u8 (g : Nat), .int .u8 (k : Nat)] w fun r w' => r = .returned (.agg (rwC (rwP24 o f g k))) ∧ Below w.heap.size w w') := box (fun f g k hf hg hk w hT => by
    have h4 := cnQ4 (o := o)
    have ho2 : o < 32 := by
      by_cases h : o < 32
      · exact h
      · rw [cnQ_out (by omega)] at hf
        exact absurd hf (by simp)
    rw [← hP]
    exact (k_row o f g k ho2 (by omega) (by omega) (by omega)).out w hT)
  rw [hP] at KP
  clear hP
  have HX : Box (∀ f g k : Nat, f < (cnQ o).1 → g < (cnQ o).2.1 → k < (cnQ o).2.2 → preA o f g k ++ inP24 o f g k <+: rwsO o) := box (fun f g k hf hg hk => pre_in24 hf hg hk)
  have H4 := box (cnQ4 (o := o))
  obtain ⟨F, hF⟩ : ∃ F, F = Fence.wide := ⟨_, rfl⟩
  have hfn : ∀ f, F.fn f := fun f => by rw [hF]; trivial
  have hro : F.round = none := by rw [hF]; rfl
  have hdp : F.depth = none := by rw [hF]; rfl
  have hCI : Box (∀ {m k : Nat} {av : Array Value} {V : World} {R : Ending → World → Prop}, Calls Tryd.prog k av V R → CallsIn F m Tryd.prog k av V R) := box (fun h => by rw [hF]; exact callsIn_wide.2 h)
  simp only [← hF] at hY ⊢
  clear hF
  have hn1 : 1 ≤ n := by omega
  refine callsIn_of_wp Tryd.func48 rfl (hfn _) ?_ hro
  simp only [Tryd.ntmps48, List.size_toArray, List.length_cons, List.length_nil, Nat.reduceAdd, Nat.reduceSub, Array.replicate_succ, Array.replicate_zero, List.push_toArray, List.append_toArray, List.nil_append, List.cons_append]
  have co := cells4 AW.o 0 _ rfl
  simp only [List.getElem_toArray, List.getElem_cons_zero] at co
  gi_wp2_with fail
  refine (hCI.out (KP.out W AW.t)).mono ?_
  rintro r W1 ⟨rfl, b1⟩
  have A1 : EaA o B W1 := ⟨t24B AW.t b1, heap_of b1 _ _ _ AW.o⟩
  have co1 := cells4 A1.o 0 _ rfl
  simp only [List.getElem_toArray, List.getElem_cons_zero] at co1
  have hnew := fun b h => plV_store24 (w := W1) (P := P) (b := b) h
  have hfo := plV_fold P
  have cz := (bal W1 (.cells (plV P) 101))
  have A2 : EaA o B (W1.alloc (.cells (plV P) 101)) := ⟨t24B A1.t cz, heap_of cz _ _ _ A1.o⟩
  have co2 := cells4 A2.o 0 _ rfl
  simp only [List.getElem_toArray, List.getElem_cons_zero] at co2
  gi_wp2_with fail
  clear hnew hfo
  obtain ⟨W2, hW2⟩ : ∃ V, W1.alloc (.cells (plV P) 101) = V := ⟨_, rfl⟩
  have R2 : W2.heap[W1.heap.size]? = some (.cells (plV P) 101) := by rw [← hW2]; exact heap_alloc_last _ _
  have g2 : Below W1.heap.size W1 W2 := by rw [← hW2]; exact cz
  rw [hW2] at co2 A2 ⊢
  clear hW2 cz co co1
  refine (hCI.out (KC.out W2 A2.t)).mono ?_
  rintro r W3 ⟨rfl, b3⟩
  have R3 := heap_of b3 _ _ _ R2
  have hs1 : W.heap.size ≤ W1.heap.size := b1.size
  have hs3 : W1.heap.size < W3.heap.size := (Array.getElem?_eq_some_iff.1 R3).1
  obtain ⟨M, hM⟩ : ∃ M, W3.heap.size = M := ⟨_, rfl⟩
  have hWM : W.heap.size ≤ M := by omega
  have j3 : J M [] W3 := own_calls24 (hJ M) (own_calls24 (hJ M) (own_calls24 (hJ M) (h0 M hWM) b1) g2) b3
  obtain ⟨gp, hgp⟩ : ∃ g, W1.heap.size = g := ⟨_, rfl⟩
  rw [hgp] at R3 hs3 hs1 ⊢
  have hY2 : Box (∀ pre x V, EaK (J M) gp M P pre V → pre.length < 136 → pre ++ [x] <+: rwsO o → YieldAt F (n - 1) Tryd.prog l #[Value.agg (rwC x)] V fun e V' => (e = .returned (.bool true) ∧ EaK (J M) gp M P (pre ++ [x]) V') ∨ (e = .returned (.bool false) ∧ Jx M (pre ++ [x]) V')) := box (fun pre x V hk hl hp => by
    obtain ⟨fn, tmps, assign, body, hy, hR⟩ := hY M pre x V hWM hk.m hk.j hl hp
    refine ⟨fn, tmps, assign, body, hy, hR.mono ?_⟩
    rintro e V' ⟨tm, (⟨rfl, hj⟩ | ⟨rfl, hx⟩)⟩
    · exact .inl ⟨rfl, hj, tm.row hs1 (by omega) hk.p, Nat.le_trans hk.m tm.size⟩
    · exact .inr ⟨rfl, hx⟩)
  have E0 : EaK (J M) gp M P [] W3 := ⟨j3, R3, Nat.le_of_eq hM.symm⟩
  have HO : Box (∀ pre V, EaK (J M) gp M P pre V → V.cell? ⟨B, 0, none⟩ = some (.int .u8 (o : Nat))) := box (fun pre V h => by
    have := cells4 (hA _ _ _ h.j).o 0 _ rfl
    simpa only [List.getElem_toArray, List.getElem_cons_zero] using this)
  have HS : Box (∀ pre V V', EaK (J M) gp M P pre V → Below V.heap.size V V' → EaK (J M) gp M P pre V') := box (fun pre V V' h b => ⟨own_calls24 (hJ M) h.j b, heap_of b _ _ _ h.p, Nat.le_trans h.m b.size⟩)
  have HT : Box (∀ pre V, EaK (J M) gp M P pre V → T24 V) := box (fun pre V h => (hA _ _ _ h.j).t)
  have HJ : Box (∀ pre V, EaK (J M) gp M P pre V → J M pre V) := box (fun pre V h => h.j)
  have HP : Box (∀ pre V, EaK (J M) gp M P pre V → V.heap[gp]? = some (.cells (plV P) 101)) := box (fun pre V h => h.p)
  have E1 : EaK (J M) gp M P (preA o 0 0 0) W3 := by rw [preA_0]; exact E0
  obtain ⟨c1, hc1⟩ : ∃ c, (cnQ o).1 = c := ⟨_, rfl⟩
  obtain ⟨c2, hc2⟩ : ∃ c, (cnQ o).2.1 = c := ⟨_, rfl⟩
  obtain ⟨c3, hc3⟩ : ∃ c, (cnQ o).2.2 = c := ⟨_, rfl⟩
  have HAg : Box (∀ f g, preA o f (g + 1) 0 = preA o f g c3) := box (fun f g => by rw [← hc3]; exact preA_g o f g)
  have HAf : Box (∀ f, preA o (f + 1) 0 0 = preA o f c2 0) := box (fun f => by rw [← hc2]; exact preA_f o f)
  have HAe : Box (preA o c1 0 0 = rwsO o) := box (by rw [← hc1]; exact preA_end o)
  have HRL := box (rwsLen o)
  rw [hc1, hc2, hc3] at KR HX H4
  have HWM := box hWM
  have h41 := H4.out.1
  have h42 := H4.out.2.1
  have h43 := H4.out.2.2
  rw [hc1, hc2, hc3]
  obtain ⟨EE, hEE⟩ : ∃ E : List Rw → World → Prop, (∀ pre V, E pre V ↔ EaK (J M) gp M P pre V) := ⟨_, fun _ _ => Iff.rfl⟩
  simp only [← hEE] at HO HS HT HJ HP hY2 E1
  clear hEE hc1 hc2 hc3 E0 j3 hY h0 hJ R3 hs1 hs3 b3 R2 g2 b1 hM hWM hgp KP KC co2 hA AW A1 A2
  gi_wp2
  gi_loopw [19] (fun fv wr => ∃ f : Nat, f ≤ c1 ∧ fv = .int .u8 (f : Int) ∧ EE (preA o f 0 0) wr) (fun fv _ => c1 - (intOf fv).toNat)
  case atStart => exact ⟨0, Nat.zero_le _, rfl, E1⟩
  case round =>
    clear E1
    obtain ⟨f, hf, rfl, E1⟩ := hrel
    by_cases hlt : f < c1
    case neg =>
      have fe : f = c1 := by omega
      subst fe
      have d1 : decide ((f : Int) < (f : Int)) = false := decide_eq_false (by omega)
      gi_wp2
      go_end0
      exact ⟨⟨_, rfl⟩, M, HWM.out, .inl ⟨_, HAe.out, HJ.out _ _ E1⟩⟩
    have d1 : decide ((f : Int) < (c1 : Int)) = true := decide_eq_true (by omega)
    have w1 : ((f : Int) + 1) % 256 = ((f + 1 : Nat) : Int) := by omega
    gi_wp2
    gi_loopw [23] (fun gv wr => ∃ g : Nat, g ≤ c2 ∧ gv = .int .u8 (g : Int) ∧ EE (preA o f g 0) wr) (fun gv _ => c2 - (intOf gv).toNat)
    case atStart => exact ⟨0, Nat.zero_le _, rfl, E1⟩
    case round =>
      clear E1
      obtain ⟨g, hg, rfl, E1⟩ := hrel
      by_cases hlt2 : g < c2
      case neg =>
        have ge : g = c2 := by omega
        subst ge
        have d2 : decide ((g : Int) < (g : Int)) = false := decide_eq_false (by omega)
        gi_wp2
        go_roundw
        case rel => exact ⟨f + 1, by omega, rfl, by rw [HAf.out]; exact E1⟩
        case measure => simp [intOf]; omega
      have d2 : decide ((g : Int) < (c2 : Int)) = true := decide_eq_true (by omega)
      have w2 : ((g : Int) + 1) % 256 = ((g + 1 : Nat) : Int) := by omega
      gi_wp2
      gi_loopw [27] (fun kv wr => ∃ k : Nat, k ≤ c3 ∧ kv = .int .u8 (k : Int) ∧ EE (preA o f g k) wr) (fun kv _ => c3 - (intOf kv).toNat)
      case atStart => exact ⟨0, Nat.zero_le _, rfl, E1⟩
      case round =>
        clear E1
        obtain ⟨k, hk, rfl, E1⟩ := hrel
        by_cases hlt3 : k < c3
        case neg =>
          have ke : k = c3 := by omega
          subst ke
          have d3 : decide ((k : Int) < (k : Int)) = false := decide_eq_false (by omega)
          gi_wp2
          go_roundw
          case rel => exact ⟨g + 1, by omega, rfl, by rw [HAg.out]; exact E1⟩
          case measure => simp [intOf]; omega
        have d3 : decide ((k : Int) < (c3 : Int)) = true := decide_eq_true (by omega)
        have w3 : ((k : Int) + 1) % 256 = ((k + 1 : Nat) : Int) := by omega
        have cB := HO.out _ _ E1
        have cP := HP.out _ _ E1
        obtain ⟨p0, p1, p2, p3, p4⟩ := plV_cells cP
        have hfo := plV_fold P
        have nx := preA_k o f g k
        have pin := HX.out f g k hlt hlt2 hlt3
        by_cases hz : o = 17 ∧ g = f
        · have z1 : ((o : Int) == 17) = true := by simp; omega
          have z2 : ((g : Int) == (f : Int)) = true := by simp; omega
          gi_wp2
          go_roundw
          case rel => exact ⟨k + 1, by omega, rfl, by rw [nx, inP24, if_pos hz, List.append_nil]; exact E1⟩
          case measure => simp [intOf]; omega
        · have HIN : inP24 o f g k = [rwP24 o f g k] := by rw [inP24, if_neg hz]
          have K := KR.out f g k hlt hlt2 hlt3 wr (HT.out _ _ E1)
          obtain ⟨x, hx⟩ : ∃ x, rwP24 o f g k = x := ⟨_, rfl⟩
          obtain ⟨pre, hpre⟩ : ∃ p, preA o f g k = p := ⟨_, rfl⟩
          rw [hx] at HIN K
          rw [HIN, hpre] at pin nx
          rw [hpre] at E1
          have hlen : pre.length < 136 := by
            have q := pin.length_le
            have := HRL.out
            simp at q
            omega
          have HN := box nx
          have HPI := box pin
          have HL := box hlen
          have HE := box E1
          clear HIN hx hpre nx pin hlen
          clear cP
          have z1 : ((o : Int) == 17) = false ∨ (((o : Int) == 17) = true ∧ ((g : Int) == (f : Int)) = false) := by
            by_cases h17 : o = 17
            · right
              have : ¬ g = f := fun e => hz ⟨h17, e⟩
              exact ⟨by simp; omega, by simp; omega⟩
            · left
              simp
              omega
          clear hz
          rcases z1 with z1 | ⟨z1, z2⟩
          · gi_wp2_with fail
            refine (hCI.out K).mono ?_
            rintro r W4 ⟨rfl, b4⟩
            have E4 := HS.out _ _ _ HE.out b4
            obtain ⟨fn, tmps, assign, body, hy, hR⟩ := hY2.out pre x W4 E4 HL.out HPI.out
            try dsimp only at hy
            gi_wp2
            refine hR.mono ?_
            rintro e W5 (⟨rfl, E5⟩ | ⟨rfl, hx5⟩)
            · gi_wp2
              go_roundw
              case rel => exact ⟨k + 1, by omega, rfl, by rw [HN.out]; exact E5⟩
              case measure => simp [intOf]; omega
            · gi_wp2
              refine bodyPost_ret (results_none rfl _ _ _) rfl ?_
              exact ⟨⟨_, rfl⟩, M, HWM.out, .inr ⟨_, HPI.out, hx5⟩⟩
          · gi_wp2_with fail
            refine (hCI.out K).mono ?_
            rintro r W4 ⟨rfl, b4⟩
            have E4 := HS.out _ _ _ HE.out b4
            obtain ⟨fn, tmps, assign, body, hy, hR⟩ := hY2.out pre x W4 E4 HL.out HPI.out
            try dsimp only at hy
            gi_wp2
            refine hR.mono ?_
            rintro e W5 (⟨rfl, E5⟩ | ⟨rfl, hx5⟩)
            · gi_wp2
              go_roundw
              case rel => exact ⟨k + 1, by omega, rfl, by rw [HN.out]; exact E5⟩
              case measure => simp [intOf]; omega
            · gi_wp2
              refine bodyPost_ret (results_none rfl _ _ _) rfl ?_
              exact ⟨⟨_, rfl⟩, M, HWM.out, .inr ⟨_, HPI.out, hx5⟩⟩
set_option maxRecDepth 100000 in
set_option maxHeartbeats 4000000 in
theorem k_each (o : Nat) (ho : o < 256) : Box (∀ W, T24 W → Calls Tryd.prog 34 #[.int .u8 (o : Nat)] W fun r w0 => ∃ lb B, r = .returned (.func (.func 48) #[] lb) ∧ Below W.heap.size W w0 ∧ W.heap.size ≤ B ∧ w0.heap[B]? = some (.cells #[.int .u8 (o : Nat)] 22) ∧ ∀ n', 5 ≤ n' → SeqTopM n' Tryd.prog 48 lb (fun x : Rw => #[Value.agg (rwC x)]) (EaA o B) (fun ys => ys = rwsO o) (fun pre => pre <+: rwsO o) 136) := box (fun w hT => by
  have HB := box (bal w (.cells #[.int .u8 (o : Nat)] 22))
  have HR := box (heap_alloc_last w (.cells #[.int .u8 (o : Nat)] 22))
  have H := box (fun n (hn : 5 ≤ n) => each1_top o ho w.heap.size n (Nat.le_trans (by decide) hn))
  clear hT
  go_enter Tryd.func34, Tryd.ntmps34
  go_wp2
  go_ret
  exact ⟨_, _, rfl, HB.out, Nat.le_refl _, HR.out, H.out⟩)
attribute [local go_sem] Oper.semAt_some

def mkD (D : Nat) : Deferred := { target := .collected D, args := #[] }
def Marks (base : Nat) (Ds : List Nat) (W : World) : Prop := Ds.Pairwise (· > ·) ∧ ∀ D ∈ Ds, base ≤ D ∧ W.heap[D]? = some (.deferred (some []))
theorem Marks.nil (base : Nat) (W : World) : Marks base [] W := ⟨List.Pairwise.nil, fun D h => by cases h⟩
theorem Marks.cons {base D : Nat} {Ds : List Nat} {W : World} (h : Marks base Ds W) (hb : base ≤ D) (hl : ∀ E ∈ Ds, E < D) (hd : W.heap[D]? = some (.deferred (some []))) : Marks base (D :: Ds) W :=
  ⟨List.pairwise_cons.2 ⟨hl, h.1⟩, fun E hE => by
    rcases List.mem_cons.1 hE with rfl | hE
    · exact ⟨hb, hd⟩
    · exact h.2 E hE⟩
theorem Marks.lt {base : Nat} {Ds : List Nat} {W : World} (h : Marks base Ds W) : ∀ E ∈ Ds, E < W.heap.size := fun E hE => (Array.getElem?_eq_some_iff.1 (h.2 E hE).2).1
theorem Marks.kept {base : Nat} {Ds : List Nat} {W V : World} (h : Marks base Ds W) (k : ∀ D, D < W.heap.size → base ≤ D → W.heap[D]? = some (.deferred (some [])) → V.heap[D]? = some (.deferred (some []))) : Marks base Ds V :=
  ⟨h.1, fun D hD => ⟨(h.2 D hD).1, k D (h.lt D hD) (h.2 D hD).1 (h.2 D hD).2⟩⟩
theorem Marks.below {base : Nat} {Ds : List Nat} {W V : World} (h : Marks base Ds W) (b : Below W.heap.size W V) : Marks base Ds V := h.kept (fun D hl _ hd => (b.block D hl).trans hd)
theorem leaves_marks {F : Fence} {n : Nat} {P : Program} {fn : Func} {tmps : Array Value} {R : Ending → World → Prop} {base : Nat} (G : World → Prop)
    (hG : ∀ W D, G W → base ≤ D → W.heap[D]? = some (.deferred (some [])) → G (W.putObj D (.deferred none)))
    (hend : ∀ W, G W → ∃ v, (results fn tmps).run P W = .ok v W ∧ R (.returned v) W) :
    ∀ (Ds : List Nat) (W : World), Marks base Ds W → G W → LeavesInM F n P fn tmps R (Ds.map mkD) .returning W := by
  intro Ds
  induction Ds with
  | nil =>
    intro W _ hg
    exact hend W hg
  | cons D Ds ih =>
    intro W hm hg
    have hD := hm.2 D (List.mem_cons_self ..)
    refine ⟨by simp, .inl ⟨D, _, rfl, run_takeDeferred hD.2, ih _ ?_ (hG W D hg hD.1 hD.2)⟩⟩
    have hp := List.pairwise_cons.1 hm.1
    refine ⟨hp.2, fun E hE => ⟨(hm.2 E (List.mem_cons_of_mem _ hE)).1, ?_⟩⟩
    rw [World.putObj_heap_other (by have := hp.1 E hE; omega)]
    exact (hm.2 E (List.mem_cons_of_mem _ hE)).2
theorem below_put24 {w W : World} {D : Nat} {o : Obj} (h : Below w.heap.size w W) (hD : w.heap.size ≤ D) : Below w.heap.size w (W.putObj D o) := h.trans ((Below.refl _ W).grown (grownBy_putObj' W D o) (Nat.le_trans h.size (Nat.le_refl _)) (fun k e => by cases e; exact hD))
theorem pcell24 {w : World} {b : Nat} {x : Value} {T : TypeId} (h : w.heap[b]? = some (.cells #[x] T)) : w.cell? ⟨b, 0, none⟩ = some x := cells4 h 0 _ rfl
theorem res_re {fn : Func} {z y : Tmp} (h : fn.results = #[.cell z 45, .cell y 29]) {tmps : Array Value} {w : World} {b c : Nat} {r : Rw} {e : Int} {T : TypeId} (hz : tmps.getD z undef = .pointer (some ⟨b, 0, none⟩)) (hy : tmps.getD y undef = .pointer (some ⟨c, 0, none⟩))
    (hr : w.heap[b]? = some (.cells (rwC r) T)) (he : w.heap[c]? = some (.cells #[.int .i64 e] 29)) : (results fn tmps).run Tryd.prog w = .ok (.tuple #[.agg (rwC r), .int .i64 e]) w := by
  have q := rwC_lv hr
  have q2 : (loadVar 29 ⟨c, 0, none⟩).run Tryd.prog w = .ok (.int .i64 e) w := by
    have hc := pcell24 he
    simp [go_sem, hc]
  have hz2 : tmps[z]?.getD undef = .pointer (some ⟨b, 0, none⟩) := by rw [← Array.getD_eq_getD_getElem?]; exact hz
  have hy2 : tmps[y]?.getD undef = .pointer (some ⟨c, 0, none⟩) := by rw [← Array.getD_eq_getD_getElem?]; exact hy
  simp [results, h, hz2, hy2, asAddr, q, q2, Result.andThen]
def ofQ (f g k : Nat) (r : Rw) : Bool := decide (r.form = f) && (decide (r.frm = g) && decide (r.kind = k))
def ofP (o f g k : Nat) : Option Rw := (rwsO o).find? (ofQ f g k)
theorem find_pre {α : Type} {q : α → Bool} {pre l : List α} {x : α} (h : pre ++ [x] <+: l) (hp : ∀ y ∈ pre, q y = false) (hx : q x = true) : l.find? q = some x := by
  obtain ⟨t, rfl⟩ := h
  rw [List.append_assoc, List.find?_append]
  have e : pre.find? q = none := List.find?_eq_none.2 (fun y hy => by rw [hp y hy]; decide)
  rw [e]
  simp [hx]
theorem put_cells24 {W : World} {D b : Nat} {o : Obj} {c : Array Value} {T : TypeId} {l : Option (List Deferred)} (hd : W.heap[D]? = some (.deferred l)) (h : W.heap[b]? = some (.cells c T)) : (W.putObj D o).heap[b]? = some (.cells c T) :=
  (World.putObj_heap_other (fun e => by subst e; rw [h] at hd; cases hd)).trans h
theorem set_cells24 {W : World} {D b : Nat} {u : Value} {o : Obj} (hb : b ≠ D) (hd : W.heap[D]? = some o) : (W.setCell ⟨b, 0, none⟩ u).heap[D]? = some o := (setCell_other hb).trans hd
theorem leaves_re {w W : World} {F : Fence} {n : Nat} {fn : Func} {tmps : Array Value} {z y : Tmp} {b c : Nat} {r : Rw} {e : Int} {Ds : List Nat} (h : fn.results = #[.cell z 45, .cell y 29]) (hz : tmps.getD z undef = .pointer (some ⟨b, 0, none⟩)) (hy : tmps.getD y undef = .pointer (some ⟨c, 0, none⟩))
    (hm : Marks w.heap.size Ds W) (hr : W.heap[b]? = some (.cells (rwC r) 45)) (he : W.heap[c]? = some (.cells #[.int .i64 e] 29)) (hb : Below w.heap.size w W) :
    LeavesInM F n Tryd.prog fn tmps (fun r' w' => r' = .returned (.tuple #[.agg (rwC r), .int .i64 e]) ∧ Below w.heap.size w w') (Ds.map mkD) .returning W :=
  leaves_marks (base := w.heap.size) (fun V => V.heap[b]? = some (.cells (rwC r) 45) ∧ V.heap[c]? = some (.cells #[.int .i64 e] 29) ∧ Below w.heap.size w V)
    (fun V D hv hD hd => ⟨put_cells24 hd hv.1, put_cells24 hd hv.2.1, below_put24 hv.2.2 hD⟩)
    (fun V hv => ⟨_, res_re h hz hy hv.1 hv.2.1, rfl, hv.2.2⟩) Ds W hm ⟨hr, he, hb⟩
theorem bz_size24 (W : World) (b : Nat) (c : Array Value) : W.heap.size ≤ (W.setRow b c).heap.size := (Below.setRow (Below.refl 0 W) (Nat.zero_le _)).size
theorem rwz_fold : #[Value.int .u8 0, .int .u8 0, .int .u8 0, .int .u8 0, .int .u32 0, .int .u32 0, .int .u8 0] = rwC rwZ := rfl
set_option maxRecDepth 100000 in
set_option maxHeartbeats 8000000 in
theorem t_of_no (o f g k : Nat) (ho : o < 256) (h : o = 0 ∨ 32 ≤ o) (w : World) (hT : T24 w) : Calls Tryd.prog 22 #[.int .u8 (o : Nat), .int .u8 (f : Nat), .int .u8 (g : Nat), .int .u8 (k : Nat)] w fun r w' => r = .returned (.tuple #[.agg (rwC rwZ), .int .i64 2]) ∧ Below w.heap.size w w' := by
  have FF := box hT
  have hw : IntKind.i64.wrap (o : Int) = (o : Int) := by rw [IntKind.wrap_i64]; omega
  have hw2 : wrap64 (o : Int) = (o : Int) := by first | exact hw | (unfold wrap64; omega)
  clear hT
  refine (callsIn_wide (n := 6)).1 ?_
  refine callsIn_of_wp_marks Tryd.func22 rfl trivial ?_ rfl
  refine wpIn_wide.2 ?_
  simp only [Tryd.ntmps22, List.size_toArray, List.length_cons, List.length_nil, Nat.reduceAdd, Nat.reduceSub, Array.replicate_succ, Array.replicate_zero, List.push_toArray, List.append_toArray, List.nil_append, List.cons_append]
  have Rf_0 : (((((w.alloc (Obj.cells #[.int .u8 (f : Nat)] 23)).alloc (Obj.cells #[.int .u8 (g : Nat)] 23)).alloc (Obj.cells #[.int .u8 (k : Nat)] 24)).alloc (Obj.cells #[.int .u8 0, .int .u8 0, .int .u8 0, .int .u8 0, .int .u32 0, .int .u32 0, .int .u8 0] 45)).alloc (Obj.cells #[.int .i64 0] 29)).heap[w.heap.size]? = some (Obj.cells #[.int .u8 (f : Nat)] 23) := by rw [heap_below _ _ _ (by simp only [size_al]; omega), heap_below _ _ _ (by simp only [size_al]; omega), heap_below _ _ _ (by simp only [size_al]; omega), heap_below _ _ _ (by simp only [size_al]; omega)]; have := heap_alloc_last w (Obj.cells #[.int .u8 (f : Nat)] 23); simpa only [size_al] using this
  have Rg_0 : (((((w.alloc (Obj.cells #[.int .u8 (f : Nat)] 23)).alloc (Obj.cells #[.int .u8 (g : Nat)] 23)).alloc (Obj.cells #[.int .u8 (k : Nat)] 24)).alloc (Obj.cells #[.int .u8 0, .int .u8 0, .int .u8 0, .int .u8 0, .int .u32 0, .int .u32 0, .int .u8 0] 45)).alloc (Obj.cells #[.int .i64 0] 29)).heap[w.heap.size + 1]? = some (Obj.cells #[.int .u8 (g : Nat)] 23) := by rw [heap_below _ _ _ (by simp only [size_al]; omega), heap_below _ _ _ (by simp only [size_al]; omega), heap_below _ _ _ (by simp only [size_al]; omega)]; have := heap_alloc_last (w.alloc (Obj.cells #[.int .u8 (f : Nat)] 23)) (Obj.cells #[.int .u8 (g : Nat)] 23); simpa only [size_al] using this
  have Rk_0 : (((((w.alloc (Obj.cells #[.int .u8 (f : Nat)] 23)).alloc (Obj.cells #[.int .u8 (g : Nat)] 23)).alloc (Obj.cells #[.int .u8 (k : Nat)] 24)).alloc (Obj.cells #[.int .u8 0, .int .u8 0, .int .u8 0, .int .u8 0, .int .u32 0, .int .u32 0, .int .u8 0] 45)).alloc (Obj.cells #[.int .i64 0] 29)).heap[w.heap.size + 1 + 1]? = some (Obj.cells #[.int .u8 (k : Nat)] 24) := by rw [heap_below _ _ _ (by simp only [size_al]; omega), heap_below _ _ _ (by simp only [size_al]; omega)]; have := heap_alloc_last ((w.alloc (Obj.cells #[.int .u8 (f : Nat)] 23)).alloc (Obj.cells #[.int .u8 (g : Nat)] 23)) (Obj.cells #[.int .u8 (k : Nat)] 24); simpa only [size_al] using this
  have Rz_0 : (((((w.alloc (Obj.cells #[.int .u8 (f : Nat)] 23)).alloc (Obj.cells #[.int .u8 (g : Nat)] 23)).alloc (Obj.cells #[.int .u8 (k : Nat)] 24)).alloc (Obj.cells #[.int .u8 0, .int .u8 0, .int .u8 0, .int .u8 0, .int .u32 0, .int .u32 0, .int .u8 0] 45)).alloc (Obj.cells #[.int .i64 0] 29)).heap[w.heap.size + 1 + 1 + 1]? = some (Obj.cells #[.int .u8 0, .int .u8 0, .int .u8 0, .int .u8 0, .int .u32 0, .int .u32 0, .int .u8 0] 45) := by rw [heap_below _ _ _ (by simp only [size_al]; omega)]; have := heap_alloc_last (((w.alloc (Obj.cells #[.int .u8 (f : Nat)] 23)).alloc (Obj.cells #[.int .u8 (g : Nat)] 23)).alloc (Obj.cells #[.int .u8 (k : Nat)] 24)) (Obj.cells #[.int .u8 0, .int .u8 0, .int .u8 0, .int .u8 0, .int .u32 0, .int .u32 0, .int .u8 0] 45); simpa only [size_al] using this
  have Re_0 : (((((w.alloc (Obj.cells #[.int .u8 (f : Nat)] 23)).alloc (Obj.cells #[.int .u8 (g : Nat)] 23)).alloc (Obj.cells #[.int .u8 (k : Nat)] 24)).alloc (Obj.cells #[.int .u8 0, .int .u8 0, .int .u8 0, .int .u8 0, .int .u32 0, .int .u32 0, .int .u8 0] 45)).alloc (Obj.cells #[.int .i64 0] 29)).heap[w.heap.size + 1 + 1 + 1 + 1]? = some (Obj.cells #[.int .i64 0] 29) := by have := heap_alloc_last ((((w.alloc (Obj.cells #[.int .u8 (f : Nat)] 23)).alloc (Obj.cells #[.int .u8 (g : Nat)] 23)).alloc (Obj.cells #[.int .u8 (k : Nat)] 24)).alloc (Obj.cells #[.int .u8 0, .int .u8 0, .int .u8 0, .int .u8 0, .int .u32 0, .int .u32 0, .int .u8 0] 45)) (Obj.cells #[.int .i64 0] 29); simpa only [size_al] using this
  have B0 : Below w.heap.size w (((((w.alloc (Obj.cells #[.int .u8 (f : Nat)] 23)).alloc (Obj.cells #[.int .u8 (g : Nat)] 23)).alloc (Obj.cells #[.int .u8 (k : Nat)] 24)).alloc (Obj.cells #[.int .u8 0, .int .u8 0, .int .u8 0, .int .u8 0, .int .u32 0, .int .u32 0, .int .u8 0] 45)).alloc (Obj.cells #[.int .i64 0] 29)) := ((((((Below.refl _ _).alloc (by first | omega | (simp only [size_al]; omega)) _).alloc (by first | omega | (simp only [size_al]; omega)) _).alloc (by first | omega | (simp only [size_al]; omega)) _).alloc (by first | omega | (simp only [size_al]; omega)) _).alloc (by first | omega | (simp only [size_al]; omega)) _)
  have T0 := t24B FF.out B0
  obtain ⟨_, _, _, b, a, cap, hs, _⟩ := T0
  have cond : ((o : Int) == 0) = true ∨ (((o : Int) == 0) = false ∧ decide ((32 : Int) ≤ (o : Int)) = true) := by
    rcases h with h | h
    · left; simp [h]
    · right; exact ⟨by simp; omega, decide_eq_true (by omega)⟩
  clear B0 Rf_0 Rg_0 Rk_0 Rz_0 Re_0
  rcases cond with c1 | ⟨c1, c2⟩
  · go_wp2
    refine ⟨.tuple #[.agg (rwC rwZ), .int .i64 2], res_re (T := 45) Tryd.results22 rfl rfl ?_ ?_, rfl, ?_⟩
    · exact row_al (row_last (by simp only [size_al])) _
    · exact row_last (by simp only [size_al])
    · exact ((((bal w _).trans ((bal _ _).mono (by simp only [size_al]; omega))).trans ((bal _ _).mono (by simp only [size_al]; omega))).trans ((bal _ _).mono (by simp only [size_al]; omega))).trans ((bal _ _).mono (by simp only [size_al]; omega))
  · go_wp2
    refine ⟨.tuple #[.agg (rwC rwZ), .int .i64 2], res_re (T := 45) Tryd.results22 rfl rfl ?_ ?_, rfl, ?_⟩
    · exact row_al (row_last (by simp only [size_al])) _
    · exact row_last (by simp only [size_al])
    · exact ((((bal w _).trans ((bal _ _).mono (by simp only [size_al]; omega))).trans ((bal _ _).mono (by simp only [size_al]; omega))).trans ((bal _ _).mono (by simp only [size_al]; omega))).trans ((bal _ _).mono (by simp only [size_al]; omega))
set_option maxRecDepth 100000 in
set_option maxHeartbeats 8000000 in
theorem t_of_go (o f g k : Nat) (ho : o < 256) (h1 : 1 ≤ o) (h2 : o < 32) (rr : Rw) (er : Int) (hv : (rr, er) = match ofP o f g k with | some r => (r, 0) | none => (rwZ, 240)) (hE : ∀ args w, (callFunc 48 args).run Tryd.prog w = .ok (.enter 48 args) w) (w : World) (hT : T24 w) :
    Calls Tryd.prog 22 #[.int .u8 (o : Nat), .int .u8 (f : Nat), .int .u8 (g : Nat), .int .u8 (k : Nat)] w fun r w' => r = .returned (.tuple #[.agg (rwC rr), .int .i64 er]) ∧ Below w.heap.size w w' := by
  have FF := box hT
  have KE := k_each o ho
  have HV := box hv
  clear hv
  have c1 : ((o : Int) == 0) = false := by simp; omega
  have c2 : decide ((32 : Int) ≤ (o : Int)) = false := decide_eq_false (by omega)
  clear hT
  refine (callsIn_wide (n := 6)).1 ?_
  refine callsIn_of_wp_marks Tryd.func22 rfl trivial ?_ rfl
  refine wpIn_wide.2 ?_
  simp only [Tryd.ntmps22, List.size_toArray, List.length_cons, List.length_nil, Nat.reduceAdd, Nat.reduceSub, Array.replicate_succ, Array.replicate_zero, List.push_toArray, List.append_toArray, List.nil_append, List.cons_append]
  have Rf_0 : (((((w.alloc (Obj.cells #[.int .u8 (f : Nat)] 23)).alloc (Obj.cells #[.int .u8 (g : Nat)] 23)).alloc (Obj.cells #[.int .u8 (k : Nat)] 24)).alloc (Obj.cells #[.int .u8 0, .int .u8 0, .int .u8 0, .int .u8 0, .int .u32 0, .int .u32 0, .int .u8 0] 45)).alloc (Obj.cells #[.int .i64 0] 29)).heap[w.heap.size]? = some (Obj.cells #[.int .u8 (f : Nat)] 23) := by rw [heap_below _ _ _ (by simp only [size_al]; omega), heap_below _ _ _ (by simp only [size_al]; omega), heap_below _ _ _ (by simp only [size_al]; omega), heap_below _ _ _ (by simp only [size_al]; omega)]; have := heap_alloc_last w (Obj.cells #[.int .u8 (f : Nat)] 23); simpa only [size_al] using this
  have Rg_0 : (((((w.alloc (Obj.cells #[.int .u8 (f : Nat)] 23)).alloc (Obj.cells #[.int .u8 (g : Nat)] 23)).alloc (Obj.cells #[.int .u8 (k : Nat)] 24)).alloc (Obj.cells #[.int .u8 0, .int .u8 0, .int .u8 0, .int .u8 0, .int .u32 0, .int .u32 0, .int .u8 0] 45)).alloc (Obj.cells #[.int .i64 0] 29)).heap[w.heap.size + 1]? = some (Obj.cells #[.int .u8 (g : Nat)] 23) := by rw [heap_below _ _ _ (by simp only [size_al]; omega), heap_below _ _ _ (by simp only [size_al]; omega), heap_below _ _ _ (by simp only [size_al]; omega)]; have := heap_alloc_last (w.alloc (Obj.cells #[.int .u8 (f : Nat)] 23)) (Obj.cells #[.int .u8 (g : Nat)] 23); simpa only [size_al] using this
  have Rk_0 : (((((w.alloc (Obj.cells #[.int .u8 (f : Nat)] 23)).alloc (Obj.cells #[.int .u8 (g : Nat)] 23)).alloc (Obj.cells #[.int .u8 (k : Nat)] 24)).alloc (Obj.cells #[.int .u8 0, .int .u8 0, .int .u8 0, .int .u8 0, .int .u32 0, .int .u32 0, .int .u8 0] 45)).alloc (Obj.cells #[.int .i64 0] 29)).heap[w.heap.size + 1 + 1]? = some (Obj.cells #[.int .u8 (k : Nat)] 24) := by rw [heap_below _ _ _ (by simp only [size_al]; omega), heap_below _ _ _ (by simp only [size_al]; omega)]; have := heap_alloc_last ((w.alloc (Obj.cells #[.int .u8 (f : Nat)] 23)).alloc (Obj.cells #[.int .u8 (g : Nat)] 23)) (Obj.cells #[.int .u8 (k : Nat)] 24); simpa only [size_al] using this
  have Rz_0 : (((((w.alloc (Obj.cells #[.int .u8 (f : Nat)] 23)).alloc (Obj.cells #[.int .u8 (g : Nat)] 23)).alloc (Obj.cells #[.int .u8 (k : Nat)] 24)).alloc (Obj.cells #[.int .u8 0, .int .u8 0, .int .u8 0, .int .u8 0, .int .u32 0, .int .u32 0, .int .u8 0] 45)).alloc (Obj.cells #[.int .i64 0] 29)).heap[w.heap.size + 1 + 1 + 1]? = some (Obj.cells #[.int .u8 0, .int .u8 0, .int .u8 0, .int .u8 0, .int .u32 0, .int .u32 0, .int .u8 0] 45) := by rw [heap_below _ _ _ (by simp only [size_al]; omega)]; have := heap_alloc_last (((w.alloc (Obj.cells #[.int .u8 (f : Nat)] 23)).alloc (Obj.cells #[.int .u8 (g : Nat)] 23)).alloc (Obj.cells #[.int .u8 (k : Nat)] 24)) (Obj.cells #[.int .u8 0, .int .u8 0, .int .u8 0, .int .u8 0, .int .u32 0, .int .u32 0, .int .u8 0] 45); simpa only [size_al] using this
  have Re_0 : (((((w.alloc (Obj.cells #[.int .u8 (f : Nat)] 23)).alloc (Obj.cells #[.int .u8 (g : Nat)] 23)).alloc (Obj.cells #[.int .u8 (k : Nat)] 24)).alloc (Obj.cells #[.int .u8 0, .int .u8 0, .int .u8 0, .int .u8 0, .int .u32 0, .int .u32 0, .int .u8 0] 45)).alloc (Obj.cells #[.int .i64 0] 29)).heap[w.heap.size + 1 + 1 + 1 + 1]? = some (Obj.cells #[.int .i64 0] 29) := by have := heap_alloc_last ((((w.alloc (Obj.cells #[.int .u8 (f : Nat)] 23)).alloc (Obj.cells #[.int .u8 (g : Nat)] 23)).alloc (Obj.cells #[.int .u8 (k : Nat)] 24)).alloc (Obj.cells #[.int .u8 0, .int .u8 0, .int .u8 0, .int .u8 0, .int .u32 0, .int .u32 0, .int .u8 0] 45)) (Obj.cells #[.int .i64 0] 29); simpa only [size_al] using this
  have B0 : Below w.heap.size w (((((w.alloc (Obj.cells #[.int .u8 (f : Nat)] 23)).alloc (Obj.cells #[.int .u8 (g : Nat)] 23)).alloc (Obj.cells #[.int .u8 (k : Nat)] 24)).alloc (Obj.cells #[.int .u8 0, .int .u8 0, .int .u8 0, .int .u8 0, .int .u32 0, .int .u32 0, .int .u8 0] 45)).alloc (Obj.cells #[.int .i64 0] 29)) := ((((((Below.refl _ _).alloc (by first | omega | (simp only [size_al]; omega)) _).alloc (by first | omega | (simp only [size_al]; omega)) _).alloc (by first | omega | (simp only [size_al]; omega)) _).alloc (by first | omega | (simp only [size_al]; omega)) _).alloc (by first | omega | (simp only [size_al]; omega)) _)
  have T0 := t24B FF.out B0
  obtain ⟨_, _, _, b, a, cap, hs, _⟩ := T0
  go_wp2_with fail
  refine (KE.out _ (t24B FF.out B0)).mono ?_
  rintro r W0 ⟨lb, B, rfl, hb0, hB1, hB2, seq⟩
  have RF0 := heap_of hb0 _ _ _ Rf_0
  have RG0 := heap_of hb0 _ _ _ Rg_0
  have RK0 := heap_of hb0 _ _ _ Rk_0
  have RZ0 := heap_of hb0 _ _ _ Rz_0
  have RE0 := heap_of hb0 _ _ _ Re_0
  have BW0 := btr B0 hb0
  have TW0 := box (t24B FF.out BW0)
  have SEQ := box seq
  clear seq hs hb0 B0 Rf_0 Rg_0 Rk_0 Rz_0 Re_0
  have LE0 : w.heap.size + 1 + 1 + 1 + 1 < W0.heap.size := (Array.getElem?_eq_some_iff.1 RE0).1
  go_wp2_with fail
  refine (wpIn_wide (n := 6)).1 ?_
  refine wp_range_topM (by decide) (gf := 48) (lb := lb) rfl hE (SEQ.out 5 (by decide)) (fun _ => rfl)
    (fun M pre V => Below W0.heap.size W0 V ∧ ∀ r ∈ pre, ofQ f g k r = false)
    (fun M c pre V => c = .ret ∧ ∃ p x, pre = p ++ [x] ∧ ofQ f g k x = true ∧ (∀ r ∈ p, ofQ f g k r = false) ∧ V.heap[w.heap.size + 1 + 1 + 1]? = some (.cells (rwC x) 45) ∧ V.heap[w.heap.size + 1 + 1 + 1 + 1]? = some (.cells #[.int .i64 0] 29) ∧ Below w.heap.size w V)
    (fun M s A B row hs hg hr => ⟨hs.1.grown hg hs.1.size (fun r e => (hr r e).1), hs.2⟩)
    (fun M c s A B row hs hg hr => ⟨hs.1, by
      obtain ⟨p, x, e1, e2, e3, e4, e5, e6⟩ := hs.2
      exact ⟨p, x, e1, e2, e3, row_grq e4 hg (fun r e => (hr r e).1) (by omega), row_grq e5 hg (fun r e => (hr r e).1) (by omega), e6.grown hg e6.size (fun r e => by have := (hr r e).1; omega)⟩⟩)
    (fun M pre V hv => ⟨t24B TW0.out hv.1, heap_of hv.1 _ _ _ hB2⟩) (fun M hM => ⟨Below.refl _ _, fun r h => by cases h⟩) ?a1 (fun x => Obj.cells (rwC x) 45) ?assign ?body ?done ?stop
  case assign =>
    intro l x W K hK
    have hrn := rwC_new
    obtain ⟨m, hm⟩ : ∃ m, W.heap.size = m := ⟨_, rfl⟩
    have hK := hK (W.alloc (Obj.cells (rwC x) 45)) (World.grownBy_alloc W _ none) (by simp only [size_al]) (last7 W _)
    rw [hm] at hK
    gi_wp2
    exact hK
  case body =>
    rintro M l pre xx mm V hM0 hM1 ⟨hB, hno⟩ hl4 hsp hm0 hm1 hmx
    have cf := pcell24 (heap_of hB _ _ _ RF0)
    have cg := pcell24 (heap_of hB _ _ _ RG0)
    have ck := pcell24 (heap_of hB _ _ _ RK0)
    obtain ⟨x0, x1, x2, x3, x4, x5, x6⟩ := rwC_cells hmx
    have t1 := beqN24 xx.form f
    have t2 := beqN24 xx.frm g
    have t3 := beqN24 xx.kind k
    have hq : ofQ f g k xx = (decide (xx.form = f) && (decide (xx.frm = g) && decide (xx.kind = k))) := rfl
    have HNO := box hno
    have HB := box hB
    clear hno
    have nope : ofQ f g k xx = false → (TopM W0.heap.size M V V ∧ Below W0.heap.size W0 V ∧ ∀ r ∈ pre ++ [xx], ofQ f g k r = false) := fun h => ⟨TopM.refl _ _ _, HB.out, fun r hr => by
      rcases List.mem_append.1 hr with hr | hr
      · exact HNO.out r hr
      · rw [List.mem_singleton.1 hr]; exact h⟩
    have NOPE := box nope
    clear nope hB
    generalize decide (xx.form = f) = b1 at *
    generalize decide (xx.frm = g) = b2 at *
    generalize decide (xx.kind = k) = b3 at *
    have HQ := box hq
    clear hq
    cases b1
    · gi_wp2
      exact NOPE.out HQ.out
    · cases b2
      · gi_wp2
        exact NOPE.out HQ.out
      · cases b3
        · gi_wp2
          exact NOPE.out HQ.out
        · have hfo := rwC_fold xx
          have hst := rwC_storeG (r := xx) (heap_of HB.out _ _ _ RZ0) rfl
          have rz := setRow_row (c' := rwC xx) (heap_of HB.out _ _ _ RZ0)
          have rE := (setRow_other (w := V) (b := w.heap.size + 1 + 1 + 1) (b' := w.heap.size + 1 + 1 + 1 + 1) (c' := rwC xx) (by omega)).trans (heap_of HB.out _ _ _ RE0)
          have bz : Below w.heap.size w (V.setRow (w.heap.size + 1 + 1 + 1) (rwC xx)) := Below.setRow (BW0.trans (HB.out.mono BW0.size)) (by omega)
          have tz : TopM W0.heap.size M V (V.setRow (w.heap.size + 1 + 1 + 1) (rwC xx)) := ⟨bz_size24 _ _ _, fun q a c => setRow_other (by omega)⟩
          obtain ⟨VZ, hVZ⟩ : ∃ X, V.setRow (w.heap.size + 1 + 1 + 1) (rwC xx) = X := ⟨_, rfl⟩
          rw [hVZ] at hst rz rE bz tz
          have fe := fz (k := 0) rE
          have ce := pcell24 rE
          clear hVZ
          gi_wp2
          refine ⟨tz.trans ⟨((Below.refl 0 VZ).setCell (p := ⟨w.heap.size + 1 + 1 + 1 + 1, 0, none⟩) (Nat.zero_le _) _).size, fun q a c => setCell_other (by omega)⟩, rfl, pre, xx, rfl, HQ.out, HNO.out, ?_, ?_, ?_⟩
          · rw [setCell_other (by omega)]; exact rz
          · rw [setCell_row rE]; rfl
          · exact bz.setCell (p := ⟨w.heap.size + 1 + 1 + 1 + 1, 0, none⟩) (show w.heap.size ≤ w.heap.size + 1 + 1 + 1 + 1 by omega) _
  case done =>
    rintro M D ys V hM hD rfl ⟨hB, hno⟩ hK
    have hp : ofP o f g k = none := List.find?_eq_none.2 (fun r hr => by rw [hno r hr]; decide)
    have hv := HV.out
    rw [hp] at hv
    obtain ⟨rfl, rfl⟩ := hv
    have hzf := rwz_fold
    have hst := rwC_storeG (r := rwZ) (heap_of hB _ _ _ RZ0) rfl
    have rz := setRow_row (c' := rwC rwZ) (heap_of hB _ _ _ RZ0)
    have rE := (setRow_other (w := V) (b := w.heap.size + 1 + 1 + 1) (b' := w.heap.size + 1 + 1 + 1 + 1) (c' := rwC rwZ) (by omega)).trans (heap_of hB _ _ _ RE0)
    have rD := (setRow_other (w := V) (b := w.heap.size + 1 + 1 + 1) (b' := D) (c' := rwC rwZ) (by omega)).trans hK
    have bz : Below w.heap.size w (V.setRow (w.heap.size + 1 + 1 + 1) (rwC rwZ)) := Below.setRow (BW0.trans (hB.mono BW0.size)) (by omega)
    obtain ⟨VZ, hVZ⟩ : ∃ X, V.setRow (w.heap.size + 1 + 1 + 1) (rwC rwZ) = X := ⟨_, rfl⟩
    rw [hVZ] at hst rz rE bz rD
    have fe := fz (k := 0) rE
    have ce := pcell24 rE
    clear hVZ
    go_wp2
    refine leaves_re (Ds := [D]) (Tryd.results22) rfl rfl (Marks.cons (Marks.nil _ _) (by omega) (fun E h => by cases h) (set_cells24 (by omega) rD)) ?_ ?_ ?_
    · rw [setCell_other (by omega)]; exact rz
    · rw [setCell_row rE]; rfl
    · exact bz.setCell (p := ⟨w.heap.size + 1 + 1 + 1 + 1, 0, none⟩) (show w.heap.size ≤ w.heap.size + 1 + 1 + 1 + 1 by omega) _
  case stop =>
    rintro M D c pre V hM hD hpre ⟨rfl, p, x, rfl, e2, e3, e4, e5, e6⟩ hK
    have hp : ofP o f g k = some x := find_pre hpre e3 e2
    have hv := HV.out
    rw [hp] at hv
    obtain ⟨rfl, rfl⟩ := hv
    gi_wp2
    exact leaves_re (Ds := [D]) (Tryd.results22) rfl rfl (Marks.cons (Marks.nil _ _) (by omega) (fun E h => by cases h) hK) e4 e5 e6
attribute [local go_sem] Oper.semAt_some

theorem own_grown24 {W W' : World} {base : Nat} {e : TypeId} {size n : Nat} {v : Value} {xs : List Value} {row : Option Nat} (h : W.ownsRow base e size v n xs) (hg : W.grownBy W' row) (hr : ∀ r, row = some r → ∃ o : Obj, W.heap[r]? = some o ∧ o.isCells = false) : W'.ownsRow base e size v n xs := by
  refine h.kept hg ?_
  by_cases z : v.ownBlock = none
  · exact .inl z
  · right
    intro q
    rcases h.2 with ⟨a, _⟩ | ⟨g, cap, cur, a1, a2, a3, _⟩
    · exact z (by rw [a]; rfl)
    · have hv : v.ownBlock = some g := by rw [a1]; rfl
      obtain ⟨o, h1, h2⟩ := hr g (by rw [← q, hv])
      rw [a3] at h1
      cases h1
      exact absurd h2 (by simp [Obj.isCells])
theorem own_below24 {W W' : World} {base : Nat} {e : TypeId} {size n : Nat} {v : Value} {xs : List Value} (h : W.ownsRow base e size v n xs) (hb : Below W.heap.size W W') : W'.ownsRow base e size v n xs :=
  own_grown24 h (below_grown24 hb) (fun r e => by cases e)
theorem OwnsRws.put {w V : World} {v : Value} {D : Nat} {l : Option (List Deferred)} {o : Obj} (h : OwnsRws w V v) (hD : w.heap.size ≤ D) (hd : V.heap[D]? = some (.deferred l)) : OwnsRws w (V.putObj D o) v := by
  obtain ⟨g, cap, h1, h2, ⟨cur, h3, h4⟩, h5⟩ := h
  exact ⟨g, cap, h1, h2, ⟨cur, put_cells24 hd h3, h4⟩, below_put24 h5 hD⟩
end Go.Proofs.YtaoccmopfflkmaaDoor
namespace Go.Proofs.YtaoccmopfflkmaaDoor
set_option maxRecDepth 100000
set_option maxHeartbeats 40000000
set_option maxRecDepth 100000
open Go.RowKit Go.Shelf WMath
open Go.Maps (Keyed)
set_option linter.unusedVariables false
set_option linter.unusedSimpArgs false
attribute [local go_sem] Oper.semAt_some

theorem laid24 : laidOutB Tryd.prog = true := by kernel_rfl
theorem rowF24 : (98 : TypeId) < Tryd.prog.types.size := of_decide_eq_true (by kernel_rfl)
theorem wideF24 : (match Tryd.prog.underlying 98 with | some (.array _ _) | some (.struct _) => true | _ => false) = true := by rw [Tryd.underlying98]
theorem keyF24 : Keyed Tryd.prog 98 := Keyed.of_law (deep_law_laid laid24 (m := 2) (by omega) rowF24 (by kernel_rfl) wideF24)
def FdsOk (F : FdS) : Prop := F.opc < 256 ∧ F.rm < 256 ∧ F.rs2 < 256 ∧ F.form < 256 ∧ F.rs3 < 256
theorem fdC_inj {F G : FdS} (h : Value.agg (fdC F) = .agg (fdC G)) : F = G := by
  obtain ⟨a, b, c, d, e⟩ := F
  obtain ⟨a', b', c', d', e'⟩ := G
  simp only [fdC, Value.agg.injEq, Array.mk.injEq, List.cons.injEq, Value.int.injEq, true_and, and_true] at h
  obtain ⟨h1, h2, h3, h4, h5⟩ := h
  simp only [FdS.mk.injEq]
  omega
theorem key_fd (F : FdS) (h : FdsOk F) : ∃ kl, keyOf Tryd.prog 98 (.agg (fdC F)) = some kl := by
  obtain ⟨h0, h1, h2, h3, h4⟩ := h
  have hk : Tryd.prog.keyType 98 = true := by kernel_rfl
  have hc : Tryd.prog.cellsOf 98 = 5 := by kernel_rfl
  have hc5 : Tryd.prog.cellsOf 5 = 1 := by kernel_rfl
  have hf : (Value.agg (fdC F)).formed Tryd.prog 98 = true := by simp [Value.formed, Tryd.underlying98, hc, fdC]
  have hn : ∃ m, Tryd.prog.types.size + 1 = m + 2 := ⟨Tryd.prog.types.size - 1, by have h : (98 : Nat) < Tryd.prog.types.size := rowF24; omega⟩
  obtain ⟨m, hm⟩ := hn
  have w : ∀ a : Nat, a < 256 → (Lit.int .u8 (a : Int)).wf = true := fun a ha => by
    have e1 : IntKind.u8.min = 0 := by decide
    have e2 : IntKind.u8.max = 255 := by decide
    show (decide (IntKind.u8.min ≤ (a : Int)) && decide ((a : Int) ≤ IntKind.u8.max)) = true
    rw [e1, e2, decide_eq_true (by omega), decide_eq_true (by omega)]
    rfl
  have q : ∃ ls, Tryd.prog.keyLits (m + 2) 98 (fdC F).toList = some ls := by
    simp [Program.keyLits, Tryd.underlying98, Tryd.underlying5, hc, hc5, fdC, w _ h0, w _ h1, w _ h2, w _ h3, w _ h4]
  obtain ⟨ls, q⟩ := q
  refine ⟨.string (keyBytes ls), ?_⟩
  unfold keyOf
  rw [Tryd.underlying98, hk, hf, hm]
  simp only [Bool.and_self, if_true]
  show (Tryd.prog.keyLits (m + 2) 98 (fdC F).toList).map _ = _
  rw [q]
  rfl
def datR (r : Rw) : DataW Unit := .agg [.lit (.int .u8 (r.op : Nat)), .lit (.int .u8 (r.form : Nat)), .lit (.int .u8 (r.frm : Nat)), .lit (.int .u8 (r.kind : Nat)), .lit (.int .u32 (r.mask : Nat)), .lit (.int .u32 (r.mtch : Nat)), .lit (.int .u8 (r.lay : Nat))]
def R24 (v : Value) : Option (DataW Unit × List MemPlace) := match v with
  | .agg ⟨[.int .u8 a, .int .u8 b, .int .u8 c, .int .u8 d, .int .u32 e, .int .u32 f, .int .u8 g]⟩ => some (.agg [.lit (.int .u8 a), .lit (.int .u8 b), .lit (.int .u8 c), .lit (.int .u8 d), .lit (.int .u32 e), .lit (.int .u32 f), .lit (.int .u8 g)], [])
  | _ => none
theorem R24_of (r : Rw) : R24 (.agg (rwC r)) = some (datR r, []) := rfl
def keyR (r : Rw) : FdS := fdB (cutF r.mtch)
def lastR (L : List Rw) (F : FdS) : Option Rw := L.reverse.find? fun r => decide (keyR r = F)
theorem lastR_next (L : List Rw) (r : Rw) (F : FdS) : lastR (L ++ [r]) F = if keyR r = F then some r else lastR L F := by
  unfold lastR
  rw [List.reverse_append]
  by_cases h : keyR r = F
  · simp [h]
  · simp [h]
theorem keyR_ok (r : Rw) : FdsOk (keyR r) := by
  refine ⟨?_, ?_, ?_, ?_, ?_⟩ <;> simp only [keyR, fdB, cutF] <;> omega
def MapR (V : World) (b : Nat) (L : List Rw) : Prop := ∃ n D, V.ownsMap Tryd.prog 98 R24 b n D ∧ n ≤ L.length ∧ Maps.IsMap D ∧ ∀ F kl, keyOf Tryd.prog 98 (.agg (fdC F)) = some kl → Maps.has D kl = (lastR L F).isSome ∧ D.atKey kl (datR rwZ) = datR ((lastR L F).getD rwZ)
theorem MapR.kept {V V' : World} {b : Nat} {L : List Rw} {row : Option Nat} (h : MapR V b L) (hg : V.grownBy V' row) (hne : some b ≠ row) : MapR V' b L := by
  obtain ⟨n, D, h1, h2, h3, h4⟩ := h
  exact ⟨n, D, h1.kept hg hne, h2, h3, h4⟩
theorem MapR.below {V V' : World} {b : Nat} {L : List Rw} (h : MapR V b L) (hb : Below V.heap.size V V') : MapR V' b L := h.kept (below_grown24 hb) (by simp)
theorem MapR.lt {V : World} {b : Nat} {L : List Rw} (h : MapR V b L) : b < V.heap.size := by
  obtain ⟨n, D, h1, _⟩ := h
  exact h1.lt
theorem MapR.drew {V : World} {b : Nat} {L : List Rw} (h : MapR V b L) : MapR V.drew b L := h
theorem MapR.put {V : World} {b : Nat} {L : List Rw} (h : MapR V b L) (hl : L.length < 1000) (r : Rw) : ∃ V', (Instr.mapUpdate 103 (.map (some b)) (.agg (fdC (keyR r))) (.agg (rwC r))).run Tryd.prog V = .ok () V' ∧ MapR V' b (L ++ [r]) ∧ V.grownBy V' (some b) := by
  obtain ⟨n, D, h1, h2, h3, h4⟩ := h
  obtain ⟨kl, hk⟩ := key_fd (keyR r) (keyR_ok r)
  obtain ⟨V', hrun, o1, g1⟩ := h1.update keyF24 Tryd.underlying103 (by unfold maxLen; omega) hk (R24_of r)
  refine ⟨V', hrun, ⟨n + 1, D.put kl (datR r), o1, by simp; omega, h3.put _ _, fun F kl' hk' => ?_⟩, g1⟩
  rw [lastR_next]
  by_cases e : keyR r = F
  · subst e
    obtain rfl : kl = kl' := Option.some.inj (hk.symm.trans hk')
    rw [if_pos rfl]
    exact ⟨Maps.has_put_same h3 (keyF24.key hk) _, Maps.atKey_put_same h3 (keyF24.key hk) _ _⟩
  · have hne : kl' ≠ kl := fun z => e (fdC_inj (keyF24.inj hk (z ▸ hk')))
    rw [if_neg e, Maps.has_put_other hne, Maps.atKey_put_other hne]
    exact h4 F kl' hk'
structure BfK (w W0 : World) (o gm bm B : Nat) (pre : List Rw) (V : World) : Prop where
  b : Below w.heap.size w V
  z : W0.heap.size ≤ V.heap.size
  g : V.heap[gm]? = some (.cells #[.map (some bm)] 103)
  m : MapR V bm pre
  e : V.heap[B]? = some (.cells #[.int .u8 (o : Nat)] 22)
theorem BfK.grown {w W0 : World} {o gm bm B : Nat} {pre : List Rw} {X Y : World} {row : Option Nat} (h : BfK w W0 o gm bm B pre X) (hg0 : gm < W0.heap.size) (hB0 : B < W0.heap.size) (hb0 : bm < W0.heap.size) (hw : w.heap.size ≤ W0.heap.size) (hg : X.grownBy Y row) (hr : ∀ r, row = some r → W0.heap.size ≤ r ∧ ∃ o : Obj, X.heap[r]? = some o ∧ o.isCells = false) : BfK w W0 o gm bm B pre Y :=
  ⟨h.b.grown hg h.b.size (fun r e => by have := (hr r e).1; omega), Nat.le_trans h.z hg.size, row_grq h.g hg (fun r e => (hr r e).1) hg0, h.m.kept hg (fun e => by have := (hr bm e.symm).1; omega), row_grq h.e hg (fun r e => (hr r e).1) hB0⟩
end Go.Proofs.YtaoccmopfflkmaaDoor
