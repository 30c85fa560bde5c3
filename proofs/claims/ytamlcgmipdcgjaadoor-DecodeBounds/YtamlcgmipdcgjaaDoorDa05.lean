/-
  What the functions that the statement reaches return: part 5 (YL, YM, ZA).
-/
import Derived.Laws.AppendOwn
import Derived.RangeFuncNested
import Derived.RangeFuncBound
import Derived.RangeFuncCalls
import Derived.RangeFuncLeaves
import Derived.RangeFuncFrom
import Derived.Shelf.Abstract
import Derived.Shelf.RegionOpen
import Derived.WalkKit
import Derived.OwnWalkIn
import Derived.TacticsInMore
import Derived.LoopNIn
import Derived.LoopIn
import Derived.LoopN
import Derived.Sort.QuietIn
import Derived.Deep.RegionHeld3
import Derived.ChangeMaps5
import Derived.OpenShut
import Derived.Carry
import Derived.Test.YtamlcgmipdcgjaaDoorDa04
namespace Go.Proofs.YtamlcgmipdcgjaaDoor
set_option maxRecDepth 100000
set_option maxHeartbeats 40000000
set_option maxRecDepth 100000
open Go.RowKit WMath
set_option linter.unusedSimpArgs false
set_option linter.unusedVariables false
def pcF : Nat → Nat → Nat
  | 0, _ => 0
  | n + 1, x => x % 2 + pcF n (x / 2)
theorem pcF_zero : ∀ n, pcF n 0 = 0
  | 0 => rfl
  | n + 1 => by show 0 % 2 + pcF n (0 / 2) = 0; rw [Nat.zero_div, pcF_zero n]
theorem pcF_le : ∀ n x, pcF n x ≤ n
  | 0, _ => Nat.le_refl _
  | n + 1, x => by
    have := pcF_le n (x / 2)
    show x % 2 + pcF n (x / 2) ≤ n + 1
    omega
theorem pcF_or : ∀ n a b, pcF n (a ||| b) ≤ pcF n a + pcF n b
  | 0, _, _ => Nat.le_refl _
  | n + 1, a, b => by
    have h := pcF_or n (a / 2) (b / 2)
    show (a ||| b) % 2 + pcF n ((a ||| b) / 2) ≤ a % 2 + pcF n (a / 2) + (b % 2 + pcF n (b / 2))
    have e1 : (a ||| b) / 2 = a / 2 ||| b / 2 := Nat.or_div_two
    have e2 : (a ||| b) % 2 ≤ a % 2 + b % 2 := by
      have := Nat.or_mod_two_pow (a := a) (b := b) (n := 1)
      rw [Nat.pow_one] at this
      rw [this]
      rcases Nat.mod_two_eq_zero_or_one a with x | x <;> rcases Nat.mod_two_eq_zero_or_one b with y | y <;> rw [x, y] <;> decide
    rw [e1]
    omega
theorem pcF_two : ∀ n k, k < n → pcF n (2 ^ k) = 1
  | 0, _, h => absurd h (Nat.not_lt_zero _)
  | n + 1, 0, _ => by show 2 ^ 0 % 2 + pcF n (2 ^ 0 / 2) = 1; rw [show 2 ^ 0 / 2 = 0 from rfl, pcF_zero]
  | n + 1, k + 1, h => by
    show 2 ^ (k + 1) % 2 + pcF n (2 ^ (k + 1) / 2) = 1
    rw [Nat.pow_succ, Nat.mul_mod_left, Nat.mul_div_cancel _ (by decide), pcF_two n k (by omega)]
set_option maxRecDepth 100000 in
set_option maxHeartbeats 8000000 in
theorem l25_ones (X : Nat) (hX : X < 4294967296) (w : World) : Calls Tryd.prog 22 #[.int .u32 (X : Nat)] w fun r w' => r = .returned (.int .i64 (pcF 32 X : Nat)) ∧ Below w.heap.size w w' := by
  obtain ⟨N, hN⟩ : ∃ N, pcF 32 X = N := ⟨_, rfl⟩
  have hM : N ≤ 32 := by rw [← hN]; exact pcF_le 32 X
  rw [hN]
  go_enter Tryd.func22, Tryd.ntmps22
  go_wp2
  go_loop [0, 3] (fun xv nv => ∃ m x n : Nat, m ≤ 32 ∧ xv = .int .u32 (x : Nat) ∧ nv = .int .i64 (n : Nat) ∧ x < 2 ^ m ∧ n ≤ 32 ∧ Box (n + pcF m x = N)) (fun xv _ => (intOf xv).toNat)
  case atStart => exact ⟨32, X, 0, Nat.le_refl _, rfl, rfl, hX, Nat.zero_le _, box (by rw [Nat.zero_add]; exact hN)⟩
  case round =>
    obtain ⟨m, x, n, hm, rfl, rfl, hx, hn, HX⟩ := hrel
    have hp : 2 ^ m ≤ 4294967296 := Nat.pow_le_pow_right (n := 2) (by decide) hm
    by_cases hlt : 0 < x
    · have d1 : decide ((0 : Int) < (x : Int)) = true := decide_eq_true (by omega)
      obtain ⟨q, rfl⟩ : ∃ q, m = q + 1 := by
        cases m with
        | zero => rw [Nat.pow_zero] at hx; omega
        | succ q => exact ⟨q, rfl⟩
      have tq : ((x : Nat) : Int).tdiv 2 = ((x / 2 : Nat) : Int) := rfl
      have tm : ((x : Nat) : Int).tmod 2 = ((x % 2 : Nat) : Int) := rfl
      obtain ⟨h, hh⟩ : ∃ h, x / 2 = h := ⟨_, rfl⟩
      obtain ⟨l, hl⟩ : ∃ l, x % 2 = l := ⟨_, rfl⟩
      rw [hh] at tq
      rw [hl] at tm
      have l2 : l < 2 := by rw [← hl]; exact Nat.mod_lt _ (by decide)
      have e1 : IntKind.i64.wrap (l : Int) = (l : Int) := by rw [IntKind.wrap_i64]; omega
      have HP : Box (n + (l + pcF q h) = N) := box (by rw [← hh, ← hl]; have a := HX.out; rw [pcF] at a; exact a)
      have nl : n + l ≤ 32 := by
        have a := HP.out
        generalize pcF q h = P at a
        omega
      have e2 : IntKind.i64.wrap ((n : Int) + (l : Int)) = ((n + l : Nat) : Int) := by rw [IntKind.wrap_i64]; omega
      have h2 : h < 2 ^ q := by
        rw [Nat.pow_succ] at hx
        omega
      have e3 : IntKind.u32.wrap ((h : Nat) : Int) = (h : Nat) := by rw [show ∀ y : Int, IntKind.u32.wrap y = y % 4294967296 from fun _ => rfl]; omega
      have e4 : ((h : Nat) : Int) % 4294967296 = (h : Nat) := by omega
      have hxx : h < x := by omega
      clear hh hl HX
      go_wp2
      go_round
      case rel => exact ⟨q, h, n + l, by omega, rfl, rfl, h2, nl, box (by rw [Nat.add_assoc]; exact HP.out)⟩
      case measure => simp [intOf]; omega
    · have x0 : x = 0 := by omega
      subst x0
      have d1 : decide ((0 : Int) < 0) = false := rfl
      have e0 : n = N := by have a := HX.out; rw [pcF_zero] at a; exact a
      subst e0
      go_wp2
      go_ret
      exact ⟨rfl, Below.refl _ _⟩
set_option maxRecDepth 100000 in
set_option maxHeartbeats 8000000 in
theorem dc_bnd_n {T : World → Prop} (FB : Box (∀ {w w' : World}, T w → Below w.heap.size w w' → T w')) (x : Nat) (i : In) (u : Us) (K1 : Box (∀ w, T w → Calls Tryd.prog 9 #[.int .u32 (x : Nat)] w fun r w' => r = .returned (.tuple #[.agg (inC i), .int .i64 250]) ∧ Below w.heap.size w w')) (K2 : Box (∀ w, T w → Calls Tryd.prog 11 #[.int .u32 (x : Nat)] w fun r w' => r = .returned (.tuple #[.agg (usC u), .int .i64 250]) ∧ Below w.heap.size w w')) (KL : Box (∀ w, T w → Calls Tryd.prog 13 #[] w fun r w' => r = .returned (.bool true) ∧ Below w.heap.size w w')) (w : World) (hT : T w) : Calls Tryd.prog 8 #[.int .u32 (x : Nat)] w fun r w' => r = .returned (.bool true) ∧ Below w.heap.size w w' := by
  have FF := box hT
  clear hT
  have hin := inC_new
  have hun := usC_new
  have B0 : Below w.heap.size w w := (Below.refl _ _)
  go_enter Tryd.func8, Tryd.ntmps8
  go_wp2_with fail
  refine (K1.out _ (FB.out FF.out B0)).mono ?_
  rintro r w1 ⟨rfl, b1⟩
  have B1 : Below w.heap.size w w1 := btr B0 b1
  clear b1 B0 
  have S2 := box B1.size
  have Ri_2 := heap_alloc_last w1 (Obj.cells (inC i) 28)
  have B2 := btr B1 (bal w1 (Obj.cells (inC i) 28))
  clear B1 
  obtain ⟨ci_2_0, ci_2_1, ci_2_2, ci_2_3, ci_2_4, ci_2_5, ci_2_6, ci_2_7, ci_2_8, ci_2_9, ci_2_10⟩ := inC_cells Ri_2
  go_wp2_with fail
  refine (K2.out _ (FB.out FF.out B2)).mono ?_
  rintro r w3 ⟨rfl, b3⟩
  have B3 : Below w.heap.size w w3 := btr B2 b3
  have Ri_3 := heap_of b3 _ _ _ Ri_2
  clear b3 B2 Ri_2 ci_2_0 ci_2_1 ci_2_2 ci_2_3 ci_2_4 ci_2_5 ci_2_6 ci_2_7 ci_2_8 ci_2_9 ci_2_10
  obtain ⟨ci_3_0, ci_3_1, ci_3_2, ci_3_3, ci_3_4, ci_3_5, ci_3_6, ci_3_7, ci_3_8, ci_3_9, ci_3_10⟩ := inC_cells Ri_3
  have S4 := box B3.size
  have Li_4 : Box (w1.heap.size < w3.heap.size) := box (Array.getElem?_eq_some_iff.1 Ri_3).1
  have Ru_4 := heap_alloc_last w3 (Obj.cells (usC u) 33)
  have B4 := btr B3 (bal w3 (Obj.cells (usC u) 33))
  have Ri_4 := heap_of (bal w3 (Obj.cells (usC u) 33)) _ _ _ Ri_3
  clear B3 Ri_3 ci_3_0 ci_3_1 ci_3_2 ci_3_3 ci_3_4 ci_3_5 ci_3_6 ci_3_7 ci_3_8 ci_3_9 ci_3_10
  obtain ⟨ci_4_0, ci_4_1, ci_4_2, ci_4_3, ci_4_4, ci_4_5, ci_4_6, ci_4_7, ci_4_8, ci_4_9, ci_4_10⟩ := inC_cells Ri_4
  obtain ⟨cu_4_0, cu_4_1, cu_4_2, cu_4_3⟩ := usC_cells Ru_4
  go_wp2_with fail
  refine (KL.out _ (FB.out FF.out B4)).mono ?_
  rintro r w5 ⟨rfl, b5⟩
  have B5 : Below w.heap.size w w5 := btr B4 b5
  have Ri_5 := heap_of b5 _ _ _ Ri_4
  have Ru_5 := heap_of b5 _ _ _ Ru_4
  clear b5 B4 Ri_4 ci_4_0 ci_4_1 ci_4_2 ci_4_3 ci_4_4 ci_4_5 ci_4_6 ci_4_7 ci_4_8 ci_4_9 ci_4_10 Ru_4 cu_4_0 cu_4_1 cu_4_2 cu_4_3
  obtain ⟨ci_5_0, ci_5_1, ci_5_2, ci_5_3, ci_5_4, ci_5_5, ci_5_6, ci_5_7, ci_5_8, ci_5_9, ci_5_10⟩ := inC_cells Ri_5
  obtain ⟨cu_5_0, cu_5_1, cu_5_2, cu_5_3⟩ := usC_cells Ru_5
  go_wp2
  go_ret
  exact ⟨rfl, B5⟩
set_option maxRecDepth 100000 in
set_option maxHeartbeats 8000000 in
theorem dc_bnd_y {T : World → Prop} (FB : Box (∀ {w w' : World}, T w → Below w.heap.size w w' → T w')) (x : Nat) (i : In) (u : Us) (n0 n1 n2 n3 n4 : Int) (b0 : decide (31 < ((i.rd : Nat) : Int)) = false) (b1 : decide (31 < ((i.rs1 : Nat) : Int)) = false) (b2 : decide (31 < ((i.rs2 : Nat) : Int)) = false) (b3 : decide (31 < ((i.rs3 : Nat) : Int)) = false) (b4 : decide (7 < ((i.rm : Nat) : Int)) = false) (b5 : decide (3 < ((i.csr : Nat) : Int)) = false) (b6 : decide (3 < ((i.form : Nat) : Int)) = false) (b7 : decide (3 < ((i.frm : Nat) : Int)) = false) (b8 : decide (3 < ((i.kind : Nat) : Int)) = false) (c0 : (((i.rm : Nat) : Int) == 5) = false) (c1 : (((i.rm : Nat) : Int) == 6) = false) (c2 : decide (i.imm < -2048) = false) (c3 : decide (2047 < i.imm) = false) (g0 : decide (3 < n0) = false) (g1 : decide (1 < n1) = false) (g4 : IntKind.i64.wrap (n2 + n3) = n4) (g2 : decide (1 < n4) = false) (o : Bool) (g5 : (n4 == 0) = o) (g6 : (((i.op : Nat) : Int) == 2) = o) (K1 : Box (∀ w, T w → Calls Tryd.prog 9 #[.int .u32 (x : Nat)] w fun r w' => r = .returned (.tuple #[.agg (inC i), .int .i64 0]) ∧ Below w.heap.size w w')) (K2 : Box (∀ w, T w → Calls Tryd.prog 11 #[.int .u32 (x : Nat)] w fun r w' => r = .returned (.tuple #[.agg (usC u), .int .i64 0]) ∧ Below w.heap.size w w')) (KL : Box (∀ w, T w → Calls Tryd.prog 13 #[] w fun r w' => r = .returned (.bool true) ∧ Below w.heap.size w w')) (O0 : Box (∀ w, Calls Tryd.prog 22 #[.int .u32 (u.rf : Nat)] w fun r w' => r = .returned (.int .i64 n0) ∧ Below w.heap.size w w')) (O1 : Box (∀ w, Calls Tryd.prog 22 #[.int .u32 (u.rx : Nat)] w fun r w' => r = .returned (.int .i64 n1) ∧ Below w.heap.size w w')) (O2 : Box (∀ w, Calls Tryd.prog 22 #[.int .u32 (u.wx : Nat)] w fun r w' => r = .returned (.int .i64 n2) ∧ Below w.heap.size w w')) (O3 : Box (∀ w, Calls Tryd.prog 22 #[.int .u32 (u.wf : Nat)] w fun r w' => r = .returned (.int .i64 n3) ∧ Below w.heap.size w w')) (w : World) (hT : T w) : Calls Tryd.prog 8 #[.int .u32 (x : Nat)] w fun r w' => r = .returned (.bool true) ∧ Below w.heap.size w w' := by
  have FF := box hT
  clear hT
  have hin := inC_new
  have hun := usC_new
  have hoo : (o == o) = true := by simp
  have B0 : Below w.heap.size w w := (Below.refl _ _)
  go_enter Tryd.func8, Tryd.ntmps8
  go_wp2_with fail
  refine (K1.out _ (FB.out FF.out B0)).mono ?_
  rintro r w1 ⟨rfl, b1⟩
  have B1 : Below w.heap.size w w1 := btr B0 b1
  clear b1 B0 
  have S2 := box B1.size
  have Ri_2 := heap_alloc_last w1 (Obj.cells (inC i) 28)
  have B2 := btr B1 (bal w1 (Obj.cells (inC i) 28))
  clear B1 
  obtain ⟨ci_2_0, ci_2_1, ci_2_2, ci_2_3, ci_2_4, ci_2_5, ci_2_6, ci_2_7, ci_2_8, ci_2_9, ci_2_10⟩ := inC_cells Ri_2
  go_wp2_with fail
  refine (K2.out _ (FB.out FF.out B2)).mono ?_
  rintro r w3 ⟨rfl, b3⟩
  have B3 : Below w.heap.size w w3 := btr B2 b3
  have Ri_3 := heap_of b3 _ _ _ Ri_2
  clear b3 B2 Ri_2 ci_2_0 ci_2_1 ci_2_2 ci_2_3 ci_2_4 ci_2_5 ci_2_6 ci_2_7 ci_2_8 ci_2_9 ci_2_10
  obtain ⟨ci_3_0, ci_3_1, ci_3_2, ci_3_3, ci_3_4, ci_3_5, ci_3_6, ci_3_7, ci_3_8, ci_3_9, ci_3_10⟩ := inC_cells Ri_3
  have S4 := box B3.size
  have Li_4 : Box (w1.heap.size < w3.heap.size) := box (Array.getElem?_eq_some_iff.1 Ri_3).1
  have Ru_4 := heap_alloc_last w3 (Obj.cells (usC u) 33)
  have B4 := btr B3 (bal w3 (Obj.cells (usC u) 33))
  have Ri_4 := heap_of (bal w3 (Obj.cells (usC u) 33)) _ _ _ Ri_3
  clear B3 Ri_3 ci_3_0 ci_3_1 ci_3_2 ci_3_3 ci_3_4 ci_3_5 ci_3_6 ci_3_7 ci_3_8 ci_3_9 ci_3_10
  obtain ⟨ci_4_0, ci_4_1, ci_4_2, ci_4_3, ci_4_4, ci_4_5, ci_4_6, ci_4_7, ci_4_8, ci_4_9, ci_4_10⟩ := inC_cells Ri_4
  obtain ⟨cu_4_0, cu_4_1, cu_4_2, cu_4_3⟩ := usC_cells Ru_4
  go_wp2_with fail
  obtain ⟨F, hF1, hF2⟩ := below_fun (w3.alloc (Obj.cells (usC u) 33))
  have fi_0 := fun u => (inC_cells (heap_of (hF1 u) _ _ _ Ri_4)).1
  have fi_1 := fun u => (inC_cells (heap_of (hF1 u) _ _ _ Ri_4)).2.1
  have fi_2 := fun u => (inC_cells (heap_of (hF1 u) _ _ _ Ri_4)).2.2.1
  have fi_3 := fun u => (inC_cells (heap_of (hF1 u) _ _ _ Ri_4)).2.2.2.1
  have fi_4 := fun u => (inC_cells (heap_of (hF1 u) _ _ _ Ri_4)).2.2.2.2.1
  have fi_5 := fun u => (inC_cells (heap_of (hF1 u) _ _ _ Ri_4)).2.2.2.2.2.1
  have fi_6 := fun u => (inC_cells (heap_of (hF1 u) _ _ _ Ri_4)).2.2.2.2.2.2.1
  have fi_7 := fun u => (inC_cells (heap_of (hF1 u) _ _ _ Ri_4)).2.2.2.2.2.2.2.1
  have fi_8 := fun u => (inC_cells (heap_of (hF1 u) _ _ _ Ri_4)).2.2.2.2.2.2.2.2.1
  have fi_9 := fun u => (inC_cells (heap_of (hF1 u) _ _ _ Ri_4)).2.2.2.2.2.2.2.2.2.1
  have fi_10 := fun u => (inC_cells (heap_of (hF1 u) _ _ _ Ri_4)).2.2.2.2.2.2.2.2.2.2
  have fu_0 := fun u => (usC_cells (heap_of (hF1 u) _ _ _ Ru_4)).1
  have fu_1 := fun u => (usC_cells (heap_of (hF1 u) _ _ _ Ru_4)).2.1
  have fu_2 := fun u => (usC_cells (heap_of (hF1 u) _ _ _ Ru_4)).2.2.1
  have fu_3 := fun u => (usC_cells (heap_of (hF1 u) _ _ _ Ru_4)).2.2.2
  refine wp_region_below F hF2 (by kernel_rfl) (by kernel_rfl) ?_
  repeat first | go_big_quiet_step (first | (go_at_call_of 22 (Value.int .u32 (u.rf : Nat)); exact quietF hF1 hF2 (O0.out _)) | (go_at_call_of 22 (Value.int .u32 (u.rx : Nat)); exact quietF hF1 hF2 (O1.out _)) | (go_at_call_of 22 (Value.int .u32 (u.wx : Nat)); exact quietF hF1 hF2 (O2.out _)) | (go_at_call_of 22 (Value.int .u32 (u.wf : Nat)); exact quietF hF1 hF2 (O3.out _)) | fail) | quiet_step (first | (go_at_call_of 22 (Value.int .u32 (u.rf : Nat)); exact quietF hF1 hF2 (O0.out _)) | (go_at_call_of 22 (Value.int .u32 (u.rx : Nat)); exact quietF hF1 hF2 (O1.out _)) | (go_at_call_of 22 (Value.int .u32 (u.wx : Nat)); exact quietF hF1 hF2 (O2.out _)) | (go_at_call_of 22 (Value.int .u32 (u.wf : Nat)); exact quietF hF1 hF2 (O3.out _)) | fail)
  refine wpQuiet_nil ?_
  rintro _ ⟨uW, rfl⟩
  have B5 := btr B4 (hF1 uW)
  have Ri_5 := heap_of (hF1 uW) _ _ _ Ri_4
  have Ru_5 := heap_of (hF1 uW) _ _ _ Ru_4
  obtain ⟨w5, hw⟩ : ∃ V, F uW = V := ⟨_, rfl⟩
  rw [hw] at B5 Ri_5 Ru_5
  try rw [hw]
  clear hw hF1 hF2 B4 fi_0 fi_1 fi_2 fi_3 fi_4 fi_5 fi_6 fi_7 fi_8 fi_9 fi_10 fu_0 fu_1 fu_2 fu_3 Ri_4 ci_4_0 ci_4_1 ci_4_2 ci_4_3 ci_4_4 ci_4_5 ci_4_6 ci_4_7 ci_4_8 ci_4_9 ci_4_10 Ru_4 cu_4_0 cu_4_1 cu_4_2 cu_4_3
  clear F
  obtain ⟨ci_5_0, ci_5_1, ci_5_2, ci_5_3, ci_5_4, ci_5_5, ci_5_6, ci_5_7, ci_5_8, ci_5_9, ci_5_10⟩ := inC_cells Ri_5
  obtain ⟨cu_5_0, cu_5_1, cu_5_2, cu_5_3⟩ := usC_cells Ru_5
  go_wp2_with fail
  obtain ⟨F, hF1, hF2⟩ := below_fun w5
  have fi_0 := fun u => (inC_cells (heap_of (hF1 u) _ _ _ Ri_5)).1
  have fi_1 := fun u => (inC_cells (heap_of (hF1 u) _ _ _ Ri_5)).2.1
  have fi_2 := fun u => (inC_cells (heap_of (hF1 u) _ _ _ Ri_5)).2.2.1
  have fi_3 := fun u => (inC_cells (heap_of (hF1 u) _ _ _ Ri_5)).2.2.2.1
  have fi_4 := fun u => (inC_cells (heap_of (hF1 u) _ _ _ Ri_5)).2.2.2.2.1
  have fi_5 := fun u => (inC_cells (heap_of (hF1 u) _ _ _ Ri_5)).2.2.2.2.2.1
  have fi_6 := fun u => (inC_cells (heap_of (hF1 u) _ _ _ Ri_5)).2.2.2.2.2.2.1
  have fi_7 := fun u => (inC_cells (heap_of (hF1 u) _ _ _ Ri_5)).2.2.2.2.2.2.2.1
  have fi_8 := fun u => (inC_cells (heap_of (hF1 u) _ _ _ Ri_5)).2.2.2.2.2.2.2.2.1
  have fi_9 := fun u => (inC_cells (heap_of (hF1 u) _ _ _ Ri_5)).2.2.2.2.2.2.2.2.2.1
  have fi_10 := fun u => (inC_cells (heap_of (hF1 u) _ _ _ Ri_5)).2.2.2.2.2.2.2.2.2.2
  have fu_0 := fun u => (usC_cells (heap_of (hF1 u) _ _ _ Ru_5)).1
  have fu_1 := fun u => (usC_cells (heap_of (hF1 u) _ _ _ Ru_5)).2.1
  have fu_2 := fun u => (usC_cells (heap_of (hF1 u) _ _ _ Ru_5)).2.2.1
  have fu_3 := fun u => (usC_cells (heap_of (hF1 u) _ _ _ Ru_5)).2.2.2
  have FG : Box (∀ u, T (F u)) := box (fun u => FB.out FF.out (btr B5 (hF1 u)))
  refine wp_region_below F hF2 (by kernel_rfl) (by kernel_rfl) ?_
  repeat first | go_big_quiet_step (first | (go_at_call_of 22 (Value.int .u32 (u.wx : Nat)); exact quietF hF1 hF2 (O2.out _)) | (go_at_call_of 22 (Value.int .u32 (u.wf : Nat)); exact quietF hF1 hF2 (O3.out _)) | (go_at_call 13; exact quietF hF1 hF2 (KL.out _ (FG.out _))) | fail) | quiet_step (first | (go_at_call_of 22 (Value.int .u32 (u.wx : Nat)); exact quietF hF1 hF2 (O2.out _)) | (go_at_call_of 22 (Value.int .u32 (u.wf : Nat)); exact quietF hF1 hF2 (O3.out _)) | (go_at_call 13; exact quietF hF1 hF2 (KL.out _ (FG.out _))) | fail)
  refine wpQuiet_nil ?_
  rintro _ ⟨uW, rfl⟩
  have B6 := btr B5 (hF1 uW)
  have Ri_6 := heap_of (hF1 uW) _ _ _ Ri_5
  have Ru_6 := heap_of (hF1 uW) _ _ _ Ru_5
  obtain ⟨w6, hw⟩ : ∃ V, F uW = V := ⟨_, rfl⟩
  rw [hw] at B6 Ri_6 Ru_6
  try rw [hw]
  clear hw hF1 hF2 B5 fi_0 fi_1 fi_2 fi_3 fi_4 fi_5 fi_6 fi_7 fi_8 fi_9 fi_10 fu_0 fu_1 fu_2 fu_3 Ri_5 ci_5_0 ci_5_1 ci_5_2 ci_5_3 ci_5_4 ci_5_5 ci_5_6 ci_5_7 ci_5_8 ci_5_9 ci_5_10 Ru_5 cu_5_0 cu_5_1 cu_5_2 cu_5_3
  clear FG
  clear F
  obtain ⟨ci_6_0, ci_6_1, ci_6_2, ci_6_3, ci_6_4, ci_6_5, ci_6_6, ci_6_7, ci_6_8, ci_6_9, ci_6_10⟩ := inC_cells Ri_6
  obtain ⟨cu_6_0, cu_6_1, cu_6_2, cu_6_3⟩ := usC_cells Ru_6
  go_wp2
  go_ret
  exact ⟨rfl, B6⟩
def usZ : Us := ⟨0, 0, 0, 0⟩
def usR (x : Nat) : Us := match fdL x with | some p => usI (dcI p.1 x) | none => usZ
theorem dcR_some {x : Nat} {p : Nm} (h : fdL x = some p) : dcR x = (dcI p.1 x, 0) := by unfold dcR; rw [h]
theorem dcR_none {x : Nat} (h : fdL x = none) : dcR x = (inZ, 250) := by unfold dcR; rw [h]
theorem usR_some {x : Nat} {p : Nm} (h : fdL x = some p) : usR x = usI (dcI p.1 x) := by unfold usR; rw [h]
theorem usR_none {x : Nat} (h : fdL x = none) : usR x = usZ := by unfold usR; rw [h]
theorem lv25a : dcR 3211475 = (⟨7, 0, 0, 0, 1, 2, 3, 0, 0, 0, 0⟩, 0) := by decide +kernel
theorem lv25b : dcR 4262538791 = (⟨2, 0, 0, 0, 0, 2, 1, 0, 0, (-4), 0⟩, 0) := by decide +kernel
theorem lv25c : dcR 0 = (inZ, 250) := by decide +kernel
theorem lv25d : (usR 2216179).rx = 0 ∧ (usR 2216179).rf = 0 ∧ (usR 2216179).wx = 2 ∧ (usR 2216179).wf = 0 ∧ (dcR 2216179).2 = 0 := by decide +kernel
theorem us_ext {a b : Us} (h1 : a.rx = b.rx) (h2 : a.rf = b.rf) (h3 : a.wx = b.wx) (h4 : a.wf = b.wf) : a = b := by
  cases a; cases b; simp_all
theorem lives25 {T : World → Prop} (FB : Box (∀ {w w' : World}, T w → Below w.heap.size w w' → T w')) (CD : ∀ x : Nat, x < 4294967296 → Box (∀ w, T w → Calls Tryd.prog 9 #[.int .u32 (x : Nat)] w fun r w' => r = .returned (.tuple #[.agg (inC (dcR x).1), .int .i64 (dcR x).2]) ∧ Below w.heap.size w w')) (CU : ∀ x : Nat, x < 4294967296 → Box (∀ w, T w → Calls Tryd.prog 11 #[.int .u32 (x : Nat)] w fun r w' => r = .returned (.tuple #[.agg (usC (usR x)), .int .i64 (dcR x).2]) ∧ Below w.heap.size w w')) (w : World) (hT : T w) : Calls Tryd.prog 13 #[] w fun r w' => r = .returned (.bool true) ∧ Below w.heap.size w w' := by
  have F1 := CD 3211475 (by decide)
  have F2 := CD 4262538791 (by decide)
  have F3 := CD 0 (by decide)
  have F4 := CU 2216179 (by decide)
  obtain ⟨d1, d2, d3, d4, d5⟩ := lv25d
  have du : usR 2216179 = ⟨0, 0, 2, 0⟩ := us_ext d1 d2 d3 d4
  rw [lv25a] at F1
  rw [lv25b] at F2
  rw [lv25c] at F3
  rw [du, d5] at F4
  exact dc_lives FB F1 F2 inZ F3 F4 w hT
theorem sg_bnd {a : Nat} (h : a < 4096) : -2048 ≤ sg12 a ∧ sg12 a ≤ 2047 := by
  unfold sg12
  split <;> omega
theorem in_bnd {x : Nat} (hx : x < 4294967296) {p : Nm} (h : fdL x = some p) : ∃ i, dcI p.1 x = i ∧ 1 ≤ i.op ∧ i.op ≤ 31 ∧ i.form < 4 ∧ i.frm < 4 ∧ i.kind < 4 ∧ i.rd < 32 ∧ i.rs1 < 32 ∧ i.rs2 < 32 ∧ i.rs3 < 32 ∧ i.rm < 8 ∧ i.rm ≠ 5 ∧ i.rm ≠ 6 ∧ -2048 ≤ i.imm ∧ i.imm ≤ 2047 ∧ i.csr ≤ 3 := by
  obtain ⟨hm, hf⟩ := fd_mem h
  obtain ⟨l1, l9, o1, o31, f4, g4, k4⟩ := lay24 hm
  refine ⟨_, rfl, o1, o31, f4, g4, k4, ?_⟩
  unfold fitsL at hf
  simp only [Bool.and_eq_true, Bool.not_eq_true', Bool.or_eq_true, decide_eq_true_eq, Bool.and_eq_false_iff, decide_eq_false_iff_not] at hf
  obtain ⟨⟨_, hr⟩, hc⟩ := hf
  have a1 : fld x 7 5 < 32 := fld_lt x 7 5
  have a2 : fld x 15 5 < 32 := fld_lt x 15 5
  have a3 : fld x 20 5 < 32 := fld_lt x 20 5
  have a4 : fld x 27 5 < 32 := fld_lt x 27 5
  have a5 : fld x 12 3 = x / 4096 % 8 := rfl
  have a6 : fld x 20 12 = x / 1048576 % 4096 := rfl
  have a7 : fld x 25 7 < 128 := fld_lt x 25 7
  have a8 : fld x 20 12 < 4096 := fld_lt x 20 12
  have s1 := sg_bnd a8
  have s2 : -2048 ≤ sg12 (32 * fld x 25 7 + fld x 7 5) ∧ sg12 (32 * fld x 25 7 + fld x 7 5) ≤ 2047 := sg_bnd (by omega)
  unfold dcI
  dsimp only
  refine ⟨?_, a2, ?_, ?_, ?_, ?_, ?_, ?_, ?_, ?_⟩
  · split <;> omega
  · split <;> omega
  · split <;> omega
  · split <;> omega
  · split <;> omega
  · split <;> omega
  · split
    · exact s1.1
    · split
      · exact s2.1
      · decide
  · split
    · exact s1.2
    · split
      · exact s2.2
      · decide
  · split <;> omega
theorem us_form (i : In) : (i.op = 2 ∧ usI i = ⟨2 ^ i.rs1, 2 ^ i.rs2, 0, 0⟩) ∨ (i.op ≠ 2 ∧ ∃ a b, (usI i = ⟨a, b, 2 ^ i.rd, 0⟩ ∨ usI i = ⟨a, b, 0, 2 ^ i.rd⟩) ∧ (a = 0 ∨ a = 2 ^ i.rs1) ∧ (b = 0 ∨ b = 2 ^ i.rs1 ∨ b = 2 ^ i.rs1 ||| 2 ^ i.rs2 ∨ b = 2 ^ i.rs1 ||| 2 ^ i.rs2 ||| 2 ^ i.rs3)) := by
  unfold usI
  split
  · exact .inr ⟨by omega, _, _, .inr rfl, .inr rfl, .inl rfl⟩
  split
  · exact .inl ⟨by assumption, rfl⟩
  split
  · exact .inr ⟨by omega, _, _, .inr rfl, .inl rfl, .inr (.inr (.inr rfl))⟩
  split
  · exact .inr ⟨by omega, _, _, .inr rfl, .inl rfl, .inr (.inl rfl)⟩
  split
  · exact .inr ⟨by omega, _, _, .inl rfl, .inl rfl, .inr (.inr (.inl rfl))⟩
  split
  · exact .inr ⟨by omega, _, _, .inl rfl, .inl rfl, .inr (.inl rfl)⟩
  split
  · exact .inr ⟨by omega, _, _, .inl rfl, .inr rfl, .inl rfl⟩
  split
  · exact .inr ⟨by omega, _, _, .inl rfl, .inl rfl, .inl rfl⟩
  · exact .inr ⟨by omega, _, _, .inr rfl, .inl rfl, .inr (.inr (.inl rfl))⟩
theorem us_bnd (i : In) (a1 : i.rd < 32) (a2 : i.rs1 < 32) (a3 : i.rs2 < 32) (a4 : i.rs3 < 32) : ∃ n0 n1 n2 n3 : Nat, pcF 32 (usI i).rf = n0 ∧ pcF 32 (usI i).rx = n1 ∧ pcF 32 (usI i).wx = n2 ∧ pcF 32 (usI i).wf = n3 ∧ n0 ≤ 3 ∧ n1 ≤ 1 ∧ (i.op = 2 → n2 + n3 = 0) ∧ (i.op ≠ 2 → n2 + n3 = 1) ∧ (usI i).rf < 4294967296 ∧ (usI i).rx < 4294967296 ∧ (usI i).wx < 4294967296 ∧ (usI i).wf < 4294967296 := by
  have t : ∀ r, r < 32 → 2 ^ r < 4294967296 := fun r h => Nat.pow_lt_pow_right (a := 2) (n := 32) (by decide) h
  have p1 := pcF_two 32 _ a1
  have p2 := pcF_two 32 _ a2
  have p3 := pcF_two 32 _ a3
  have p4 := pcF_two 32 _ a4
  have z := pcF_zero 32
  have q1 := t _ a1
  have q2 := t _ a2
  have q3 := t _ a3
  have q4 := t _ a4
  have o1 : pcF 32 (2 ^ i.rs1 ||| 2 ^ i.rs2) ≤ 2 := by have h := pcF_or 32 (2 ^ i.rs1) (2 ^ i.rs2); rw [p2, p3] at h; exact h
  have o2 : pcF 32 (2 ^ i.rs1 ||| 2 ^ i.rs2 ||| 2 ^ i.rs3) ≤ 3 := by have h := pcF_or 32 (2 ^ i.rs1 ||| 2 ^ i.rs2) (2 ^ i.rs3); rw [p4] at h; exact Nat.le_trans h (Nat.add_le_add_right o1 1)
  have q5 : 2 ^ i.rs1 ||| 2 ^ i.rs2 < 4294967296 := Nat.or_lt_two_pow (n := 32) q2 q3
  have q6 : 2 ^ i.rs1 ||| 2 ^ i.rs2 ||| 2 ^ i.rs3 < 4294967296 := Nat.or_lt_two_pow (n := 32) q5 q4
  have zl : 0 < 4294967296 := by decide
  rcases us_form i with ⟨h, e⟩ | ⟨h, a, b, e, ha, hb⟩
  · rw [e]
    exact ⟨1, 1, 0, 0, p3, p2, z, z, by decide, by decide, fun _ => rfl, fun n => absurd h n, q3, q2, zl, zl⟩
  · have ha2 : pcF 32 a ≤ 1 ∧ a < 4294967296 := by
      rcases ha with rfl | rfl
      · rw [z]; exact ⟨by decide, zl⟩
      · rw [p2]; exact ⟨by decide, q2⟩
    have hb2 : pcF 32 b ≤ 3 ∧ b < 4294967296 := by
      rcases hb with rfl | rfl | rfl | rfl
      · rw [z]; exact ⟨by decide, zl⟩
      · rw [p2]; exact ⟨by decide, q2⟩
      · exact ⟨Nat.le_trans o1 (by decide), q5⟩
      · exact ⟨o2, q6⟩
    rcases e with e | e <;> rw [e]
    · exact ⟨_, _, 1, 0, rfl, rfl, p1, z, hb2.1, ha2.1, fun n => absurd n h, fun _ => rfl, hb2.2, ha2.2, q1, zl⟩
    · exact ⟨_, _, 0, 1, rfl, rfl, z, p1, hb2.1, ha2.1, fun n => absurd n h, fun _ => rfl, hb2.2, ha2.2, zl, q1⟩
theorem bnd25 {T : World → Prop} (FB : Box (∀ {w w' : World}, T w → Below w.heap.size w w' → T w')) (CD : ∀ x : Nat, x < 4294967296 → Box (∀ w, T w → Calls Tryd.prog 9 #[.int .u32 (x : Nat)] w fun r w' => r = .returned (.tuple #[.agg (inC (dcR x).1), .int .i64 (dcR x).2]) ∧ Below w.heap.size w w')) (CU : ∀ x : Nat, x < 4294967296 → Box (∀ w, T w → Calls Tryd.prog 11 #[.int .u32 (x : Nat)] w fun r w' => r = .returned (.tuple #[.agg (usC (usR x)), .int .i64 (dcR x).2]) ∧ Below w.heap.size w w')) (KL : Box (∀ w, T w → Calls Tryd.prog 13 #[] w fun r w' => r = .returned (.bool true) ∧ Below w.heap.size w w')) (x : Nat) (hx : x < 4294967296) (w : World) (hT : T w) : Calls Tryd.prog 8 #[.int .u32 (x : Nat)] w fun r w' => r = .returned (.bool true) ∧ Below w.heap.size w w' := by
  have F1 := CD x hx
  have F2 := CU x hx
  cases h : fdL x with
  | none =>
    rw [dcR_none h] at F1
    rw [usR_none h, dcR_none h] at F2
    exact dc_bnd_n FB x inZ usZ F1 F2 KL w hT
  | some p =>
    obtain ⟨i, hi, o1, o31, f1, f2, f3, a1, a2, a3, a4, r8, r5, r6, m1, m2, c3⟩ := in_bnd hx h
    rw [dcR_some h] at F1
    rw [usR_some h, dcR_some h] at F2
    rw [hi] at F1 F2
    obtain ⟨n0, n1, n2, n3, e0, e1, e2, e3, b0, b1, g2, g3, l0, l1, l2, l3⟩ := us_bnd i a1 a2 a3 a4
    have w1 : n2 + n3 ≤ 1 := by
      by_cases q : i.op = 2
      · rw [g2 q]; exact Nat.zero_le _
      · rw [g3 q]; exact Nat.le_refl _
    refine dc_bnd_y FB x i (usI i) n0 n1 n2 n3 ((n2 + n3 : Nat) : Int) (decide_eq_false (by omega)) (decide_eq_false (by omega)) (decide_eq_false (by omega)) (decide_eq_false (by omega)) (decide_eq_false (by omega)) (decide_eq_false (by omega)) (decide_eq_false (by omega)) (decide_eq_false (by omega)) (decide_eq_false (by omega)) (beq_false_of_ne (by omega)) (beq_false_of_ne (by omega)) (decide_eq_false (by omega)) (decide_eq_false (by omega)) (decide_eq_false (by omega)) (decide_eq_false (by omega)) (by rw [IntKind.wrap_i64]; omega) (decide_eq_false (by omega)) (decide (i.op = 2)) ?_ ?_ F1 F2 KL (box fun w => ?_) (box fun w => ?_) (box fun w => ?_) (box fun w => ?_) w hT
    · rw [Bool.eq_iff_iff, beq_iff_eq, decide_eq_true_iff]
      constructor
      · intro q
        by_cases k : i.op = 2
        · exact k
        · have := g3 k
          omega
      · intro q
        have := g2 q
        omega
    · rw [Bool.eq_iff_iff, beq_iff_eq, decide_eq_true_iff]
      omega
    · rw [← e0]; exact l25_ones _ l0 w
    · rw [← e1]; exact l25_ones _ l1 w
    · rw [← e2]; exact l25_ones _ l2 w
    · rw [← e3]; exact l25_ones _ l3 w
theorem and_low5 (y : Nat) (hy : y < 4294967296) : bits .and .u32 ((y : Nat) : Int) 31 = ((y % 32 : Nat) : Int) := by
  have q := and32t y 31 hy (by decide)
  rw [Nat.and_two_pow_sub_one_eq_mod y 5] at q
  exact q
theorem and_low3 (y : Nat) (hy : y < 4294967296) : bits .and .u32 ((y : Nat) : Int) 7 = ((y % 8 : Nat) : Int) := by
  have q := and32t y 7 hy (by decide)
  rw [Nat.and_two_pow_sub_one_eq_mod y 3] at q
  exact q
theorem five_is (x n : Nat) (hx : x < 4294967296) (k : Nat) (hn : n = 2 ^ k) (m : Int) (hm : m = (n : Int)) : bits .and .u32 ((x : Int) / m) 31 % 256 = ((fld x k 5 : Nat) : Int) := by
  subst hm
  have e : (x : Int) / (n : Int) = ((x / n : Nat) : Int) := (Int.natCast_ediv x n).symm
  rw [e, and_low5 _ (Nat.lt_of_le_of_lt (Nat.div_le_self _ _) hx), hn]
  unfold fld
  have : x / 2 ^ k % 32 < 32 := Nat.mod_lt _ (by decide)
  show ((x / 2 ^ k % 32 : Nat) : Int) % 256 = ((x / 2 ^ k % 32 : Nat) : Int)
  omega
theorem mode_is (x : Nat) (hx : x < 4294967296) : bits .and .u32 ((x : Int) / 4096) 7 % 256 = ((fld x 12 3 : Nat) : Int) := by
  have e : (x : Int) / 4096 = ((x / 4096 : Nat) : Int) := rfl
  rw [e, and_low3 _ (by omega)]
  unfold fld
  show ((x / 4096 % 8 : Nat) : Int) % 256 = ((x / 4096 % 8 : Nat) : Int)
  omega
def sg7 (h : Nat) : Int := if 64 ≤ h then (h : Int) - 128 else (h : Int)
theorem w32_is (x : Nat) (hx : x < 4294967296) : wrap32 (x : Int) = if 2147483648 ≤ x then (x : Int) - 4294967296 else (x : Int) := by
  unfold wrap32
  split <;> omega
theorem wrapi16 (y : Int) (h : -32768 ≤ y ∧ y < 32768) : IntKind.i16.wrap y = y := by
  simp [IntKind.wrap, IntKind.bits, IntKind.signed]
  omega
theorem sg20_is (x : Nat) (hx : x < 4294967296) : IntKind.i16.wrap (wrap32 (x : Int) / 1048576) = sg12 (fld x 20 12) := by
  have e : fld x 20 12 = x / 1048576 % 4096 := rfl
  rw [w32_is x hx, e]
  unfold sg12
  rw [wrapi16]
  · split <;> split <;> omega
  · split <;> omega
theorem sg25_is (x : Nat) (hx : x < 4294967296) : IntKind.i16.wrap (wrap32 (x : Int) / 33554432) = sg7 (fld x 25 7) := by
  have e : fld x 25 7 = x / 33554432 % 128 := rfl
  rw [w32_is x hx, e]
  unfold sg7
  rw [wrapi16]
  · split <;> split <;> omega
  · split <;> omega
theorem st_all : ((List.range 128).all fun h => (List.range 32).all fun d => decide (bits .or .i16 (IntKind.i16.wrap (sg7 h * 32)) (d : Int) = sg12 (32 * h + d))) = true := by decide +kernel
theorem st_is (h d : Nat) (hh : h < 128) (hd : d < 32) : bits .or .i16 (IntKind.i16.wrap (sg7 h * 32)) (d : Int) = sg12 (32 * h + d) :=
  of_decide_eq_true (List.all_eq_true.1 (List.all_eq_true.1 st_all h (List.mem_range.2 hh)) d (List.mem_range.2 hd))
set_option maxRecDepth 100000 in
set_option maxHeartbeats 8000000 in
theorem t_five7 (x : Nat) (hx : x < 4294967296) (w : World) : Calls Tryd.prog 42 #[.int .u32 (x : Nat), .int .i64 7] w fun r w' => r = .returned (.int .u8 (fld x 7 5 : Nat)) ∧ w' = w := by
  have h := five_is x 128 hx 7 (by decide) 128 rfl
  go_enter Tryd.func42, Tryd.ntmps42
  go_wp2
  rw [h]
  go_ret
  exact ⟨rfl, rfl⟩
set_option maxRecDepth 100000 in
set_option maxHeartbeats 8000000 in
theorem t_five15 (x : Nat) (hx : x < 4294967296) (w : World) : Calls Tryd.prog 42 #[.int .u32 (x : Nat), .int .i64 15] w fun r w' => r = .returned (.int .u8 (fld x 15 5 : Nat)) ∧ w' = w := by
  have h := five_is x 32768 hx 15 (by decide) 32768 rfl
  go_enter Tryd.func42, Tryd.ntmps42
  go_wp2
  rw [h]
  go_ret
  exact ⟨rfl, rfl⟩
set_option maxRecDepth 100000 in
set_option maxHeartbeats 8000000 in
theorem t_five20 (x : Nat) (hx : x < 4294967296) (w : World) : Calls Tryd.prog 42 #[.int .u32 (x : Nat), .int .i64 20] w fun r w' => r = .returned (.int .u8 (fld x 20 5 : Nat)) ∧ w' = w := by
  have h := five_is x 1048576 hx 20 (by decide) 1048576 rfl
  go_enter Tryd.func42, Tryd.ntmps42
  go_wp2
  rw [h]
  go_ret
  exact ⟨rfl, rfl⟩
set_option maxRecDepth 100000 in
set_option maxHeartbeats 8000000 in
theorem t_five27 (x : Nat) (hx : x < 4294967296) (w : World) : Calls Tryd.prog 42 #[.int .u32 (x : Nat), .int .i64 27] w fun r w' => r = .returned (.int .u8 (fld x 27 5 : Nat)) ∧ w' = w := by
  have h := five_is x 134217728 hx 27 (by decide) 134217728 rfl
  go_enter Tryd.func42, Tryd.ntmps42
  go_wp2
  rw [h]
  go_ret
  exact ⟨rfl, rfl⟩
set_option maxRecDepth 100000 in
set_option maxHeartbeats 8000000 in
theorem t_mode (x : Nat) (hx : x < 4294967296) (w : World) : Calls Tryd.prog 46 #[.int .u32 (x : Nat)] w fun r w' => r = .returned (.int .u8 (fld x 12 3 : Nat)) ∧ w' = w := by
  have h := mode_is x hx
  go_enter Tryd.func46, Tryd.ntmps46
  go_wp2
  rw [h]
  go_ret
  exact ⟨rfl, rfl⟩
set_option maxRecDepth 100000 in
set_option maxHeartbeats 8000000 in
theorem t_signed20 (x : Nat) (hx : x < 4294967296) (w : World) : Calls Tryd.prog 43 #[.int .u32 (x : Nat), .int .i64 20] w fun r w' => r = .returned (.int .i16 (sg12 (fld x 20 12))) ∧ w' = w := by
  have h := sg20_is x hx
  go_enter Tryd.func43, Tryd.ntmps43
  go_wp2
  go_ret
  exact ⟨rfl, rfl⟩
set_option maxRecDepth 100000 in
set_option maxHeartbeats 8000000 in
theorem t_signed25 (x : Nat) (hx : x < 4294967296) (w : World) : Calls Tryd.prog 43 #[.int .u32 (x : Nat), .int .i64 25] w fun r w' => r = .returned (.int .i16 (sg7 (fld x 25 7))) ∧ w' = w := by
  have h := sg25_is x hx
  go_enter Tryd.func43, Tryd.ntmps43
  go_wp2
  go_ret
  exact ⟨rfl, rfl⟩
def Rd (b : Nat) (T : TypeId) (j : In) (w : World) (r : Ending) (w' : World) : Prop := (∃ v, r = .returned v) ∧ w'.heap[b]? = some (.cells (inC j) T) ∧ ∀ n, n ≤ b → Below n w w'
set_option maxRecDepth 100000 in
set_option maxHeartbeats 8000000 in
theorem t_rd1 (x : Nat) (hx : x < 4294967296) (i : In) (b : Nat) (T : TypeId) (w : World) (h0 : w.heap[b]? = some (.cells (inC i) T)) : Calls Tryd.prog 41 #[.int .u32 (x : Nat), .pointer (some ⟨b, 0, none⟩)] w (Rd b T ⟨i.op, i.form, i.frm, i.kind, fld x 7 5, fld x 15 5, i.rs2, i.rs3, i.rm, sg12 (fld x 20 12), i.csr⟩ w) := by
  go_enter Tryd.func41, Tryd.ntmps41
  go_wp2_with fail
  refine (t_five7 x hx _).mono ?_
  rintro r w1 ⟨rfl, hw1⟩
  rw [hw1]
  clear hw1 w1
  go_wp2_with fail
  refine (t_five15 x hx _).mono ?_
  rintro r w1 ⟨rfl, hw1⟩
  rw [hw1]
  clear hw1 w1
  have f0 := fz (k := 4) h0
  have c0 := cell7 h0 4 _ rfl
  have h1 : (w.setCell ⟨b, 4, none⟩ (.int .u8 (fld x 7 5 : Nat))).heap[b]? = some (.cells (inC ⟨i.op, i.form, i.frm, i.kind, fld x 7 5, i.rs1, i.rs2, i.rs3, i.rm, i.imm, i.csr⟩) T) := by rw [setCell_row h0]; rfl
  have f1 := fz (k := 5) h1
  have c1 := cell7 h1 5 _ rfl
  have h2 : ((w.setCell ⟨b, 4, none⟩ (.int .u8 (fld x 7 5 : Nat))).setCell ⟨b, 5, none⟩ (.int .u8 (fld x 15 5 : Nat))).heap[b]? = some (.cells (inC ⟨i.op, i.form, i.frm, i.kind, fld x 7 5, fld x 15 5, i.rs2, i.rs3, i.rm, i.imm, i.csr⟩) T) := by rw [setCell_row h1]; rfl
  go_wp2_with fail
  refine (t_signed20 x hx _).mono ?_
  rintro r w1 ⟨rfl, hw1⟩
  rw [hw1]
  clear hw1 w1
  have f2 := fz (k := 9) h2
  have c2 := cell7 h2 9 _ rfl
  have h3 : (((w.setCell ⟨b, 4, none⟩ (.int .u8 (fld x 7 5 : Nat))).setCell ⟨b, 5, none⟩ (.int .u8 (fld x 15 5 : Nat))).setCell ⟨b, 9, none⟩ (.int .i16 (sg12 (fld x 20 12)))).heap[b]? = some (.cells (inC ⟨i.op, i.form, i.frm, i.kind, fld x 7 5, fld x 15 5, i.rs2, i.rs3, i.rm, sg12 (fld x 20 12), i.csr⟩) T) := by rw [setCell_row h2]; rfl
  go_wp2
  first | go_end0 | go_ret
  exact ⟨⟨_, rfl⟩, h3, fun n hn => (((Below.refl _ w).setCell (by exact hn) _).setCell (by exact hn) _).setCell (by exact hn) _⟩
set_option maxRecDepth 100000 in
set_option maxHeartbeats 8000000 in
theorem t_rd2 (x : Nat) (hx : x < 4294967296) (i : In) (b : Nat) (T : TypeId) (w : World) (h0 : w.heap[b]? = some (.cells (inC i) T)) : Calls Tryd.prog 44 #[.int .u32 (x : Nat), .pointer (some ⟨b, 0, none⟩)] w (Rd b T ⟨i.op, i.form, i.frm, i.kind, i.rd, fld x 15 5, fld x 20 5, i.rs3, i.rm, sg12 (32 * fld x 25 7 + fld x 7 5), i.csr⟩ w) := by
  have hst : bits .or .i16 (IntKind.i16.wrap (sg7 (fld x 25 7) * 32)) ((fld x 7 5 : Nat) : Int) = sg12 (32 * fld x 25 7 + fld x 7 5) := st_is _ _ (fld_lt x 25 7) (fld_lt x 7 5)
  have hm7 : IntKind.i16.wrap ((fld x 7 5 : Nat) : Int) = ((fld x 7 5 : Nat) : Int) := by have : fld x 7 5 < 32 := fld_lt x 7 5; exact wrapi16 _ (by omega)
  go_enter Tryd.func44, Tryd.ntmps44
  go_wp2_with fail
  refine (t_five15 x hx _).mono ?_
  rintro r w1 ⟨rfl, hw1⟩
  rw [hw1]
  clear hw1 w1
  go_wp2_with fail
  refine (t_five20 x hx _).mono ?_
  rintro r w1 ⟨rfl, hw1⟩
  rw [hw1]
  clear hw1 w1
  have f0 := fz (k := 5) h0
  have c0 := cell7 h0 5 _ rfl
  have h1 : (w.setCell ⟨b, 5, none⟩ (.int .u8 (fld x 15 5 : Nat))).heap[b]? = some (.cells (inC ⟨i.op, i.form, i.frm, i.kind, i.rd, fld x 15 5, i.rs2, i.rs3, i.rm, i.imm, i.csr⟩) T) := by rw [setCell_row h0]; rfl
  have f1 := fz (k := 6) h1
  have c1 := cell7 h1 6 _ rfl
  have h2 : ((w.setCell ⟨b, 5, none⟩ (.int .u8 (fld x 15 5 : Nat))).setCell ⟨b, 6, none⟩ (.int .u8 (fld x 20 5 : Nat))).heap[b]? = some (.cells (inC ⟨i.op, i.form, i.frm, i.kind, i.rd, fld x 15 5, fld x 20 5, i.rs3, i.rm, i.imm, i.csr⟩) T) := by rw [setCell_row h1]; rfl
  go_wp2_with fail
  refine (t_signed25 x hx _).mono ?_
  rintro r w1 ⟨rfl, hw1⟩
  rw [hw1]
  clear hw1 w1
  go_wp2_with fail
  refine (t_five7 x hx _).mono ?_
  rintro r w1 ⟨rfl, hw1⟩
  rw [hw1]
  clear hw1 w1
  have f2 := fz (k := 9) h2
  have c2 := cell7 h2 9 _ rfl
  have h3 : (((w.setCell ⟨b, 5, none⟩ (.int .u8 (fld x 15 5 : Nat))).setCell ⟨b, 6, none⟩ (.int .u8 (fld x 20 5 : Nat))).setCell ⟨b, 9, none⟩ (.int .i16 (sg12 (32 * fld x 25 7 + fld x 7 5)))).heap[b]? = some (.cells (inC ⟨i.op, i.form, i.frm, i.kind, i.rd, fld x 15 5, fld x 20 5, i.rs3, i.rm, sg12 (32 * fld x 25 7 + fld x 7 5), i.csr⟩) T) := by rw [setCell_row h2]; rfl
  go_wp2
  first | go_end0 | go_ret
  exact ⟨⟨_, rfl⟩, h3, fun n hn => (((Below.refl _ w).setCell (by exact hn) _).setCell (by exact hn) _).setCell (by exact hn) _⟩
set_option maxRecDepth 100000 in
set_option maxHeartbeats 8000000 in
theorem t_rd3 (x : Nat) (hx : x < 4294967296) (i : In) (b : Nat) (T : TypeId) (w : World) (h0 : w.heap[b]? = some (.cells (inC i) T)) : Calls Tryd.prog 45 #[.int .u32 (x : Nat), .pointer (some ⟨b, 0, none⟩)] w (Rd b T ⟨i.op, i.form, i.frm, i.kind, fld x 7 5, fld x 15 5, fld x 20 5, fld x 27 5, fld x 12 3, i.imm, i.csr⟩ w) := by
  go_enter Tryd.func45, Tryd.ntmps45
  go_wp2_with fail
  refine (t_five7 x hx _).mono ?_
  rintro r w1 ⟨rfl, hw1⟩
  rw [hw1]
  clear hw1 w1
  go_wp2_with fail
  refine (t_five15 x hx _).mono ?_
  rintro r w1 ⟨rfl, hw1⟩
  rw [hw1]
  clear hw1 w1
  go_wp2_with fail
  refine (t_five20 x hx _).mono ?_
  rintro r w1 ⟨rfl, hw1⟩
  rw [hw1]
  clear hw1 w1
  go_wp2_with fail
  refine (t_five27 x hx _).mono ?_
  rintro r w1 ⟨rfl, hw1⟩
  rw [hw1]
  clear hw1 w1
  have f0 := fz (k := 4) h0
  have c0 := cell7 h0 4 _ rfl
  have h1 : (w.setCell ⟨b, 4, none⟩ (.int .u8 (fld x 7 5 : Nat))).heap[b]? = some (.cells (inC ⟨i.op, i.form, i.frm, i.kind, fld x 7 5, i.rs1, i.rs2, i.rs3, i.rm, i.imm, i.csr⟩) T) := by rw [setCell_row h0]; rfl
  have f1 := fz (k := 5) h1
  have c1 := cell7 h1 5 _ rfl
  have h2 : ((w.setCell ⟨b, 4, none⟩ (.int .u8 (fld x 7 5 : Nat))).setCell ⟨b, 5, none⟩ (.int .u8 (fld x 15 5 : Nat))).heap[b]? = some (.cells (inC ⟨i.op, i.form, i.frm, i.kind, fld x 7 5, fld x 15 5, i.rs2, i.rs3, i.rm, i.imm, i.csr⟩) T) := by rw [setCell_row h1]; rfl
  have f2 := fz (k := 6) h2
  have c2 := cell7 h2 6 _ rfl
  have h3 : (((w.setCell ⟨b, 4, none⟩ (.int .u8 (fld x 7 5 : Nat))).setCell ⟨b, 5, none⟩ (.int .u8 (fld x 15 5 : Nat))).setCell ⟨b, 6, none⟩ (.int .u8 (fld x 20 5 : Nat))).heap[b]? = some (.cells (inC ⟨i.op, i.form, i.frm, i.kind, fld x 7 5, fld x 15 5, fld x 20 5, i.rs3, i.rm, i.imm, i.csr⟩) T) := by rw [setCell_row h2]; rfl
  have f3 := fz (k := 7) h3
  have c3 := cell7 h3 7 _ rfl
  have h4 : ((((w.setCell ⟨b, 4, none⟩ (.int .u8 (fld x 7 5 : Nat))).setCell ⟨b, 5, none⟩ (.int .u8 (fld x 15 5 : Nat))).setCell ⟨b, 6, none⟩ (.int .u8 (fld x 20 5 : Nat))).setCell ⟨b, 7, none⟩ (.int .u8 (fld x 27 5 : Nat))).heap[b]? = some (.cells (inC ⟨i.op, i.form, i.frm, i.kind, fld x 7 5, fld x 15 5, fld x 20 5, fld x 27 5, i.rm, i.imm, i.csr⟩) T) := by rw [setCell_row h3]; rfl
  go_wp2_with fail
  refine (t_mode x hx _).mono ?_
  rintro r w1 ⟨rfl, hw1⟩
  rw [hw1]
  clear hw1 w1
  have f4 := fz (k := 8) h4
  have c4 := cell7 h4 8 _ rfl
  have h5 : (((((w.setCell ⟨b, 4, none⟩ (.int .u8 (fld x 7 5 : Nat))).setCell ⟨b, 5, none⟩ (.int .u8 (fld x 15 5 : Nat))).setCell ⟨b, 6, none⟩ (.int .u8 (fld x 20 5 : Nat))).setCell ⟨b, 7, none⟩ (.int .u8 (fld x 27 5 : Nat))).setCell ⟨b, 8, none⟩ (.int .u8 (fld x 12 3 : Nat))).heap[b]? = some (.cells (inC ⟨i.op, i.form, i.frm, i.kind, fld x 7 5, fld x 15 5, fld x 20 5, fld x 27 5, fld x 12 3, i.imm, i.csr⟩) T) := by rw [setCell_row h4]; rfl
  go_wp2
  first | go_end0 | go_ret
  exact ⟨⟨_, rfl⟩, h5, fun n hn => (((((Below.refl _ w).setCell (by exact hn) _).setCell (by exact hn) _).setCell (by exact hn) _).setCell (by exact hn) _).setCell (by exact hn) _⟩
set_option maxRecDepth 100000 in
set_option maxHeartbeats 8000000 in
theorem t_rd4 (x : Nat) (hx : x < 4294967296) (i : In) (b : Nat) (T : TypeId) (w : World) (h0 : w.heap[b]? = some (.cells (inC i) T)) : Calls Tryd.prog 47 #[.int .u32 (x : Nat), .pointer (some ⟨b, 0, none⟩)] w (Rd b T ⟨i.op, i.form, i.frm, i.kind, fld x 7 5, fld x 15 5, fld x 20 5, i.rs3, fld x 12 3, i.imm, i.csr⟩ w) := by
  go_enter Tryd.func47, Tryd.ntmps47
  go_wp2_with fail
  refine (t_five7 x hx _).mono ?_
  rintro r w1 ⟨rfl, hw1⟩
  rw [hw1]
  clear hw1 w1
  go_wp2_with fail
  refine (t_five15 x hx _).mono ?_
  rintro r w1 ⟨rfl, hw1⟩
  rw [hw1]
  clear hw1 w1
  go_wp2_with fail
  refine (t_five20 x hx _).mono ?_
  rintro r w1 ⟨rfl, hw1⟩
  rw [hw1]
  clear hw1 w1
  have f0 := fz (k := 4) h0
  have c0 := cell7 h0 4 _ rfl
  have h1 : (w.setCell ⟨b, 4, none⟩ (.int .u8 (fld x 7 5 : Nat))).heap[b]? = some (.cells (inC ⟨i.op, i.form, i.frm, i.kind, fld x 7 5, i.rs1, i.rs2, i.rs3, i.rm, i.imm, i.csr⟩) T) := by rw [setCell_row h0]; rfl
  have f1 := fz (k := 5) h1
  have c1 := cell7 h1 5 _ rfl
  have h2 : ((w.setCell ⟨b, 4, none⟩ (.int .u8 (fld x 7 5 : Nat))).setCell ⟨b, 5, none⟩ (.int .u8 (fld x 15 5 : Nat))).heap[b]? = some (.cells (inC ⟨i.op, i.form, i.frm, i.kind, fld x 7 5, fld x 15 5, i.rs2, i.rs3, i.rm, i.imm, i.csr⟩) T) := by rw [setCell_row h1]; rfl
  have f2 := fz (k := 6) h2
  have c2 := cell7 h2 6 _ rfl
  have h3 : (((w.setCell ⟨b, 4, none⟩ (.int .u8 (fld x 7 5 : Nat))).setCell ⟨b, 5, none⟩ (.int .u8 (fld x 15 5 : Nat))).setCell ⟨b, 6, none⟩ (.int .u8 (fld x 20 5 : Nat))).heap[b]? = some (.cells (inC ⟨i.op, i.form, i.frm, i.kind, fld x 7 5, fld x 15 5, fld x 20 5, i.rs3, i.rm, i.imm, i.csr⟩) T) := by rw [setCell_row h2]; rfl
  go_wp2_with fail
  refine (t_mode x hx _).mono ?_
  rintro r w1 ⟨rfl, hw1⟩
  rw [hw1]
  clear hw1 w1
  have f3 := fz (k := 8) h3
  have c3 := cell7 h3 8 _ rfl
  have h4 : ((((w.setCell ⟨b, 4, none⟩ (.int .u8 (fld x 7 5 : Nat))).setCell ⟨b, 5, none⟩ (.int .u8 (fld x 15 5 : Nat))).setCell ⟨b, 6, none⟩ (.int .u8 (fld x 20 5 : Nat))).setCell ⟨b, 8, none⟩ (.int .u8 (fld x 12 3 : Nat))).heap[b]? = some (.cells (inC ⟨i.op, i.form, i.frm, i.kind, fld x 7 5, fld x 15 5, fld x 20 5, i.rs3, fld x 12 3, i.imm, i.csr⟩) T) := by rw [setCell_row h3]; rfl
  go_wp2
  first | go_end0 | go_ret
  exact ⟨⟨_, rfl⟩, h4, fun n hn => ((((Below.refl _ w).setCell (by exact hn) _).setCell (by exact hn) _).setCell (by exact hn) _).setCell (by exact hn) _⟩
set_option maxRecDepth 100000 in
set_option maxHeartbeats 8000000 in
theorem t_rd5 (x : Nat) (hx : x < 4294967296) (i : In) (b : Nat) (T : TypeId) (w : World) (h0 : w.heap[b]? = some (.cells (inC i) T)) : Calls Tryd.prog 48 #[.int .u32 (x : Nat), .pointer (some ⟨b, 0, none⟩)] w (Rd b T ⟨i.op, i.form, i.frm, i.kind, fld x 7 5, fld x 15 5, fld x 20 5, i.rs3, i.rm, i.imm, i.csr⟩ w) := by
  go_enter Tryd.func48, Tryd.ntmps48
  go_wp2_with fail
  refine (t_five7 x hx _).mono ?_
  rintro r w1 ⟨rfl, hw1⟩
  rw [hw1]
  clear hw1 w1
  go_wp2_with fail
  refine (t_five15 x hx _).mono ?_
  rintro r w1 ⟨rfl, hw1⟩
  rw [hw1]
  clear hw1 w1
  go_wp2_with fail
  refine (t_five20 x hx _).mono ?_
  rintro r w1 ⟨rfl, hw1⟩
  rw [hw1]
  clear hw1 w1
  have f0 := fz (k := 4) h0
  have c0 := cell7 h0 4 _ rfl
  have h1 : (w.setCell ⟨b, 4, none⟩ (.int .u8 (fld x 7 5 : Nat))).heap[b]? = some (.cells (inC ⟨i.op, i.form, i.frm, i.kind, fld x 7 5, i.rs1, i.rs2, i.rs3, i.rm, i.imm, i.csr⟩) T) := by rw [setCell_row h0]; rfl
  have f1 := fz (k := 5) h1
  have c1 := cell7 h1 5 _ rfl
  have h2 : ((w.setCell ⟨b, 4, none⟩ (.int .u8 (fld x 7 5 : Nat))).setCell ⟨b, 5, none⟩ (.int .u8 (fld x 15 5 : Nat))).heap[b]? = some (.cells (inC ⟨i.op, i.form, i.frm, i.kind, fld x 7 5, fld x 15 5, i.rs2, i.rs3, i.rm, i.imm, i.csr⟩) T) := by rw [setCell_row h1]; rfl
  have f2 := fz (k := 6) h2
  have c2 := cell7 h2 6 _ rfl
  have h3 : (((w.setCell ⟨b, 4, none⟩ (.int .u8 (fld x 7 5 : Nat))).setCell ⟨b, 5, none⟩ (.int .u8 (fld x 15 5 : Nat))).setCell ⟨b, 6, none⟩ (.int .u8 (fld x 20 5 : Nat))).heap[b]? = some (.cells (inC ⟨i.op, i.form, i.frm, i.kind, fld x 7 5, fld x 15 5, fld x 20 5, i.rs3, i.rm, i.imm, i.csr⟩) T) := by rw [setCell_row h2]; rfl
  go_wp2
  first | go_end0 | go_ret
  exact ⟨⟨_, rfl⟩, h3, fun n hn => (((Below.refl _ w).setCell (by exact hn) _).setCell (by exact hn) _).setCell (by exact hn) _⟩
set_option maxRecDepth 100000 in
set_option maxHeartbeats 8000000 in
theorem t_rd6 (x : Nat) (hx : x < 4294967296) (i : In) (b : Nat) (T : TypeId) (w : World) (h0 : w.heap[b]? = some (.cells (inC i) T)) : Calls Tryd.prog 49 #[.int .u32 (x : Nat), .pointer (some ⟨b, 0, none⟩)] w (Rd b T ⟨i.op, i.form, i.frm, i.kind, fld x 7 5, fld x 15 5, i.rs2, i.rs3, fld x 12 3, i.imm, i.csr⟩ w) := by
  go_enter Tryd.func49, Tryd.ntmps49
  go_wp2_with fail
  refine (t_five7 x hx _).mono ?_
  rintro r w1 ⟨rfl, hw1⟩
  rw [hw1]
  clear hw1 w1
  go_wp2_with fail
  refine (t_five15 x hx _).mono ?_
  rintro r w1 ⟨rfl, hw1⟩
  rw [hw1]
  clear hw1 w1
  have f0 := fz (k := 4) h0
  have c0 := cell7 h0 4 _ rfl
  have h1 : (w.setCell ⟨b, 4, none⟩ (.int .u8 (fld x 7 5 : Nat))).heap[b]? = some (.cells (inC ⟨i.op, i.form, i.frm, i.kind, fld x 7 5, i.rs1, i.rs2, i.rs3, i.rm, i.imm, i.csr⟩) T) := by rw [setCell_row h0]; rfl
  have f1 := fz (k := 5) h1
  have c1 := cell7 h1 5 _ rfl
  have h2 : ((w.setCell ⟨b, 4, none⟩ (.int .u8 (fld x 7 5 : Nat))).setCell ⟨b, 5, none⟩ (.int .u8 (fld x 15 5 : Nat))).heap[b]? = some (.cells (inC ⟨i.op, i.form, i.frm, i.kind, fld x 7 5, fld x 15 5, i.rs2, i.rs3, i.rm, i.imm, i.csr⟩) T) := by rw [setCell_row h1]; rfl
  go_wp2_with fail
  refine (t_mode x hx _).mono ?_
  rintro r w1 ⟨rfl, hw1⟩
  rw [hw1]
  clear hw1 w1
  have f2 := fz (k := 8) h2
  have c2 := cell7 h2 8 _ rfl
  have h3 : (((w.setCell ⟨b, 4, none⟩ (.int .u8 (fld x 7 5 : Nat))).setCell ⟨b, 5, none⟩ (.int .u8 (fld x 15 5 : Nat))).setCell ⟨b, 8, none⟩ (.int .u8 (fld x 12 3 : Nat))).heap[b]? = some (.cells (inC ⟨i.op, i.form, i.frm, i.kind, fld x 7 5, fld x 15 5, i.rs2, i.rs3, fld x 12 3, i.imm, i.csr⟩) T) := by rw [setCell_row h2]; rfl
  go_wp2
  first | go_end0 | go_ret
  exact ⟨⟨_, rfl⟩, h3, fun n hn => (((Below.refl _ w).setCell (by exact hn) _).setCell (by exact hn) _).setCell (by exact hn) _⟩
set_option maxRecDepth 100000 in
set_option maxHeartbeats 8000000 in
theorem t_rd7 (x : Nat) (hx : x < 4294967296) (i : In) (b : Nat) (T : TypeId) (w : World) (h0 : w.heap[b]? = some (.cells (inC i) T)) : Calls Tryd.prog 50 #[.int .u32 (x : Nat), .pointer (some ⟨b, 0, none⟩)] w (Rd b T ⟨i.op, i.form, i.frm, i.kind, fld x 7 5, fld x 15 5, i.rs2, i.rs3, i.rm, i.imm, i.csr⟩ w) := by
  go_enter Tryd.func50, Tryd.ntmps50
  go_wp2_with fail
  refine (t_five7 x hx _).mono ?_
  rintro r w1 ⟨rfl, hw1⟩
  rw [hw1]
  clear hw1 w1
  go_wp2_with fail
  refine (t_five15 x hx _).mono ?_
  rintro r w1 ⟨rfl, hw1⟩
  rw [hw1]
  clear hw1 w1
  have f0 := fz (k := 4) h0
  have c0 := cell7 h0 4 _ rfl
  have h1 : (w.setCell ⟨b, 4, none⟩ (.int .u8 (fld x 7 5 : Nat))).heap[b]? = some (.cells (inC ⟨i.op, i.form, i.frm, i.kind, fld x 7 5, i.rs1, i.rs2, i.rs3, i.rm, i.imm, i.csr⟩) T) := by rw [setCell_row h0]; rfl
  have f1 := fz (k := 5) h1
  have c1 := cell7 h1 5 _ rfl
  have h2 : ((w.setCell ⟨b, 4, none⟩ (.int .u8 (fld x 7 5 : Nat))).setCell ⟨b, 5, none⟩ (.int .u8 (fld x 15 5 : Nat))).heap[b]? = some (.cells (inC ⟨i.op, i.form, i.frm, i.kind, fld x 7 5, fld x 15 5, i.rs2, i.rs3, i.rm, i.imm, i.csr⟩) T) := by rw [setCell_row h1]; rfl
  go_wp2
  first | go_end0 | go_ret
  exact ⟨⟨_, rfl⟩, h2, fun n hn => ((Below.refl _ w).setCell (by exact hn) _).setCell (by exact hn) _⟩
set_option maxRecDepth 100000 in
set_option maxHeartbeats 8000000 in
theorem t_rd8 (x : Nat) (hx : x < 4294967296) (hc3 : fld x 20 12 ≤ 3) (i : In) (b : Nat) (T : TypeId) (w : World) (h0 : w.heap[b]? = some (.cells (inC i) T)) : Calls Tryd.prog 51 #[.int .u32 (x : Nat), .pointer (some ⟨b, 0, none⟩)] w (Rd b T ⟨i.op, i.form, i.frm, i.kind, fld x 7 5, fld x 15 5, i.rs2, i.rs3, i.rm, i.imm, fld x 20 12⟩ w) := by
  have hcs : (x : Int) / 1048576 % 256 = ((fld x 20 12 : Nat) : Int) := by
    have e : fld x 20 12 = x / 1048576 % 4096 := rfl
    omega
  go_enter Tryd.func51, Tryd.ntmps51
  go_wp2_with fail
  refine (t_five7 x hx _).mono ?_
  rintro r w1 ⟨rfl, hw1⟩
  rw [hw1]
  clear hw1 w1
  go_wp2_with fail
  refine (t_five15 x hx _).mono ?_
  rintro r w1 ⟨rfl, hw1⟩
  rw [hw1]
  clear hw1 w1
  have f0 := fz (k := 4) h0
  have c0 := cell7 h0 4 _ rfl
  have h1 : (w.setCell ⟨b, 4, none⟩ (.int .u8 (fld x 7 5 : Nat))).heap[b]? = some (.cells (inC ⟨i.op, i.form, i.frm, i.kind, fld x 7 5, i.rs1, i.rs2, i.rs3, i.rm, i.imm, i.csr⟩) T) := by rw [setCell_row h0]; rfl
  have f1 := fz (k := 5) h1
  have c1 := cell7 h1 5 _ rfl
  have h2 : ((w.setCell ⟨b, 4, none⟩ (.int .u8 (fld x 7 5 : Nat))).setCell ⟨b, 5, none⟩ (.int .u8 (fld x 15 5 : Nat))).heap[b]? = some (.cells (inC ⟨i.op, i.form, i.frm, i.kind, fld x 7 5, fld x 15 5, i.rs2, i.rs3, i.rm, i.imm, i.csr⟩) T) := by rw [setCell_row h1]; rfl
  have f2 := fz (k := 10) h2
  have c2 := cell7 h2 10 _ rfl
  have h3 : (((w.setCell ⟨b, 4, none⟩ (.int .u8 (fld x 7 5 : Nat))).setCell ⟨b, 5, none⟩ (.int .u8 (fld x 15 5 : Nat))).setCell ⟨b, 10, none⟩ (.int .u8 (fld x 20 12 : Nat))).heap[b]? = some (.cells (inC ⟨i.op, i.form, i.frm, i.kind, fld x 7 5, fld x 15 5, i.rs2, i.rs3, i.rm, i.imm, fld x 20 12⟩) T) := by rw [setCell_row h2]; rfl
  go_wp2
  first | go_end0 | go_ret
  exact ⟨⟨_, rfl⟩, h3, fun n hn => (((Below.refl _ w).setCell (by exact hn) _).setCell (by exact hn) _).setCell (by exact hn) _⟩
def rdrs : Array Value := #[.func (.func 40) #[] #[], .func (.func 41) #[] #[], .func (.func 44) #[] #[], .func (.func 45) #[] #[], .func (.func 47) #[] #[], .func (.func 48) #[] #[], .func (.func 49) #[] #[], .func (.func 50) #[] #[], .func (.func 51) #[] #[], .func (.func 51) #[] #[]]
theorem rdrs_fold : #[Value.func (.func 40) #[] #[], .func (.func 41) #[] #[], .func (.func 44) #[] #[], .func (.func 45) #[] #[], .func (.func 47) #[] #[], .func (.func 48) #[] #[], .func (.func 49) #[] #[], .func (.func 50) #[] #[], .func (.func 51) #[] #[], .func (.func 51) #[] #[]] = rdrs := rfl
theorem rdrs_store {w : World} {b : Nat} {c : Array Value} {T : TypeId} (h : w.heap[b]? = some (.cells c T)) (hc : c.size = 10) : (storeCells ⟨b, 0, none⟩ rdrs.toList 0).run Tryd.prog w = .ok () (w.setRow b rdrs) := by
  have := run_storeCells_from (P := Tryd.prog) b T rdrs.toList 0 c w h (by simp [rdrs, hc]) (fun v hv => by
    simp [rdrs] at hv
    rcases hv with rfl | rfl | rfl | rfl | rfl | rfl | rfl | rfl | rfl <;> rfl)
  have e : List.drop 10 c.toList = [] := List.drop_eq_nil_of_le (by rw [Array.length_toList, hc]; exact Nat.le_refl _)
  simpa [rdrs, e] using this
theorem rdrs_lv {w : World} {b : Nat} {T : TypeId} (h : w.heap[b]? = some (.cells rdrs T)) : (loadVar 71 ⟨b, 0, none⟩).run Tryd.prog w = .ok (.agg rdrs) w := by
  have ha : (isAgg 71).run Tryd.prog w = .ok true w := by kernel_rfl
  have hs : (sizeOf 71).run Tryd.prog w = .ok 10 w := by kernel_rfl
  have q := run_loadCells_list (P := Tryd.prog) w ⟨b, 0, none⟩ rdrs.toList (fun j v hv => by
    have hadd : (⟨b, 0, none⟩ : Addr).add j = ⟨b, j, none⟩ := by unfold Addr.add; split <;> simp_all
    rw [hadd]
    exact cell7 h j v (by simpa using hv))
  rw [Array.length_toList, show rdrs.size = 10 from rfl] at q
  simp only [Sem.run_bind, Sem.run_pure, Result.andThen, loadVar, ha, hs, if_true, q]
theorem res_rdrs {fn : Func} {z : Tmp} (h : fn.results = #[.cell z 71]) {tmps : Array Value} {w : World} {b : Nat} {T : TypeId} (hz : tmps.getD z undef = .pointer (some ⟨b, 0, none⟩)) (hr : w.heap[b]? = some (.cells rdrs T)) : (results fn tmps).run Tryd.prog w = .ok (.agg rdrs) w := by
  have q := rdrs_lv hr
  have hz2 : tmps[z]?.getD undef = .pointer (some ⟨b, 0, none⟩) := by rw [← Array.getD_eq_getD_getElem?]; exact hz
  simp [results, h, hz2, asAddr, q, Result.andThen]
set_option maxRecDepth 100000 in
set_option maxHeartbeats 8000000 in
theorem t_readers (w : World) : Calls Tryd.prog 24 #[] w fun r w' => r = .returned (.agg rdrs) ∧ Below w.heap.size w w' := by
  have hf := rdrs_fold
  obtain ⟨Rz_0, B0⟩ := opn1 w (Obj.cells #[.nilFunc, .nilFunc, .nilFunc, .nilFunc, .nilFunc, .nilFunc, .nilFunc, .nilFunc, .nilFunc, .nilFunc] 71)
  go_enter Tryd.func24, Tryd.ntmps24
  have hst := rdrs_store Rz_0 rfl
  have rz := setRow_row (c' := rdrs) Rz_0
  have bz : Below w.heap.size w ((w.alloc (Obj.cells #[.nilFunc, .nilFunc, .nilFunc, .nilFunc, .nilFunc, .nilFunc, .nilFunc, .nilFunc, .nilFunc, .nilFunc] 71)).setRow w.heap.size rdrs) := Below.setRow B0 (Nat.le_refl _)
  obtain ⟨wz, hwz⟩ : ∃ V, (w.alloc (Obj.cells #[.nilFunc, .nilFunc, .nilFunc, .nilFunc, .nilFunc, .nilFunc, .nilFunc, .nilFunc, .nilFunc, .nilFunc] 71)).setRow w.heap.size rdrs = V := ⟨_, rfl⟩
  rw [hwz] at hst rz bz
  clear hwz
  go_wp2
  exact bodyPost_ret (v := .agg rdrs) (res_rdrs Tryd.results24 rfl rz) rfl ⟨rfl, bz⟩
end Go.Proofs.YtamlcgmipdcgjaaDoor
