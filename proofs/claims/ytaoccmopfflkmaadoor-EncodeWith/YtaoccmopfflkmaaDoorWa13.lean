/-
  What the functions that the statement reaches return: part 13 (YE, YF, YG, YJ, YM, YO, FrameL, ZA, ZD).
-/
import Derived.ChangeMaps5
import Derived.OpenShut
import Derived.Carry
import Derived.Laws.AppendOwn
import Derived.RangeFuncNested
import Derived.RangeFuncBound
import Derived.RangeFuncCalls
import Derived.RangeFuncLeaves
import Derived.RangeFuncFrom
import Derived.Shelf.Abstract
import Derived.Shelf.RegionOpen
import Derived.WalkKit
import Derived.OwnWalkIn
import Derived.TacticsInMore
import Derived.LoopNIn
import Derived.LoopIn
import Derived.LoopN
import Derived.Sort.QuietIn
import Derived.Deep.RegionHeld3
import Derived.Laws.OwnMore
import Derived.Laws.Cover3
import Derived.Test.YtaoccmopfflkmaaDoorWa12
namespace Go.Proofs.YtaoccmopfflkmaaDoor
set_option maxRecDepth 100000
set_option maxHeartbeats 40000000
set_option maxRecDepth 100000
open Go.RowKit WMath
set_option linter.unusedSimpArgs false
set_option linter.unusedVariables false
theorem andi64 (x : Nat) (hx : x < 9223372036854775808) : bits .and .i64 ((x : Nat) : Int) 1 = ((x % 2 : Nat) : Int) := by
  have h1 : (BitVec.ofInt 64 ((x : Nat) : Int)).toNat = x := by
    rw [BitVec.ofInt_natCast, BitVec.toNat_ofNat]; exact Nat.mod_eq_of_lt (by omega)
  have h2 : (BitVec.ofInt 64 1).toNat = 1 := rfl
  show IntKind.i64.wrap ((BitVec.ofInt 64 ((x : Nat) : Int) &&& BitVec.ofInt 64 1).toNat : Int) = _
  rw [BitVec.toNat_and, h1, h2, Nat.and_one_is_mod, IntKind.wrap_i64]
  omega
def ptW (low n v : Nat) : Nat := v % 2 ^ n * 2 ^ low
theorem pt_step (v k : Nat) : v % 2 ^ (k + 1) = v % 2 ^ k + 2 ^ k * (v / 2 ^ k % 2) := by
  rw [Nat.pow_succ, Nat.mod_mul]
set_option maxRecDepth 100000 in
set_option maxHeartbeats 8000000 in
theorem b25_put (low n v : Nat) (hv : v < 9223372036854775808) (hn : low + n ≤ 32) (w : World) : Calls Tryd.prog 27 #[.int .i64 (low : Nat), .int .i64 (n : Nat), .int .i64 (v : Nat)] w fun r w' => r = .returned (.int .u32 (ptW low n v : Nat)) ∧ Below w.heap.size w w' := by
  go_enter Tryd.func27, Tryd.ntmps27
  go_wp2
  go_loop [7, 8] (fun xv kv => ∃ k X : Nat, k ≤ n ∧ kv = .int .i64 (k : Nat) ∧ xv = .int .u32 (X : Nat) ∧ Box (X = v % 2 ^ k * 2 ^ low)) (fun _ kv => n - (intOf kv).toNat)
  case atStart => exact ⟨0, 0, Nat.zero_le _, rfl, rfl, box (by rw [Nat.pow_zero, Nat.mod_one, Nat.zero_mul])⟩
  case round =>
    obtain ⟨k, X, hk, rfl, rfl, HX⟩ := hrel
    by_cases hlt : k < n
    · have d1 : decide ((k : Int) < (n : Int)) = true := decide_eq_true (by omega)
      have e3 : decide ((k : Int) < 0) = false := decide_eq_false (by omega)
      have e4 : min k 64 = k := by omega
      have eq0 : ((v : Nat) : Int) / 2 ^ k = ((v / 2 ^ k : Nat) : Int) := by rw [Int.natCast_ediv, Int.natCast_pow]; rfl
      have e9 : ((v : Nat) : Int).fdiv (2 ^ min ((k : Nat) : Int).toNat IntKind.i64.bits) = ((v / 2 ^ k : Nat) : Int) := by
        rw [Int.toNat_natCast, show IntKind.i64.bits = 64 from rfl, e4, Int.fdiv_eq_ediv_of_nonneg _ (Int.le_of_lt (Int.pow_pos (by decide))), eq0]
      have eb := andi64 (v / 2 ^ k) (Nat.lt_of_le_of_lt (Nat.div_le_self _ _) hv)
      have ek : IntKind.i64.wrap ((k : Int) + 1) = ((k + 1 : Nat) : Int) := by rw [IntKind.wrap_i64]; omega
      obtain ⟨t, ht⟩ : ∃ t, v / 2 ^ k % 2 = t := ⟨_, rfl⟩
      rw [ht] at eb
      have eb2 : bits .and .i64 (((v : Nat) : Int) / 2 ^ k) 1 = ((t : Nat) : Int) := by rw [eq0]; exact eb
      clear eq0
      obtain ⟨qq, hq⟩ : ∃ qq, v / 2 ^ k = qq := ⟨_, rfl⟩
      rw [hq] at e9 eb
      have em : ((qq : Nat) : Int) % 2 = (t : Nat) := by rw [← ht, hq]; omega
      have HQ := box hq
      clear hq
      have t2 : t < 2 := by rw [← ht]; exact Nat.mod_lt _ (by decide)
      obtain ⟨s, hs⟩ : ∃ s, low + k = s := ⟨_, rfl⟩
      have e1 : IntKind.i64.wrap ((low : Int) + (k : Int)) = (s : Int) := by rw [IntKind.wrap_i64]; omega
      have e5 : decide ((s : Int) < 0) = false := decide_eq_false (by omega)
      have hp : v % 2 ^ k * 2 ^ low < 2 ^ s := by
        rw [← hs, Nat.add_comm, Nat.pow_add]
        exact Nat.mul_lt_mul_of_pos_right (Nat.mod_lt _ (Nat.two_pow_pos k)) (Nat.two_pow_pos low)
      have h2s : 2 ^ s ≤ 2147483648 := Nat.pow_le_pow_right (n := 2) (by decide) (show s ≤ 31 by omega)
      have HN := box (pt_step v k)
      have HT := box ht
      rw [← HX.out] at hp
      clear ht
      rcases (by omega : t = 0 ∨ t = 1) with rfl | rfl
      · go_wp2
        go_round
        case rel => exact ⟨k + 1, X, by omega, rfl, rfl, box (by rw [HN.out, HT.out, Nat.mul_zero, Nat.add_zero]; exact HX.out)⟩
        case measure => simp [intOf]; omega
      · obtain ⟨Y, hY⟩ : ∃ Y, 2 ^ s = Y := ⟨_, rfl⟩
        have e6 : ((2 : Int) ^ s) % 4294967296 = (Y : Int) := by
          have : ((2 : Int) ^ s) = ((2 ^ s : Nat) : Int) := by rw [Int.natCast_pow]; rfl
          rw [this, hY]
          rw [hY] at h2s
          omega
        rw [hY] at hp h2s
        have e7 : ((X : Int) + (Y : Int)) % 4294967296 = ((X + Y : Nat) : Int) := by omega
        have HY := box hY
        clear hY
        go_wp2
        go_round
        case rel => exact ⟨k + 1, X + Y, by omega, rfl, rfl, box (by rw [HN.out, HT.out, Nat.mul_one, Nat.add_mul, ← HX.out, ← HY.out, ← hs, Nat.pow_add, Nat.mul_comm (2 ^ low)])⟩
        case measure => simp [intOf]; omega
    · obtain rfl : k = n := by omega
      have d1 : decide ((k : Int) < (k : Int)) = false := decide_eq_false (by omega)
      have e0 : X = ptW low k v := HX.out
      subst e0
      go_wp2
      go_ret
      exact ⟨rfl, Below.refl _ _⟩
structure Hs where
  rd : Bool
  rs2 : Bool
  rs3 : Bool
  rm : Bool
  imm : Bool
  csr : Bool
deriving DecidableEq
def hsC (x : Hs) : Array Value := #[.bool x.rd, .bool x.rs2, .bool x.rs3, .bool x.rm, .bool x.imm, .bool x.csr]
theorem hsC_cells {w : World} {b : Nat} {x : Hs} {T : TypeId} (h : w.heap[b]? = some (.cells (hsC x) T)) : w.cell? ⟨b, 0, none⟩ = some (.bool x.rd) ∧ w.cell? ⟨b, 1, none⟩ = some (.bool x.rs2) ∧ w.cell? ⟨b, 2, none⟩ = some (.bool x.rs3) ∧ w.cell? ⟨b, 3, none⟩ = some (.bool x.rm) ∧ w.cell? ⟨b, 4, none⟩ = some (.bool x.imm) ∧ w.cell? ⟨b, 5, none⟩ = some (.bool x.csr) :=
  ⟨cell7 h 0 _ rfl, cell7 h 1 _ rfl, cell7 h 2 _ rfl, cell7 h 3 _ rfl, cell7 h 4 _ rfl, cell7 h 5 _ rfl⟩
theorem hsC_store {w : World} {b : Nat} {x : Hs} {c : Array Value} {T : TypeId} (h : w.heap[b]? = some (.cells c T)) (hc : c.size = 6) : (storeCells ⟨b, 0, none⟩ (hsC x).toList 0).run Tryd.prog w = .ok () (w.setRow b (hsC x)) := by
  have := run_storeCells_from (P := Tryd.prog) b T (hsC x).toList 0 c w h (by simp [hsC, hc]) (fun v hv => by
    simp [hsC] at hv
    rcases hv with rfl | rfl | rfl | rfl | rfl | rfl <;> rfl)
  have e : List.drop 6 c.toList = [] := List.drop_eq_nil_of_le (by rw [Array.length_toList, hc]; exact Nat.le_refl _)
  simpa [hsC, e] using this
theorem hsC_lv {w : World} {b : Nat} {x : Hs} {T : TypeId} (h : w.heap[b]? = some (.cells (hsC x) T)) : (loadVar 71 ⟨b, 0, none⟩).run Tryd.prog w = .ok (.agg (hsC x)) w := by
  have ha : (isAgg 71).run Tryd.prog w = .ok true w := by kernel_rfl
  have hs : (sizeOf 71).run Tryd.prog w = .ok 6 w := by kernel_rfl
  have q := run_loadCells_list (P := Tryd.prog) w ⟨b, 0, none⟩ (hsC x).toList (fun j v hv => by
    have hadd : (⟨b, 0, none⟩ : Addr).add j = ⟨b, j, none⟩ := by unfold Addr.add; split <;> simp_all
    rw [hadd]
    exact cell7 h j v (by simpa using hv))
  rw [Array.length_toList, show (hsC x).size = 6 from rfl] at q
  simp only [Sem.run_bind, Sem.run_pure, Result.andThen, loadVar, ha, hs, if_true, q]
theorem res_hsC {fn : Func} {z : Tmp} (h : fn.results = #[.cell z 71]) {tmps : Array Value} {w : World} {b : Nat} {x : Hs} {T : TypeId} (hz : tmps.getD z undef = .pointer (some ⟨b, 0, none⟩)) (hr : w.heap[b]? = some (.cells (hsC x) T)) : (results fn tmps).run Tryd.prog w = .ok (.agg (hsC x)) w := by
  have q := hsC_lv hr
  have hz2 : tmps[z]?.getD undef = .pointer (some ⟨b, 0, none⟩) := by rw [← Array.getD_eq_getD_getElem?]; exact hz
  simp [results, h, hz2, asAddr, q, Result.andThen]
theorem hsC_new (w : World) (b : Nat) (x : Hs) (hb : b = w.heap.size) : (storeCells ⟨b, 0, none⟩ (hsC x).toList 0).run Tryd.prog (w.alloc (.cells #[.bool false, .bool false, .bool false, .bool false, .bool false, .bool false] 71)) = .ok () (w.alloc (.cells (hsC x) 71)) := by
  subst hb
  exact run_storeCells_new (P := Tryd.prog) w 71 #[.bool false, .bool false, .bool false, .bool false, .bool false, .bool false] (hsC x) (by kernel_rfl) rfl (by simp [hsC]; exact ⟨rfl, rfl, rfl, rfl, rfl, rfl⟩)
def hsL (l : Nat) : Hs := if l = 1 then ⟨true, false, false, false, true, false⟩ else if l = 2 then ⟨false, true, false, false, true, false⟩ else if l = 3 then ⟨true, true, true, true, false, false⟩ else if l = 4 then ⟨true, true, false, true, false, false⟩ else if l = 5 then ⟨true, true, false, false, false, false⟩ else if l = 6 then ⟨true, false, false, true, false, false⟩ else if l = 8 then ⟨true, false, false, false, false, true⟩ else if l = 9 then ⟨true, false, false, false, false, true⟩ else ⟨true, false, false, false, false, false⟩
set_option maxRecDepth 100000 in
set_option maxHeartbeats 8000000 in
theorem b25_fields1 (l : Nat) (q1 : (((l : Nat) : Int) == 1) = true) (w : World) : Calls Tryd.prog 28 #[.int .u8 (l : Nat)] w fun r w' => r = .returned (.agg (hsC ⟨true, false, false, false, true, false⟩)) ∧ Below w.heap.size w w' := by
  have hf : #[Value.bool true, .bool false, .bool false, .bool false, .bool true, .bool false] = hsC ⟨true, false, false, false, true, false⟩ := rfl
  obtain ⟨Rz_0, B0⟩ := opn1 w (Obj.cells #[.bool false, .bool false, .bool false, .bool false, .bool false, .bool false] 71)
  go_enter Tryd.func28, Tryd.ntmps28
  have hst := hsC_store (x := ⟨true, false, false, false, true, false⟩) Rz_0 rfl
  have rz := setRow_row (c' := hsC ⟨true, false, false, false, true, false⟩) Rz_0
  have bz : Below w.heap.size w ((w.alloc (Obj.cells #[.bool false, .bool false, .bool false, .bool false, .bool false, .bool false] 71)).setRow (w.heap.size) (hsC ⟨true, false, false, false, true, false⟩)) := Below.setRow B0 (show w.heap.size ≤ w.heap.size by first | exact Nat.le_refl _ | omega | (skip; omega))
  obtain ⟨wz, hwz⟩ : ∃ V, (w.alloc (Obj.cells #[.bool false, .bool false, .bool false, .bool false, .bool false, .bool false] 71)).setRow (w.heap.size) (hsC ⟨true, false, false, false, true, false⟩) = V := ⟨_, rfl⟩
  rw [hwz] at hst rz bz
  clear hwz
  go_wp2
  exact bodyPost_ret (v := .agg (hsC ⟨true, false, false, false, true, false⟩)) (res_hsC Tryd.results28 rfl rz) rfl ⟨rfl, bz⟩
set_option maxRecDepth 100000 in
set_option maxHeartbeats 8000000 in
theorem b25_fields2 (l : Nat) (q1 : (((l : Nat) : Int) == 1) = false) (q2 : (((l : Nat) : Int) == 2) = true) (w : World) : Calls Tryd.prog 28 #[.int .u8 (l : Nat)] w fun r w' => r = .returned (.agg (hsC ⟨false, true, false, false, true, false⟩)) ∧ Below w.heap.size w w' := by
  have hf : #[Value.bool false, .bool true, .bool false, .bool false, .bool true, .bool false] = hsC ⟨false, true, false, false, true, false⟩ := rfl
  obtain ⟨Rz_0, B0⟩ := opn1 w (Obj.cells #[.bool false, .bool false, .bool false, .bool false, .bool false, .bool false] 71)
  go_enter Tryd.func28, Tryd.ntmps28
  have hst := hsC_store (x := ⟨false, true, false, false, true, false⟩) Rz_0 rfl
  have rz := setRow_row (c' := hsC ⟨false, true, false, false, true, false⟩) Rz_0
  have bz : Below w.heap.size w ((w.alloc (Obj.cells #[.bool false, .bool false, .bool false, .bool false, .bool false, .bool false] 71)).setRow (w.heap.size) (hsC ⟨false, true, false, false, true, false⟩)) := Below.setRow B0 (show w.heap.size ≤ w.heap.size by first | exact Nat.le_refl _ | omega | (skip; omega))
  obtain ⟨wz, hwz⟩ : ∃ V, (w.alloc (Obj.cells #[.bool false, .bool false, .bool false, .bool false, .bool false, .bool false] 71)).setRow (w.heap.size) (hsC ⟨false, true, false, false, true, false⟩) = V := ⟨_, rfl⟩
  rw [hwz] at hst rz bz
  clear hwz
  go_wp2
  exact bodyPost_ret (v := .agg (hsC ⟨false, true, false, false, true, false⟩)) (res_hsC Tryd.results28 rfl rz) rfl ⟨rfl, bz⟩
set_option maxRecDepth 100000 in
set_option maxHeartbeats 8000000 in
theorem b25_fields3 (l : Nat) (q1 : (((l : Nat) : Int) == 1) = false) (q2 : (((l : Nat) : Int) == 2) = false) (q3 : (((l : Nat) : Int) == 3) = true) (w : World) : Calls Tryd.prog 28 #[.int .u8 (l : Nat)] w fun r w' => r = .returned (.agg (hsC ⟨true, true, true, true, false, false⟩)) ∧ Below w.heap.size w w' := by
  have hf : #[Value.bool true, .bool true, .bool true, .bool true, .bool false, .bool false] = hsC ⟨true, true, true, true, false, false⟩ := rfl
  obtain ⟨Rz_0, B0⟩ := opn1 w (Obj.cells #[.bool false, .bool false, .bool false, .bool false, .bool false, .bool false] 71)
  go_enter Tryd.func28, Tryd.ntmps28
  have hst := hsC_store (x := ⟨true, true, true, true, false, false⟩) Rz_0 rfl
  have rz := setRow_row (c' := hsC ⟨true, true, true, true, false, false⟩) Rz_0
  have bz : Below w.heap.size w ((w.alloc (Obj.cells #[.bool false, .bool false, .bool false, .bool false, .bool false, .bool false] 71)).setRow (w.heap.size) (hsC ⟨true, true, true, true, false, false⟩)) := Below.setRow B0 (show w.heap.size ≤ w.heap.size by first | exact Nat.le_refl _ | omega | (skip; omega))
  obtain ⟨wz, hwz⟩ : ∃ V, (w.alloc (Obj.cells #[.bool false, .bool false, .bool false, .bool false, .bool false, .bool false] 71)).setRow (w.heap.size) (hsC ⟨true, true, true, true, false, false⟩) = V := ⟨_, rfl⟩
  rw [hwz] at hst rz bz
  clear hwz
  go_wp2
  exact bodyPost_ret (v := .agg (hsC ⟨true, true, true, true, false, false⟩)) (res_hsC Tryd.results28 rfl rz) rfl ⟨rfl, bz⟩
set_option maxRecDepth 100000 in
set_option maxHeartbeats 8000000 in
theorem b25_fields4 (l : Nat) (q1 : (((l : Nat) : Int) == 1) = false) (q2 : (((l : Nat) : Int) == 2) = false) (q3 : (((l : Nat) : Int) == 3) = false) (q4 : (((l : Nat) : Int) == 4) = true) (w : World) : Calls Tryd.prog 28 #[.int .u8 (l : Nat)] w fun r w' => r = .returned (.agg (hsC ⟨true, true, false, true, false, false⟩)) ∧ Below w.heap.size w w' := by
  have hf : #[Value.bool true, .bool true, .bool false, .bool true, .bool false, .bool false] = hsC ⟨true, true, false, true, false, false⟩ := rfl
  obtain ⟨Rz_0, B0⟩ := opn1 w (Obj.cells #[.bool false, .bool false, .bool false, .bool false, .bool false, .bool false] 71)
  go_enter Tryd.func28, Tryd.ntmps28
  have hst := hsC_store (x := ⟨true, true, false, true, false, false⟩) Rz_0 rfl
  have rz := setRow_row (c' := hsC ⟨true, true, false, true, false, false⟩) Rz_0
  have bz : Below w.heap.size w ((w.alloc (Obj.cells #[.bool false, .bool false, .bool false, .bool false, .bool false, .bool false] 71)).setRow (w.heap.size) (hsC ⟨true, true, false, true, false, false⟩)) := Below.setRow B0 (show w.heap.size ≤ w.heap.size by first | exact Nat.le_refl _ | omega | (skip; omega))
  obtain ⟨wz, hwz⟩ : ∃ V, (w.alloc (Obj.cells #[.bool false, .bool false, .bool false, .bool false, .bool false, .bool false] 71)).setRow (w.heap.size) (hsC ⟨true, true, false, true, false, false⟩) = V := ⟨_, rfl⟩
  rw [hwz] at hst rz bz
  clear hwz
  go_wp2
  exact bodyPost_ret (v := .agg (hsC ⟨true, true, false, true, false, false⟩)) (res_hsC Tryd.results28 rfl rz) rfl ⟨rfl, bz⟩
set_option maxRecDepth 100000 in
set_option maxHeartbeats 8000000 in
theorem b25_fields5 (l : Nat) (q1 : (((l : Nat) : Int) == 1) = false) (q2 : (((l : Nat) : Int) == 2) = false) (q3 : (((l : Nat) : Int) == 3) = false) (q4 : (((l : Nat) : Int) == 4) = false) (q5 : (((l : Nat) : Int) == 5) = true) (w : World) : Calls Tryd.prog 28 #[.int .u8 (l : Nat)] w fun r w' => r = .returned (.agg (hsC ⟨true, true, false, false, false, false⟩)) ∧ Below w.heap.size w w' := by
  have hf : #[Value.bool true, .bool true, .bool false, .bool false, .bool false, .bool false] = hsC ⟨true, true, false, false, false, false⟩ := rfl
  obtain ⟨Rz_0, B0⟩ := opn1 w (Obj.cells #[.bool false, .bool false, .bool false, .bool false, .bool false, .bool false] 71)
  go_enter Tryd.func28, Tryd.ntmps28
  have hst := hsC_store (x := ⟨true, true, false, false, false, false⟩) Rz_0 rfl
  have rz := setRow_row (c' := hsC ⟨true, true, false, false, false, false⟩) Rz_0
  have bz : Below w.heap.size w ((w.alloc (Obj.cells #[.bool false, .bool false, .bool false, .bool false, .bool false, .bool false] 71)).setRow (w.heap.size) (hsC ⟨true, true, false, false, false, false⟩)) := Below.setRow B0 (show w.heap.size ≤ w.heap.size by first | exact Nat.le_refl _ | omega | (skip; omega))
  obtain ⟨wz, hwz⟩ : ∃ V, (w.alloc (Obj.cells #[.bool false, .bool false, .bool false, .bool false, .bool false, .bool false] 71)).setRow (w.heap.size) (hsC ⟨true, true, false, false, false, false⟩) = V := ⟨_, rfl⟩
  rw [hwz] at hst rz bz
  clear hwz
  go_wp2
  exact bodyPost_ret (v := .agg (hsC ⟨true, true, false, false, false, false⟩)) (res_hsC Tryd.results28 rfl rz) rfl ⟨rfl, bz⟩
set_option maxRecDepth 100000 in
set_option maxHeartbeats 8000000 in
theorem b25_fields6 (l : Nat) (q1 : (((l : Nat) : Int) == 1) = false) (q2 : (((l : Nat) : Int) == 2) = false) (q3 : (((l : Nat) : Int) == 3) = false) (q4 : (((l : Nat) : Int) == 4) = false) (q5 : (((l : Nat) : Int) == 5) = false) (q6 : (((l : Nat) : Int) == 6) = true) (w : World) : Calls Tryd.prog 28 #[.int .u8 (l : Nat)] w fun r w' => r = .returned (.agg (hsC ⟨true, false, false, true, false, false⟩)) ∧ Below w.heap.size w w' := by
  have hf : #[Value.bool true, .bool false, .bool false, .bool true, .bool false, .bool false] = hsC ⟨true, false, false, true, false, false⟩ := rfl
  obtain ⟨Rz_0, B0⟩ := opn1 w (Obj.cells #[.bool false, .bool false, .bool false, .bool false, .bool false, .bool false] 71)
  go_enter Tryd.func28, Tryd.ntmps28
  have hst := hsC_store (x := ⟨true, false, false, true, false, false⟩) Rz_0 rfl
  have rz := setRow_row (c' := hsC ⟨true, false, false, true, false, false⟩) Rz_0
  have bz : Below w.heap.size w ((w.alloc (Obj.cells #[.bool false, .bool false, .bool false, .bool false, .bool false, .bool false] 71)).setRow (w.heap.size) (hsC ⟨true, false, false, true, false, false⟩)) := Below.setRow B0 (show w.heap.size ≤ w.heap.size by first | exact Nat.le_refl _ | omega | (skip; omega))
  obtain ⟨wz, hwz⟩ : ∃ V, (w.alloc (Obj.cells #[.bool false, .bool false, .bool false, .bool false, .bool false, .bool false] 71)).setRow (w.heap.size) (hsC ⟨true, false, false, true, false, false⟩) = V := ⟨_, rfl⟩
  rw [hwz] at hst rz bz
  clear hwz
  go_wp2
  exact bodyPost_ret (v := .agg (hsC ⟨true, false, false, true, false, false⟩)) (res_hsC Tryd.results28 rfl rz) rfl ⟨rfl, bz⟩
set_option maxRecDepth 100000 in
set_option maxHeartbeats 8000000 in
theorem b25_fields8 (l : Nat) (q1 : (((l : Nat) : Int) == 1) = false) (q2 : (((l : Nat) : Int) == 2) = false) (q3 : (((l : Nat) : Int) == 3) = false) (q4 : (((l : Nat) : Int) == 4) = false) (q5 : (((l : Nat) : Int) == 5) = false) (q6 : (((l : Nat) : Int) == 6) = false) (q8 : (((l : Nat) : Int) == 8) = true) (w : World) : Calls Tryd.prog 28 #[.int .u8 (l : Nat)] w fun r w' => r = .returned (.agg (hsC ⟨true, false, false, false, false, true⟩)) ∧ Below w.heap.size w w' := by
  have hf : #[Value.bool true, .bool false, .bool false, .bool false, .bool false, .bool true] = hsC ⟨true, false, false, false, false, true⟩ := rfl
  obtain ⟨Rz_0, B0⟩ := opn1 w (Obj.cells #[.bool false, .bool false, .bool false, .bool false, .bool false, .bool false] 71)
  go_enter Tryd.func28, Tryd.ntmps28
  have hst := hsC_store (x := ⟨true, false, false, false, false, true⟩) Rz_0 rfl
  have rz := setRow_row (c' := hsC ⟨true, false, false, false, false, true⟩) Rz_0
  have bz : Below w.heap.size w ((w.alloc (Obj.cells #[.bool false, .bool false, .bool false, .bool false, .bool false, .bool false] 71)).setRow (w.heap.size) (hsC ⟨true, false, false, false, false, true⟩)) := Below.setRow B0 (show w.heap.size ≤ w.heap.size by first | exact Nat.le_refl _ | omega | (skip; omega))
  obtain ⟨wz, hwz⟩ : ∃ V, (w.alloc (Obj.cells #[.bool false, .bool false, .bool false, .bool false, .bool false, .bool false] 71)).setRow (w.heap.size) (hsC ⟨true, false, false, false, false, true⟩) = V := ⟨_, rfl⟩
  rw [hwz] at hst rz bz
  clear hwz
  go_wp2
  exact bodyPost_ret (v := .agg (hsC ⟨true, false, false, false, false, true⟩)) (res_hsC Tryd.results28 rfl rz) rfl ⟨rfl, bz⟩
set_option maxRecDepth 100000 in
set_option maxHeartbeats 8000000 in
theorem b25_fields9 (l : Nat) (q1 : (((l : Nat) : Int) == 1) = false) (q2 : (((l : Nat) : Int) == 2) = false) (q3 : (((l : Nat) : Int) == 3) = false) (q4 : (((l : Nat) : Int) == 4) = false) (q5 : (((l : Nat) : Int) == 5) = false) (q6 : (((l : Nat) : Int) == 6) = false) (q8 : (((l : Nat) : Int) == 8) = false) (q9 : (((l : Nat) : Int) == 9) = true) (w : World) : Calls Tryd.prog 28 #[.int .u8 (l : Nat)] w fun r w' => r = .returned (.agg (hsC ⟨true, false, false, false, false, true⟩)) ∧ Below w.heap.size w w' := by
  have hf : #[Value.bool true, .bool false, .bool false, .bool false, .bool false, .bool true] = hsC ⟨true, false, false, false, false, true⟩ := rfl
  obtain ⟨Rz_0, B0⟩ := opn1 w (Obj.cells #[.bool false, .bool false, .bool false, .bool false, .bool false, .bool false] 71)
  go_enter Tryd.func28, Tryd.ntmps28
  have hst := hsC_store (x := ⟨true, false, false, false, false, true⟩) Rz_0 rfl
  have rz := setRow_row (c' := hsC ⟨true, false, false, false, false, true⟩) Rz_0
  have bz : Below w.heap.size w ((w.alloc (Obj.cells #[.bool false, .bool false, .bool false, .bool false, .bool false, .bool false] 71)).setRow (w.heap.size) (hsC ⟨true, false, false, false, false, true⟩)) := Below.setRow B0 (show w.heap.size ≤ w.heap.size by first | exact Nat.le_refl _ | omega | (skip; omega))
  obtain ⟨wz, hwz⟩ : ∃ V, (w.alloc (Obj.cells #[.bool false, .bool false, .bool false, .bool false, .bool false, .bool false] 71)).setRow (w.heap.size) (hsC ⟨true, false, false, false, false, true⟩) = V := ⟨_, rfl⟩
  rw [hwz] at hst rz bz
  clear hwz
  go_wp2
  exact bodyPost_ret (v := .agg (hsC ⟨true, false, false, false, false, true⟩)) (res_hsC Tryd.results28 rfl rz) rfl ⟨rfl, bz⟩
set_option maxRecDepth 100000 in
set_option maxHeartbeats 8000000 in
theorem b25_fields0 (l : Nat) (q1 : (((l : Nat) : Int) == 1) = false) (q2 : (((l : Nat) : Int) == 2) = false) (q3 : (((l : Nat) : Int) == 3) = false) (q4 : (((l : Nat) : Int) == 4) = false) (q5 : (((l : Nat) : Int) == 5) = false) (q6 : (((l : Nat) : Int) == 6) = false) (q8 : (((l : Nat) : Int) == 8) = false) (q9 : (((l : Nat) : Int) == 9) = false) (w : World) : Calls Tryd.prog 28 #[.int .u8 (l : Nat)] w fun r w' => r = .returned (.agg (hsC ⟨true, false, false, false, false, false⟩)) ∧ Below w.heap.size w w' := by
  have hf : #[Value.bool true, .bool false, .bool false, .bool false, .bool false, .bool false] = hsC ⟨true, false, false, false, false, false⟩ := rfl
  obtain ⟨Rz_0, B0⟩ := opn1 w (Obj.cells #[.bool false, .bool false, .bool false, .bool false, .bool false, .bool false] 71)
  go_enter Tryd.func28, Tryd.ntmps28
  have hst := hsC_store (x := ⟨true, false, false, false, false, false⟩) Rz_0 rfl
  have rz := setRow_row (c' := hsC ⟨true, false, false, false, false, false⟩) Rz_0
  have bz : Below w.heap.size w ((w.alloc (Obj.cells #[.bool false, .bool false, .bool false, .bool false, .bool false, .bool false] 71)).setRow (w.heap.size) (hsC ⟨true, false, false, false, false, false⟩)) := Below.setRow B0 (show w.heap.size ≤ w.heap.size by first | exact Nat.le_refl _ | omega | (skip; omega))
  obtain ⟨wz, hwz⟩ : ∃ V, (w.alloc (Obj.cells #[.bool false, .bool false, .bool false, .bool false, .bool false, .bool false] 71)).setRow (w.heap.size) (hsC ⟨true, false, false, false, false, false⟩) = V := ⟨_, rfl⟩
  rw [hwz] at hst rz bz
  clear hwz
  go_wp2
  exact bodyPost_ret (v := .agg (hsC ⟨true, false, false, false, false, false⟩)) (res_hsC Tryd.results28 rfl rz) rfl ⟨rfl, bz⟩
theorem rFl25 (l : Nat) (w : World) : Calls Tryd.prog 28 #[.int .u8 (l : Nat)] w fun r w' => r = .returned (.agg (hsC (hsL l))) ∧ Below w.heap.size w w' := by
  have tt : ∀ j : Nat, l = j → (((l : Nat) : Int) == ((j : Nat) : Int)) = true := fun j h => beq_iff_eq.2 (by omega)
  have ff : ∀ j : Nat, l ≠ j → (((l : Nat) : Int) == ((j : Nat) : Int)) = false := fun j h => beq_eq_false_iff_ne.2 (by omega)
  unfold hsL
  by_cases c1 : l = 1
  · rw [if_pos c1]
    exact b25_fields1 l  (tt 1 c1) w
  rw [if_neg c1]
  by_cases c2 : l = 2
  · rw [if_pos c2]
    exact b25_fields2 l (ff 1 c1) (tt 2 c2) w
  rw [if_neg c2]
  by_cases c3 : l = 3
  · rw [if_pos c3]
    exact b25_fields3 l (ff 1 c1) (ff 2 c2) (tt 3 c3) w
  rw [if_neg c3]
  by_cases c4 : l = 4
  · rw [if_pos c4]
    exact b25_fields4 l (ff 1 c1) (ff 2 c2) (ff 3 c3) (tt 4 c4) w
  rw [if_neg c4]
  by_cases c5 : l = 5
  · rw [if_pos c5]
    exact b25_fields5 l (ff 1 c1) (ff 2 c2) (ff 3 c3) (ff 4 c4) (tt 5 c5) w
  rw [if_neg c5]
  by_cases c6 : l = 6
  · rw [if_pos c6]
    exact b25_fields6 l (ff 1 c1) (ff 2 c2) (ff 3 c3) (ff 4 c4) (ff 5 c5) (tt 6 c6) w
  rw [if_neg c6]
  by_cases c8 : l = 8
  · rw [if_pos c8]
    exact b25_fields8 l (ff 1 c1) (ff 2 c2) (ff 3 c3) (ff 4 c4) (ff 5 c5) (ff 6 c6) (tt 8 c8) w
  rw [if_neg c8]
  by_cases c9 : l = 9
  · rw [if_pos c9]
    exact b25_fields9 l (ff 1 c1) (ff 2 c2) (ff 3 c3) (ff 4 c4) (ff 5 c5) (ff 6 c6) (ff 8 c8) (tt 9 c9) w
  rw [if_neg c9]
  exact b25_fields0 l (ff 1 c1) (ff 2 c2) (ff 3 c3) (ff 4 c4) (ff 5 c5) (ff 6 c6) (ff 8 c8) (ff 9 c9) w
def mkL (l : Nat) : Nat := if l = 1 then 4294938496 else if l = 2 then 4294938496 else if l = 3 then 4194303872 else if l = 4 then 33554304 else if l = 5 then 33525632 else if l = 6 then 1048448 else if l = 7 then 1019776 else if l = 8 then 4294938496 else 4294938496
def inCE (r q : In) : Bool := (((r.op : Nat) : Int) == ((q.op : Nat) : Int)) && (((r.form : Nat) : Int) == ((q.form : Nat) : Int)) && (((r.frm : Nat) : Int) == ((q.frm : Nat) : Int)) && (((r.kind : Nat) : Int) == ((q.kind : Nat) : Int)) && (((r.rd : Nat) : Int) == ((q.rd : Nat) : Int)) && (((r.rs1 : Nat) : Int) == ((q.rs1 : Nat) : Int)) && (((r.rs2 : Nat) : Int) == ((q.rs2 : Nat) : Int)) && (((r.rs3 : Nat) : Int) == ((q.rs3 : Nat) : Int)) && (((r.rm : Nat) : Int) == ((q.rm : Nat) : Int)) && (r.imm == q.imm) && (((r.csr : Nat) : Int) == ((q.csr : Nat) : Int))
theorem inCE_is (r q : In) : inCE r q = decide (r = q) := by
  unfold inCE
  rw [Bool.eq_iff_iff, decide_eq_true_iff]
  simp only [Bool.and_eq_true, beq_iff_eq]
  constructor
  · intro h
    cases r; cases q
    simp only at h
    simp only [In.mk.injEq]
    omega
  · rintro rfl
    simp
set_option maxRecDepth 100000 in
theorem eqin (r q : In) (w : World) : (Op.equalIn 10000 27 (.agg (inC r)) (.agg (inC q))).run Tryd.prog w = .ok (inCE r q) w := by
  have q0 : ∀ (r : In), (part 22 (inC r) 0).run Tryd.prog w = .ok (.int .u8 ((r.op : Nat) : Int)) w := fun r => by kernel_rfl
  have i0 : (Op.equalIn 9999 22 (.int .u8 ((r.op : Nat) : Int)) (.int .u8 ((q.op : Nat) : Int))).run Tryd.prog w = .ok (((r.op : Nat) : Int) == ((q.op : Nat) : Int)) w := run_equalIn_int w 9998 22 .u8 .u8 _ _ Tryd.underlying22
  have n0 : ("Op" = "_") = False := by simp
  have q1 : ∀ (r : In), (part 23 (inC r) 1).run Tryd.prog w = .ok (.int .u8 ((r.form : Nat) : Int)) w := fun r => by kernel_rfl
  have i1 : (Op.equalIn 9999 23 (.int .u8 ((r.form : Nat) : Int)) (.int .u8 ((q.form : Nat) : Int))).run Tryd.prog w = .ok (((r.form : Nat) : Int) == ((q.form : Nat) : Int)) w := run_equalIn_int w 9998 23 .u8 .u8 _ _ Tryd.underlying23
  have n1 : ("Form" = "_") = False := by simp
  have q2 : ∀ (r : In), (part 23 (inC r) 2).run Tryd.prog w = .ok (.int .u8 ((r.frm : Nat) : Int)) w := fun r => by kernel_rfl
  have i2 : (Op.equalIn 9999 23 (.int .u8 ((r.frm : Nat) : Int)) (.int .u8 ((q.frm : Nat) : Int))).run Tryd.prog w = .ok (((r.frm : Nat) : Int) == ((q.frm : Nat) : Int)) w := run_equalIn_int w 9998 23 .u8 .u8 _ _ Tryd.underlying23
  have n2 : ("From" = "_") = False := by simp
  have q3 : ∀ (r : In), (part 24 (inC r) 3).run Tryd.prog w = .ok (.int .u8 ((r.kind : Nat) : Int)) w := fun r => by kernel_rfl
  have i3 : (Op.equalIn 9999 24 (.int .u8 ((r.kind : Nat) : Int)) (.int .u8 ((q.kind : Nat) : Int))).run Tryd.prog w = .ok (((r.kind : Nat) : Int) == ((q.kind : Nat) : Int)) w := run_equalIn_int w 9998 24 .u8 .u8 _ _ Tryd.underlying24
  have n3 : ("Kind" = "_") = False := by simp
  have q4 : ∀ (r : In), (part 5 (inC r) 4).run Tryd.prog w = .ok (.int .u8 ((r.rd : Nat) : Int)) w := fun r => by kernel_rfl
  have i4 : (Op.equalIn 9999 5 (.int .u8 ((r.rd : Nat) : Int)) (.int .u8 ((q.rd : Nat) : Int))).run Tryd.prog w = .ok (((r.rd : Nat) : Int) == ((q.rd : Nat) : Int)) w := run_equalIn_int w 9998 5 .u8 .u8 _ _ Tryd.underlying5
  have n4 : ("Rd" = "_") = False := by simp
  have q5 : ∀ (r : In), (part 5 (inC r) 5).run Tryd.prog w = .ok (.int .u8 ((r.rs1 : Nat) : Int)) w := fun r => by kernel_rfl
  have i5 : (Op.equalIn 9999 5 (.int .u8 ((r.rs1 : Nat) : Int)) (.int .u8 ((q.rs1 : Nat) : Int))).run Tryd.prog w = .ok (((r.rs1 : Nat) : Int) == ((q.rs1 : Nat) : Int)) w := run_equalIn_int w 9998 5 .u8 .u8 _ _ Tryd.underlying5
  have n5 : ("Rs1" = "_") = False := by simp
  have q6 : ∀ (r : In), (part 5 (inC r) 6).run Tryd.prog w = .ok (.int .u8 ((r.rs2 : Nat) : Int)) w := fun r => by kernel_rfl
  have i6 : (Op.equalIn 9999 5 (.int .u8 ((r.rs2 : Nat) : Int)) (.int .u8 ((q.rs2 : Nat) : Int))).run Tryd.prog w = .ok (((r.rs2 : Nat) : Int) == ((q.rs2 : Nat) : Int)) w := run_equalIn_int w 9998 5 .u8 .u8 _ _ Tryd.underlying5
  have n6 : ("Rs2" = "_") = False := by simp
  have q7 : ∀ (r : In), (part 5 (inC r) 7).run Tryd.prog w = .ok (.int .u8 ((r.rs3 : Nat) : Int)) w := fun r => by kernel_rfl
  have i7 : (Op.equalIn 9999 5 (.int .u8 ((r.rs3 : Nat) : Int)) (.int .u8 ((q.rs3 : Nat) : Int))).run Tryd.prog w = .ok (((r.rs3 : Nat) : Int) == ((q.rs3 : Nat) : Int)) w := run_equalIn_int w 9998 5 .u8 .u8 _ _ Tryd.underlying5
  have n7 : ("Rs3" = "_") = False := by simp
  have q8 : ∀ (r : In), (part 5 (inC r) 8).run Tryd.prog w = .ok (.int .u8 ((r.rm : Nat) : Int)) w := fun r => by kernel_rfl
  have i8 : (Op.equalIn 9999 5 (.int .u8 ((r.rm : Nat) : Int)) (.int .u8 ((q.rm : Nat) : Int))).run Tryd.prog w = .ok (((r.rm : Nat) : Int) == ((q.rm : Nat) : Int)) w := run_equalIn_int w 9998 5 .u8 .u8 _ _ Tryd.underlying5
  have n8 : ("Rm" = "_") = False := by simp
  have q9 : ∀ (r : In), (part 25 (inC r) 9).run Tryd.prog w = .ok (.int .i16 r.imm) w := fun r => by kernel_rfl
  have i9 : (Op.equalIn 9999 25 (.int .i16 r.imm) (.int .i16 q.imm)).run Tryd.prog w = .ok (r.imm == q.imm) w := run_equalIn_int w 9998 25 .i16 .i16 _ _ Tryd.underlying25
  have n9 : ("Imm" = "_") = False := by simp
  have q10 : ∀ (r : In), (part 5 (inC r) 10).run Tryd.prog w = .ok (.int .u8 ((r.csr : Nat) : Int)) w := fun r => by kernel_rfl
  have i10 : (Op.equalIn 9999 5 (.int .u8 ((r.csr : Nat) : Int)) (.int .u8 ((q.csr : Nat) : Int))).run Tryd.prog w = .ok (((r.csr : Nat) : Int) == ((q.csr : Nat) : Int)) w := run_equalIn_int w 9998 5 .u8 .u8 _ _ Tryd.underlying5
  have n10 : ("Csr" = "_") = False := by simp
  have st : Tryd.prog.stoodInHeld 27 = false := by kernel_rfl
  rw [show (10000 : Nat) = 9999 + 1 from rfl]
  unfold Op.equalIn
  simp only [Sem.run_bind, run_underlying Tryd.underlying27, Result.andThen_ok]
  rw [show (Sem.run Tryd.prog program w) = .ok Tryd.prog w from rfl]
  simp only [Result.andThen_ok, st, Bool.false_eq_true, if_false]
  have fo : ∀ (l : List Field) (b : Field → (Option Bool × Unit) → Sem (ForInStep (Option Bool × Unit))), (forIn l.toArray (none, ()) b : Sem (Option Bool × Unit)) = forIn l (none, ()) b := fun l b => by simp
  simp only [fo, List.forIn_cons, List.forIn_nil, ne_eq, n0, n1, n2, n3, n4, n5, n6, n7, n8, n9, n10, not_false_eq_true, if_true]
  unfold inCE
  obtain ⟨b0, h0⟩ : ∃ x, (((r.op : Nat) : Int) == ((q.op : Nat) : Int)) = x := ⟨_, rfl⟩
  rw [h0] at i0
  obtain ⟨b1, h1⟩ : ∃ x, (((r.form : Nat) : Int) == ((q.form : Nat) : Int)) = x := ⟨_, rfl⟩
  rw [h1] at i1
  obtain ⟨b2, h2⟩ : ∃ x, (((r.frm : Nat) : Int) == ((q.frm : Nat) : Int)) = x := ⟨_, rfl⟩
  rw [h2] at i2
  obtain ⟨b3, h3⟩ : ∃ x, (((r.kind : Nat) : Int) == ((q.kind : Nat) : Int)) = x := ⟨_, rfl⟩
  rw [h3] at i3
  obtain ⟨b4, h4⟩ : ∃ x, (((r.rd : Nat) : Int) == ((q.rd : Nat) : Int)) = x := ⟨_, rfl⟩
  rw [h4] at i4
  obtain ⟨b5, h5⟩ : ∃ x, (((r.rs1 : Nat) : Int) == ((q.rs1 : Nat) : Int)) = x := ⟨_, rfl⟩
  rw [h5] at i5
  obtain ⟨b6, h6⟩ : ∃ x, (((r.rs2 : Nat) : Int) == ((q.rs2 : Nat) : Int)) = x := ⟨_, rfl⟩
  rw [h6] at i6
  obtain ⟨b7, h7⟩ : ∃ x, (((r.rs3 : Nat) : Int) == ((q.rs3 : Nat) : Int)) = x := ⟨_, rfl⟩
  rw [h7] at i7
  obtain ⟨b8, h8⟩ : ∃ x, (((r.rm : Nat) : Int) == ((q.rm : Nat) : Int)) = x := ⟨_, rfl⟩
  rw [h8] at i8
  obtain ⟨b9, h9⟩ : ∃ x, (r.imm == q.imm) = x := ⟨_, rfl⟩
  rw [h9] at i9
  obtain ⟨b10, h10⟩ : ∃ x, (((r.csr : Nat) : Int) == ((q.csr : Nat) : Int)) = x := ⟨_, rfl⟩
  rw [h10] at i10
  rw [h0, h1, h2, h3, h4, h5, h6, h7, h8, h9, h10]
  cases b0
  · simp only [Sem.run_bind, Sem.run_pure, Result.andThen_ok, Bool.not_false, Bool.not_true, Bool.false_eq_true, if_false, if_true, Bool.false_and, Bool.true_and, q0, i0]
  cases b1
  · simp only [Sem.run_bind, Sem.run_pure, Result.andThen_ok, Bool.not_false, Bool.not_true, Bool.false_eq_true, if_false, if_true, Bool.false_and, Bool.true_and, q0, i0, q1, i1]
  cases b2
  · simp only [Sem.run_bind, Sem.run_pure, Result.andThen_ok, Bool.not_false, Bool.not_true, Bool.false_eq_true, if_false, if_true, Bool.false_and, Bool.true_and, q0, i0, q1, i1, q2, i2]
  cases b3
  · simp only [Sem.run_bind, Sem.run_pure, Result.andThen_ok, Bool.not_false, Bool.not_true, Bool.false_eq_true, if_false, if_true, Bool.false_and, Bool.true_and, q0, i0, q1, i1, q2, i2, q3, i3]
  cases b4
  · simp only [Sem.run_bind, Sem.run_pure, Result.andThen_ok, Bool.not_false, Bool.not_true, Bool.false_eq_true, if_false, if_true, Bool.false_and, Bool.true_and, q0, i0, q1, i1, q2, i2, q3, i3, q4, i4]
  cases b5
  · simp only [Sem.run_bind, Sem.run_pure, Result.andThen_ok, Bool.not_false, Bool.not_true, Bool.false_eq_true, if_false, if_true, Bool.false_and, Bool.true_and, q0, i0, q1, i1, q2, i2, q3, i3, q4, i4, q5, i5]
  cases b6
  · simp only [Sem.run_bind, Sem.run_pure, Result.andThen_ok, Bool.not_false, Bool.not_true, Bool.false_eq_true, if_false, if_true, Bool.false_and, Bool.true_and, q0, i0, q1, i1, q2, i2, q3, i3, q4, i4, q5, i5, q6, i6]
  cases b7
  · simp only [Sem.run_bind, Sem.run_pure, Result.andThen_ok, Bool.not_false, Bool.not_true, Bool.false_eq_true, if_false, if_true, Bool.false_and, Bool.true_and, q0, i0, q1, i1, q2, i2, q3, i3, q4, i4, q5, i5, q6, i6, q7, i7]
  cases b8
  · simp only [Sem.run_bind, Sem.run_pure, Result.andThen_ok, Bool.not_false, Bool.not_true, Bool.false_eq_true, if_false, if_true, Bool.false_and, Bool.true_and, q0, i0, q1, i1, q2, i2, q3, i3, q4, i4, q5, i5, q6, i6, q7, i7, q8, i8]
  cases b9
  · simp only [Sem.run_bind, Sem.run_pure, Result.andThen_ok, Bool.not_false, Bool.not_true, Bool.false_eq_true, if_false, if_true, Bool.false_and, Bool.true_and, q0, i0, q1, i1, q2, i2, q3, i3, q4, i4, q5, i5, q6, i6, q7, i7, q8, i8, q9, i9]
  cases b10
  · simp only [Sem.run_bind, Sem.run_pure, Result.andThen_ok, Bool.not_false, Bool.not_true, Bool.false_eq_true, if_false, if_true, Bool.false_and, Bool.true_and, q0, i0, q1, i1, q2, i2, q3, i3, q4, i4, q5, i5, q6, i6, q7, i7, q8, i8, q9, i9, q10, i10]
  simp only [Sem.run_bind, Sem.run_pure, Result.andThen_ok, Bool.not_false, Bool.not_true, Bool.false_eq_true, if_false, if_true, Bool.false_and, Bool.true_and, q0, i0, q1, i1, q2, i2, q3, i3, q4, i4, q5, i5, q6, i6, q7, i7, q8, i8, q9, i9, q10, i10]
theorem fld_bit {v w lo n k : Nat} (h : fld v lo n = fld w lo n) (h1 : lo ≤ k) (h2 : k < lo + n) : v.testBit k = w.testBit k := by
  have e := congrArg (Nat.testBit · (k - lo)) h
  unfold fld at e
  simp only [Nat.testBit_mod_two_pow, Nat.testBit_div_two_pow] at e
  rw [show k - lo + lo = k by omega] at e
  have d : decide (k - lo < n) = true := decide_eq_true (by omega)
  simpa only [d, Bool.true_and] using e
theorem xor32u (a b : Nat) (ha : a < 4294967296) (hb : b < 4294967296) : bits .xor .u32 (a : Int) (b : Int) = ((a ^^^ b : Nat) : Int) ∧ a ^^^ b < 4294967296 := by
  have hx : a ^^^ b < 4294967296 := Nat.xor_lt_two_pow (n := 32) ha hb
  have h1 : (BitVec.ofInt 32 (a : Int)).toNat = a := by
    rw [BitVec.ofInt_natCast, BitVec.toNat_ofNat]; exact Nat.mod_eq_of_lt ha
  have h2 : (BitVec.ofInt 32 (b : Int)).toNat = b := by
    rw [BitVec.ofInt_natCast, BitVec.toNat_ofNat]; exact Nat.mod_eq_of_lt hb
  refine ⟨?_, hx⟩
  show IntKind.u32.wrap ((BitVec.ofInt 32 (a : Int) ^^^ BitVec.ofInt 32 (b : Int)).toNat : Int) = _
  rw [BitVec.toNat_xor, h1, h2, show ∀ y : Int, IntKind.u32.wrap y = y % 4294967296 from fun _ => rfl]
  omega

def InOk (x : In) : Prop := x.op < 256 ∧ x.form < 256 ∧ x.frm < 256 ∧ x.kind < 256 ∧ x.rd < 256 ∧ x.rs1 < 256 ∧ x.rs2 < 256 ∧ x.rs3 < 256 ∧ x.rm < 256 ∧ -32768 ≤ x.imm ∧ x.imm < 32768 ∧ x.csr < 256
end Go.Proofs.YtaoccmopfflkmaaDoor
namespace Go.Proofs.YtaoccmopfflkmaaDoor
set_option maxRecDepth 100000
set_option maxHeartbeats 40000000
set_option maxRecDepth 100000
open WMath
open Go.ChangeShapes Go.WideShapes Go.ChangeAt Go.RowKit
set_option linter.unusedVariables false
theorem nat_u8l {x : Int} (h : (Lit.int .u8 x).wf = true) : ∃ n : Nat, n < 256 ∧ x = (n : Int) := by
  have hb := bounds_u8 h
  obtain ⟨n, rfl⟩ := Int.eq_ofNat_of_zero_le hb.1
  exact ⟨n, by omega, rfl⟩
theorem list11l {α : Type} (l : List α) (h : l.length = 11) : ∃ c0 c1 c2 c3 c4 c5 c6 c7 c8 c9 c10, l = [c0, c1, c2, c3, c4, c5, c6, c7, c8, c9, c10] := by
  match l, h with
  | [c0, c1, c2, c3, c4, c5, c6, c7, c8, c9, c10], _ => exact ⟨c0, c1, c2, c3, c4, c5, c6, c7, c8, c9, c10, rfl⟩
theorem trod_s11 {H : Type} {enc : TypeId × Value → H} {P : Program} {w : World} {base : Nat} {spare : Nat → Bool} {held : Bool} {t : TypeId} {f0 f1 f2 f3 f4 f5 f6 f7 f8 f9 f10 : Field} {fuel : Nat} {cs : List Value} {x : DataW H × List MemPlace} (ht : P.underlying t = some (.struct #[f0, f1, f2, f3, f4, f5, f6, f7, f8, f9, f10])) (h : DataW.trod enc P w base spare held fuel t cs = some x) :
    ∃ y0 y1 y2 y3 y4 y5 y6 y7 y8 y9 y10 n, cs.length = P.cellsOf t ∧ DataW.trod enc P w base spare held n f0.type ((cs.drop f0.offset).take (P.cellsOf f0.type)) = some y0 ∧ DataW.trod enc P w base spare held n f1.type ((cs.drop f1.offset).take (P.cellsOf f1.type)) = some y1 ∧ DataW.trod enc P w base spare held n f2.type ((cs.drop f2.offset).take (P.cellsOf f2.type)) = some y2 ∧ DataW.trod enc P w base spare held n f3.type ((cs.drop f3.offset).take (P.cellsOf f3.type)) = some y3 ∧ DataW.trod enc P w base spare held n f4.type ((cs.drop f4.offset).take (P.cellsOf f4.type)) = some y4 ∧ DataW.trod enc P w base spare held n f5.type ((cs.drop f5.offset).take (P.cellsOf f5.type)) = some y5 ∧ DataW.trod enc P w base spare held n f6.type ((cs.drop f6.offset).take (P.cellsOf f6.type)) = some y6 ∧ DataW.trod enc P w base spare held n f7.type ((cs.drop f7.offset).take (P.cellsOf f7.type)) = some y7 ∧ DataW.trod enc P w base spare held n f8.type ((cs.drop f8.offset).take (P.cellsOf f8.type)) = some y8 ∧ DataW.trod enc P w base spare held n f9.type ((cs.drop f9.offset).take (P.cellsOf f9.type)) = some y9 ∧ DataW.trod enc P w base spare held n f10.type ((cs.drop f10.offset).take (P.cellsOf f10.type)) = some y10 := by
  obtain ⟨xs, n, _, rfl, hl, hlen, hf⟩ := DataW.trod_struct ht h
  match xs, hlen with
  | [y0, y1, y2, y3, y4, y5, y6, y7, y8, y9, y10], _ => exact ⟨y0, y1, y2, y3, y4, y5, y6, y7, y8, y9, y10, n, hl, by simpa using hf 0 f0 rfl, by simpa using hf 1 f1 rfl, by simpa using hf 2 f2 rfl, by simpa using hf 3 f3 rfl, by simpa using hf 4 f4 rfl, by simpa using hf 5 f5 rfl, by simpa using hf 6 f6 rfl, by simpa using hf 7 f7 rfl, by simpa using hf 8 f8 rfl, by simpa using hf 9 f9 rfl, by simpa using hf 10 f10 rfl⟩
theorem rd_in {H : Type} {enc : TypeId × Value → H} {w : World} {base : Nat} {spare : Nat → Bool} {held : Bool} {fuel : Nat} {cs : List Value} {x : DataW H × List MemPlace}
    (h : DataW.trod enc Tryd.prog w base spare held fuel 27 cs = some x) : ∃ r : In, InOk r ∧ cs = (inC r).toList := by
  have hc : Tryd.prog.cellsOf 27 = 11 := by kernel_rfl
  have hF : Tryd.prog.cellsOf 23 = 1 := by kernel_rfl
  have hK : Tryd.prog.cellsOf 24 = 1 := by kernel_rfl
  have hOp : Tryd.prog.cellsOf 22 = 1 := by kernel_rfl
  have hi16 : Tryd.prog.cellsOf 25 = 1 := by kernel_rfl
  have hu8 : Tryd.prog.cellsOf 5 = 1 := by kernel_rfl
  obtain ⟨y0, y1, y2, y3, y4, y5, y6, y7, y8, y9, y10, n, hl, g0, g1, g2, g3, g4, g5, g6, g7, g8, g9, g10⟩ := trod_s11 Tryd.underlying27 h
  rw [hc] at hl
  obtain ⟨c0, c1, c2, c3, c4, c5, c6, c7, c8, c9, c10, rfl⟩ := list11l cs hl
  simp only [hF, hK, hOp, hi16, hu8, List.drop_succ_cons, List.drop_zero, List.take_succ_cons, List.take_zero] at g0 g1 g2 g3 g4 g5 g6 g7 g8 g9 g10
  obtain ⟨x0, e0, _, w0⟩ := DataW.trod_int Tryd.underlying22 g0
  obtain ⟨x1, e1, _, w1⟩ := DataW.trod_int Tryd.underlying23 g1
  obtain ⟨x2, e2, _, w2⟩ := DataW.trod_int Tryd.underlying23 g2
  obtain ⟨x3, e3, _, w3⟩ := DataW.trod_int Tryd.underlying24 g3
  obtain ⟨x4, e4, _, w4⟩ := DataW.trod_int Tryd.underlying5 g4
  obtain ⟨x5, e5, _, w5⟩ := DataW.trod_int Tryd.underlying5 g5
  obtain ⟨x6, e6, _, w6⟩ := DataW.trod_int Tryd.underlying5 g6
  obtain ⟨x7, e7, _, w7⟩ := DataW.trod_int Tryd.underlying5 g7
  obtain ⟨x8, e8, _, w8⟩ := DataW.trod_int Tryd.underlying5 g8
  obtain ⟨x9, e9, _, w9⟩ := DataW.trod_int Tryd.underlying25 g9
  obtain ⟨x10, e10, _, w10⟩ := DataW.trod_int Tryd.underlying5 g10
  obtain ⟨a0, b0, rfl⟩ := nat_u8l w0
  obtain ⟨a1, b1, rfl⟩ := nat_u8l w1
  obtain ⟨a2, b2, rfl⟩ := nat_u8l w2
  obtain ⟨a3, b3, rfl⟩ := nat_u8l w3
  obtain ⟨a4, b4, rfl⟩ := nat_u8l w4
  obtain ⟨a5, b5, rfl⟩ := nat_u8l w5
  obtain ⟨a6, b6, rfl⟩ := nat_u8l w6
  obtain ⟨a7, b7, rfl⟩ := nat_u8l w7
  obtain ⟨a8, b8, rfl⟩ := nat_u8l w8
  obtain ⟨a10, b10, rfl⟩ := nat_u8l w10
  have b9 := bounds_i16 w9
  simp at e0 e1 e2 e3 e4 e5 e6 e7 e8 e9 e10
  subst e0 e1 e2 e3 e4 e5 e6 e7 e8 e9 e10
  exact ⟨⟨a0, a1, a2, a3, a4, a5, a6, a7, a8, x9, a10⟩, ⟨b0, b1, b2, b3, b4, b5, b6, b7, b8, b9.1, by show x9 < 32768; omega, b10⟩, rfl⟩
def InAt (v : Value) : Prop := ∃ r : In, InOk r ∧ v = .agg (inC r)
theorem open_in {H : Type} {enc : TypeId × Value → H} {w : World} {base b : Nat} {spare : Nat → Bool} {held : Bool} {v : Value} {d : DataW H} {p : List MemPlace}
    (hok : Value.okWide Tryd.prog w .any base 27 v) (h : DataW.Trod enc Tryd.prog w b spare held 27 v d p) : InAt v := by
  obtain ⟨cs, rfl, hsz⟩ := okWide_struct Tryd.underlying27 hok
  obtain ⟨fuel, hf⟩ := h
  obtain ⟨r, hr, e⟩ := rd_in hf
  refine ⟨r, hr, ?_⟩
  congr 1
  apply Array.toList_inj.1
  simpa [Value.cells] using e
end Go.Proofs.YtaoccmopfflkmaaDoor
namespace Go.Proofs.YtaoccmopfflkmaaDoor
set_option maxRecDepth 100000
set_option maxHeartbeats 40000000
set_option maxRecDepth 100000
open Go.RowKit WMath
set_option linter.unusedSimpArgs false
set_option linter.unusedVariables false
theorem and_low5 (y : Nat) (hy : y < 4294967296) : bits .and .u32 ((y : Nat) : Int) 31 = ((y % 32 : Nat) : Int) := by
  have q := and32t y 31 hy (by decide)
  rw [Nat.and_two_pow_sub_one_eq_mod y 5] at q
  exact q
def Rd (b : Nat) (T : TypeId) (j : In) (w : World) (r : Ending) (w' : World) : Prop := (∃ v, r = .returned v) ∧ w'.heap[b]? = some (.cells (inC j) T) ∧ ∀ n, n ≤ b → Below n w w'
end Go.Proofs.YtaoccmopfflkmaaDoor
namespace Go.Proofs.YtaoccmopfflkmaaDoor
set_option maxRecDepth 100000
set_option maxHeartbeats 40000000
set_option maxRecDepth 100000
open Go.RowKit Go.Shelf WMath
set_option linter.unusedSimpArgs false
set_option linter.unusedVariables false
theorem hE25 : ∀ args w, (callFunc 48 args).run Tryd.prog w = .ok (.enter 48 args) w := enters_of Tryd.func48 (by kernel_rfl) rfl
theorem fb25 : Box (∀ {w w' : World}, T24 w → Below w.heap.size w w' → T24 w') := box (fun h b => t24B h b)
theorem cF25 (x : Nat) (hx : x < 4294967296) : Box (∀ w, T24 w → Calls Tryd.prog 29 #[.int .u32 (x : Nat)] w fun r w' => r = .returned (.tuple #[.agg (rwC (ndO (fdL x)).1), .bool (fdL x).isSome]) ∧ Below w.heap.size w w') := box (fun w hT => t_find x hx hE25 _ _ rfl w hT)
end Go.Proofs.YtaoccmopfflkmaaDoor
