/-
  What the functions that the statement reaches return: part 10 (YE, YF).
-/
import Derived.Test.YtamlcgmipdcgjaaDoorRa09
namespace Go.Proofs.YtamlcgmipdcgjaaDoor
set_option maxRecDepth 100000
set_option maxHeartbeats 40000000
set_option maxRecDepth 100000
open Go.RowKit WMath
set_option linter.unusedSimpArgs false
set_option linter.unusedVariables false
theorem andi64 (x : Nat) (hx : x < 9223372036854775808) : bits .and .i64 ((x : Nat) : Int) 1 = ((x % 2 : Nat) : Int) := by
  have h1 : (BitVec.ofInt 64 ((x : Nat) : Int)).toNat = x := by
    rw [BitVec.ofInt_natCast, BitVec.toNat_ofNat]; exact Nat.mod_eq_of_lt (by omega)
  have h2 : (BitVec.ofInt 64 1).toNat = 1 := rfl
  show IntKind.i64.wrap ((BitVec.ofInt 64 ((x : Nat) : Int) &&& BitVec.ofInt 64 1).toNat : Int) = _
  rw [BitVec.toNat_and, h1, h2, Nat.and_one_is_mod, IntKind.wrap_i64]
  omega
def ptW (low n v : Nat) : Nat := v % 2 ^ n * 2 ^ low
theorem pt_step (v k : Nat) : v % 2 ^ (k + 1) = v % 2 ^ k + 2 ^ k * (v / 2 ^ k % 2) := by
  rw [Nat.pow_succ, Nat.mod_mul]
set_option maxRecDepth 100000 in
set_option maxHeartbeats 8000000 in
theorem b25_put (low n v : Nat) (hv : v < 9223372036854775808) (hn : low + n ≤ 32) (w : World) : Calls Tryd.prog 35 #[.int .i64 (low : Nat), .int .i64 (n : Nat), .int .i64 (v : Nat)] w fun r w' => r = .returned (.int .u32 (ptW low n v : Nat)) ∧ Below w.heap.size w w' := by
  go_enter Tryd.func35, Tryd.ntmps35
  go_wp2
  go_loop [7, 8] (fun xv kv => ∃ k X : Nat, k ≤ n ∧ kv = .int .i64 (k : Nat) ∧ xv = .int .u32 (X : Nat) ∧ Box (X = v % 2 ^ k * 2 ^ low)) (fun _ kv => n - (intOf kv).toNat)
  case atStart => exact ⟨0, 0, Nat.zero_le _, rfl, rfl, box (by rw [Nat.pow_zero, Nat.mod_one, Nat.zero_mul])⟩
  case round =>
    obtain ⟨k, X, hk, rfl, rfl, HX⟩ := hrel
    by_cases hlt : k < n
    · have d1 : decide ((k : Int) < (n : Int)) = true := decide_eq_true (by omega)
      have e3 : decide ((k : Int) < 0) = false := decide_eq_false (by omega)
      have e4 : min k 64 = k := by omega
      have eq0 : ((v : Nat) : Int) / 2 ^ k = ((v / 2 ^ k : Nat) : Int) := by rw [Int.natCast_ediv, Int.natCast_pow]; rfl
      have e9 : ((v : Nat) : Int).fdiv (2 ^ min ((k : Nat) : Int).toNat IntKind.i64.bits) = ((v / 2 ^ k : Nat) : Int) := by
        rw [Int.toNat_natCast, show IntKind.i64.bits = 64 from rfl, e4, Int.fdiv_eq_ediv_of_nonneg _ (Int.le_of_lt (Int.pow_pos (by decide))), eq0]
      have eb := andi64 (v / 2 ^ k) (Nat.lt_of_le_of_lt (Nat.div_le_self _ _) hv)
      have ek : IntKind.i64.wrap ((k : Int) + 1) = ((k + 1 : Nat) : Int) := by rw [IntKind.wrap_i64]; omega
      obtain ⟨t, ht⟩ : ∃ t, v / 2 ^ k % 2 = t := ⟨_, rfl⟩
      rw [ht] at eb
      have eb2 : bits .and .i64 (((v : Nat) : Int) / 2 ^ k) 1 = ((t : Nat) : Int) := by rw [eq0]; exact eb
      clear eq0
      obtain ⟨qq, hq⟩ : ∃ qq, v / 2 ^ k = qq := ⟨_, rfl⟩
      rw [hq] at e9 eb
      have em : ((qq : Nat) : Int) % 2 = (t : Nat) := by rw [← ht, hq]; omega
      have HQ := box hq
      clear hq
      have t2 : t < 2 := by rw [← ht]; exact Nat.mod_lt _ (by decide)
      obtain ⟨s, hs⟩ : ∃ s, low + k = s := ⟨_, rfl⟩
      have e1 : IntKind.i64.wrap ((low : Int) + (k : Int)) = (s : Int) := by rw [IntKind.wrap_i64]; omega
      have e5 : decide ((s : Int) < 0) = false := decide_eq_false (by omega)
      have hp : v % 2 ^ k * 2 ^ low < 2 ^ s := by
        rw [← hs, Nat.add_comm, Nat.pow_add]
        exact Nat.mul_lt_mul_of_pos_right (Nat.mod_lt _ (Nat.two_pow_pos k)) (Nat.two_pow_pos low)
      have h2s : 2 ^ s ≤ 2147483648 := Nat.pow_le_pow_right (n := 2) (by decide) (show s ≤ 31 by omega)
      have HN := box (pt_step v k)
      have HT := box ht
      rw [← HX.out] at hp
      clear ht
      rcases (by omega : t = 0 ∨ t = 1) with rfl | rfl
      · go_wp2
        go_round
        case rel => exact ⟨k + 1, X, by omega, rfl, rfl, box (by rw [HN.out, HT.out, Nat.mul_zero, Nat.add_zero]; exact HX.out)⟩
        case measure => simp [intOf]; omega
      · obtain ⟨Y, hY⟩ : ∃ Y, 2 ^ s = Y := ⟨_, rfl⟩
        have e6 : ((2 : Int) ^ s) % 4294967296 = (Y : Int) := by
          have : ((2 : Int) ^ s) = ((2 ^ s : Nat) : Int) := by rw [Int.natCast_pow]; rfl
          rw [this, hY]
          rw [hY] at h2s
          omega
        rw [hY] at hp h2s
        have e7 : ((X : Int) + (Y : Int)) % 4294967296 = ((X + Y : Nat) : Int) := by omega
        have HY := box hY
        clear hY
        go_wp2
        go_round
        case rel => exact ⟨k + 1, X + Y, by omega, rfl, rfl, box (by rw [HN.out, HT.out, Nat.mul_one, Nat.add_mul, ← HX.out, ← HY.out, ← hs, Nat.pow_add, Nat.mul_comm (2 ^ low)])⟩
        case measure => simp [intOf]; omega
    · obtain rfl : k = n := by omega
      have d1 : decide ((k : Int) < (k : Int)) = false := decide_eq_false (by omega)
      have e0 : X = ptW low k v := HX.out
      subst e0
      go_wp2
      go_ret
      exact ⟨rfl, Below.refl _ _⟩
structure Hs where
  rd : Bool
  rs2 : Bool
  rs3 : Bool
  rm : Bool
  imm : Bool
  csr : Bool
deriving DecidableEq
def hsC (x : Hs) : Array Value := #[.bool x.rd, .bool x.rs2, .bool x.rs3, .bool x.rm, .bool x.imm, .bool x.csr]
theorem hsC_cells {w : World} {b : Nat} {x : Hs} {T : TypeId} (h : w.heap[b]? = some (.cells (hsC x) T)) : w.cell? ⟨b, 0, none⟩ = some (.bool x.rd) ∧ w.cell? ⟨b, 1, none⟩ = some (.bool x.rs2) ∧ w.cell? ⟨b, 2, none⟩ = some (.bool x.rs3) ∧ w.cell? ⟨b, 3, none⟩ = some (.bool x.rm) ∧ w.cell? ⟨b, 4, none⟩ = some (.bool x.imm) ∧ w.cell? ⟨b, 5, none⟩ = some (.bool x.csr) :=
  ⟨cell7 h 0 _ rfl, cell7 h 1 _ rfl, cell7 h 2 _ rfl, cell7 h 3 _ rfl, cell7 h 4 _ rfl, cell7 h 5 _ rfl⟩
theorem hsC_store {w : World} {b : Nat} {x : Hs} {c : Array Value} {T : TypeId} (h : w.heap[b]? = some (.cells c T)) (hc : c.size = 6) : (storeCells ⟨b, 0, none⟩ (hsC x).toList 0).run Tryd.prog w = .ok () (w.setRow b (hsC x)) := by
  have := run_storeCells_from (P := Tryd.prog) b T (hsC x).toList 0 c w h (by simp [hsC, hc]) (fun v hv => by
    simp [hsC] at hv
    rcases hv with rfl | rfl | rfl | rfl | rfl | rfl <;> rfl)
  have e : List.drop 6 c.toList = [] := List.drop_eq_nil_of_le (by rw [Array.length_toList, hc]; exact Nat.le_refl _)
  simpa [hsC, e] using this
theorem hsC_lv {w : World} {b : Nat} {x : Hs} {T : TypeId} (h : w.heap[b]? = some (.cells (hsC x) T)) : (loadVar 86 ⟨b, 0, none⟩).run Tryd.prog w = .ok (.agg (hsC x)) w := by
  have ha : (isAgg 86).run Tryd.prog w = .ok true w := by kernel_rfl
  have hs : (sizeOf 86).run Tryd.prog w = .ok 6 w := by kernel_rfl
  have q := run_loadCells_list (P := Tryd.prog) w ⟨b, 0, none⟩ (hsC x).toList (fun j v hv => by
    have hadd : (⟨b, 0, none⟩ : Addr).add j = ⟨b, j, none⟩ := by unfold Addr.add; split <;> simp_all
    rw [hadd]
    exact cell7 h j v (by simpa using hv))
  rw [Array.length_toList, show (hsC x).size = 6 from rfl] at q
  simp only [Sem.run_bind, Sem.run_pure, Result.andThen, loadVar, ha, hs, if_true, q]
theorem res_hsC {fn : Func} {z : Tmp} (h : fn.results = #[.cell z 86]) {tmps : Array Value} {w : World} {b : Nat} {x : Hs} {T : TypeId} (hz : tmps.getD z undef = .pointer (some ⟨b, 0, none⟩)) (hr : w.heap[b]? = some (.cells (hsC x) T)) : (results fn tmps).run Tryd.prog w = .ok (.agg (hsC x)) w := by
  have q := hsC_lv hr
  have hz2 : tmps[z]?.getD undef = .pointer (some ⟨b, 0, none⟩) := by rw [← Array.getD_eq_getD_getElem?]; exact hz
  simp [results, h, hz2, asAddr, q, Result.andThen]
theorem hsC_new (w : World) (b : Nat) (x : Hs) (hb : b = w.heap.size) : (storeCells ⟨b, 0, none⟩ (hsC x).toList 0).run Tryd.prog (w.alloc (.cells #[.bool false, .bool false, .bool false, .bool false, .bool false, .bool false] 86)) = .ok () (w.alloc (.cells (hsC x) 86)) := by
  subst hb
  exact run_storeCells_new (P := Tryd.prog) w 86 #[.bool false, .bool false, .bool false, .bool false, .bool false, .bool false] (hsC x) (by kernel_rfl) rfl (by simp [hsC]; exact ⟨rfl, rfl, rfl, rfl, rfl, rfl⟩)
structure Us where
  rx : Nat
  rf : Nat
  wx : Nat
  wf : Nat
deriving DecidableEq
def usC (x : Us) : Array Value := #[.int .u32 (x.rx : Nat), .int .u32 (x.rf : Nat), .int .u32 (x.wx : Nat), .int .u32 (x.wf : Nat)]
theorem usC_cells {w : World} {b : Nat} {x : Us} {T : TypeId} (h : w.heap[b]? = some (.cells (usC x) T)) : w.cell? ⟨b, 0, none⟩ = some (.int .u32 (x.rx : Nat)) ∧ w.cell? ⟨b, 1, none⟩ = some (.int .u32 (x.rf : Nat)) ∧ w.cell? ⟨b, 2, none⟩ = some (.int .u32 (x.wx : Nat)) ∧ w.cell? ⟨b, 3, none⟩ = some (.int .u32 (x.wf : Nat)) :=
  ⟨cell7 h 0 _ rfl, cell7 h 1 _ rfl, cell7 h 2 _ rfl, cell7 h 3 _ rfl⟩
theorem usC_fold (x : Us) : #[Value.int .u32 (x.rx : Nat), .int .u32 (x.rf : Nat), .int .u32 (x.wx : Nat), .int .u32 (x.wf : Nat)] = usC x := rfl
theorem usC_store {w : World} {b : Nat} {x : Us} {c : Array Value} {T : TypeId} (h : w.heap[b]? = some (.cells c T)) (hc : c.size = 4) : (storeCells ⟨b, 0, none⟩ (usC x).toList 0).run Tryd.prog w = .ok () (w.setRow b (usC x)) := by
  have := run_storeCells_from (P := Tryd.prog) b T (usC x).toList 0 c w h (by simp [usC, hc]) (fun v hv => by
    simp [usC] at hv
    rcases hv with rfl | rfl | rfl | rfl <;> rfl)
  have e : List.drop 4 c.toList = [] := List.drop_eq_nil_of_le (by rw [Array.length_toList, hc]; exact Nat.le_refl _)
  simpa [usC, e] using this
theorem usC_lv {w : World} {b : Nat} {x : Us} {T : TypeId} (h : w.heap[b]? = some (.cells (usC x) T)) : (loadVar 33 ⟨b, 0, none⟩).run Tryd.prog w = .ok (.agg (usC x)) w := by
  have ha : (isAgg 33).run Tryd.prog w = .ok true w := by kernel_rfl
  have hs : (sizeOf 33).run Tryd.prog w = .ok 4 w := by kernel_rfl
  have q := run_loadCells_list (P := Tryd.prog) w ⟨b, 0, none⟩ (usC x).toList (fun j v hv => by
    have hadd : (⟨b, 0, none⟩ : Addr).add j = ⟨b, j, none⟩ := by unfold Addr.add; split <;> simp_all
    rw [hadd]
    exact cell7 h j v (by simpa using hv))
  rw [Array.length_toList, show (usC x).size = 4 from rfl] at q
  simp only [Sem.run_bind, Sem.run_pure, Result.andThen, loadVar, ha, hs, if_true, q]
theorem res_usC {fn : Func} {z : Tmp} (h : fn.results = #[.cell z 33]) {tmps : Array Value} {w : World} {b : Nat} {x : Us} {T : TypeId} (hz : tmps.getD z undef = .pointer (some ⟨b, 0, none⟩)) (hr : w.heap[b]? = some (.cells (usC x) T)) : (results fn tmps).run Tryd.prog w = .ok (.agg (usC x)) w := by
  have q := usC_lv hr
  have hz2 : tmps[z]?.getD undef = .pointer (some ⟨b, 0, none⟩) := by rw [← Array.getD_eq_getD_getElem?]; exact hz
  simp [results, h, hz2, asAddr, q, Result.andThen]
theorem usC_new (w : World) (b : Nat) (x : Us) (hb : b = w.heap.size) : (storeCells ⟨b, 0, none⟩ (usC x).toList 0).run Tryd.prog (w.alloc (.cells #[.int .u32 0, .int .u32 0, .int .u32 0, .int .u32 0] 33)) = .ok () (w.alloc (.cells (usC x) 33)) := by
  subst hb
  exact run_storeCells_new (P := Tryd.prog) w 33 #[.int .u32 0, .int .u32 0, .int .u32 0, .int .u32 0] (usC x) (by kernel_rfl) rfl (by simp [usC]; exact ⟨rfl, rfl, rfl, rfl⟩)
def hsL (l : Nat) : Hs := if l = 1 then ⟨true, false, false, false, true, false⟩ else if l = 2 then ⟨false, true, false, false, true, false⟩ else if l = 3 then ⟨true, true, true, true, false, false⟩ else if l = 4 then ⟨true, true, false, true, false, false⟩ else if l = 5 then ⟨true, true, false, false, false, false⟩ else if l = 6 then ⟨true, false, false, true, false, false⟩ else if l = 8 then ⟨true, false, false, false, false, true⟩ else if l = 9 then ⟨true, false, false, false, false, true⟩ else ⟨true, false, false, false, false, false⟩
set_option maxRecDepth 100000 in
set_option maxHeartbeats 8000000 in
theorem b25_fields1 (l : Nat) (q1 : (((l : Nat) : Int) == 1) = true) (w : World) : Calls Tryd.prog 34 #[.int .u8 (l : Nat)] w fun r w' => r = .returned (.agg (hsC ⟨true, false, false, false, true, false⟩)) ∧ Below w.heap.size w w' := by
  have hf : #[Value.bool true, .bool false, .bool false, .bool false, .bool true, .bool false] = hsC ⟨true, false, false, false, true, false⟩ := rfl
  obtain ⟨Rz_0, B0⟩ := opn1 w (Obj.cells #[.bool false, .bool false, .bool false, .bool false, .bool false, .bool false] 86)
  go_enter Tryd.func34, Tryd.ntmps34
  have hst := hsC_store (x := ⟨true, false, false, false, true, false⟩) Rz_0 rfl
  have rz := setRow_row (c' := hsC ⟨true, false, false, false, true, false⟩) Rz_0
  have bz : Below w.heap.size w ((w.alloc (Obj.cells #[.bool false, .bool false, .bool false, .bool false, .bool false, .bool false] 86)).setRow (w.heap.size) (hsC ⟨true, false, false, false, true, false⟩)) := Below.setRow B0 (show w.heap.size ≤ w.heap.size by first | exact Nat.le_refl _ | omega | (skip; omega))
  obtain ⟨wz, hwz⟩ : ∃ V, (w.alloc (Obj.cells #[.bool false, .bool false, .bool false, .bool false, .bool false, .bool false] 86)).setRow (w.heap.size) (hsC ⟨true, false, false, false, true, false⟩) = V := ⟨_, rfl⟩
  rw [hwz] at hst rz bz
  clear hwz
  go_wp2
  exact bodyPost_ret (v := .agg (hsC ⟨true, false, false, false, true, false⟩)) (res_hsC Tryd.results34 rfl rz) rfl ⟨rfl, bz⟩
set_option maxRecDepth 100000 in
set_option maxHeartbeats 8000000 in
theorem b25_fields2 (l : Nat) (q1 : (((l : Nat) : Int) == 1) = false) (q2 : (((l : Nat) : Int) == 2) = true) (w : World) : Calls Tryd.prog 34 #[.int .u8 (l : Nat)] w fun r w' => r = .returned (.agg (hsC ⟨false, true, false, false, true, false⟩)) ∧ Below w.heap.size w w' := by
  have hf : #[Value.bool false, .bool true, .bool false, .bool false, .bool true, .bool false] = hsC ⟨false, true, false, false, true, false⟩ := rfl
  obtain ⟨Rz_0, B0⟩ := opn1 w (Obj.cells #[.bool false, .bool false, .bool false, .bool false, .bool false, .bool false] 86)
  go_enter Tryd.func34, Tryd.ntmps34
  have hst := hsC_store (x := ⟨false, true, false, false, true, false⟩) Rz_0 rfl
  have rz := setRow_row (c' := hsC ⟨false, true, false, false, true, false⟩) Rz_0
  have bz : Below w.heap.size w ((w.alloc (Obj.cells #[.bool false, .bool false, .bool false, .bool false, .bool false, .bool false] 86)).setRow (w.heap.size) (hsC ⟨false, true, false, false, true, false⟩)) := Below.setRow B0 (show w.heap.size ≤ w.heap.size by first | exact Nat.le_refl _ | omega | (skip; omega))
  obtain ⟨wz, hwz⟩ : ∃ V, (w.alloc (Obj.cells #[.bool false, .bool false, .bool false, .bool false, .bool false, .bool false] 86)).setRow (w.heap.size) (hsC ⟨false, true, false, false, true, false⟩) = V := ⟨_, rfl⟩
  rw [hwz] at hst rz bz
  clear hwz
  go_wp2
  exact bodyPost_ret (v := .agg (hsC ⟨false, true, false, false, true, false⟩)) (res_hsC Tryd.results34 rfl rz) rfl ⟨rfl, bz⟩
set_option maxRecDepth 100000 in
set_option maxHeartbeats 8000000 in
theorem b25_fields3 (l : Nat) (q1 : (((l : Nat) : Int) == 1) = false) (q2 : (((l : Nat) : Int) == 2) = false) (q3 : (((l : Nat) : Int) == 3) = true) (w : World) : Calls Tryd.prog 34 #[.int .u8 (l : Nat)] w fun r w' => r = .returned (.agg (hsC ⟨true, true, true, true, false, false⟩)) ∧ Below w.heap.size w w' := by
  have hf : #[Value.bool true, .bool true, .bool true, .bool true, .bool false, .bool false] = hsC ⟨true, true, true, true, false, false⟩ := rfl
  obtain ⟨Rz_0, B0⟩ := opn1 w (Obj.cells #[.bool false, .bool false, .bool false, .bool false, .bool false, .bool false] 86)
  go_enter Tryd.func34, Tryd.ntmps34
  have hst := hsC_store (x := ⟨true, true, true, true, false, false⟩) Rz_0 rfl
  have rz := setRow_row (c' := hsC ⟨true, true, true, true, false, false⟩) Rz_0
  have bz : Below w.heap.size w ((w.alloc (Obj.cells #[.bool false, .bool false, .bool false, .bool false, .bool false, .bool false] 86)).setRow (w.heap.size) (hsC ⟨true, true, true, true, false, false⟩)) := Below.setRow B0 (show w.heap.size ≤ w.heap.size by first | exact Nat.le_refl _ | omega | (skip; omega))
  obtain ⟨wz, hwz⟩ : ∃ V, (w.alloc (Obj.cells #[.bool false, .bool false, .bool false, .bool false, .bool false, .bool false] 86)).setRow (w.heap.size) (hsC ⟨true, true, true, true, false, false⟩) = V := ⟨_, rfl⟩
  rw [hwz] at hst rz bz
  clear hwz
  go_wp2
  exact bodyPost_ret (v := .agg (hsC ⟨true, true, true, true, false, false⟩)) (res_hsC Tryd.results34 rfl rz) rfl ⟨rfl, bz⟩
set_option maxRecDepth 100000 in
set_option maxHeartbeats 8000000 in
theorem b25_fields4 (l : Nat) (q1 : (((l : Nat) : Int) == 1) = false) (q2 : (((l : Nat) : Int) == 2) = false) (q3 : (((l : Nat) : Int) == 3) = false) (q4 : (((l : Nat) : Int) == 4) = true) (w : World) : Calls Tryd.prog 34 #[.int .u8 (l : Nat)] w fun r w' => r = .returned (.agg (hsC ⟨true, true, false, true, false, false⟩)) ∧ Below w.heap.size w w' := by
  have hf : #[Value.bool true, .bool true, .bool false, .bool true, .bool false, .bool false] = hsC ⟨true, true, false, true, false, false⟩ := rfl
  obtain ⟨Rz_0, B0⟩ := opn1 w (Obj.cells #[.bool false, .bool false, .bool false, .bool false, .bool false, .bool false] 86)
  go_enter Tryd.func34, Tryd.ntmps34
  have hst := hsC_store (x := ⟨true, true, false, true, false, false⟩) Rz_0 rfl
  have rz := setRow_row (c' := hsC ⟨true, true, false, true, false, false⟩) Rz_0
  have bz : Below w.heap.size w ((w.alloc (Obj.cells #[.bool false, .bool false, .bool false, .bool false, .bool false, .bool false] 86)).setRow (w.heap.size) (hsC ⟨true, true, false, true, false, false⟩)) := Below.setRow B0 (show w.heap.size ≤ w.heap.size by first | exact Nat.le_refl _ | omega | (skip; omega))
  obtain ⟨wz, hwz⟩ : ∃ V, (w.alloc (Obj.cells #[.bool false, .bool false, .bool false, .bool false, .bool false, .bool false] 86)).setRow (w.heap.size) (hsC ⟨true, true, false, true, false, false⟩) = V := ⟨_, rfl⟩
  rw [hwz] at hst rz bz
  clear hwz
  go_wp2
  exact bodyPost_ret (v := .agg (hsC ⟨true, true, false, true, false, false⟩)) (res_hsC Tryd.results34 rfl rz) rfl ⟨rfl, bz⟩
set_option maxRecDepth 100000 in
set_option maxHeartbeats 8000000 in
theorem b25_fields5 (l : Nat) (q1 : (((l : Nat) : Int) == 1) = false) (q2 : (((l : Nat) : Int) == 2) = false) (q3 : (((l : Nat) : Int) == 3) = false) (q4 : (((l : Nat) : Int) == 4) = false) (q5 : (((l : Nat) : Int) == 5) = true) (w : World) : Calls Tryd.prog 34 #[.int .u8 (l : Nat)] w fun r w' => r = .returned (.agg (hsC ⟨true, true, false, false, false, false⟩)) ∧ Below w.heap.size w w' := by
  have hf : #[Value.bool true, .bool true, .bool false, .bool false, .bool false, .bool false] = hsC ⟨true, true, false, false, false, false⟩ := rfl
  obtain ⟨Rz_0, B0⟩ := opn1 w (Obj.cells #[.bool false, .bool false, .bool false, .bool false, .bool false, .bool false] 86)
  go_enter Tryd.func34, Tryd.ntmps34
  have hst := hsC_store (x := ⟨true, true, false, false, false, false⟩) Rz_0 rfl
  have rz := setRow_row (c' := hsC ⟨true, true, false, false, false, false⟩) Rz_0
  have bz : Below w.heap.size w ((w.alloc (Obj.cells #[.bool false, .bool false, .bool false, .bool false, .bool false, .bool false] 86)).setRow (w.heap.size) (hsC ⟨true, true, false, false, false, false⟩)) := Below.setRow B0 (show w.heap.size ≤ w.heap.size by first | exact Nat.le_refl _ | omega | (skip; omega))
  obtain ⟨wz, hwz⟩ : ∃ V, (w.alloc (Obj.cells #[.bool false, .bool false, .bool false, .bool false, .bool false, .bool false] 86)).setRow (w.heap.size) (hsC ⟨true, true, false, false, false, false⟩) = V := ⟨_, rfl⟩
  rw [hwz] at hst rz bz
  clear hwz
  go_wp2
  exact bodyPost_ret (v := .agg (hsC ⟨true, true, false, false, false, false⟩)) (res_hsC Tryd.results34 rfl rz) rfl ⟨rfl, bz⟩
set_option maxRecDepth 100000 in
set_option maxHeartbeats 8000000 in
theorem b25_fields6 (l : Nat) (q1 : (((l : Nat) : Int) == 1) = false) (q2 : (((l : Nat) : Int) == 2) = false) (q3 : (((l : Nat) : Int) == 3) = false) (q4 : (((l : Nat) : Int) == 4) = false) (q5 : (((l : Nat) : Int) == 5) = false) (q6 : (((l : Nat) : Int) == 6) = true) (w : World) : Calls Tryd.prog 34 #[.int .u8 (l : Nat)] w fun r w' => r = .returned (.agg (hsC ⟨true, false, false, true, false, false⟩)) ∧ Below w.heap.size w w' := by
  have hf : #[Value.bool true, .bool false, .bool false, .bool true, .bool false, .bool false] = hsC ⟨true, false, false, true, false, false⟩ := rfl
  obtain ⟨Rz_0, B0⟩ := opn1 w (Obj.cells #[.bool false, .bool false, .bool false, .bool false, .bool false, .bool false] 86)
  go_enter Tryd.func34, Tryd.ntmps34
  have hst := hsC_store (x := ⟨true, false, false, true, false, false⟩) Rz_0 rfl
  have rz := setRow_row (c' := hsC ⟨true, false, false, true, false, false⟩) Rz_0
  have bz : Below w.heap.size w ((w.alloc (Obj.cells #[.bool false, .bool false, .bool false, .bool false, .bool false, .bool false] 86)).setRow (w.heap.size) (hsC ⟨true, false, false, true, false, false⟩)) := Below.setRow B0 (show w.heap.size ≤ w.heap.size by first | exact Nat.le_refl _ | omega | (skip; omega))
  obtain ⟨wz, hwz⟩ : ∃ V, (w.alloc (Obj.cells #[.bool false, .bool false, .bool false, .bool false, .bool false, .bool false] 86)).setRow (w.heap.size) (hsC ⟨true, false, false, true, false, false⟩) = V := ⟨_, rfl⟩
  rw [hwz] at hst rz bz
  clear hwz
  go_wp2
  exact bodyPost_ret (v := .agg (hsC ⟨true, false, false, true, false, false⟩)) (res_hsC Tryd.results34 rfl rz) rfl ⟨rfl, bz⟩
set_option maxRecDepth 100000 in
set_option maxHeartbeats 8000000 in
theorem b25_fields8 (l : Nat) (q1 : (((l : Nat) : Int) == 1) = false) (q2 : (((l : Nat) : Int) == 2) = false) (q3 : (((l : Nat) : Int) == 3) = false) (q4 : (((l : Nat) : Int) == 4) = false) (q5 : (((l : Nat) : Int) == 5) = false) (q6 : (((l : Nat) : Int) == 6) = false) (q8 : (((l : Nat) : Int) == 8) = true) (w : World) : Calls Tryd.prog 34 #[.int .u8 (l : Nat)] w fun r w' => r = .returned (.agg (hsC ⟨true, false, false, false, false, true⟩)) ∧ Below w.heap.size w w' := by
  have hf : #[Value.bool true, .bool false, .bool false, .bool false, .bool false, .bool true] = hsC ⟨true, false, false, false, false, true⟩ := rfl
  obtain ⟨Rz_0, B0⟩ := opn1 w (Obj.cells #[.bool false, .bool false, .bool false, .bool false, .bool false, .bool false] 86)
  go_enter Tryd.func34, Tryd.ntmps34
  have hst := hsC_store (x := ⟨true, false, false, false, false, true⟩) Rz_0 rfl
  have rz := setRow_row (c' := hsC ⟨true, false, false, false, false, true⟩) Rz_0
  have bz : Below w.heap.size w ((w.alloc (Obj.cells #[.bool false, .bool false, .bool false, .bool false, .bool false, .bool false] 86)).setRow (w.heap.size) (hsC ⟨true, false, false, false, false, true⟩)) := Below.setRow B0 (show w.heap.size ≤ w.heap.size by first | exact Nat.le_refl _ | omega | (skip; omega))
  obtain ⟨wz, hwz⟩ : ∃ V, (w.alloc (Obj.cells #[.bool false, .bool false, .bool false, .bool false, .bool false, .bool false] 86)).setRow (w.heap.size) (hsC ⟨true, false, false, false, false, true⟩) = V := ⟨_, rfl⟩
  rw [hwz] at hst rz bz
  clear hwz
  go_wp2
  exact bodyPost_ret (v := .agg (hsC ⟨true, false, false, false, false, true⟩)) (res_hsC Tryd.results34 rfl rz) rfl ⟨rfl, bz⟩
set_option maxRecDepth 100000 in
set_option maxHeartbeats 8000000 in
theorem b25_fields9 (l : Nat) (q1 : (((l : Nat) : Int) == 1) = false) (q2 : (((l : Nat) : Int) == 2) = false) (q3 : (((l : Nat) : Int) == 3) = false) (q4 : (((l : Nat) : Int) == 4) = false) (q5 : (((l : Nat) : Int) == 5) = false) (q6 : (((l : Nat) : Int) == 6) = false) (q8 : (((l : Nat) : Int) == 8) = false) (q9 : (((l : Nat) : Int) == 9) = true) (w : World) : Calls Tryd.prog 34 #[.int .u8 (l : Nat)] w fun r w' => r = .returned (.agg (hsC ⟨true, false, false, false, false, true⟩)) ∧ Below w.heap.size w w' := by
  have hf : #[Value.bool true, .bool false, .bool false, .bool false, .bool false, .bool true] = hsC ⟨true, false, false, false, false, true⟩ := rfl
  obtain ⟨Rz_0, B0⟩ := opn1 w (Obj.cells #[.bool false, .bool false, .bool false, .bool false, .bool false, .bool false] 86)
  go_enter Tryd.func34, Tryd.ntmps34
  have hst := hsC_store (x := ⟨true, false, false, false, false, true⟩) Rz_0 rfl
  have rz := setRow_row (c' := hsC ⟨true, false, false, false, false, true⟩) Rz_0
  have bz : Below w.heap.size w ((w.alloc (Obj.cells #[.bool false, .bool false, .bool false, .bool false, .bool false, .bool false] 86)).setRow (w.heap.size) (hsC ⟨true, false, false, false, false, true⟩)) := Below.setRow B0 (show w.heap.size ≤ w.heap.size by first | exact Nat.le_refl _ | omega | (skip; omega))
  obtain ⟨wz, hwz⟩ : ∃ V, (w.alloc (Obj.cells #[.bool false, .bool false, .bool false, .bool false, .bool false, .bool false] 86)).setRow (w.heap.size) (hsC ⟨true, false, false, false, false, true⟩) = V := ⟨_, rfl⟩
  rw [hwz] at hst rz bz
  clear hwz
  go_wp2
  exact bodyPost_ret (v := .agg (hsC ⟨true, false, false, false, false, true⟩)) (res_hsC Tryd.results34 rfl rz) rfl ⟨rfl, bz⟩
set_option maxRecDepth 100000 in
set_option maxHeartbeats 8000000 in
theorem b25_fields0 (l : Nat) (q1 : (((l : Nat) : Int) == 1) = false) (q2 : (((l : Nat) : Int) == 2) = false) (q3 : (((l : Nat) : Int) == 3) = false) (q4 : (((l : Nat) : Int) == 4) = false) (q5 : (((l : Nat) : Int) == 5) = false) (q6 : (((l : Nat) : Int) == 6) = false) (q8 : (((l : Nat) : Int) == 8) = false) (q9 : (((l : Nat) : Int) == 9) = false) (w : World) : Calls Tryd.prog 34 #[.int .u8 (l : Nat)] w fun r w' => r = .returned (.agg (hsC ⟨true, false, false, false, false, false⟩)) ∧ Below w.heap.size w w' := by
  have hf : #[Value.bool true, .bool false, .bool false, .bool false, .bool false, .bool false] = hsC ⟨true, false, false, false, false, false⟩ := rfl
  obtain ⟨Rz_0, B0⟩ := opn1 w (Obj.cells #[.bool false, .bool false, .bool false, .bool false, .bool false, .bool false] 86)
  go_enter Tryd.func34, Tryd.ntmps34
  have hst := hsC_store (x := ⟨true, false, false, false, false, false⟩) Rz_0 rfl
  have rz := setRow_row (c' := hsC ⟨true, false, false, false, false, false⟩) Rz_0
  have bz : Below w.heap.size w ((w.alloc (Obj.cells #[.bool false, .bool false, .bool false, .bool false, .bool false, .bool false] 86)).setRow (w.heap.size) (hsC ⟨true, false, false, false, false, false⟩)) := Below.setRow B0 (show w.heap.size ≤ w.heap.size by first | exact Nat.le_refl _ | omega | (skip; omega))
  obtain ⟨wz, hwz⟩ : ∃ V, (w.alloc (Obj.cells #[.bool false, .bool false, .bool false, .bool false, .bool false, .bool false] 86)).setRow (w.heap.size) (hsC ⟨true, false, false, false, false, false⟩) = V := ⟨_, rfl⟩
  rw [hwz] at hst rz bz
  clear hwz
  go_wp2
  exact bodyPost_ret (v := .agg (hsC ⟨true, false, false, false, false, false⟩)) (res_hsC Tryd.results34 rfl rz) rfl ⟨rfl, bz⟩
theorem rFl25 (l : Nat) (w : World) : Calls Tryd.prog 34 #[.int .u8 (l : Nat)] w fun r w' => r = .returned (.agg (hsC (hsL l))) ∧ Below w.heap.size w w' := by
  have tt : ∀ j : Nat, l = j → (((l : Nat) : Int) == ((j : Nat) : Int)) = true := fun j h => beq_iff_eq.2 (by omega)
  have ff : ∀ j : Nat, l ≠ j → (((l : Nat) : Int) == ((j : Nat) : Int)) = false := fun j h => beq_eq_false_iff_ne.2 (by omega)
  unfold hsL
  by_cases c1 : l = 1
  · rw [if_pos c1]
    exact b25_fields1 l  (tt 1 c1) w
  rw [if_neg c1]
  by_cases c2 : l = 2
  · rw [if_pos c2]
    exact b25_fields2 l (ff 1 c1) (tt 2 c2) w
  rw [if_neg c2]
  by_cases c3 : l = 3
  · rw [if_pos c3]
    exact b25_fields3 l (ff 1 c1) (ff 2 c2) (tt 3 c3) w
  rw [if_neg c3]
  by_cases c4 : l = 4
  · rw [if_pos c4]
    exact b25_fields4 l (ff 1 c1) (ff 2 c2) (ff 3 c3) (tt 4 c4) w
  rw [if_neg c4]
  by_cases c5 : l = 5
  · rw [if_pos c5]
    exact b25_fields5 l (ff 1 c1) (ff 2 c2) (ff 3 c3) (ff 4 c4) (tt 5 c5) w
  rw [if_neg c5]
  by_cases c6 : l = 6
  · rw [if_pos c6]
    exact b25_fields6 l (ff 1 c1) (ff 2 c2) (ff 3 c3) (ff 4 c4) (ff 5 c5) (tt 6 c6) w
  rw [if_neg c6]
  by_cases c8 : l = 8
  · rw [if_pos c8]
    exact b25_fields8 l (ff 1 c1) (ff 2 c2) (ff 3 c3) (ff 4 c4) (ff 5 c5) (ff 6 c6) (tt 8 c8) w
  rw [if_neg c8]
  by_cases c9 : l = 9
  · rw [if_pos c9]
    exact b25_fields9 l (ff 1 c1) (ff 2 c2) (ff 3 c3) (ff 4 c4) (ff 5 c5) (ff 6 c6) (ff 8 c8) (tt 9 c9) w
  rw [if_neg c9]
  exact b25_fields0 l (ff 1 c1) (ff 2 c2) (ff 3 c3) (ff 4 c4) (ff 5 c5) (ff 6 c6) (ff 8 c8) (ff 9 c9) w
end Go.Proofs.YtamlcgmipdcgjaaDoor
namespace Go.Proofs.YtamlcgmipdcgjaaDoor
set_option maxRecDepth 100000
set_option maxHeartbeats 40000000
set_option maxRecDepth 100000
open Go.RowKit WMath
set_option linter.unusedSimpArgs false
set_option linter.unusedVariables false
set_option maxRecDepth 100000 in
set_option maxHeartbeats 8000000 in
theorem b25_mask1 (w : World) (RF : Box (∀ w, Calls Tryd.prog 34 #[.int .u8 1] w fun r w' => r = .returned (.agg (hsC ⟨true, false, false, false, true, false⟩)) ∧ Below w.heap.size w w')) (P15 : Box (∀ w, Calls Tryd.prog 35 #[.int .i64 15, .int .i64 5, .int .i64 31] w fun r w' => r = .returned (.int .u32 1015808) ∧ Below w.heap.size w w')) (P7 : Box (∀ w, Calls Tryd.prog 35 #[.int .i64 7, .int .i64 5, .int .i64 31] w fun r w' => r = .returned (.int .u32 3968) ∧ Below w.heap.size w w')) (PI : Box (∀ w, Calls Tryd.prog 35 #[.int .i64 20, .int .i64 12, .int .i64 4095] w fun r w' => r = .returned (.int .u32 4293918720) ∧ Below w.heap.size w w')) : Calls Tryd.prog 21 #[.int .u8 1] w fun r w' => r = .returned (.int .u32 4294938496) ∧ Below w.heap.size w w' := by
  have o0 : bits .or .u32 1015808 3968 = 1019776 := by decide +kernel
  have o1 : bits .or .u32 1019776 4293918720 = 4294938496 := by decide +kernel
  have hhn := hsC_new
  have B0 : Below w.heap.size w w := (Below.refl _ _)
  go_enter Tryd.func21, Tryd.ntmps21
  go_wp2_with fail
  refine (RF.out _).mono ?_
  rintro r w1 ⟨rfl, b1⟩
  have B1 : Below w.heap.size w w1 := btr B0 b1
  clear b1 B0 
  have S2 := box B1.size
  have Rh_2 := heap_alloc_last w1 (Obj.cells (hsC ⟨true, false, false, false, true, false⟩) 86)
  have B2 := btr B1 (bal w1 (Obj.cells (hsC ⟨true, false, false, false, true, false⟩) 86))
  clear B1 
  obtain ⟨ch_2_0, ch_2_1, ch_2_2, ch_2_3, ch_2_4, ch_2_5⟩ := hsC_cells Rh_2
  go_wp2_with fail
  refine (P15.out _).mono ?_
  rintro r w3 ⟨rfl, b3⟩
  have B3 : Below w.heap.size w w3 := btr B2 b3
  have Rh_3 := heap_of b3 _ _ _ Rh_2
  clear b3 B2 Rh_2 ch_2_0 ch_2_1 ch_2_2 ch_2_3 ch_2_4 ch_2_5
  obtain ⟨ch_3_0, ch_3_1, ch_3_2, ch_3_3, ch_3_4, ch_3_5⟩ := hsC_cells Rh_3
  go_wp2_with fail
  refine (P7.out _).mono ?_
  rintro r w4 ⟨rfl, b4⟩
  have B4 : Below w.heap.size w w4 := btr B3 b4
  have Rh_4 := heap_of b4 _ _ _ Rh_3
  clear b4 B3 Rh_3 ch_3_0 ch_3_1 ch_3_2 ch_3_3 ch_3_4 ch_3_5
  obtain ⟨ch_4_0, ch_4_1, ch_4_2, ch_4_3, ch_4_4, ch_4_5⟩ := hsC_cells Rh_4
  go_wp2_with fail
  refine (PI.out _).mono ?_
  rintro r w5 ⟨rfl, b5⟩
  have B5 : Below w.heap.size w w5 := btr B4 b5
  have Rh_5 := heap_of b5 _ _ _ Rh_4
  clear b5 B4 Rh_4 ch_4_0 ch_4_1 ch_4_2 ch_4_3 ch_4_4 ch_4_5
  obtain ⟨ch_5_0, ch_5_1, ch_5_2, ch_5_3, ch_5_4, ch_5_5⟩ := hsC_cells Rh_5
  go_wp2
  go_ret
  exact ⟨rfl, B5⟩
set_option maxRecDepth 100000 in
set_option maxHeartbeats 8000000 in
theorem b25_mask2 (w : World) (RF : Box (∀ w, Calls Tryd.prog 34 #[.int .u8 2] w fun r w' => r = .returned (.agg (hsC ⟨false, true, false, false, true, false⟩)) ∧ Below w.heap.size w w')) (P15 : Box (∀ w, Calls Tryd.prog 35 #[.int .i64 15, .int .i64 5, .int .i64 31] w fun r w' => r = .returned (.int .u32 1015808) ∧ Below w.heap.size w w')) (P20 : Box (∀ w, Calls Tryd.prog 35 #[.int .i64 20, .int .i64 5, .int .i64 31] w fun r w' => r = .returned (.int .u32 32505856) ∧ Below w.heap.size w w')) (PH : Box (∀ w, Calls Tryd.prog 35 #[.int .i64 25, .int .i64 7, .int .i64 127] w fun r w' => r = .returned (.int .u32 4261412864) ∧ Below w.heap.size w w')) (P7 : Box (∀ w, Calls Tryd.prog 35 #[.int .i64 7, .int .i64 5, .int .i64 31] w fun r w' => r = .returned (.int .u32 3968) ∧ Below w.heap.size w w')) : Calls Tryd.prog 21 #[.int .u8 2] w fun r w' => r = .returned (.int .u32 4294938496) ∧ Below w.heap.size w w' := by
  have o0 : bits .or .u32 1015808 32505856 = 33521664 := by decide +kernel
  have o1 : bits .or .u32 33521664 4261412864 = 4294934528 := by decide +kernel
  have o2 : bits .or .u32 4294934528 3968 = 4294938496 := by decide +kernel
  have hhn := hsC_new
  have B0 : Below w.heap.size w w := (Below.refl _ _)
  go_enter Tryd.func21, Tryd.ntmps21
  go_wp2_with fail
  refine (RF.out _).mono ?_
  rintro r w1 ⟨rfl, b1⟩
  have B1 : Below w.heap.size w w1 := btr B0 b1
  clear b1 B0 
  have S2 := box B1.size
  have Rh_2 := heap_alloc_last w1 (Obj.cells (hsC ⟨false, true, false, false, true, false⟩) 86)
  have B2 := btr B1 (bal w1 (Obj.cells (hsC ⟨false, true, false, false, true, false⟩) 86))
  clear B1 
  obtain ⟨ch_2_0, ch_2_1, ch_2_2, ch_2_3, ch_2_4, ch_2_5⟩ := hsC_cells Rh_2
  go_wp2_with fail
  refine (P15.out _).mono ?_
  rintro r w3 ⟨rfl, b3⟩
  have B3 : Below w.heap.size w w3 := btr B2 b3
  have Rh_3 := heap_of b3 _ _ _ Rh_2
  clear b3 B2 Rh_2 ch_2_0 ch_2_1 ch_2_2 ch_2_3 ch_2_4 ch_2_5
  obtain ⟨ch_3_0, ch_3_1, ch_3_2, ch_3_3, ch_3_4, ch_3_5⟩ := hsC_cells Rh_3
  go_wp2_with fail
  refine (P20.out _).mono ?_
  rintro r w4 ⟨rfl, b4⟩
  have B4 : Below w.heap.size w w4 := btr B3 b4
  have Rh_4 := heap_of b4 _ _ _ Rh_3
  clear b4 B3 Rh_3 ch_3_0 ch_3_1 ch_3_2 ch_3_3 ch_3_4 ch_3_5
  obtain ⟨ch_4_0, ch_4_1, ch_4_2, ch_4_3, ch_4_4, ch_4_5⟩ := hsC_cells Rh_4
  go_wp2_with fail
  refine (PH.out _).mono ?_
  rintro r w5 ⟨rfl, b5⟩
  have B5 : Below w.heap.size w w5 := btr B4 b5
  have Rh_5 := heap_of b5 _ _ _ Rh_4
  clear b5 B4 Rh_4 ch_4_0 ch_4_1 ch_4_2 ch_4_3 ch_4_4 ch_4_5
  obtain ⟨ch_5_0, ch_5_1, ch_5_2, ch_5_3, ch_5_4, ch_5_5⟩ := hsC_cells Rh_5
  go_wp2_with fail
  refine (P7.out _).mono ?_
  rintro r w6 ⟨rfl, b6⟩
  have B6 : Below w.heap.size w w6 := btr B5 b6
  have Rh_6 := heap_of b6 _ _ _ Rh_5
  clear b6 B5 Rh_5 ch_5_0 ch_5_1 ch_5_2 ch_5_3 ch_5_4 ch_5_5
  obtain ⟨ch_6_0, ch_6_1, ch_6_2, ch_6_3, ch_6_4, ch_6_5⟩ := hsC_cells Rh_6
  go_wp2
  go_ret
  exact ⟨rfl, B6⟩
set_option maxRecDepth 100000 in
set_option maxHeartbeats 8000000 in
theorem b25_mask3 (w : World) (RF : Box (∀ w, Calls Tryd.prog 34 #[.int .u8 3] w fun r w' => r = .returned (.agg (hsC ⟨true, true, true, true, false, false⟩)) ∧ Below w.heap.size w w')) (P15 : Box (∀ w, Calls Tryd.prog 35 #[.int .i64 15, .int .i64 5, .int .i64 31] w fun r w' => r = .returned (.int .u32 1015808) ∧ Below w.heap.size w w')) (P7 : Box (∀ w, Calls Tryd.prog 35 #[.int .i64 7, .int .i64 5, .int .i64 31] w fun r w' => r = .returned (.int .u32 3968) ∧ Below w.heap.size w w')) (P20 : Box (∀ w, Calls Tryd.prog 35 #[.int .i64 20, .int .i64 5, .int .i64 31] w fun r w' => r = .returned (.int .u32 32505856) ∧ Below w.heap.size w w')) (P27 : Box (∀ w, Calls Tryd.prog 35 #[.int .i64 27, .int .i64 5, .int .i64 31] w fun r w' => r = .returned (.int .u32 4160749568) ∧ Below w.heap.size w w')) (P12 : Box (∀ w, Calls Tryd.prog 35 #[.int .i64 12, .int .i64 3, .int .i64 7] w fun r w' => r = .returned (.int .u32 28672) ∧ Below w.heap.size w w')) : Calls Tryd.prog 21 #[.int .u8 3] w fun r w' => r = .returned (.int .u32 4194303872) ∧ Below w.heap.size w w' := by
  have o0 : bits .or .u32 1015808 3968 = 1019776 := by decide +kernel
  have o1 : bits .or .u32 1019776 32505856 = 33525632 := by decide +kernel
  have o2 : bits .or .u32 33525632 4160749568 = 4194275200 := by decide +kernel
  have o3 : bits .or .u32 4194275200 28672 = 4194303872 := by decide +kernel
  have hhn := hsC_new
  have B0 : Below w.heap.size w w := (Below.refl _ _)
  go_enter Tryd.func21, Tryd.ntmps21
  go_wp2_with fail
  refine (RF.out _).mono ?_
  rintro r w1 ⟨rfl, b1⟩
  have B1 : Below w.heap.size w w1 := btr B0 b1
  clear b1 B0 
  have S2 := box B1.size
  have Rh_2 := heap_alloc_last w1 (Obj.cells (hsC ⟨true, true, true, true, false, false⟩) 86)
  have B2 := btr B1 (bal w1 (Obj.cells (hsC ⟨true, true, true, true, false, false⟩) 86))
  clear B1 
  obtain ⟨ch_2_0, ch_2_1, ch_2_2, ch_2_3, ch_2_4, ch_2_5⟩ := hsC_cells Rh_2
  go_wp2_with fail
  refine (P15.out _).mono ?_
  rintro r w3 ⟨rfl, b3⟩
  have B3 : Below w.heap.size w w3 := btr B2 b3
  have Rh_3 := heap_of b3 _ _ _ Rh_2
  clear b3 B2 Rh_2 ch_2_0 ch_2_1 ch_2_2 ch_2_3 ch_2_4 ch_2_5
  obtain ⟨ch_3_0, ch_3_1, ch_3_2, ch_3_3, ch_3_4, ch_3_5⟩ := hsC_cells Rh_3
  go_wp2_with fail
  refine (P7.out _).mono ?_
  rintro r w4 ⟨rfl, b4⟩
  have B4 : Below w.heap.size w w4 := btr B3 b4
  have Rh_4 := heap_of b4 _ _ _ Rh_3
  clear b4 B3 Rh_3 ch_3_0 ch_3_1 ch_3_2 ch_3_3 ch_3_4 ch_3_5
  obtain ⟨ch_4_0, ch_4_1, ch_4_2, ch_4_3, ch_4_4, ch_4_5⟩ := hsC_cells Rh_4
  go_wp2_with fail
  refine (P20.out _).mono ?_
  rintro r w5 ⟨rfl, b5⟩
  have B5 : Below w.heap.size w w5 := btr B4 b5
  have Rh_5 := heap_of b5 _ _ _ Rh_4
  clear b5 B4 Rh_4 ch_4_0 ch_4_1 ch_4_2 ch_4_3 ch_4_4 ch_4_5
  obtain ⟨ch_5_0, ch_5_1, ch_5_2, ch_5_3, ch_5_4, ch_5_5⟩ := hsC_cells Rh_5
  go_wp2_with fail
  refine (P27.out _).mono ?_
  rintro r w6 ⟨rfl, b6⟩
  have B6 : Below w.heap.size w w6 := btr B5 b6
  have Rh_6 := heap_of b6 _ _ _ Rh_5
  clear b6 B5 Rh_5 ch_5_0 ch_5_1 ch_5_2 ch_5_3 ch_5_4 ch_5_5
  obtain ⟨ch_6_0, ch_6_1, ch_6_2, ch_6_3, ch_6_4, ch_6_5⟩ := hsC_cells Rh_6
  go_wp2_with fail
  refine (P12.out _).mono ?_
  rintro r w7 ⟨rfl, b7⟩
  have B7 : Below w.heap.size w w7 := btr B6 b7
  have Rh_7 := heap_of b7 _ _ _ Rh_6
  clear b7 B6 Rh_6 ch_6_0 ch_6_1 ch_6_2 ch_6_3 ch_6_4 ch_6_5
  obtain ⟨ch_7_0, ch_7_1, ch_7_2, ch_7_3, ch_7_4, ch_7_5⟩ := hsC_cells Rh_7
  go_wp2
  go_ret
  exact ⟨rfl, B7⟩
set_option maxRecDepth 100000 in
set_option maxHeartbeats 8000000 in
theorem b25_mask4 (w : World) (RF : Box (∀ w, Calls Tryd.prog 34 #[.int .u8 4] w fun r w' => r = .returned (.agg (hsC ⟨true, true, false, true, false, false⟩)) ∧ Below w.heap.size w w')) (P15 : Box (∀ w, Calls Tryd.prog 35 #[.int .i64 15, .int .i64 5, .int .i64 31] w fun r w' => r = .returned (.int .u32 1015808) ∧ Below w.heap.size w w')) (P7 : Box (∀ w, Calls Tryd.prog 35 #[.int .i64 7, .int .i64 5, .int .i64 31] w fun r w' => r = .returned (.int .u32 3968) ∧ Below w.heap.size w w')) (P20 : Box (∀ w, Calls Tryd.prog 35 #[.int .i64 20, .int .i64 5, .int .i64 31] w fun r w' => r = .returned (.int .u32 32505856) ∧ Below w.heap.size w w')) (P12 : Box (∀ w, Calls Tryd.prog 35 #[.int .i64 12, .int .i64 3, .int .i64 7] w fun r w' => r = .returned (.int .u32 28672) ∧ Below w.heap.size w w')) : Calls Tryd.prog 21 #[.int .u8 4] w fun r w' => r = .returned (.int .u32 33554304) ∧ Below w.heap.size w w' := by
  have o0 : bits .or .u32 1015808 3968 = 1019776 := by decide +kernel
  have o1 : bits .or .u32 1019776 32505856 = 33525632 := by decide +kernel
  have o2 : bits .or .u32 33525632 28672 = 33554304 := by decide +kernel
  have hhn := hsC_new
  have B0 : Below w.heap.size w w := (Below.refl _ _)
  go_enter Tryd.func21, Tryd.ntmps21
  go_wp2_with fail
  refine (RF.out _).mono ?_
  rintro r w1 ⟨rfl, b1⟩
  have B1 : Below w.heap.size w w1 := btr B0 b1
  clear b1 B0 
  have S2 := box B1.size
  have Rh_2 := heap_alloc_last w1 (Obj.cells (hsC ⟨true, true, false, true, false, false⟩) 86)
  have B2 := btr B1 (bal w1 (Obj.cells (hsC ⟨true, true, false, true, false, false⟩) 86))
  clear B1 
  obtain ⟨ch_2_0, ch_2_1, ch_2_2, ch_2_3, ch_2_4, ch_2_5⟩ := hsC_cells Rh_2
  go_wp2_with fail
  refine (P15.out _).mono ?_
  rintro r w3 ⟨rfl, b3⟩
  have B3 : Below w.heap.size w w3 := btr B2 b3
  have Rh_3 := heap_of b3 _ _ _ Rh_2
  clear b3 B2 Rh_2 ch_2_0 ch_2_1 ch_2_2 ch_2_3 ch_2_4 ch_2_5
  obtain ⟨ch_3_0, ch_3_1, ch_3_2, ch_3_3, ch_3_4, ch_3_5⟩ := hsC_cells Rh_3
  go_wp2_with fail
  refine (P7.out _).mono ?_
  rintro r w4 ⟨rfl, b4⟩
  have B4 : Below w.heap.size w w4 := btr B3 b4
  have Rh_4 := heap_of b4 _ _ _ Rh_3
  clear b4 B3 Rh_3 ch_3_0 ch_3_1 ch_3_2 ch_3_3 ch_3_4 ch_3_5
  obtain ⟨ch_4_0, ch_4_1, ch_4_2, ch_4_3, ch_4_4, ch_4_5⟩ := hsC_cells Rh_4
  go_wp2_with fail
  refine (P20.out _).mono ?_
  rintro r w5 ⟨rfl, b5⟩
  have B5 : Below w.heap.size w w5 := btr B4 b5
  have Rh_5 := heap_of b5 _ _ _ Rh_4
  clear b5 B4 Rh_4 ch_4_0 ch_4_1 ch_4_2 ch_4_3 ch_4_4 ch_4_5
  obtain ⟨ch_5_0, ch_5_1, ch_5_2, ch_5_3, ch_5_4, ch_5_5⟩ := hsC_cells Rh_5
  go_wp2_with fail
  refine (P12.out _).mono ?_
  rintro r w6 ⟨rfl, b6⟩
  have B6 : Below w.heap.size w w6 := btr B5 b6
  have Rh_6 := heap_of b6 _ _ _ Rh_5
  clear b6 B5 Rh_5 ch_5_0 ch_5_1 ch_5_2 ch_5_3 ch_5_4 ch_5_5
  obtain ⟨ch_6_0, ch_6_1, ch_6_2, ch_6_3, ch_6_4, ch_6_5⟩ := hsC_cells Rh_6
  go_wp2
  go_ret
  exact ⟨rfl, B6⟩
set_option maxRecDepth 100000 in
set_option maxHeartbeats 8000000 in
theorem b25_mask5 (w : World) (RF : Box (∀ w, Calls Tryd.prog 34 #[.int .u8 5] w fun r w' => r = .returned (.agg (hsC ⟨true, true, false, false, false, false⟩)) ∧ Below w.heap.size w w')) (P15 : Box (∀ w, Calls Tryd.prog 35 #[.int .i64 15, .int .i64 5, .int .i64 31] w fun r w' => r = .returned (.int .u32 1015808) ∧ Below w.heap.size w w')) (P7 : Box (∀ w, Calls Tryd.prog 35 #[.int .i64 7, .int .i64 5, .int .i64 31] w fun r w' => r = .returned (.int .u32 3968) ∧ Below w.heap.size w w')) (P20 : Box (∀ w, Calls Tryd.prog 35 #[.int .i64 20, .int .i64 5, .int .i64 31] w fun r w' => r = .returned (.int .u32 32505856) ∧ Below w.heap.size w w')) : Calls Tryd.prog 21 #[.int .u8 5] w fun r w' => r = .returned (.int .u32 33525632) ∧ Below w.heap.size w w' := by
  have o0 : bits .or .u32 1015808 3968 = 1019776 := by decide +kernel
  have o1 : bits .or .u32 1019776 32505856 = 33525632 := by decide +kernel
  have hhn := hsC_new
  have B0 : Below w.heap.size w w := (Below.refl _ _)
  go_enter Tryd.func21, Tryd.ntmps21
  go_wp2_with fail
  refine (RF.out _).mono ?_
  rintro r w1 ⟨rfl, b1⟩
  have B1 : Below w.heap.size w w1 := btr B0 b1
  clear b1 B0 
  have S2 := box B1.size
  have Rh_2 := heap_alloc_last w1 (Obj.cells (hsC ⟨true, true, false, false, false, false⟩) 86)
  have B2 := btr B1 (bal w1 (Obj.cells (hsC ⟨true, true, false, false, false, false⟩) 86))
  clear B1 
  obtain ⟨ch_2_0, ch_2_1, ch_2_2, ch_2_3, ch_2_4, ch_2_5⟩ := hsC_cells Rh_2
  go_wp2_with fail
  refine (P15.out _).mono ?_
  rintro r w3 ⟨rfl, b3⟩
  have B3 : Below w.heap.size w w3 := btr B2 b3
  have Rh_3 := heap_of b3 _ _ _ Rh_2
  clear b3 B2 Rh_2 ch_2_0 ch_2_1 ch_2_2 ch_2_3 ch_2_4 ch_2_5
  obtain ⟨ch_3_0, ch_3_1, ch_3_2, ch_3_3, ch_3_4, ch_3_5⟩ := hsC_cells Rh_3
  go_wp2_with fail
  refine (P7.out _).mono ?_
  rintro r w4 ⟨rfl, b4⟩
  have B4 : Below w.heap.size w w4 := btr B3 b4
  have Rh_4 := heap_of b4 _ _ _ Rh_3
  clear b4 B3 Rh_3 ch_3_0 ch_3_1 ch_3_2 ch_3_3 ch_3_4 ch_3_5
  obtain ⟨ch_4_0, ch_4_1, ch_4_2, ch_4_3, ch_4_4, ch_4_5⟩ := hsC_cells Rh_4
  go_wp2_with fail
  refine (P20.out _).mono ?_
  rintro r w5 ⟨rfl, b5⟩
  have B5 : Below w.heap.size w w5 := btr B4 b5
  have Rh_5 := heap_of b5 _ _ _ Rh_4
  clear b5 B4 Rh_4 ch_4_0 ch_4_1 ch_4_2 ch_4_3 ch_4_4 ch_4_5
  obtain ⟨ch_5_0, ch_5_1, ch_5_2, ch_5_3, ch_5_4, ch_5_5⟩ := hsC_cells Rh_5
  go_wp2
  go_ret
  exact ⟨rfl, B5⟩
set_option maxRecDepth 100000 in
set_option maxHeartbeats 8000000 in
theorem b25_mask6 (w : World) (RF : Box (∀ w, Calls Tryd.prog 34 #[.int .u8 6] w fun r w' => r = .returned (.agg (hsC ⟨true, false, false, true, false, false⟩)) ∧ Below w.heap.size w w')) (P15 : Box (∀ w, Calls Tryd.prog 35 #[.int .i64 15, .int .i64 5, .int .i64 31] w fun r w' => r = .returned (.int .u32 1015808) ∧ Below w.heap.size w w')) (P7 : Box (∀ w, Calls Tryd.prog 35 #[.int .i64 7, .int .i64 5, .int .i64 31] w fun r w' => r = .returned (.int .u32 3968) ∧ Below w.heap.size w w')) (P12 : Box (∀ w, Calls Tryd.prog 35 #[.int .i64 12, .int .i64 3, .int .i64 7] w fun r w' => r = .returned (.int .u32 28672) ∧ Below w.heap.size w w')) : Calls Tryd.prog 21 #[.int .u8 6] w fun r w' => r = .returned (.int .u32 1048448) ∧ Below w.heap.size w w' := by
  have o0 : bits .or .u32 1015808 3968 = 1019776 := by decide +kernel
  have o1 : bits .or .u32 1019776 28672 = 1048448 := by decide +kernel
  have hhn := hsC_new
  have B0 : Below w.heap.size w w := (Below.refl _ _)
  go_enter Tryd.func21, Tryd.ntmps21
  go_wp2_with fail
  refine (RF.out _).mono ?_
  rintro r w1 ⟨rfl, b1⟩
  have B1 : Below w.heap.size w w1 := btr B0 b1
  clear b1 B0 
  have S2 := box B1.size
  have Rh_2 := heap_alloc_last w1 (Obj.cells (hsC ⟨true, false, false, true, false, false⟩) 86)
  have B2 := btr B1 (bal w1 (Obj.cells (hsC ⟨true, false, false, true, false, false⟩) 86))
  clear B1 
  obtain ⟨ch_2_0, ch_2_1, ch_2_2, ch_2_3, ch_2_4, ch_2_5⟩ := hsC_cells Rh_2
  go_wp2_with fail
  refine (P15.out _).mono ?_
  rintro r w3 ⟨rfl, b3⟩
  have B3 : Below w.heap.size w w3 := btr B2 b3
  have Rh_3 := heap_of b3 _ _ _ Rh_2
  clear b3 B2 Rh_2 ch_2_0 ch_2_1 ch_2_2 ch_2_3 ch_2_4 ch_2_5
  obtain ⟨ch_3_0, ch_3_1, ch_3_2, ch_3_3, ch_3_4, ch_3_5⟩ := hsC_cells Rh_3
  go_wp2_with fail
  refine (P7.out _).mono ?_
  rintro r w4 ⟨rfl, b4⟩
  have B4 : Below w.heap.size w w4 := btr B3 b4
  have Rh_4 := heap_of b4 _ _ _ Rh_3
  clear b4 B3 Rh_3 ch_3_0 ch_3_1 ch_3_2 ch_3_3 ch_3_4 ch_3_5
  obtain ⟨ch_4_0, ch_4_1, ch_4_2, ch_4_3, ch_4_4, ch_4_5⟩ := hsC_cells Rh_4
  go_wp2_with fail
  refine (P12.out _).mono ?_
  rintro r w5 ⟨rfl, b5⟩
  have B5 : Below w.heap.size w w5 := btr B4 b5
  have Rh_5 := heap_of b5 _ _ _ Rh_4
  clear b5 B4 Rh_4 ch_4_0 ch_4_1 ch_4_2 ch_4_3 ch_4_4 ch_4_5
  obtain ⟨ch_5_0, ch_5_1, ch_5_2, ch_5_3, ch_5_4, ch_5_5⟩ := hsC_cells Rh_5
  go_wp2
  go_ret
  exact ⟨rfl, B5⟩
set_option maxRecDepth 100000 in
set_option maxHeartbeats 8000000 in
theorem b25_mask7 (w : World) (RF : Box (∀ w, Calls Tryd.prog 34 #[.int .u8 7] w fun r w' => r = .returned (.agg (hsC ⟨true, false, false, false, false, false⟩)) ∧ Below w.heap.size w w')) (P15 : Box (∀ w, Calls Tryd.prog 35 #[.int .i64 15, .int .i64 5, .int .i64 31] w fun r w' => r = .returned (.int .u32 1015808) ∧ Below w.heap.size w w')) (P7 : Box (∀ w, Calls Tryd.prog 35 #[.int .i64 7, .int .i64 5, .int .i64 31] w fun r w' => r = .returned (.int .u32 3968) ∧ Below w.heap.size w w')) : Calls Tryd.prog 21 #[.int .u8 7] w fun r w' => r = .returned (.int .u32 1019776) ∧ Below w.heap.size w w' := by
  have o0 : bits .or .u32 1015808 3968 = 1019776 := by decide +kernel
  have hhn := hsC_new
  have B0 : Below w.heap.size w w := (Below.refl _ _)
  go_enter Tryd.func21, Tryd.ntmps21
  go_wp2_with fail
  refine (RF.out _).mono ?_
  rintro r w1 ⟨rfl, b1⟩
  have B1 : Below w.heap.size w w1 := btr B0 b1
  clear b1 B0 
  have S2 := box B1.size
  have Rh_2 := heap_alloc_last w1 (Obj.cells (hsC ⟨true, false, false, false, false, false⟩) 86)
  have B2 := btr B1 (bal w1 (Obj.cells (hsC ⟨true, false, false, false, false, false⟩) 86))
  clear B1 
  obtain ⟨ch_2_0, ch_2_1, ch_2_2, ch_2_3, ch_2_4, ch_2_5⟩ := hsC_cells Rh_2
  go_wp2_with fail
  refine (P15.out _).mono ?_
  rintro r w3 ⟨rfl, b3⟩
  have B3 : Below w.heap.size w w3 := btr B2 b3
  have Rh_3 := heap_of b3 _ _ _ Rh_2
  clear b3 B2 Rh_2 ch_2_0 ch_2_1 ch_2_2 ch_2_3 ch_2_4 ch_2_5
  obtain ⟨ch_3_0, ch_3_1, ch_3_2, ch_3_3, ch_3_4, ch_3_5⟩ := hsC_cells Rh_3
  go_wp2_with fail
  refine (P7.out _).mono ?_
  rintro r w4 ⟨rfl, b4⟩
  have B4 : Below w.heap.size w w4 := btr B3 b4
  have Rh_4 := heap_of b4 _ _ _ Rh_3
  clear b4 B3 Rh_3 ch_3_0 ch_3_1 ch_3_2 ch_3_3 ch_3_4 ch_3_5
  obtain ⟨ch_4_0, ch_4_1, ch_4_2, ch_4_3, ch_4_4, ch_4_5⟩ := hsC_cells Rh_4
  go_wp2
  go_ret
  exact ⟨rfl, B4⟩
set_option maxRecDepth 100000 in
set_option maxHeartbeats 8000000 in
theorem b25_mask8 (w : World) (RF : Box (∀ w, Calls Tryd.prog 34 #[.int .u8 8] w fun r w' => r = .returned (.agg (hsC ⟨true, false, false, false, false, true⟩)) ∧ Below w.heap.size w w')) (P15 : Box (∀ w, Calls Tryd.prog 35 #[.int .i64 15, .int .i64 5, .int .i64 31] w fun r w' => r = .returned (.int .u32 1015808) ∧ Below w.heap.size w w')) (P7 : Box (∀ w, Calls Tryd.prog 35 #[.int .i64 7, .int .i64 5, .int .i64 31] w fun r w' => r = .returned (.int .u32 3968) ∧ Below w.heap.size w w')) (PI : Box (∀ w, Calls Tryd.prog 35 #[.int .i64 20, .int .i64 12, .int .i64 4095] w fun r w' => r = .returned (.int .u32 4293918720) ∧ Below w.heap.size w w')) : Calls Tryd.prog 21 #[.int .u8 8] w fun r w' => r = .returned (.int .u32 4294938496) ∧ Below w.heap.size w w' := by
  have o0 : bits .or .u32 1015808 3968 = 1019776 := by decide +kernel
  have o1 : bits .or .u32 1019776 4293918720 = 4294938496 := by decide +kernel
  have hhn := hsC_new
  have B0 : Below w.heap.size w w := (Below.refl _ _)
  go_enter Tryd.func21, Tryd.ntmps21
  go_wp2_with fail
  refine (RF.out _).mono ?_
  rintro r w1 ⟨rfl, b1⟩
  have B1 : Below w.heap.size w w1 := btr B0 b1
  clear b1 B0 
  have S2 := box B1.size
  have Rh_2 := heap_alloc_last w1 (Obj.cells (hsC ⟨true, false, false, false, false, true⟩) 86)
  have B2 := btr B1 (bal w1 (Obj.cells (hsC ⟨true, false, false, false, false, true⟩) 86))
  clear B1 
  obtain ⟨ch_2_0, ch_2_1, ch_2_2, ch_2_3, ch_2_4, ch_2_5⟩ := hsC_cells Rh_2
  go_wp2_with fail
  refine (P15.out _).mono ?_
  rintro r w3 ⟨rfl, b3⟩
  have B3 : Below w.heap.size w w3 := btr B2 b3
  have Rh_3 := heap_of b3 _ _ _ Rh_2
  clear b3 B2 Rh_2 ch_2_0 ch_2_1 ch_2_2 ch_2_3 ch_2_4 ch_2_5
  obtain ⟨ch_3_0, ch_3_1, ch_3_2, ch_3_3, ch_3_4, ch_3_5⟩ := hsC_cells Rh_3
  go_wp2_with fail
  refine (P7.out _).mono ?_
  rintro r w4 ⟨rfl, b4⟩
  have B4 : Below w.heap.size w w4 := btr B3 b4
  have Rh_4 := heap_of b4 _ _ _ Rh_3
  clear b4 B3 Rh_3 ch_3_0 ch_3_1 ch_3_2 ch_3_3 ch_3_4 ch_3_5
  obtain ⟨ch_4_0, ch_4_1, ch_4_2, ch_4_3, ch_4_4, ch_4_5⟩ := hsC_cells Rh_4
  go_wp2_with fail
  refine (PI.out _).mono ?_
  rintro r w5 ⟨rfl, b5⟩
  have B5 : Below w.heap.size w w5 := btr B4 b5
  have Rh_5 := heap_of b5 _ _ _ Rh_4
  clear b5 B4 Rh_4 ch_4_0 ch_4_1 ch_4_2 ch_4_3 ch_4_4 ch_4_5
  obtain ⟨ch_5_0, ch_5_1, ch_5_2, ch_5_3, ch_5_4, ch_5_5⟩ := hsC_cells Rh_5
  go_wp2
  go_ret
  exact ⟨rfl, B5⟩
set_option maxRecDepth 100000 in
set_option maxHeartbeats 8000000 in
theorem b25_mask9 (w : World) (RF : Box (∀ w, Calls Tryd.prog 34 #[.int .u8 9] w fun r w' => r = .returned (.agg (hsC ⟨true, false, false, false, false, true⟩)) ∧ Below w.heap.size w w')) (P15 : Box (∀ w, Calls Tryd.prog 35 #[.int .i64 15, .int .i64 5, .int .i64 31] w fun r w' => r = .returned (.int .u32 1015808) ∧ Below w.heap.size w w')) (P7 : Box (∀ w, Calls Tryd.prog 35 #[.int .i64 7, .int .i64 5, .int .i64 31] w fun r w' => r = .returned (.int .u32 3968) ∧ Below w.heap.size w w')) (PI : Box (∀ w, Calls Tryd.prog 35 #[.int .i64 20, .int .i64 12, .int .i64 4095] w fun r w' => r = .returned (.int .u32 4293918720) ∧ Below w.heap.size w w')) : Calls Tryd.prog 21 #[.int .u8 9] w fun r w' => r = .returned (.int .u32 4294938496) ∧ Below w.heap.size w w' := by
  have o0 : bits .or .u32 1015808 3968 = 1019776 := by decide +kernel
  have o1 : bits .or .u32 1019776 4293918720 = 4294938496 := by decide +kernel
  have hhn := hsC_new
  have B0 : Below w.heap.size w w := (Below.refl _ _)
  go_enter Tryd.func21, Tryd.ntmps21
  go_wp2_with fail
  refine (RF.out _).mono ?_
  rintro r w1 ⟨rfl, b1⟩
  have B1 : Below w.heap.size w w1 := btr B0 b1
  clear b1 B0 
  have S2 := box B1.size
  have Rh_2 := heap_alloc_last w1 (Obj.cells (hsC ⟨true, false, false, false, false, true⟩) 86)
  have B2 := btr B1 (bal w1 (Obj.cells (hsC ⟨true, false, false, false, false, true⟩) 86))
  clear B1 
  obtain ⟨ch_2_0, ch_2_1, ch_2_2, ch_2_3, ch_2_4, ch_2_5⟩ := hsC_cells Rh_2
  go_wp2_with fail
  refine (P15.out _).mono ?_
  rintro r w3 ⟨rfl, b3⟩
  have B3 : Below w.heap.size w w3 := btr B2 b3
  have Rh_3 := heap_of b3 _ _ _ Rh_2
  clear b3 B2 Rh_2 ch_2_0 ch_2_1 ch_2_2 ch_2_3 ch_2_4 ch_2_5
  obtain ⟨ch_3_0, ch_3_1, ch_3_2, ch_3_3, ch_3_4, ch_3_5⟩ := hsC_cells Rh_3
  go_wp2_with fail
  refine (P7.out _).mono ?_
  rintro r w4 ⟨rfl, b4⟩
  have B4 : Below w.heap.size w w4 := btr B3 b4
  have Rh_4 := heap_of b4 _ _ _ Rh_3
  clear b4 B3 Rh_3 ch_3_0 ch_3_1 ch_3_2 ch_3_3 ch_3_4 ch_3_5
  obtain ⟨ch_4_0, ch_4_1, ch_4_2, ch_4_3, ch_4_4, ch_4_5⟩ := hsC_cells Rh_4
  go_wp2_with fail
  refine (PI.out _).mono ?_
  rintro r w5 ⟨rfl, b5⟩
  have B5 : Below w.heap.size w w5 := btr B4 b5
  have Rh_5 := heap_of b5 _ _ _ Rh_4
  clear b5 B4 Rh_4 ch_4_0 ch_4_1 ch_4_2 ch_4_3 ch_4_4 ch_4_5
  obtain ⟨ch_5_0, ch_5_1, ch_5_2, ch_5_3, ch_5_4, ch_5_5⟩ := hsC_cells Rh_5
  go_wp2
  go_ret
  exact ⟨rfl, B5⟩
def mkL (l : Nat) : Nat := if l = 1 then 4294938496 else if l = 2 then 4294938496 else if l = 3 then 4194303872 else if l = 4 then 33554304 else if l = 5 then 33525632 else if l = 6 then 1048448 else if l = 7 then 1019776 else if l = 8 then 4294938496 else 4294938496
theorem rMk25 (l : Nat) (h1 : 1 ≤ l) (h9 : l ≤ 9) (w : World) : Calls Tryd.prog 21 #[.int .u8 (l : Nat)] w fun r w' => r = .returned (.int .u32 (mkL l : Nat)) ∧ Below w.heap.size w w' := by
  have P15 : Box (∀ w, Calls Tryd.prog 35 #[.int .i64 15, .int .i64 5, .int .i64 31] w fun r w' => r = .returned (.int .u32 1015808) ∧ Below w.heap.size w w') := box (fun w => b25_put 15 5 31 (by decide) (by decide) w)
  have P7 : Box (∀ w, Calls Tryd.prog 35 #[.int .i64 7, .int .i64 5, .int .i64 31] w fun r w' => r = .returned (.int .u32 3968) ∧ Below w.heap.size w w') := box (fun w => b25_put 7 5 31 (by decide) (by decide) w)
  have P20 : Box (∀ w, Calls Tryd.prog 35 #[.int .i64 20, .int .i64 5, .int .i64 31] w fun r w' => r = .returned (.int .u32 32505856) ∧ Below w.heap.size w w') := box (fun w => b25_put 20 5 31 (by decide) (by decide) w)
  have P27 : Box (∀ w, Calls Tryd.prog 35 #[.int .i64 27, .int .i64 5, .int .i64 31] w fun r w' => r = .returned (.int .u32 4160749568) ∧ Below w.heap.size w w') := box (fun w => b25_put 27 5 31 (by decide) (by decide) w)
  have P12 : Box (∀ w, Calls Tryd.prog 35 #[.int .i64 12, .int .i64 3, .int .i64 7] w fun r w' => r = .returned (.int .u32 28672) ∧ Below w.heap.size w w') := box (fun w => b25_put 12 3 7 (by decide) (by decide) w)
  have PI : Box (∀ w, Calls Tryd.prog 35 #[.int .i64 20, .int .i64 12, .int .i64 4095] w fun r w' => r = .returned (.int .u32 4293918720) ∧ Below w.heap.size w w') := box (fun w => b25_put 20 12 4095 (by decide) (by decide) w)
  have PH : Box (∀ w, Calls Tryd.prog 35 #[.int .i64 25, .int .i64 7, .int .i64 127] w fun r w' => r = .returned (.int .u32 4261412864) ∧ Below w.heap.size w w') := box (fun w => b25_put 25 7 127 (by decide) (by decide) w)
  rcases (by omega : l = 1 ∨ l = 2 ∨ l = 3 ∨ l = 4 ∨ l = 5 ∨ l = 6 ∨ l = 7 ∨ l = 8 ∨ l = 9) with rfl | rfl | rfl | rfl | rfl | rfl | rfl | rfl | rfl
  · exact b25_mask1 w (box (fun w => rFl25 1 w)) P15 P7 PI
  · exact b25_mask2 w (box (fun w => rFl25 2 w)) P15 P20 PH P7
  · exact b25_mask3 w (box (fun w => rFl25 3 w)) P15 P7 P20 P27 P12
  · exact b25_mask4 w (box (fun w => rFl25 4 w)) P15 P7 P20 P12
  · exact b25_mask5 w (box (fun w => rFl25 5 w)) P15 P7 P20
  · exact b25_mask6 w (box (fun w => rFl25 6 w)) P15 P7 P12
  · exact b25_mask7 w (box (fun w => rFl25 7 w)) P15 P7
  · exact b25_mask8 w (box (fun w => rFl25 8 w)) P15 P7 PI
  · exact b25_mask9 w (box (fun w => rFl25 9 w)) P15 P7 PI
def usI (i : In) : Us := if i.op = 1 ∨ i.op = 22 ∨ i.op = 25 then ⟨2 ^ i.rs1, 0, 0, 2 ^ i.rd⟩ else if i.op = 2 then ⟨2 ^ i.rs1, 2 ^ i.rs2, 0, 0⟩ else if i.op = 3 ∨ i.op = 4 ∨ i.op = 5 ∨ i.op = 6 then ⟨0, 2 ^ i.rs1 ||| 2 ^ i.rs2 ||| 2 ^ i.rs3, 0, 2 ^ i.rd⟩ else if i.op = 11 ∨ i.op = 17 then ⟨0, 2 ^ i.rs1, 0, 2 ^ i.rd⟩ else if i.op = 18 ∨ i.op = 19 ∨ i.op = 20 then ⟨0, 2 ^ i.rs1 ||| 2 ^ i.rs2, 2 ^ i.rd, 0⟩ else if i.op = 21 ∨ i.op = 23 ∨ i.op = 24 then ⟨0, 2 ^ i.rs1, 2 ^ i.rd, 0⟩ else if i.op = 26 ∨ i.op = 27 ∨ i.op = 28 then ⟨2 ^ i.rs1, 0, 2 ^ i.rd, 0⟩ else if i.op = 29 ∨ i.op = 30 ∨ i.op = 31 then ⟨0, 0, 2 ^ i.rd, 0⟩ else ⟨0, 2 ^ i.rs1 ||| 2 ^ i.rs2, 0, 2 ^ i.rd⟩
theorem or32u (a b : Nat) (ha : a < 4294967296) (hb : b < 4294967296) : bits .or .u32 (a : Int) (b : Int) = ((a ||| b : Nat) : Int) := by
  have hx : a ||| b < 4294967296 := Nat.or_lt_two_pow (n := 32) ha hb
  have h1 : (BitVec.ofInt 32 (a : Int)).toNat = a := by
    rw [BitVec.ofInt_natCast, BitVec.toNat_ofNat]; exact Nat.mod_eq_of_lt ha
  have h2 : (BitVec.ofInt 32 (b : Int)).toNat = b := by
    rw [BitVec.ofInt_natCast, BitVec.toNat_ofNat]; exact Nat.mod_eq_of_lt hb
  show IntKind.u32.wrap ((BitVec.ofInt 32 (a : Int) ||| BitVec.ofInt 32 (b : Int)).toNat : Int) = _
  rw [BitVec.toNat_or, h1, h2, show ∀ y : Int, IntKind.u32.wrap y = y % 4294967296 from fun _ => rfl]
  omega
theorem two32 (r : Nat) (h : r < 32) : (2 : Int) ^ min r 32 % 4294967296 = ((2 ^ r : Nat) : Int) ∧ 2 ^ r < 4294967296 := by
  have l : 2 ^ r < 2 ^ 32 := Nat.pow_lt_pow_right (by decide) h
  have e : (2 : Int) ^ r = ((2 ^ r : Nat) : Int) := by rw [Int.natCast_pow]; rfl
  rw [show min r 32 = r by omega, e]
  obtain ⟨y, hy⟩ : ∃ y, 2 ^ r = y := ⟨_, rfl⟩
  rw [hy] at l ⊢
  have l2 : y < 4294967296 := l
  exact ⟨by omega, l2⟩
end Go.Proofs.YtamlcgmipdcgjaaDoor
