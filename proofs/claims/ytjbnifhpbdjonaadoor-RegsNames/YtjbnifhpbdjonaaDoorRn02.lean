/-
  What the functions that the statement reaches return: part 2 (C1, C1b, C4, C5, C6, CD, CE, CC, CF, CI, CJ, CK, CL, Shelf, TA, EA, EB, EC).
-/
import Derived.Deep.WholeRow
import Derived.Laws.CopyRow
import Derived.Laws.AppendOwn
import Derived.OwnWalk
import Derived.Maps.AppendAt
import Derived.Deep.RegionHeld3
import Derived.Deep.MidRow
import Derived.DeepKeys
import Derived.Shelf.Strconv.Itoa3
import Derived.Shelf.Strconv.ErrVarAll
import Derived.Shelf.Small.Wraps
import Derived.Shelf.Strings.Prefix
import Derived.Ground.NamesProg
import Derived.Test.YtjbnifhpbdjonaaDoorProg
import Derived.DataBytes
import Derived.ChangeOld
import Derived.Test.YtjbnifhpbdjonaaDoorRows
import Derived.Test.YtjbnifhpbdjonaaDoorRn01
namespace Go.Proofs.YtjbnifhpbdjonaaDoor
set_option maxRecDepth 100000
set_option maxHeartbeats 40000000
set_option maxRecDepth 100000
open Go.RowKit WMath
set_option linter.unusedSimpArgs false
set_option linter.unusedVariables false
def rf (R : Nat → Nat) : Array Value := ((List.range 96).map fun k => Value.int .u64 (R k : Nat)).toArray
theorem rf_size (R : Nat → Nat) : (rf R).size = 96 := by simp [rf]
theorem rf_at (R : Nat → Nat) (k : Nat) (h : k < 96) : (rf R)[k]? = some (.int .u64 (R k : Nat)) := by simp [rf, h]
def up (R : Nat → Nat) (k v : Nat) : Nat → Nat := fun j => if j = k then v else R j
theorem up_lt {R : Nat → Nat} (h : ∀ k, R k < 18446744073709551616) {k v : Nat} (hv : v < 18446744073709551616) : ∀ j, up R k v j < 18446744073709551616 := fun j => by
  unfold up
  split
  · exact hv
  · exact h j
theorem rf_same {R S : Nat → Nat} (h : ∀ k, k < 96 → R k = S k) : rf R = rf S := by
  unfold rf
  congr 1
  apply List.map_congr_left
  intro k hk
  rw [h k (List.mem_range.1 hk)]
theorem rf_set (R : Nat → Nat) (k v : Nat) (hk : k < 96) : (rf R).setIfInBounds k (.int .u64 (v : Nat)) = rf (up R k v) := by
  apply Array.ext_getElem?
  intro j
  rw [Array.getElem?_setIfInBounds, rf_size]
  by_cases e : k = j
  · subst e
    rw [if_pos rfl, if_pos hk, rf_at _ _ hk]
    unfold up
    rw [if_pos rfl]
  · rw [if_neg e]
    by_cases hj : j < 96
    · rw [rf_at _ _ hj, rf_at _ _ hj]
      unfold up
      rw [if_neg (fun q => e q.symm)]
    · rw [Array.getElem?_eq_none (by rw [rf_size]; omega), Array.getElem?_eq_none (by rw [rf_size]; omega)]
theorem rf_cell {w : World} {b : Nat} {R : Nat → Nat} {T : TypeId} (h : w.heap[b]? = some (.cells (rf R) T)) (o : Nat) (ho : o < 96) : w.cell? ⟨b, o, none⟩ = some (.int .u64 (R o : Nat)) := cell7 h o _ (rf_at R o ho)
theorem rf_load {w : World} {b : Nat} {R : Nat → Nat} {T : TypeId} (h : w.heap[b]? = some (.cells (rf R) T)) : (loadCellsFrom ⟨b, 0, none⟩ 0 96 #[]).run Tryd.prog w = .ok (rf R) w := by
  have := run_loadCells_list (P := Tryd.prog) w ⟨b, 0, none⟩ (rf R).toList (fun j v hv => by
    have hadd : (⟨b, 0, none⟩ : Addr).add j = ⟨b, j, none⟩ := by unfold Addr.add; split <;> simp_all
    rw [hadd]
    exact cell7 h j v (by simpa using hv))
  rw [Array.length_toList, rf_size] at this
  simpa [loadCells] using this
theorem rf_zero (w : World) : (zeroValue 28).run Tryd.prog w = .ok (.agg (rf fun _ => 0)) w := (zero_of_info (v := .agg (rf fun _ => 0)) (n := 96) (by kernel_rfl)).1 w
theorem rf_set0 (R : Nat → Nat) (k : Nat) (hk : k < 96) : (rf R).setIfInBounds k (.int .u64 0) = rf (up R k 0) := rf_set R k 0 hk
theorem rf_agg (w : World) : (isAgg 28).run Tryd.prog w = .ok true w := by kernel_rfl
theorem rf_sz (w : World) : (sizeOf 28).run Tryd.prog w = .ok 96 w := by kernel_rfl
theorem rf_lv {w : World} {b : Nat} {R : Nat → Nat} {T : TypeId} (h : w.heap[b]? = some (.cells (rf R) T)) : (loadVar 28 ⟨b, 0, none⟩).run Tryd.prog w = .ok (.agg (rf R)) w := by
  simp only [Sem.run_bind, Sem.run_pure, Result.andThen, loadVar, rf_agg, rf_sz, if_true]
  have q := rf_load h
  simp only [loadCells, Sem.run_map, q, Result.andThen]
theorem rf_la {w : World} {b : Nat} {R : Nat → Nat} {T : TypeId} (h : w.heap[b]? = some (.cells (rf R) T)) : (Instr.loadAt 28 (.pointer (some ⟨b, 0, none⟩))).run Tryd.prog w = .ok (.agg (rf R)) w := by
  simp only [Instr.loadAt, Instr.sureAddr, Sem.run_bind, Sem.run_pure, Result.andThen]
  exact rf_lv h
theorem wp_rf {w : World} {o : Oper} {a : Act} {K : Act → World → Prop} {Q : Exit → Act → World → Prop} (x : Operand) (hop : o.op = Op.load 28 x) {b : Nat} {R : Nat → Nat} {T : TypeId} (hx : a.eval x = .pointer (some ⟨b, 0, none⟩)) (hr : w.heap[b]? = some (.cells (rf R) T)) (hK : K (a.put o.dst (.agg (rf R))) w) : o.wp Tryd.prog a w K Q := by
  have q := rf_la hr
  unfold Oper.wp
  simp [execOp, hop, hx, q, Result.andThen]
  exact hK
theorem wpl_rf {w : World} {ops : Array Oper} {rest : List Oper} {o : Oper} {a : Act} {Q : Exit → Act → World → Prop} (hg : o.guard = none) (x : Operand) (hop : o.op = Op.load 28 x) {b : Nat} {R : Nat → Nat} {T : TypeId} (hx : a.eval x = .pointer (some ⟨b, 0, none⟩)) (hr : w.heap[b]? = some (.cells (rf R) T)) (hK : wpList Tryd.prog ops Q rest (a.put o.dst (.agg (rf R))) w) : wpList Tryd.prog ops Q (o :: rest) a w :=
  wpList_plain hg fun K hK' => wp_rf x hop hx hr (hK' _ _ hK)
theorem r23_is (n : Int) (o : Bool) (ho : (decide (0 ≤ n) && decide (n < 32)) = o) (w : World) : Calls Tryd.prog 40 #[.int .i64 n] w fun r w' => r = .returned (.bool o) ∧ w' = w := by
  subst ho
  by_cases h : 0 ≤ n
  · by_cases h2 : n < 32
    · have d1 : decide (0 ≤ n) = true := decide_eq_true h
      have d2 : decide (n < 32) = true := decide_eq_true h2
      go_enter Tryd.func40, Tryd.ntmps40
      go_wp2
      go_ret
      first | exact ⟨rfl, rfl⟩ | exact ⟨by rw [d1, d2]; rfl, rfl⟩
    · have d1 : decide (0 ≤ n) = true := decide_eq_true h
      have d2 : decide (n < 32) = false := decide_eq_false h2
      go_enter Tryd.func40, Tryd.ntmps40
      go_wp2
      go_ret
      first | exact ⟨rfl, rfl⟩ | exact ⟨by rw [d1, d2]; rfl, rfl⟩
  · have d1 : decide (0 ≤ n) = false := decide_eq_false h
    go_enter Tryd.func40, Tryd.ntmps40
    go_wp2
    go_ret
    first | exact ⟨rfl, rfl⟩ | exact ⟨by rw [d1]; rfl, rfl⟩
structure Chg where
  fl : Bool
  n : Int
  wd : Nat
  hi : Nat
  lo : Nat
def chC (c : Chg) : List Value := [.bool c.fl, .int .i64 c.n, .int .u64 (c.wd : Nat), .int .u64 (c.hi : Nat), .int .u64 (c.lo : Nat)]
def chsC (l : List Chg) : List Value := l.flatMap chC
def CS (w : World) (v : Value) (l : List Chg) : Prop := ∃ (ao : Option Addr) (cv : Nat), v = .slice ao l.length cv ∧ (l ≠ [] → ∃ g z, ao = some ⟨g, z, none⟩ ∧ g < w.heap.size ∧ ∀ j u, (chsC l)[j]? = some u → w.cell? ⟨g, z + j, none⟩ = some u)
theorem below_cell {w w' : World} {g k : Nat} {u : Value} (hb : Below w.heap.size w w') (hg : g < w.heap.size) (h : w.cell? ⟨g, k, none⟩ = some u) : w'.cell? ⟨g, k, none⟩ = some u := by
  have e := hb.block g hg
  unfold World.cell? at h ⊢
  rw [e]
  exact h
def dg (n : Nat) : UInt8 := UInt8.ofNat (48 + n)
theorem str_row {w : World} {b : Nat} (n : Nat) (h : n < 10) (hr : w.heap[b]? = some (.cells #[.int .u8 (48 + (n : Int))] 5)) : (convert 99 9 (.slice (some ⟨b, 0, none⟩) 1 1)).run Tryd.prog w = .ok (.string ⟨#[dg n]⟩) w := by
  have e : cb [dg n] = #[.int .u8 (48 + (n : Int))] := by
    have : (dg n).toNat = 48 + n := by unfold dg; rw [UInt8.toNat_ofNat']; omega
    simp [cb, this]
  rw [← e] at hr
  exact str_of (l := [dg n]) hr
set_option maxRecDepth 100000 in
set_option maxHeartbeats 4000000 in
theorem r23_num1 (n : Nat) (h : n < 10) (w : World) : Calls Tryd.prog 41 #[.int .i64 (n : Nat)] w fun r w' => r = .returned (.string ⟨#[dg n]⟩) ∧ Below w.heap.size w w' := by
  have d : decide ((n : Int) < 10) = true := decide_eq_true (by omega)
  have hw : IntKind.i64.wrap (48 + (n : Int)) = 48 + (n : Int) := by rw [IntKind.wrap_i64]; omega
  have hu : IntKind.u8.wrap (48 + (n : Int)) = 48 + (n : Int) := by rw [show ∀ y : Int, IntKind.u8.wrap y = y % 256 from fun _ => rfl]; omega
  have hs := fun w : World => str_row n h (last7 w (.cells #[.int .u8 (48 + (n : Int))] 5))
  go_enter Tryd.func41, Tryd.ntmps41
  go_wp2
  go_ret
  exact ⟨rfl, bal7 _ _⟩
set_option maxRecDepth 100000 in
set_option maxHeartbeats 4000000 in
theorem r23_num2 (n q m : Nat) (sq sm sr : ByteArray) (h : 10 ≤ n) (h2 : n < 100) (hq : n / 10 = q) (hm : n % 10 = m) (hcat : sq ++ sm = sr) (hsz1 : sq.size = 1) (hsz2 : sm.size = 1) (hsm : Box ((⟨#[dg m]⟩ : ByteArray) = sm)) (K : Box (∀ w, Calls Tryd.prog 41 #[.int .i64 (q : Nat)] w fun r w' => r = .returned (.string sq) ∧ Below w.heap.size w w')) (w : World) : Calls Tryd.prog 41 #[.int .i64 (n : Nat)] w fun r w' => r = .returned (.string sr) ∧ Below w.heap.size w w' := by
  have d : decide ((n : Int) < 10) = false := decide_eq_false (by omega)
  have t1 : (n : Int).tdiv 10 = (q : Int) := by rw [← hq]; rfl
  have t2 : (n : Int).tmod 10 = (m : Int) := by rw [← hm]; rfl
  have hm10 : m < 10 := by omega
  have hwq : IntKind.i64.wrap (q : Int) = (q : Int) := by rw [IntKind.wrap_i64]; omega
  have hwm : IntKind.i64.wrap (m : Int) = (m : Int) := by rw [IntKind.wrap_i64]; omega
  have h10 : ((10 : Int) == 0) = false := rfl
  have h1m : ((10 : Int) == -1) = false := rfl
  have hw : IntKind.i64.wrap (48 + (m : Int)) = 48 + (m : Int) := by rw [IntKind.wrap_i64]; omega
  have hu : IntKind.u8.wrap (48 + (m : Int)) = 48 + (m : Int) := by rw [show ∀ y : Int, IntKind.u8.wrap y = y % 256 from fun _ => rfl]; omega
  have srow : Box (∀ {W : World} {b : Nat}, W.heap[b]? = some (.cells #[.int .u8 (48 + (m : Int))] 5) → (convert 99 9 (.slice (some ⟨b, 0, none⟩) 1 1)).run Tryd.prog W = .ok (.string sm) W) := box (fun h => by rw [← hsm.out]; exact str_row m hm10 h)
  have hsA := srow.out (last7 w (.cells #[.int .u8 (48 + (m : Int))] 5))
  have hsA2 : (convert 99 9 (.slice (some ⟨w.heap.size, 0, none⟩) 1 1)).run Tryd.prog (w.alloc (.cells #[.int .u8 (48 + (m : Int))] 5)).drew = .ok (.string sm) (w.alloc (.cells #[.int .u8 (48 + (m : Int))] 5)).drew := srow.out (last7 w (.cells #[.int .u8 (48 + (m : Int))] 5))
  clear hq hm h h2
  go_enter Tryd.func41, Tryd.ntmps41
  go_wp2_with fail
  go_region_with (first | (go_at_call 41; refine (K.out _).mono ?_; rintro r w1 ⟨rfl, b1⟩; (have hsB := srow.out (last7 w1 (.cells #[.int .u8 (48 + (m : Int))] 5))); (first | (have hs1 : (convert 99 9 (.slice (some ⟨w.heap.size, 0, none⟩) 1 1)).run Tryd.prog w1 = .ok (.string sm) w1 := srow.out (heap_of b1 w.heap.size #[.int .u8 (48 + (m : Int))] 5 (last7 w _))) | skip)) | fail)
  all_goals go_wp2
  all_goals go_ret
  · exact ⟨rfl, bel_al (btr7 (bel_dr (Below.refl w.heap.size w)) b1) _⟩
  · exact ⟨rfl, btr7 (bel_dr (bal7 w (.cells #[.int .u8 (48 + (m : Int))] 5))) b1⟩
  · exact ⟨rfl, btr7 (bel_dr (bal7 w (.cells #[.int .u8 (48 + (m : Int))] 5))) b1⟩
def nuB (n : Nat) : ByteArray := if n < 10 then ⟨#[dg n]⟩ else ⟨#[dg (n / 10), dg (n % 10)]⟩
theorem r23_number (n : Nat) (h : n < 100) (w : World) : Calls Tryd.prog 41 #[.int .i64 (n : Nat)] w fun r w' => r = .returned (.string (nuB n)) ∧ Below w.heap.size w w' := by
  by_cases c : n < 10
  · unfold nuB
    rw [if_pos c]
    exact r23_num1 n c w
  · unfold nuB
    rw [if_neg c]
    exact r23_num2 n _ _ ⟨#[dg (n / 10)]⟩ ⟨#[dg (n % 10)]⟩ _ (by omega) h rfl rfl rfl rfl rfl (box rfl) (box (fun w => r23_num1 (n / 10) (by omega) w)) w
def nmB (fl : Bool) (n : Nat) : ByteArray := (if fl then ⟨#[102]⟩ else ⟨#[120]⟩) ++ nuB n
theorem nuB_size (n : Nat) : (nuB n).size ≤ 2 := by unfold nuB; split <;> simp [ByteArray.size]
set_option maxRecDepth 100000 in
set_option maxHeartbeats 4000000 in
theorem r23_name (fl : Bool) (n : Nat) (h : n < 32) (s p : ByteArray) (hp : nuB n = p) (hs : nmB fl n = s) (w : World) : Calls Tryd.prog 17 #[.bool fl, .int .i64 (n : Nat)] w fun r w' => r = .returned (.tuple #[.string s, .int .i64 0]) ∧ Below w.heap.size w w' := by
  have hi : (decide (0 ≤ (n : Int)) && decide ((n : Int) < 32)) = true := by rw [decide_eq_true (by omega), decide_eq_true (by omega)]; rfl
  have KI := box (fun w => r23_is n _ hi w)
  have KN := box (fun w => r23_number n (by omega) w)
  have hz := nuB_size n
  rw [hp] at KN hz
  unfold nmB at hs
  rw [hp] at hs
  clear hp hi
  have c1 : ¬ 9223372036854775807 < 1 + p.size := by omega
  cases fl
  · have hs' : (⟨#[120]⟩ : ByteArray) ++ p = s := hs
    clear hs
    go_enter Tryd.func17, Tryd.ntmps17
    go_wp2_with (first | (go_at_call 40; refine (KI.out _).mono ?_; rintro r w' ⟨rfl, rfl⟩) | (go_at_call 41; refine (KN.out _).mono ?_; rintro r w1 ⟨rfl, b1⟩))
    go_ret2
    exact ⟨rfl, b1⟩
  · have hs' : (⟨#[102]⟩ : ByteArray) ++ p = s := hs
    clear hs
    go_enter Tryd.func17, Tryd.ntmps17
    go_wp2_with (first | (go_at_call 40; refine (KI.out _).mono ?_; rintro r w' ⟨rfl, rfl⟩) | (go_at_call 41; refine (KN.out _).mono ?_; rintro r w1 ⟨rfl, b1⟩))
    go_ret2
    exact ⟨rfl, b1⟩
set_option maxRecDepth 100000 in
set_option maxHeartbeats 4000000 in
theorem r23_name_no (fl : Bool) (n : Int) (hi : (decide (0 ≤ n) && decide (n < 32)) = false) (w : World) : Calls Tryd.prog 17 #[.bool fl, .int .i64 n] w fun r w' => r = .returned (.tuple #[.string ⟨#[]⟩, .int .i64 2]) ∧ Below w.heap.size w w' := by
  have KI := box (fun w => r23_is n _ hi w)
  clear hi
  go_enter Tryd.func17, Tryd.ntmps17
  go_wp2_with (first | (go_at_call 40; refine (KI.out _).mono ?_; rintro r w' ⟨rfl, rfl⟩))
  go_ret2
  exact ⟨rfl, Below.refl _ _⟩
theorem ba_ne {p s : ByteArray} (h : p ≠ s) : (p.toList == s.toList) = false := by
  rw [beq_eq_false_iff_ne, ByteArray.toList_eq, ByteArray.toList_eq]
  intro e
  apply h
  apply ByteArray.ext
  exact Array.toList_inj.1 e
def ndK (s : ByteArray) : Nat → Option (Bool × Nat)
  | 0 => none
  | k + 1 => (ndK s k).or (if nmB false k = s then some (false, k) else if nmB true k = s then some (true, k) else none)
def ndR (s : ByteArray) : Bool × Nat × Int := match ndK s 32 with
  | some (fl, n) => (fl, n, 0)
  | none => (false, 0, 230)
theorem ndK_more {s : ByteArray} {k : Nat} {r : Bool × Nat} (h : ndK s k = some r) : ∀ m, k ≤ m → ndK s m = some r := by
  intro m
  induction m with
  | zero => intro q; have : k = 0 := by omega
            subst this; exact h
  | succ m ih =>
    intro q
    rcases Nat.lt_or_eq_of_le q with c | c
    · rw [ndK, ih (by omega)]; rfl
    · subst c; exact h
set_option maxRecDepth 100000 in
set_option maxHeartbeats 8000000 in
theorem r23_named (s : ByteArray) (w : World) (KN : ∀ fl n, n < 32 → ∀ p, nmB fl n = p → Box (∀ w, Calls Tryd.prog 17 #[.bool fl, .int .i64 (n : Nat)] w fun r w' => r = .returned (.tuple #[.string p, .int .i64 0]) ∧ Below w.heap.size w w')) : Calls Tryd.prog 19 #[.string s] w fun r w' => r = .returned (.tuple #[.bool (ndR s).1, .int .i64 ((ndR s).2.1 : Nat), .int .i64 (ndR s).2.2]) ∧ Below w.heap.size w w' := by
  go_enter Tryd.func19, Tryd.ntmps19
  go_wp2
  go_loopw [5] (fun i wr => ∃ k : Nat, k ≤ 32 ∧ i = .int .i64 (k : Int) ∧ Below w.heap.size w wr ∧ Box (ndK s k = none)) (fun i _ => 32 - (intOf i).toNat)
  case atStart => exact ⟨0, by omega, rfl, Below.refl _ _, box rfl⟩
  case round =>
    obtain ⟨k, hk, rfl, hB, HN⟩ := hrel
    by_cases hlt : k < 32
    · have dl : decide ((k : Int) < 32) = true := decide_eq_true (by omega)
      have hw1 : IntKind.i64.wrap ((k : Int) + 1) = ((k + 1 : Nat) : Int) := by rw [IntKind.wrap_i64]; omega
      obtain ⟨p, hp⟩ : ∃ p, nmB false k = p := ⟨_, rfl⟩
      obtain ⟨q, hq⟩ : ∃ q, nmB true k = q := ⟨_, rfl⟩
      have K1 := KN false k hlt p hp
      have K2 := KN true k hlt q hq
      have ne : ndK s (k + 1) = if p = s then some (false, k) else if q = s then some (true, k) else none := by rw [ndK, HN.out, hp, hq]; rfl
      clear hp hq
      by_cases c1 : p = s
      · rw [if_pos c1] at ne
        have hr : ndR s = (false, k, 0) := by unfold ndR; rw [ndK_more ne 32 (by omega)]
        have e1 : (p.toList == s.toList) = true := by rw [c1]; simp
        clear c1 ne
        go_wp2_with fail
        refine (K1.out _).mono ?_
        rintro r w1 ⟨rfl, b1⟩
        go_wp2_with fail
        refine (K2.out _).mono ?_
        rintro r w2 ⟨rfl, b2⟩
        go_wp2
        go_ret3
        exact ⟨by rw [hr]; rfl, btr7 (btr7 hB b1) b2⟩
      · rw [if_neg c1] at ne
        have e1 : (p.toList == s.toList) = false := ba_ne c1
        by_cases c2 : q = s
        · rw [if_pos c2] at ne
          have hr : ndR s = (true, k, 0) := by unfold ndR; rw [ndK_more ne 32 (by omega)]
          have e2 : (q.toList == s.toList) = true := by rw [c2]; simp
          clear c1 c2 ne
          go_wp2_with fail
          refine (K1.out _).mono ?_
          rintro r w1 ⟨rfl, b1⟩
          go_wp2_with fail
          refine (K2.out _).mono ?_
          rintro r w2 ⟨rfl, b2⟩
          go_wp2
          go_ret3
          exact ⟨by rw [hr]; rfl, btr7 (btr7 hB b1) b2⟩
        · rw [if_neg c2] at ne
          have e2 : (q.toList == s.toList) = false := ba_ne c2
          clear c1 c2
          go_wp2_with fail
          refine (K1.out _).mono ?_
          rintro r w1 ⟨rfl, b1⟩
          go_wp2_with fail
          refine (K2.out _).mono ?_
          rintro r w2 ⟨rfl, b2⟩
          go_wp2
          go_roundw
          case rel => exact ⟨k + 1, by omega, by first | rfl | simp, btr7 (btr7 hB b1) b2, box ne⟩
          case measure => simp [intOf]; omega
    · have k32 : k = 32 := by omega
      subst k32
      have hr : ndR s = (false, 0, 230) := by unfold ndR; rw [HN.out]
      go_wp2
      go_ret3
      exact ⟨by rw [hr]; rfl, hB⟩
def inR (n : Int) : Bool := decide (0 ≤ n) && decide (n < 32)
def xV (R : Nat → Nat) (n : Int) : Nat × Int := if inR n = true then (R n.toNat, 0) else (0, 2)
def sxV (R : Nat → Nat) (n : Int) (v : Nat) : (Nat → Nat) × Int := if inR n = true then (if n = 0 then R else up R n.toNat v, 0) else (R, 2)
def fV (R : Nat → Nat) (n : Int) : Nat × Nat × Int := if inR n = true then (R (32 + n.toNat * 2), R (32 + n.toNat * 2 + 1), 0) else (0, 0, 2)
def ptV (R : Nat → Nat) (f n : Int) (u v : Nat) : (Nat → Nat) × Int := if (inR n && fitN f (v + 18446744073709551616 * u)) = true then (up (up R (32 + n.toNat * 2) (bv7 (v + 18446744073709551616 * u + abN f)).1) (32 + n.toNat * 2 + 1) (bv7 (v + 18446744073709551616 * u + abN f)).2, 0) else (R, 2)
theorem inR_nat {n : Int} (h : inR n = true) : ∃ k : Nat, k < 32 ∧ n = (k : Int) ∧ n.toNat = k := by
  unfold inR at h
  rw [Bool.and_eq_true, decide_eq_true_iff, decide_eq_true_iff] at h
  exact ⟨n.toNat, by omega, by omega, rfl⟩
def Bnd (R : Nat → Nat) : Prop := (∀ k, R k < 18446744073709551616) ∧ R 0 = 0
theorem bnd_up {R : Nat → Nat} (h : Bnd R) {k v : Nat} (hk : k ≠ 0) (hv : v < 18446744073709551616) : Bnd (up R k v) := ⟨up_lt h.1 hv, by unfold up; rw [if_neg (by omega)]; exact h.2⟩
def CLt (w : World) (b : Nat) (sv : Value) (l : List Chg) : Prop := (sv = .slice none 0 0 ∧ l = []) ∨ ∃ (ad : Addr) (L cv : Nat), sv = .slice (some ad) L cv ∧ l.length = L ∧ L ≤ cv ∧ (L = 0 ∨ (ad.spot = none ∧ ad.block < w.heap.size)) ∧ Box (∀ W, Only b w W → ∀ j u, (chsC l)[j]? = some u → W.cell? (ad.add j) = some u)
theorem CLt.cs {w : World} {b : Nat} {sv : Value} {l : List Chg} (h : CLt w b sv l) : ∀ W, Below w.heap.size w W → CS W sv l := by
  intro W bW
  rcases h with ⟨rfl, rfl⟩ | ⟨ad, L, cv, rfl, hl, hc, hs, HC⟩
  · exact ⟨none, 0, rfl, fun h => absurd rfl h⟩
  · refine ⟨some ad, cv, by rw [hl], fun hne => ?_⟩
    have hL : L ≠ 0 := fun z => hne (List.length_eq_zero_iff.1 (hl.trans z))
    obtain ⟨hsp, hbl⟩ := hs.resolve_left hL
    obtain ⟨g, z, sp⟩ := ad
    obtain rfl : sp = none := hsp
    refine ⟨g, z, rfl, Nat.lt_of_lt_of_le hbl bW.size, fun j u hj => ?_⟩
    have := HC.out W (Only.ofBelow bW (Nat.le_refl _)) j u hj
    rw [show (⟨g, z, none⟩ : Addr).add j = ⟨g, z + j, none⟩ from by unfold Addr.add; split <;> simp_all] at this
    exact this
theorem only_cell {b g k : Nat} {w w' : World} {v : Value} (o : Only b w w') (hb : g ≠ b) (hg : g < w.heap.size) (h : w.cell? ⟨g, k, none⟩ = some v) : w'.cell? ⟨g, k, none⟩ = some v := by
  have e := o.2.2.2.2 g hg hb
  unfold World.cell? at h ⊢
  rw [e]
  exact h
theorem bnd_zero : Bnd (fun _ => 0) := ⟨fun _ => (by decide : (0 : Nat) < 18446744073709551616), rfl⟩
set_option maxRecDepth 100000 in
set_option maxHeartbeats 8000000 in
theorem lives23 {T : World → Prop} (FB : Box (∀ {w w' : World}, T w → Below w.heap.size w w' → T w')) (rg : (Nat → Nat) → Array Value) (tg : TypeId) (PX : Box (∀ (R : Nat → Nat) (b : Nat) (n : Int) w, Bnd R → T w → w.heap[b]? = some (.cells (rg R) tg) → Calls Tryd.prog 20 #[.pointer (some ⟨b, 0, none⟩), .int .i64 n] w fun r w' => r = .returned (.tuple #[.int .u64 ((xV R n).1 : Nat), .int .i64 (xV R n).2]) ∧ Below w.heap.size w w')) (PF : Box (∀ (R : Nat → Nat) (b : Nat) (n : Int) w, Bnd R → T w → w.heap[b]? = some (.cells (rg R) tg) → Calls Tryd.prog 21 #[.pointer (some ⟨b, 0, none⟩), .int .i64 n] w fun r w' => r = .returned (.tuple #[.agg #[.int .u64 ((fV R n).1 : Nat), .int .u64 ((fV R n).2.1 : Nat)], .int .i64 (fV R n).2.2]) ∧ Below w.heap.size w w')) (PSX : Box (∀ (R : Nat → Nat) (b : Nat) (n : Int) (x : Nat) w, Bnd R → x < 18446744073709551616 → T w → w.heap[b]? = some (.cells (rg R) tg) → Calls Tryd.prog 25 #[.pointer (some ⟨b, 0, none⟩), .int .i64 n, .int .u64 (x : Nat)] w fun r w' => r = .returned (.int .i64 (sxV R n x).2) ∧ w'.heap[b]? = some (.cells (rg (sxV R n x).1) tg) ∧ Only b w w')) (PP : Box (∀ (R : Nat → Nat) (b : Nat) (f n : Int) (u v : Nat) w, Bnd R → 0 ≤ f → f ≤ 255 → u < 18446744073709551616 → v < 18446744073709551616 → T w → w.heap[b]? = some (.cells (rg R) tg) → Calls Tryd.prog 27 #[.pointer (some ⟨b, 0, none⟩), .int .u8 f, .int .i64 n, .agg #[.int .u64 (u : Nat), .int .u64 (v : Nat)]] w fun r w' => r = .returned (.int .i64 (ptV R f n u v).2) ∧ w'.heap[b]? = some (.cells (rg (ptV R f n u v).1) tg) ∧ Only b w w'))
    (PN : Box (∀ w, T w → Calls Tryd.prog 24 #[] w fun r w' => ∃ b, r = .returned (.pointer (some ⟨b, 0, none⟩)) ∧ w.heap.size ≤ b ∧ w'.heap[b]? = some (.cells (rg fun _ => 0) tg) ∧ Below w.heap.size w w'))
    (PM : Box (∀ w, T w → Calls Tryd.prog 18 #[.string ⟨#[102, 51, 49]⟩] w fun r w' => r = .returned (.tuple #[.bool true, .int .i64 31, .int .i64 0]) ∧ Below w.heap.size w w'))
    (w : World) (hT : T w) : Calls Tryd.prog 9 #[] w fun r w' => r = .returned (.bool true) ∧ Below w.heap.size w w' := by
  have FF := box hT
  clear hT
  have a1 : sxV (fun _ => 0) 0 7 = ((fun _ => 0), 0) := rfl
  have a2 : xV (fun _ => 0) 0 = (0, 0) := rfl
  have a3 : sxV (fun _ => 0) 5 7 = ((up (fun _ => 0) 5 7), 0) := rfl
  have a4 : xV (up (fun _ => 0) 5 7) 5 = (7, 0) := rfl
  have a5 : xV (up (fun _ => 0) 5 7) 32 = (0, 2) := rfl
  have a6 : ptV (up (fun _ => 0) 5 7) 2 3 0 15360 = ((up (up (up (fun _ => 0) 5 7) 38 18446744073709551615) 39 18446744073709501440), 0) := by
    have e : bv7 (15360 + 18446744073709551616 * 0 + abN 2) = (18446744073709551615, 18446744073709501440) := by decide +kernel
    have q : (inR 3 && fitN 2 (15360 + 18446744073709551616 * 0)) = true := by decide +kernel
    unfold ptV
    rw [if_pos q, e]
    rfl
  have a7 : fV (up (up (up (fun _ => 0) 5 7) 38 18446744073709551615) 39 18446744073709501440) 3 = (18446744073709551615, 18446744073709501440, 0) := rfl
  have b0 := bnd_zero
  have b1 : Bnd (up (fun _ => 0) 5 7) := bnd_up b0 (by decide) (by decide)
  have b2 : Bnd (up (up (up (fun _ => 0) 5 7) 38 18446744073709551615) 39 18446744073709501440) := bnd_up (bnd_up b1 (by decide) (by decide)) (by decide) (by decide)
  obtain ⟨S1, hS1⟩ : ∃ S, (up (fun _ => 0) 5 7) = S := ⟨_, rfl⟩
  rw [hS1] at a3 a4 a5 a6 a7 b1 b2
  obtain ⟨S2, hS2⟩ : ∃ S, (up (up S1 38 18446744073709551615) 39 18446744073709501440) = S := ⟨_, rfl⟩
  rw [hS2] at a6 a7 b2
  have Q0 := fun b w hT hr => PSX.out (fun _ => 0) b 0 7 w b0 (by decide) hT hr
  have Q1 := fun b w hT hr => PX.out (fun _ => 0) b 0 w b0 hT hr
  have Q2 := fun b w hT hr => PSX.out (fun _ => 0) b 5 7 w b0 (by decide) hT hr
  have Q3 := fun b w hT hr => PX.out S1 b 5 w b1 hT hr
  have Q4 := fun b w hT hr => PX.out S1 b 32 w b1 hT hr
  have Q5 := fun b w hT hr => PP.out S1 b 2 3 0 15360 w b1 (by decide) (by decide) (by decide) (by decide) hT hr
  have Q6 := fun b w hT hr => PF.out S2 b 3 w b2 hT hr
  rw [a1] at Q0
  rw [a2] at Q1
  rw [a3] at Q2
  rw [a4] at Q3
  rw [a5] at Q4
  rw [a6] at Q5
  rw [a7] at Q6
  have QQ := box (And.intro Q0 (And.intro Q1 (And.intro Q2 (And.intro Q3 (And.intro Q4 (And.intro Q5 Q6))))))
  clear Q0 Q1 Q2 Q3 Q4 Q5 Q6 a1 a2 a3 a4 a5 a6 a7 b0 b1 b2 hS1 hS2
  go_enter Tryd.func9, Tryd.ntmps9
  go_wp2_with fail
  refine (PN.out _ FF.out).mono ?_
  rintro r w1 ⟨b, rfl, gb, r1, B1⟩
  have hgb := box gb
  clear gb
  go_wp2_with fail
  refine (QQ.out.1 b _ (FB.out FF.out B1) r1).mono ?_
  rintro r w2 ⟨rfl, r2, o2⟩
  have B2 := Only.toBelow B1 o2 hgb.out B1.size
  clear B1 r1 o2
  go_wp2_with fail
  refine (QQ.out.2.1 b _ (FB.out FF.out B2) r2).mono ?_
  rintro r w3 ⟨rfl, q3⟩
  have B3 := btr B2 q3
  have r3 := heap_of q3 _ _ _ r2
  clear B2 r2 q3
  go_wp2_with fail
  refine (QQ.out.2.2.1 b _ (FB.out FF.out B3) r3).mono ?_
  rintro r w4 ⟨rfl, r4, o4⟩
  have B4 := Only.toBelow B3 o4 hgb.out B3.size
  clear B3 r3 o4
  go_wp2_with fail
  refine (QQ.out.2.2.2.1 b _ (FB.out FF.out B4) r4).mono ?_
  rintro r w5 ⟨rfl, q5⟩
  have B5 := btr B4 q5
  have r5 := heap_of q5 _ _ _ r4
  clear B4 r4 q5
  go_wp2_with fail
  refine (QQ.out.2.2.2.2.1 b _ (FB.out FF.out B5) r5).mono ?_
  rintro r w6 ⟨rfl, q6⟩
  have B6 := btr B5 q6
  have r6 := heap_of q6 _ _ _ r5
  clear B5 r5 q6
  go_wp2_with fail
  refine (QQ.out.2.2.2.2.2.1 b _ (FB.out FF.out B6) r6).mono ?_
  rintro r w7 ⟨rfl, r7, o7⟩
  have B7 := Only.toBelow B6 o7 hgb.out B6.size
  clear B6 r6 o7
  go_wp2_with fail
  refine (QQ.out.2.2.2.2.2.2 b _ (FB.out FF.out B7) r7).mono ?_
  rintro r w8 ⟨rfl, q8⟩
  have B8 := btr B7 q8
  have B9 := btr B8 (bal w8 (.cells #[.int .u64 18446744073709551615, .int .u64 18446744073709501440] 25))
  have Rn9 := heap_alloc_last w8 (.cells #[.int .u64 18446744073709551615, .int .u64 18446744073709501440] 25)
  clear B7 r7 q8
  go_wp2_with fail
  refine (PM.out _ (FB.out FF.out B9)).mono ?_
  rintro r w10 ⟨rfl, q10⟩
  have B10 := btr B9 q10
  obtain ⟨c0, c1⟩ := cells2s (heap_of q10 _ _ _ Rn9)
  clear B8 B9 Rn9 q10
  go_wp2
  go_ret
  exact ⟨rfl, B10⟩
def NoR (z0 : Array Value) (tg : TypeId) (p : Option Addr) (w : World) : Prop := p = none ∨ ∃ b, p = some ⟨b, 0, none⟩ ∧ w.heap[b]? = some (.cells z0 tg)
theorem NoR.mono {z0 : Array Value} {tg : TypeId} {p : Option Addr} {w w' : World} (h : NoR z0 tg p w) (b : Below w.heap.size w w') : NoR z0 tg p w' := h.imp id (fun ⟨g, e, r⟩ => ⟨g, e, heap_of b _ _ _ r⟩)
theorem wd_three {f : Int} (h : 0 < wdF f) : 0 ≤ f ∧ f ≤ 3 := by
  unfold wdF at h
  (repeat' split at h) <;> omega
def CLw (w : World) (sv : Value) (l : List Chg) : Prop := (sv = .slice none 0 0 ∧ l = []) ∨ ∃ (ad : Addr) (L cv : Nat), sv = .slice (some ad) L cv ∧ l.length = L ∧ L ≤ cv ∧ (L = 0 ∨ (ad.spot = none ∧ ad.block < w.heap.size)) ∧ ∀ j u, (chsC l)[j]? = some u → w.cell? (ad.add j) = some u
theorem CLw.at {w W : World} {b : Nat} {sv : Value} {l : List Chg} (h : CLw w sv l) (q : Below w.heap.size w W) (hb : w.heap.size ≤ b) : CLt W b sv l := by
  rcases h with h | ⟨ad, L, cv, e, hl, hc, hs, hr⟩
  · exact Or.inl h
  · refine Or.inr ⟨ad, L, cv, e, hl, hc, hs.imp id (fun h => ⟨h.1, Nat.lt_of_lt_of_le h.2 q.size⟩), box (fun W' o j u hj => ?_)⟩
    rcases hs with h0 | ⟨sp, hg⟩
    · have : l = [] := List.length_eq_zero_iff.1 (by omega)
      subst this
      simp [chsC] at hj
    · have hh := hr j u hj
      obtain ⟨g, z, s⟩ := ad
      dsimp only at sp hg
      subst sp
      have hadd : (⟨g, z, none⟩ : Addr).add j = ⟨g, z + j, none⟩ := by unfold Addr.add; split <;> simp_all
      rw [hadd] at hh ⊢
      exact only_cell o (by omega) (Nat.lt_of_lt_of_le hg q.size) (below_cell q hg hh)
def nmV (fl : Bool) (n : Int) : ByteArray × Int := if (decide (0 ≤ n) && decide (n < 32)) = true then (nmB fl n.toNat, 0) else (⟨#[]⟩, 2)
theorem rName23 (fl : Bool) (n : Int) (w : World) : Calls Tryd.prog 17 #[.bool fl, .int .i64 n] w fun r w' => r = .returned (.tuple #[.string (nmV fl n).1, .int .i64 (nmV fl n).2]) ∧ Below w.heap.size w w' := by
  unfold nmV
  cases c : (decide (0 ≤ n) && decide (n < 32))
  · exact r23_name_no fl n c w
  · rw [Bool.and_eq_true] at c
    have a := of_decide_eq_true c.1
    have b := of_decide_eq_true c.2
    obtain ⟨k, rfl⟩ : ∃ k : Nat, n = (k : Int) := ⟨n.toNat, by omega⟩
    exact r23_name fl k (by omega) _ _ rfl rfl w
theorem rNamed23 (s : ByteArray) (w : World) : Calls Tryd.prog 19 #[.string s] w fun r w' => r = .returned (.tuple #[.bool (ndR s).1, .int .i64 ((ndR s).2.1 : Nat), .int .i64 (ndR s).2.2]) ∧ Below w.heap.size w w' :=
  r23_named s w (fun fl n h p hp => box (fun w => r23_name fl n h p _ rfl hp w))
theorem nmV_e (fl : Bool) (n : Int) : (nmV fl n).2 = 0 ∨ (nmV fl n).2 = 2 := by unfold nmV; split <;> simp
theorem ndR_e (s : ByteArray) : (ndR s).2.2 = 0 ∨ (ndR s).2.2 = 230 := by unfold ndR; split <;> simp
set_option maxRecDepth 100000 in
set_option maxHeartbeats 8000000 in
theorem rn_lawT {T : World → Prop} (FB : Box (∀ {w w' : World}, T w → Below w.heap.size w w' → T w')) (fl : Bool) (n : Int) (s a : ByteArray) (e : Int) (c : Bool) (d g : Int) (w : World) (he : IntKind.i64.wrap e = e) (hg : IntKind.i64.wrap g = g) (hT : T w)
    (K1 : Box (∀ w, T w → Calls Tryd.prog 16 #[.bool fl, .int .i64 n] w fun r w' => r = .returned (.tuple #[.string a, .int .i64 e]) ∧ Below w.heap.size w w'))
    (K2 : Box (∀ w, Calls Tryd.prog 17 #[.bool fl, .int .i64 n] w fun r w' => r = .returned (.tuple #[.string a, .int .i64 e]) ∧ Below w.heap.size w w'))
    (K3 : Box (∀ w, T w → Calls Tryd.prog 18 #[.string s] w fun r w' => r = .returned (.tuple #[.bool c, .int .i64 d, .int .i64 g]) ∧ Below w.heap.size w w'))
    (K4 : Box (∀ w, Calls Tryd.prog 19 #[.string s] w fun r w' => r = .returned (.tuple #[.bool c, .int .i64 d, .int .i64 g]) ∧ Below w.heap.size w w'))
    (KA : Box (∀ w, T w → Calls Tryd.prog 9 #[] w fun r w' => r = .returned (.bool true) ∧ Below w.heap.size w w')) : Calls Tryd.prog 4 #[.bool fl, .int .i64 n, .string s] w fun r w' => r = .returned (.bool true) ∧ Below w.heap.size w w' := by
  have FF := box hT
  clear hT
  have hb : (a.toList == a.toList) = true := by simp
  have hcc : (c == c) = true := by simp
  have B0 : Below w.heap.size w w := (Below.refl _ _)
  go_enter Tryd.func4, Tryd.ntmps4
  go_wp2_with fail
  refine (K1.out _ (FB.out FF.out B0)).mono ?_
  rintro r w1 ⟨rfl, b1⟩
  have B1 : Below w.heap.size w w1 := btr B0 b1
  clear b1 B0 
  go_wp2_with fail
  refine (K2.out _).mono ?_
  rintro r w2 ⟨rfl, b2⟩
  have B2 : Below w.heap.size w w2 := btr B1 b2
  clear b2 B1 
  go_wp2_with fail
  refine (K3.out _ (FB.out FF.out B2)).mono ?_
  rintro r w3 ⟨rfl, b3⟩
  have B3 : Below w.heap.size w w3 := btr B2 b3
  clear b3 B2 
  go_wp2_with fail
  refine (K4.out _).mono ?_
  rintro r w4 ⟨rfl, b4⟩
  have B4 : Below w.heap.size w w4 := btr B3 b4
  clear b4 B3 
  go_wp2_with fail
  refine (KA.out _ (FB.out FF.out B4)).mono ?_
  rintro r w5 ⟨rfl, b5⟩
  have B5 : Below w.heap.size w w5 := btr B4 b5
  clear b5 B4 
  go_wp2
  go_ret
  exact ⟨rfl, B5⟩
theorem names23 {T : World → Prop} (FB : Box (∀ {w w' : World}, T w → Below w.heap.size w w' → T w')) (fl : Bool) (n : Int) (s : ByteArray)
    (K1 : Box (∀ fl n w, T w → Calls Tryd.prog 16 #[.bool fl, .int .i64 n] w fun r w' => r = .returned (.tuple #[.string (nmV fl n).1, .int .i64 (nmV fl n).2]) ∧ Below w.heap.size w w'))
    (K3 : Box (∀ w, T w → Calls Tryd.prog 18 #[.string s] w fun r w' => r = .returned (.tuple #[.bool (ndR s).1, .int .i64 ((ndR s).2.1 : Nat), .int .i64 (ndR s).2.2]) ∧ Below w.heap.size w w'))
    (KA : Box (∀ w, T w → Calls Tryd.prog 9 #[] w fun r w' => r = .returned (.bool true) ∧ Below w.heap.size w w')) (w : World) (hT : T w) : Calls Tryd.prog 4 #[.bool fl, .int .i64 n, .string s] w fun r w' => r = .returned (.bool true) ∧ Below w.heap.size w w' := by
  refine rn_lawT FB fl n s _ _ _ _ _ w ?_ ?_ hT (box (fun w h => K1.out fl n w h)) (box (fun w => rName23 fl n w)) (box (fun w h => K3.out w h)) (box (fun w => rNamed23 s w)) KA
  · rcases nmV_e fl n with h | h <;> rw [h] <;> decide
  · rcases ndR_e s with h | h <;> rw [h] <;> decide
end Go.Proofs.YtjbnifhpbdjonaaDoor
namespace Go.Proofs
open Go.Shelf
def Tryd.laysItoa_ren : Go.Shelf.Ren := ⟨fun | 171 => 39 | 243 => 57 | 246 => 73 | 283 => 86 | 284 => 87 | 285 => 88 | 286 => 89 | 129 => 97 | 317 => 96 | 318 => 98 | 319 => 99 | 320 => 100 | 337 => 103 | 338 => 104 | n => n, fun | 3 => 3 | 9 => 9 | 2 => 2 | 4 => 4 | 171 => 123 | 0 => 0 | 53 => 22 | 37 => 99 | 5 => 5 | 173 => 126 | 212 => 139 | 51 => 140 | 20 => 20 | 213 => 141 | 46 => 120 | 232 => 151 | 233 => 152 | n => n, fun | 17 => 3 | 18 => 5 | 19 => 6 | n => n⟩
theorem Tryd.laysItoa : Go.Proofs.LaysM.n171 Tryd.prog Tryd.laysItoa_ren := {
  mixed := by kernel_rfl
  f129 := Tryd.func97.trans (congrArg some (by kernel_rfl))
  f171 := Tryd.func39.trans (congrArg some (by kernel_rfl))
  f243 := Tryd.func57.trans (congrArg some (by kernel_rfl))
  f246 := Tryd.func73.trans (congrArg some (by kernel_rfl))
  f283 := Tryd.func86.trans (congrArg some (by kernel_rfl))
  f284 := Tryd.func87.trans (congrArg some (by kernel_rfl))
  f285 := Tryd.func88.trans (congrArg some (by kernel_rfl))
  f286 := Tryd.func89.trans (congrArg some (by kernel_rfl))
  f317 := Tryd.func96.trans (congrArg some (by kernel_rfl))
  f318 := Tryd.func98.trans (congrArg some (by kernel_rfl))
  f319 := Tryd.func99.trans (congrArg some (by kernel_rfl))
  f320 := Tryd.func100.trans (congrArg some (by kernel_rfl))
  f337 := Tryd.func103.trans (congrArg some (by kernel_rfl))
  f338 := Tryd.func104.trans (congrArg some (by kernel_rfl))
  t0 := Tryd.underlying0
  a0 := Tryd.isAgg0
  z0 := Tryd.sizeOf0
  v0 := Tryd.zeroValue0
  t2 := Tryd.underlying2
  a2 := Tryd.isAgg2
  z2 := Tryd.sizeOf2
  v2 := Tryd.zeroValue2
  t3 := Tryd.underlying3
  a3 := Tryd.isAgg3
  z3 := Tryd.sizeOf3
  v3 := Tryd.zeroValue3
  t4 := Tryd.underlying4
  a4 := Tryd.isAgg4
  z4 := Tryd.sizeOf4
  v4 := Tryd.zeroValue4
  t5 := Tryd.underlying5
  a5 := Tryd.isAgg5
  z5 := Tryd.sizeOf5
  v5 := Tryd.zeroValue5
  t9 := Tryd.underlying9
  a9 := Tryd.isAgg9
  z9 := Tryd.sizeOf9
  v9 := Tryd.zeroValue9
  t20 := Tryd.underlying20
  a20 := Tryd.isAgg20
  z20 := Tryd.sizeOf20
  v20 := Tryd.zeroValue20
  t37 := Tryd.underlying99
  a37 := Tryd.isAgg99
  z37 := Tryd.sizeOf99
  v37 := Tryd.zeroValue99
  t46 := Tryd.underlying120
  a46 := Tryd.isAgg120
  z46 := Tryd.sizeOf120
  v46 := Tryd.zeroValue120
  t51 := Tryd.underlying140
  a51 := Tryd.isAgg140
  z51 := Tryd.sizeOf140
  v51 := Tryd.zeroValue140
  t53 := Tryd.underlying22
  a53 := Tryd.isAgg22
  z53 := Tryd.sizeOf22
  v53 := Tryd.zeroValue22
  t171 := Tryd.underlying123
  a171 := Tryd.isAgg123
  z171 := Tryd.sizeOf123
  v171 := Tryd.zeroValue123
  t173 := Tryd.underlying126
  a173 := Tryd.isAgg126
  z173 := Tryd.sizeOf126
  v173 := Tryd.zeroValue126
  t212 := Tryd.underlying139
  a212 := Tryd.isAgg139
  z212 := Tryd.sizeOf139
  v212 := Tryd.zeroValue139
  t213 := Tryd.underlying141
  a213 := Tryd.isAgg141
  z213 := Tryd.sizeOf141
  t232 := Tryd.underlying151
  a232 := Tryd.isAgg151
  z232 := Tryd.sizeOf151
  v232 := Tryd.zeroValue151
  t233 := Tryd.underlying152
  a233 := Tryd.isAgg152
  z233 := Tryd.sizeOf152
  v233 := Tryd.zeroValue152
  g17 := by kernel_rfl
  g18 := by kernel_rfl
  g19 := by kernel_rfl
  i0 := by kernel_rfl
  i2 := by kernel_rfl
  i3 := by kernel_rfl
  i4 := by kernel_rfl
  i5 := by kernel_rfl
  i9 := by kernel_rfl
  i20 := by kernel_rfl
  i37 := by kernel_rfl
  i46 := by kernel_rfl
  i51 := by kernel_rfl
  i53 := by kernel_rfl
  i171 := by kernel_rfl
  i173 := by kernel_rfl
  i212 := by kernel_rfl
  i232 := by kernel_rfl
  i233 := by kernel_rfl
  m17 := by kernel_rfl
  m18 := by kernel_rfl
  m19 := by kernel_rfl }
def Tryd.laysAtoi_ren : Go.Shelf.Ren := ⟨fun | 172 => 44 | 244 => 60 | 245 => 61 | 247 => 75 | 279 => 76 | 280 => 77 | 281 => 78 | 282 => 79 | 287 => 90 | 316 => 91 | 171 => 39 | 205 => 92 | 321 => 101 | 322 => 102 | 243 => 57 | 246 => 73 | 283 => 86 | 284 => 87 | 285 => 88 | 286 => 89 | 129 => 97 | 317 => 96 | 318 => 98 | 319 => 99 | 320 => 100 | 337 => 103 | 338 => 104 | n => n, fun | 9 => 9 | 3 => 3 | 75 => 84 | 76 => 85 | 4 => 4 | 5 => 5 | 167 => 111 | 37 => 99 | 0 => 0 | 85 => 112 | 2 => 2 | 168 => 114 | 53 => 22 | 175 => 128 | 46 => 120 | 210 => 132 | 127 => 145 | 145 => 148 | 143 => 146 | 21 => 21 | 171 => 123 | 173 => 126 | 212 => 139 | 51 => 140 | 20 => 20 | 213 => 141 | 232 => 151 | 233 => 152 | 80 => 153 | n => n, fun | 15 => 1 | 16 => 2 | 17 => 3 | 18 => 5 | 19 => 6 | n => n⟩
theorem Tryd.laysAtoi : Go.Proofs.LaysC.n172 Tryd.prog Tryd.laysAtoi_ren := {
  mixed := by kernel_rfl
  f129 := Tryd.func97.trans (congrArg some (by kernel_rfl))
  f171 := Tryd.func39.trans (congrArg some (by kernel_rfl))
  f172 := Tryd.func44.trans (congrArg some (by kernel_rfl))
  f205 := Tryd.func92.trans (congrArg some (by kernel_rfl))
  f243 := Tryd.func57.trans (congrArg some (by kernel_rfl))
  f244 := Tryd.func60.trans (congrArg some (by kernel_rfl))
  f245 := Tryd.func61.trans (congrArg some (by kernel_rfl))
  f246 := Tryd.func73.trans (congrArg some (by kernel_rfl))
  f247 := Tryd.func75.trans (congrArg some (by kernel_rfl))
  f279 := Tryd.func76.trans (congrArg some (by kernel_rfl))
  f280 := Tryd.func77.trans (congrArg some (by kernel_rfl))
  f281 := Tryd.func78.trans (congrArg some (by kernel_rfl))
  f282 := Tryd.func79.trans (congrArg some (by kernel_rfl))
  f283 := Tryd.func86.trans (congrArg some (by kernel_rfl))
  f284 := Tryd.func87.trans (congrArg some (by kernel_rfl))
  f285 := Tryd.func88.trans (congrArg some (by kernel_rfl))
  f286 := Tryd.func89.trans (congrArg some (by kernel_rfl))
  f287 := Tryd.func90.trans (congrArg some (by kernel_rfl))
  f316 := Tryd.func91.trans (congrArg some (by kernel_rfl))
  f317 := Tryd.func96.trans (congrArg some (by kernel_rfl))
  f318 := Tryd.func98.trans (congrArg some (by kernel_rfl))
  f319 := Tryd.func99.trans (congrArg some (by kernel_rfl))
  f320 := Tryd.func100.trans (congrArg some (by kernel_rfl))
  f321 := Tryd.func101.trans (congrArg some (by kernel_rfl))
  f322 := Tryd.func102.trans (congrArg some (by kernel_rfl))
  f337 := Tryd.func103.trans (congrArg some (by kernel_rfl))
  f338 := Tryd.func104.trans (congrArg some (by kernel_rfl))
  t0 := Tryd.underlying0
  a0 := Tryd.isAgg0
  z0 := Tryd.sizeOf0
  v0 := Tryd.zeroValue0
  t2 := Tryd.underlying2
  a2 := Tryd.isAgg2
  z2 := Tryd.sizeOf2
  v2 := Tryd.zeroValue2
  t3 := Tryd.underlying3
  a3 := Tryd.isAgg3
  z3 := Tryd.sizeOf3
  v3 := Tryd.zeroValue3
  t4 := Tryd.underlying4
  a4 := Tryd.isAgg4
  z4 := Tryd.sizeOf4
  v4 := Tryd.zeroValue4
  t5 := Tryd.underlying5
  a5 := Tryd.isAgg5
  z5 := Tryd.sizeOf5
  v5 := Tryd.zeroValue5
  t9 := Tryd.underlying9
  a9 := Tryd.isAgg9
  z9 := Tryd.sizeOf9
  v9 := Tryd.zeroValue9
  t20 := Tryd.underlying20
  a20 := Tryd.isAgg20
  z20 := Tryd.sizeOf20
  v20 := Tryd.zeroValue20
  t21 := Tryd.underlying21
  a21 := Tryd.isAgg21
  z21 := Tryd.sizeOf21
  v21 := Tryd.zeroValue21
  t37 := Tryd.underlying99
  a37 := Tryd.isAgg99
  z37 := Tryd.sizeOf99
  v37 := Tryd.zeroValue99
  t46 := Tryd.underlying120
  a46 := Tryd.isAgg120
  z46 := Tryd.sizeOf120
  v46 := Tryd.zeroValue120
  t51 := Tryd.underlying140
  a51 := Tryd.isAgg140
  z51 := Tryd.sizeOf140
  v51 := Tryd.zeroValue140
  t53 := Tryd.underlying22
  a53 := Tryd.isAgg22
  z53 := Tryd.sizeOf22
  v53 := Tryd.zeroValue22
  t75 := Tryd.underlying84
  a75 := Tryd.isAgg84
  z75 := Tryd.sizeOf84
  v75 := Tryd.zeroValue84
  t76 := Tryd.underlying85
  a76 := Tryd.isAgg85
  z76 := Tryd.sizeOf85
  v76 := Tryd.zeroValue85
  t85 := Tryd.underlying112
  a85 := Tryd.isAgg112
  z85 := Tryd.sizeOf112
  v85 := Tryd.zeroValue112
  t127 := Tryd.underlying145
  a127 := Tryd.isAgg145
  z127 := Tryd.sizeOf145
  v127 := Tryd.zeroValue145
  t143 := Tryd.underlying146
  a143 := Tryd.isAgg146
  z143 := Tryd.sizeOf146
  v143 := Tryd.zeroValue146
  t145 := Tryd.underlying148
  a145 := Tryd.isAgg148
  z145 := Tryd.sizeOf148
  v145 := Tryd.zeroValue148
  t167 := Tryd.underlying111
  a167 := Tryd.isAgg111
  z167 := Tryd.sizeOf111
  v167 := Tryd.zeroValue111
  t168 := Tryd.underlying114
  a168 := Tryd.isAgg114
  z168 := Tryd.sizeOf114
  v168 := Tryd.zeroValue114
  t171 := Tryd.underlying123
  a171 := Tryd.isAgg123
  z171 := Tryd.sizeOf123
  v171 := Tryd.zeroValue123
  t173 := Tryd.underlying126
  a173 := Tryd.isAgg126
  z173 := Tryd.sizeOf126
  v173 := Tryd.zeroValue126
  t175 := Tryd.underlying128
  a175 := Tryd.isAgg128
  z175 := Tryd.sizeOf128
  v175 := Tryd.zeroValue128
  t210 := Tryd.underlying132
  a210 := Tryd.isAgg132
  z210 := Tryd.sizeOf132
  v210 := Tryd.zeroValue132
  t212 := Tryd.underlying139
  a212 := Tryd.isAgg139
  z212 := Tryd.sizeOf139
  v212 := Tryd.zeroValue139
  t213 := Tryd.underlying141
  a213 := Tryd.isAgg141
  z213 := Tryd.sizeOf141
  t232 := Tryd.underlying151
  a232 := Tryd.isAgg151
  z232 := Tryd.sizeOf151
  v232 := Tryd.zeroValue151
  t233 := Tryd.underlying152
  a233 := Tryd.isAgg152
  z233 := Tryd.sizeOf152
  v233 := Tryd.zeroValue152
  g15 := by kernel_rfl
  g16 := by kernel_rfl
  g17 := by kernel_rfl
  g18 := by kernel_rfl
  g19 := by kernel_rfl
  t80 := Tryd.underlying153
  a80 := Tryd.isAgg153
  z80 := Tryd.sizeOf153
  v80 := Tryd.zeroValue153
  i0 := by kernel_rfl
  i2 := by kernel_rfl
  i3 := by kernel_rfl
  i4 := by kernel_rfl
  i5 := by kernel_rfl
  i9 := by kernel_rfl
  i20 := by kernel_rfl
  i21 := by kernel_rfl
  i37 := by kernel_rfl
  i46 := by kernel_rfl
  i51 := by kernel_rfl
  i53 := by kernel_rfl
  i75 := by kernel_rfl
  i76 := by kernel_rfl
  i80 := by kernel_rfl
  i85 := by kernel_rfl
  i127 := by kernel_rfl
  i143 := by kernel_rfl
  i145 := by kernel_rfl
  i167 := by kernel_rfl
  i168 := by kernel_rfl
  i171 := by kernel_rfl
  i173 := by kernel_rfl
  i175 := by kernel_rfl
  i210 := by kernel_rfl
  i212 := by kernel_rfl
  i232 := by kernel_rfl
  i233 := by kernel_rfl
  m15 := by kernel_rfl
  m16 := by kernel_rfl
  m17 := by kernel_rfl
  m18 := by kernel_rfl
  m19 := by kernel_rfl
  c0 := by kernel_rfl
  c2 := by kernel_rfl
  c3 := by kernel_rfl
  c4 := by kernel_rfl
  c5 := by kernel_rfl
  c9 := by kernel_rfl
  c20 := by kernel_rfl
  c21 := by kernel_rfl
  c37 := by kernel_rfl
  c46 := by kernel_rfl
  c51 := by kernel_rfl
  c53 := by kernel_rfl
  c75 := by kernel_rfl
  c76 := by kernel_rfl
  c80 := by kernel_rfl
  c85 := by kernel_rfl
  c127 := by kernel_rfl
  c143 := by kernel_rfl
  c145 := by kernel_rfl
  c167 := by kernel_rfl
  c168 := by kernel_rfl
  c171 := by kernel_rfl
  c173 := by kernel_rfl
  c175 := by kernel_rfl
  c210 := by kernel_rfl
  c212 := by kernel_rfl
  c213 := by kernel_rfl
  c232 := by kernel_rfl
  c233 := by kernel_rfl }
def Tryd.laysCutPrefix_ren : Go.Shelf.Ren := ⟨fun | 103 => 42 | 210 => 58 | 206 => 74 | n => n, fun | 9 => 9 | 4 => 4 | 24 => 80 | 3 => 3 | n => n, fun | n => n⟩
theorem Tryd.laysCutPrefix : Go.Proofs.Lays.n103 Tryd.prog Tryd.laysCutPrefix_ren := {
  mixed := by kernel_rfl
  f103 := Tryd.func42.trans (congrArg some (by kernel_rfl))
  f206 := Tryd.func74.trans (congrArg some (by kernel_rfl))
  f210 := Tryd.func58.trans (congrArg some (by kernel_rfl))
  t3 := Tryd.underlying3
  a3 := Tryd.isAgg3
  z3 := Tryd.sizeOf3
  v3 := Tryd.zeroValue3
  t4 := Tryd.underlying4
  a4 := Tryd.isAgg4
  z4 := Tryd.sizeOf4
  v4 := Tryd.zeroValue4
  t9 := Tryd.underlying9
  a9 := Tryd.isAgg9
  z9 := Tryd.sizeOf9
  v9 := Tryd.zeroValue9
  t24 := Tryd.underlying80
  a24 := Tryd.isAgg80
  z24 := Tryd.sizeOf80
  v24 := Tryd.zeroValue80 }
def Tryd.laysTrimPrefix_ren : Go.Shelf.Ren := ⟨fun | 101 => 43 | 208 => 59 | 206 => 74 | n => n, fun | 9 => 9 | 4 => 4 | 3 => 3 | n => n, fun | n => n⟩
theorem Tryd.laysTrimPrefix : Go.Proofs.Lays.n101 Tryd.prog Tryd.laysTrimPrefix_ren := {
  mixed := by kernel_rfl
  f101 := Tryd.func43.trans (congrArg some (by kernel_rfl))
  f206 := Tryd.func74.trans (congrArg some (by kernel_rfl))
  f208 := Tryd.func59.trans (congrArg some (by kernel_rfl))
  t3 := Tryd.underlying3
  a3 := Tryd.isAgg3
  z3 := Tryd.sizeOf3
  v3 := Tryd.zeroValue3
  t4 := Tryd.underlying4
  a4 := Tryd.isAgg4
  z4 := Tryd.sizeOf4
  v4 := Tryd.zeroValue4
  t9 := Tryd.underlying9
  a9 := Tryd.isAgg9
  z9 := Tryd.sizeOf9
  v9 := Tryd.zeroValue9 }
end Go.Proofs
namespace Go.Proofs.YtjbnifhpbdjonaaDoor
set_option maxRecDepth 100000
set_option maxHeartbeats 40000000
set_option maxRecDepth 100000
open Go.RowKit WMath
def P10 (w : World) : Prop := Lib.TabIs Tryd.prog w "internal/strconv.uint64pow10" .u64 Lib.pow10Tab
theorem gP10 : Tryd.prog.globalNamed "internal/strconv.uint64pow10" = some 3 := by kernel_rfl
theorem p10B {w w' : World} (h : P10 w) (hb : Below w.heap.size w w') : P10 w' := by
  unfold P10 Lib.TabIs World.var? at h ⊢
  rw [gP10] at h ⊢
  simp only [Option.bind_some] at h ⊢
  have h0 : 3 < w.heap.size := by
    rcases Nat.lt_or_ge 3 w.heap.size with e | e
    · exact e
    · have : w.heap[3]? = none := Array.getElem?_eq_none e
      rw [this] at h
      cases h
  rw [hb.block 3 h0]
  exact h
theorem t_itoa (e : Int) (v : ByteArray) (h0 : -1000000000 ≤ e) (h1 : e ≤ 1000000000) (hv : (⟨(Lib.itoa e).toArray⟩ : ByteArray) = v) (w : World) (hP : P10 w) :
    Calls Tryd.prog 39 #[.int .i64 e] w fun r w' => r = .returned (.string v) ∧ Below w.heap.size w w' := by
  have h := Any.strconv_Itoa Tryd.laysItoa e (by omega) (by omega) w hP
  refine h.mono ?_
  rintro r w' ⟨rfl, k, os, rfl⟩
  rw [hv]
  refine ⟨rfl, rfl, rfl, rfl, ?_, ?_⟩
  · simp [Sort.grow, World.drewN]
  · intro j hj
    simp only [Sort.grow, World.drewN]
    exact Array.getElem?_append_left hj
end Go.Proofs.YtjbnifhpbdjonaaDoor
namespace Go.Proofs.YtjbnifhpbdjonaaDoor
set_option maxRecDepth 100000
set_option maxHeartbeats 40000000
set_option maxRecDepth 100000
open Go.RowKit WMath
set_option linter.unusedSimpArgs false
set_option linter.unusedVariables false
def rh (o : Bool) (R : Nat → Nat) : Array Value := #[Value.bool o] ++ rf R
theorem rh_size (o : Bool) (R : Nat → Nat) : (rh o R).size = 97 := by simp [rh, rf_size]
theorem rh_at0 (o : Bool) (R : Nat → Nat) : (rh o R)[0]? = some (.bool o) := by
  unfold rh
  rw [Array.getElem?_append_left (by simp)]
  rfl
theorem rh_at (o : Bool) (R : Nat → Nat) (k : Nat) (h : k < 96) : (rh o R)[1 + k]? = some (.int .u64 (R k : Nat)) := by
  unfold rh
  rw [Array.getElem?_append_right (by simp), show 1 + k - (#[Value.bool o] : Array Value).size = k by simp, rf_at R k h]
theorem rh_set (o : Bool) (R : Nat → Nat) (k v : Nat) (hk : k < 96) : (rh o R).setIfInBounds (1 + k) (.int .u64 (v : Nat)) = rh o (up R k v) := by
  apply Array.ext_getElem?
  intro j
  rw [Array.getElem?_setIfInBounds, rh_size]
  by_cases e : 1 + k = j
  · subst e
    rw [if_pos rfl, if_pos (by omega), rh_at _ _ _ hk]
    unfold up
    rw [if_pos rfl]
  · rw [if_neg e]
    rcases Nat.eq_zero_or_pos j with q | q
    · subst q
      rw [rh_at0, rh_at0]
    · obtain ⟨i, rfl⟩ : ∃ i, j = 1 + i := ⟨j - 1, by omega⟩
      by_cases hj : i < 96
      · rw [rh_at _ _ _ hj, rh_at _ _ _ hj]
        unfold up
        rw [if_neg (by omega)]
      · rw [Array.getElem?_eq_none (by rw [rh_size]; omega), Array.getElem?_eq_none (by rw [rh_size]; omega)]
theorem rh_set0 (o : Bool) (R : Nat → Nat) (k : Nat) (hk : k < 96) : (rh o R).setIfInBounds (1 + k) (.int .u64 0) = rh o (up R k 0) := rh_set o R k 0 hk
theorem rh_cell0 {w : World} {b : Nat} {o : Bool} {R : Nat → Nat} {T : TypeId} (h : w.heap[b]? = some (.cells (rh o R) T)) : w.cell? ⟨b, 0, none⟩ = some (.bool o) := cell7 h 0 _ (rh_at0 o R)
theorem rh_cell {w : World} {b : Nat} {o : Bool} {R : Nat → Nat} {T : TypeId} (h : w.heap[b]? = some (.cells (rh o R) T)) (k : Nat) (hk : k < 96) : w.cell? ⟨b, 1 + k, none⟩ = some (.int .u64 (R k : Nat)) := cell7 h (1 + k) _ (rh_at o R k hk)
theorem rh_zero (w : World) : (zeroValue 58).run Tryd.prog w = .ok (.agg (rh false fun _ => 0)) w := (zero_of_info (v := .agg (rh false fun _ => 0)) (n := 97) (by kernel_rfl)).1 w
set_option maxRecDepth 100000 in
theorem rh_build (o : Bool) (R : Nat → Nat) (w : World) : (Instr.build 58 #[(0, .bool o), (1, .agg (rf R))]).run Tryd.prog w = .ok (.agg (rh o R)) w := by kernel_rfl
theorem wp_rhb {w : World} {o : Oper} {a : Act} {K : Act → World → Prop} {Q : Exit → Act → World → Prop} (x y : Operand) (hop : o.op = Op.build 58 #[(0, x), (1, y)]) {m : Bool} {R : Nat → Nat} (hx : a.eval x = .bool m) (hy : a.eval y = .agg (rf R)) (hK : K (a.put o.dst (.agg (rh m R))) w) : o.wp Tryd.prog a w K Q := by
  have q := rh_build m R w
  unfold Oper.wp
  simp [execOp, hop, hx, hy, q, Result.andThen]
  exact hK
theorem wpl_rhb {w : World} {ops : Array Oper} {rest : List Oper} {o : Oper} {a : Act} {Q : Exit → Act → World → Prop} (hg : o.guard = none) (x y : Operand) (hop : o.op = Op.build 58 #[(0, x), (1, y)]) {m : Bool} {R : Nat → Nat} (hx : a.eval x = .bool m) (hy : a.eval y = .agg (rf R)) (hK : wpList Tryd.prog ops Q rest (a.put o.dst (.agg (rh m R))) w) : wpList Tryd.prog ops Q (o :: rest) a w :=
  wpList_plain hg fun K hK' => wp_rhb x y hop hx hy (hK' _ _ hK)
theorem g_there (o : Bool) (R : Nat → Nat) (b : Nat) (w : World) (hr : w.heap[b]? = some (.cells (rh o R) 58)) : Calls Tryd.prog 29 #[.pointer (some ⟨b, 0, none⟩)] w fun r w' => r = .returned (.bool o) ∧ w' = w := by
  have c0 := rh_cell0 hr
  go_enter Tryd.func29, Tryd.ntmps29
  go_wp2
  go_ret
  exact ⟨rfl, rfl⟩
theorem g_isR (n : Int) (w : World) : Calls Tryd.prog 38 #[.int .i64 n] w fun r w' => r = .returned (.bool (inR n)) ∧ w' = w := by
  unfold inR
  go_enter Tryd.func38, Tryd.ntmps38
  by_cases h0 : 0 ≤ n
  · have d0 : decide (0 ≤ n) = true := decide_eq_true h0
    go_wp2
    go_ret
    simp [d0]
  · have d0 : decide (0 ≤ n) = false := decide_eq_false h0
    go_wp2
    go_ret
    simp [d0]
theorem g_check (p : Value) (n : Int) (w : World) (K : Calls Tryd.prog 29 #[p] w fun r w' => r = .returned (.bool true) ∧ w' = w) (o : Bool) (ho : inR n = o) : Calls Tryd.prog 62 #[p, .int .i64 n] w fun r w' => r = .returned (.int .i64 (if o = true then 0 else 2)) ∧ w' = w := by
  have K2 := g_isR n w
  rw [ho] at K2
  go_enter Tryd.func62, Tryd.ntmps62
  cases o
  · go_wp2_with (first | (go_at_call 29; refine K.mono ?_; rintro r w' ⟨rfl, rfl⟩) | (go_at_call 38; refine K2.mono ?_; rintro r w' ⟨rfl, rfl⟩))
    go_ret
    exact ⟨rfl, rfl⟩
  · go_wp2_with (first | (go_at_call 29; refine K.mono ?_; rintro r w' ⟨rfl, rfl⟩) | (go_at_call 38; refine K2.mono ?_; rintro r w' ⟨rfl, rfl⟩))
    go_ret
    exact ⟨rfl, rfl⟩
theorem g_wordAt_e (p : Value) (n e : Int) (w : World) (he : e = 1 ∨ e = 2) (K : Calls Tryd.prog 62 #[p, .int .i64 n] w fun r w' => r = .returned (.int .i64 e) ∧ w' = w) : Calls Tryd.prog 45 #[p, .int .i64 n] w fun r w' => r = .returned (.tuple #[.pointer none, .int .i64 e]) ∧ w' = w := by
  go_enter Tryd.func45, Tryd.ntmps45
  rcases he with rfl | rfl
  all_goals
    go_wp2_with (go_at_call 62; refine K.mono ?_; rintro r w' ⟨rfl, rfl⟩)
    go_ret2
    exact ⟨rfl, rfl⟩
theorem g_floatAt_e (p : Value) (n e : Int) (w : World) (he : e = 1 ∨ e = 2) (K : Calls Tryd.prog 62 #[p, .int .i64 n] w fun r w' => r = .returned (.int .i64 e) ∧ w' = w) : Calls Tryd.prog 46 #[p, .int .i64 n] w fun r w' => r = .returned (.tuple #[.pointer none, .int .i64 e]) ∧ w' = w := by
  go_enter Tryd.func46, Tryd.ntmps46
  rcases he with rfl | rfl
  all_goals
    go_wp2_with (go_at_call 62; refine K.mono ?_; rintro r w' ⟨rfl, rfl⟩)
    go_ret2
    exact ⟨rfl, rfl⟩
theorem g_wordAt (b n : Nat) (hn : n < 32) (w : World) (K : Calls Tryd.prog 62 #[.pointer (some ⟨b, 0, none⟩), .int .i64 (n : Nat)] w fun r w' => r = .returned (.int .i64 0) ∧ w' = w) : Calls Tryd.prog 45 #[.pointer (some ⟨b, 0, none⟩), .int .i64 (n : Nat)] w fun r w' => r = .returned (.tuple #[.pointer (some ⟨b, 1 + n, none⟩), .int .i64 0]) ∧ w' = w := by
  go_enter Tryd.func45, Tryd.ntmps45
  go_wp2_with (go_at_call 62; refine K.mono ?_; rintro r w' ⟨rfl, rfl⟩)
  go_ret2
  exact ⟨rfl, rfl⟩
theorem g_floatAt (b n : Nat) (hn : n < 32) (w : World) (K : Calls Tryd.prog 62 #[.pointer (some ⟨b, 0, none⟩), .int .i64 (n : Nat)] w fun r w' => r = .returned (.int .i64 0) ∧ w' = w) : Calls Tryd.prog 46 #[.pointer (some ⟨b, 0, none⟩), .int .i64 (n : Nat)] w fun r w' => r = .returned (.tuple #[.pointer (some ⟨b, 33 + n * 2, none⟩), .int .i64 0]) ∧ w' = w := by
  go_enter Tryd.func46, Tryd.ntmps46
  go_wp2_with (go_at_call 62; refine K.mono ?_; rintro r w' ⟨rfl, rfl⟩)
  go_ret2
  exact ⟨rfl, rfl⟩
def NoP (p : Option Addr) (w : World) : Prop := ∀ W, Below w.heap.size w W → Calls Tryd.prog 29 #[.pointer p] W fun r w' => r = .returned (.bool false) ∧ w' = W
theorem NoP.mono {p : Option Addr} {w W : World} (h : NoP p w) (b : Below w.heap.size w W) : NoP p W := fun V bV => h V (btr b bV)
theorem g_wA (R : Nat → Nat) (b n : Nat) (hn : n < 32) (w : World) (hr : w.heap[b]? = some (.cells (rh true R) 58)) : Calls Tryd.prog 45 #[.pointer (some ⟨b, 0, none⟩), .int .i64 (n : Nat)] w fun r w' => r = .returned (.tuple #[.pointer (some ⟨b, 1 + n, none⟩), .int .i64 0]) ∧ w' = w :=
  g_wordAt b n hn w (g_check _ _ w (g_there true R b w hr) true (by unfold inR; rw [decide_eq_true (by omega), decide_eq_true (by omega)]; rfl))
theorem g_fA (R : Nat → Nat) (b n : Nat) (hn : n < 32) (w : World) (hr : w.heap[b]? = some (.cells (rh true R) 58)) : Calls Tryd.prog 46 #[.pointer (some ⟨b, 0, none⟩), .int .i64 (n : Nat)] w fun r w' => r = .returned (.tuple #[.pointer (some ⟨b, 33 + n * 2, none⟩), .int .i64 0]) ∧ w' = w :=
  g_floatAt b n hn w (g_check _ _ w (g_there true R b w hr) true (by unfold inR; rw [decide_eq_true (by omega), decide_eq_true (by omega)]; rfl))
theorem g_wA2 (R : Nat → Nat) (b : Nat) (n : Int) (hn : inR n = false) (w : World) (hr : w.heap[b]? = some (.cells (rh true R) 58)) : Calls Tryd.prog 45 #[.pointer (some ⟨b, 0, none⟩), .int .i64 n] w fun r w' => r = .returned (.tuple #[.pointer none, .int .i64 2]) ∧ w' = w :=
  g_wordAt_e _ n 2 w (Or.inr rfl) (g_check _ _ w (g_there true R b w hr) false hn)
theorem g_fA2 (R : Nat → Nat) (b : Nat) (n : Int) (hn : inR n = false) (w : World) (hr : w.heap[b]? = some (.cells (rh true R) 58)) : Calls Tryd.prog 46 #[.pointer (some ⟨b, 0, none⟩), .int .i64 n] w fun r w' => r = .returned (.tuple #[.pointer none, .int .i64 2]) ∧ w' = w :=
  g_floatAt_e _ n 2 w (Or.inr rfl) (g_check _ _ w (g_there true R b w hr) false hn)
theorem g_X_e (p : Value) (n e : Int) (w : World) (he : e = 1 ∨ e = 2) (K : Calls Tryd.prog 45 #[p, .int .i64 n] w fun r w' => r = .returned (.tuple #[.pointer none, .int .i64 e]) ∧ w' = w) : Calls Tryd.prog 20 #[p, .int .i64 n] w fun r w' => r = .returned (.tuple #[.int .u64 0, .int .i64 e]) ∧ w' = w := by
  go_enter Tryd.func20, Tryd.ntmps20
  rcases he with rfl | rfl
  all_goals
    go_wp2_with (go_at_call 45; refine K.mono ?_; rintro r w' ⟨rfl, rfl⟩)
    go_ret2
    exact ⟨rfl, rfl⟩
theorem g_X (R : Nat → Nat) (b n : Nat) (hn : n < 32) (w : World) (hr : w.heap[b]? = some (.cells (rh true R) 58)) : Calls Tryd.prog 20 #[.pointer (some ⟨b, 0, none⟩), .int .i64 (n : Nat)] w fun r w' => r = .returned (.tuple #[.int .u64 (R n : Nat), .int .i64 0]) ∧ w' = w := by
  have K := g_wA R b n hn w hr
  have cx := rh_cell hr n (by omega)
  go_enter Tryd.func20, Tryd.ntmps20
  go_wp2_with (go_at_call 45; refine K.mono ?_; rintro r w' ⟨rfl, rfl⟩)
  go_ret2
  exact ⟨rfl, rfl⟩
theorem g_SetX_e (p : Value) (n e : Int) (v : Nat) (w : World) (he : e = 1 ∨ e = 2) (K : Calls Tryd.prog 45 #[p, .int .i64 n] w fun r w' => r = .returned (.tuple #[.pointer none, .int .i64 e]) ∧ w' = w) : Calls Tryd.prog 25 #[p, .int .i64 n, .int .u64 (v : Nat)] w fun r w' => r = .returned (.int .i64 e) ∧ w' = w := by
  go_enter Tryd.func25, Tryd.ntmps25
  rcases he with rfl | rfl
  all_goals
    go_wp2_with (go_at_call 45; refine K.mono ?_; rintro r w' ⟨rfl, rfl⟩)
    go_ret
    exact ⟨rfl, rfl⟩
theorem g_SetX (R : Nat → Nat) (b n v : Nat) (hn : n < 32) (w : World) (hr : w.heap[b]? = some (.cells (rh true R) 58)) : Calls Tryd.prog 25 #[.pointer (some ⟨b, 0, none⟩), .int .i64 (n : Nat), .int .u64 (v : Nat)] w fun r w' => r = .returned (.int .i64 0) ∧ w' = (w.setCell ⟨b, 1 + n, none⟩ (.int .u64 (v : Nat))).setCell ⟨b, 1, none⟩ (.int .u64 0) := by
  have K := g_wA R b n hn w hr
  have cx := rh_cell hr n (by omega)
  have c1 := rh_cell hr 0 (by omega)
  have qx := fz (k := 1 + n) hr
  have q1 := fz (k := 1) hr
  have hr2 := (setCell_row (k := 1 + n) (v := .int .u64 (v : Nat)) hr)
  rw [rh_set true R n v (by omega)] at hr2
  have q2 := fz (k := 1) hr2
  have c2 : (w.setCell ⟨b, 1 + n, none⟩ (.int .u64 (v : Nat))).cell? ⟨b, 1, none⟩ = _ := rh_cell hr2 0 (by omega)
  go_enter Tryd.func25, Tryd.ntmps25
  go_wp2_with (go_at_call 45; refine K.mono ?_; rintro r w' ⟨rfl, rfl⟩)
  go_ret
  exact ⟨rfl, rfl⟩
end Go.Proofs.YtjbnifhpbdjonaaDoor
