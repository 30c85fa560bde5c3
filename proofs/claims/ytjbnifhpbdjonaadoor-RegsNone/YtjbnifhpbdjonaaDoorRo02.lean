/-
  What the functions that the statement reaches return: part 2 (C1, C4, C5, C6, C8, CA, CD, CE, CC, CF, CI, CJ, CK, CL, FrameRF, FrameCh, Shelf, TA, EA).
-/
import Derived.Deep.WholeRow
import Derived.Laws.CopyRow
import Derived.Laws.AppendOwn
import Derived.OwnWalk
import Derived.Maps.AppendAt
import Derived.Deep.RegionHeld3
import Derived.Deep.MidRow
import Derived.DeepKeys
import Derived.DataBytes
import Derived.Shelf.Strconv.Itoa3
import Derived.Shelf.Strconv.ErrVarAll
import Derived.Shelf.Small.Wraps
import Derived.Shelf.Strings.Prefix
import Derived.Ground.NamesProg
import Derived.Test.YtjbnifhpbdjonaaDoorProg
import Derived.ChangeOld
import Derived.Test.YtjbnifhpbdjonaaDoorRows
import Derived.Test.YtjbnifhpbdjonaaDoorRo01
namespace Go.Proofs.YtjbnifhpbdjonaaDoor
set_option maxRecDepth 100000
set_option maxHeartbeats 40000000
set_option maxRecDepth 100000
open Go.RowKit WMath
set_option linter.unusedSimpArgs false
set_option linter.unusedVariables false
def rf (R : Nat → Nat) : Array Value := ((List.range 96).map fun k => Value.int .u64 (R k : Nat)).toArray
theorem rf_size (R : Nat → Nat) : (rf R).size = 96 := by simp [rf]
theorem rf_at (R : Nat → Nat) (k : Nat) (h : k < 96) : (rf R)[k]? = some (.int .u64 (R k : Nat)) := by simp [rf, h]
def up (R : Nat → Nat) (k v : Nat) : Nat → Nat := fun j => if j = k then v else R j
theorem up_lt {R : Nat → Nat} (h : ∀ k, R k < 18446744073709551616) {k v : Nat} (hv : v < 18446744073709551616) : ∀ j, up R k v j < 18446744073709551616 := fun j => by
  unfold up
  split
  · exact hv
  · exact h j
theorem rf_same {R S : Nat → Nat} (h : ∀ k, k < 96 → R k = S k) : rf R = rf S := by
  unfold rf
  congr 1
  apply List.map_congr_left
  intro k hk
  rw [h k (List.mem_range.1 hk)]
theorem rf_set (R : Nat → Nat) (k v : Nat) (hk : k < 96) : (rf R).setIfInBounds k (.int .u64 (v : Nat)) = rf (up R k v) := by
  apply Array.ext_getElem?
  intro j
  rw [Array.getElem?_setIfInBounds, rf_size]
  by_cases e : k = j
  · subst e
    rw [if_pos rfl, if_pos hk, rf_at _ _ hk]
    unfold up
    rw [if_pos rfl]
  · rw [if_neg e]
    by_cases hj : j < 96
    · rw [rf_at _ _ hj, rf_at _ _ hj]
      unfold up
      rw [if_neg (fun q => e q.symm)]
    · rw [Array.getElem?_eq_none (by rw [rf_size]; omega), Array.getElem?_eq_none (by rw [rf_size]; omega)]
theorem rf_one (R : Nat → Nat) : (rf R).all (·.oneCell') = true := by
  rw [Array.all_eq_true_iff_forall_mem]
  intro v hv
  simp only [rf, List.mem_toArray, List.mem_map] at hv
  obtain ⟨k, _, rfl⟩ := hv
  rfl
theorem rf_cell {w : World} {b : Nat} {R : Nat → Nat} {T : TypeId} (h : w.heap[b]? = some (.cells (rf R) T)) (o : Nat) (ho : o < 96) : w.cell? ⟨b, o, none⟩ = some (.int .u64 (R o : Nat)) := cell7 h o _ (rf_at R o ho)
theorem rf_load {w : World} {b : Nat} {R : Nat → Nat} {T : TypeId} (h : w.heap[b]? = some (.cells (rf R) T)) : (loadCellsFrom ⟨b, 0, none⟩ 0 96 #[]).run Tryd.prog w = .ok (rf R) w := by
  have := run_loadCells_list (P := Tryd.prog) w ⟨b, 0, none⟩ (rf R).toList (fun j v hv => by
    have hadd : (⟨b, 0, none⟩ : Addr).add j = ⟨b, j, none⟩ := by unfold Addr.add; split <;> simp_all
    rw [hadd]
    exact cell7 h j v (by simpa using hv))
  rw [Array.length_toList, rf_size] at this
  simpa [loadCells] using this
theorem rf_zero (w : World) : (zeroValue 28).run Tryd.prog w = .ok (.agg (rf fun _ => 0)) w := (zero_of_info (v := .agg (rf fun _ => 0)) (n := 96) (by kernel_rfl)).1 w
theorem rf_set0 (R : Nat → Nat) (k : Nat) (hk : k < 96) : (rf R).setIfInBounds k (.int .u64 0) = rf (up R k 0) := rf_set R k 0 hk
theorem rf_agg (w : World) : (isAgg 28).run Tryd.prog w = .ok true w := by kernel_rfl
theorem rf_sz (w : World) : (sizeOf 28).run Tryd.prog w = .ok 96 w := by kernel_rfl
theorem rf_lv {w : World} {b : Nat} {R : Nat → Nat} {T : TypeId} (h : w.heap[b]? = some (.cells (rf R) T)) : (loadVar 28 ⟨b, 0, none⟩).run Tryd.prog w = .ok (.agg (rf R)) w := by
  simp only [Sem.run_bind, Sem.run_pure, Result.andThen, loadVar, rf_agg, rf_sz, if_true]
  have q := rf_load h
  simp only [loadCells, Sem.run_map, q, Result.andThen]
theorem rf_la {w : World} {b : Nat} {R : Nat → Nat} {T : TypeId} (h : w.heap[b]? = some (.cells (rf R) T)) : (Instr.loadAt 28 (.pointer (some ⟨b, 0, none⟩))).run Tryd.prog w = .ok (.agg (rf R)) w := by
  simp only [Instr.loadAt, Instr.sureAddr, Sem.run_bind, Sem.run_pure, Result.andThen]
  exact rf_lv h
theorem res_rf1 {fn : Func} {z : Tmp} (h : fn.results = #[.cell z 28]) {tmps : Array Value} {w : World} {b : Nat} {R : Nat → Nat} {T : TypeId} (hz : tmps.getD z undef = .pointer (some ⟨b, 0, none⟩)) (hr : w.heap[b]? = some (.cells (rf R) T)) : (results fn tmps).run Tryd.prog w = .ok (.agg (rf R)) w := by
  have q := rf_lv hr
  have hz2 : tmps[z]?.getD undef = .pointer (some ⟨b, 0, none⟩) := by rw [← Array.getD_eq_getD_getElem?]; exact hz
  simp [results, h, hz2, asAddr, q, Result.andThen]
theorem wp_rf {w : World} {o : Oper} {a : Act} {K : Act → World → Prop} {Q : Exit → Act → World → Prop} (x : Operand) (hop : o.op = Op.load 28 x) {b : Nat} {R : Nat → Nat} {T : TypeId} (hx : a.eval x = .pointer (some ⟨b, 0, none⟩)) (hr : w.heap[b]? = some (.cells (rf R) T)) (hK : K (a.put o.dst (.agg (rf R))) w) : o.wp Tryd.prog a w K Q := by
  have q := rf_la hr
  unfold Oper.wp
  simp [execOp, hop, hx, q, Result.andThen]
  exact hK
theorem wpl_rf {w : World} {ops : Array Oper} {rest : List Oper} {o : Oper} {a : Act} {Q : Exit → Act → World → Prop} (hg : o.guard = none) (x : Operand) (hop : o.op = Op.load 28 x) {b : Nat} {R : Nat → Nat} {T : TypeId} (hx : a.eval x = .pointer (some ⟨b, 0, none⟩)) (hr : w.heap[b]? = some (.cells (rf R) T)) (hK : wpList Tryd.prog ops Q rest (a.put o.dst (.agg (rf R))) w) : wpList Tryd.prog ops Q (o :: rest) a w :=
  wpList_plain hg fun K hK' => wp_rf x hop hx hr (hK' _ _ hK)
structure Chg where
  fl : Bool
  n : Int
  wd : Nat
  hi : Nat
  lo : Nat
def chC (c : Chg) : List Value := [.bool c.fl, .int .i64 c.n, .int .u64 (c.wd : Nat), .int .u64 (c.hi : Nat), .int .u64 (c.lo : Nat)]
def chsC (l : List Chg) : List Value := l.flatMap chC
def CS (w : World) (v : Value) (l : List Chg) : Prop := ∃ (ao : Option Addr) (cv : Nat), v = .slice ao l.length cv ∧ (l ≠ [] → ∃ g z, ao = some ⟨g, z, none⟩ ∧ g < w.heap.size ∧ ∀ j u, (chsC l)[j]? = some u → w.cell? ⟨g, z + j, none⟩ = some u)
theorem below_cell {w w' : World} {g k : Nat} {u : Value} (hb : Below w.heap.size w w') (hg : g < w.heap.size) (h : w.cell? ⟨g, k, none⟩ = some u) : w'.cell? ⟨g, k, none⟩ = some u := by
  have e := hb.block g hg
  unfold World.cell? at h ⊢
  rw [e]
  exact h
def dg (n : Nat) : UInt8 := UInt8.ofNat (48 + n)
def nuB (n : Nat) : ByteArray := if n < 10 then ⟨#[dg n]⟩ else ⟨#[dg (n / 10), dg (n % 10)]⟩
def nmB (fl : Bool) (n : Nat) : ByteArray := (if fl then ⟨#[102]⟩ else ⟨#[120]⟩) ++ nuB n
theorem nuB_size (n : Nat) : (nuB n).size ≤ 2 := by unfold nuB; split <;> simp [ByteArray.size]
theorem ba_ne {p s : ByteArray} (h : p ≠ s) : (p.toList == s.toList) = false := by
  rw [beq_eq_false_iff_ne, ByteArray.toList_eq, ByteArray.toList_eq]
  intro e
  apply h
  apply ByteArray.ext
  exact Array.toList_inj.1 e
def ndK (s : ByteArray) : Nat → Option (Bool × Nat)
  | 0 => none
  | k + 1 => (ndK s k).or (if nmB false k = s then some (false, k) else if nmB true k = s then some (true, k) else none)
def ndR (s : ByteArray) : Bool × Nat × Int := match ndK s 32 with
  | some (fl, n) => (fl, n, 0)
  | none => (false, 0, 230)
theorem ebb_own (a b : Int) : ebb a b a b = true := by unfold ebb; simp
theorem rf_stn (w : World) (x y : Nat → Nat) : (storeCells ⟨w.heap.size, 0, none⟩ (rf x).toList 0).run Tryd.prog (w.alloc (.cells (rf y) 28)) = .ok () (w.alloc (.cells (rf x) 28)) :=
  run_storeCells_new (P := Tryd.prog) w 28 (rf y) (rf x) (by rw [rf_size]; kernel_rfl) (by rw [rf_size, rf_size]) (rf_one x)
theorem mapM_some {α β : Type} (f : α → Option β) (g : α → β) : ∀ l : List α, (∀ x ∈ l, f x = some (g x)) → l.mapM f = some (l.map g)
  | [], _ => rfl
  | a :: l, h => by
    rw [List.mapM_cons, h a (by simp), mapM_some f g l (fun x hx => h x (by simp [hx]))]
    rfl
theorem rf_drop (R : Nat → Nat) (a n : Nat) (h : a + n ≤ 96) : (((rf R).toList.drop a).take n) = (List.range n).map fun i => Value.int .u64 (R (a + i) : Nat) := by
  apply List.ext_getElem?
  intro i
  by_cases c : i < n
  · rw [List.getElem?_take, if_pos c, List.getElem?_drop, Array.getElem?_toList, rf_at R (a + i) (by omega), List.getElem?_map, List.getElem?_range c]
    rfl
  · rw [List.getElem?_take, if_neg c, List.getElem?_map, List.getElem?_eq_none (by simpa using c)]
    rfl
def rfE (R S : Nat → Nat) : Bool := (List.range 96).all fun k => R k == S k
theorem rfE_iff {R S : Nat → Nat} : rfE R S = true ↔ ∀ k, k < 96 → R k = S k := by
  unfold rfE
  rw [List.all_eq_true]
  simp only [List.mem_range, beq_iff_eq]
def ltN (R : Nat → Nat) (k : Nat) : Lit := .int .u64 (R k : Nat)
def ltsN (R : Nat → Nat) : List Lit := ((List.range 32).map fun i => [ltN R i]).flatten ++ ((List.range 32).map fun i => [ltN R (32 + i * 2), ltN R (32 + i * 2 + 1)]).flatten
theorem ltsN_eq {R S : Nat → Nat} : ltsN R = ltsN S ↔ ∀ k, k < 96 → R k = S k := by
  constructor
  · intro h k hk
    have e : ∀ R : Nat → Nat, ltsN R = (List.range 96).map (ltN R) := fun R => by rfl
    rw [e, e] at h
    have := congrArg (fun l => l[k]?) h
    simp only [List.getElem?_map, List.getElem?_range hk, Option.map_some] at this
    injection this with q
    unfold ltN at q
    injection q with _ q2
    omega
  · intro h
    have e : ∀ R : Nat → Nat, ltsN R = (List.range 96).map (ltN R) := fun R => by rfl
    rw [e, e]
    apply List.map_congr_left
    intro k hk
    unfold ltN
    rw [h k (List.mem_range.1 hk)]
theorem kl_struct {P : Program} {d : Nat} {t : TypeId} {cs : List Value} {fs : Array Field} (hu : P.underlying t = some (.struct fs)) (h : cs.length = P.cellsOf t ∧ fs.all (·.name != "_") = true) : P.keyLits (d + 1) t cs = (fs.toList.mapM fun f => P.keyLits d f.type ((cs.drop f.offset).take (P.cellsOf f.type))).map List.flatten := by
  simp only [Program.keyLits, hu]
  rw [if_pos h]
theorem kl_array {P : Program} {d : Nat} {t e : TypeId} {n : Nat} {cs : List Value} (hu : P.underlying t = some (.array n e)) (h : cs.length = P.cellsOf t) : P.keyLits (d + 1) t cs = ((List.range n).mapM fun i => P.keyLits d e ((cs.drop (i * P.cellsOf e)).take (P.cellsOf e))).map List.flatten := by
  simp only [Program.keyLits, hu]
  rw [if_pos h]
theorem take_one {R : Nat → Nat} {n i : Nat} (h : i < n) : ((((List.range n).map fun i => Value.int .u64 (R i : Nat)).drop i).take 1) = [Value.int .u64 (R i : Nat)] := by
  rw [List.drop_eq_getElem_cons (by simpa using h)]
  simp
theorem take_two {R : Nat → Nat} {n i : Nat} (h : i + 1 < n) : ((((List.range n).map fun i => Value.int .u64 (R i : Nat)).drop i).take 2) = [Value.int .u64 (R i : Nat), Value.int .u64 (R (i + 1) : Nat)] := by
  rw [List.drop_eq_getElem_cons (by simp; omega), List.drop_eq_getElem_cons (by simp; omega)]
  simp
set_option maxRecDepth 100000 in
theorem rf_lits (R : Nat → Nat) (h : ∀ k, R k < 18446744073709551616) : Tryd.prog.keyLits 4 28 (rf R).toList = some (ltsN R) := by
  have w64 : ∀ k, (Lit.int .u64 (R k : Nat)).wf = true := fun k => u64_nat _ (h k)
  have c1 : Tryd.prog.cellsOf 28 = 96 := by kernel_rfl
  have c2 : Tryd.prog.cellsOf 23 = 32 := by kernel_rfl
  have c3 : Tryd.prog.cellsOf 26 = 64 := by kernel_rfl
  have c4 : Tryd.prog.cellsOf 22 = 1 := by kernel_rfl
  have c5 : Tryd.prog.cellsOf 25 = 2 := by kernel_rfl
  have one : ∀ d k, Tryd.prog.keyLits (d + 1) 22 [Value.int .u64 (R k : Nat)] = some [ltN R k] := fun d k => by
    simp only [Program.keyLits, Tryd.underlying22, w64 k, and_self, if_true]
    rfl
  have two : ∀ d k, Tryd.prog.keyLits (d + 2) 25 [Value.int .u64 (R k : Nat), Value.int .u64 (R (k + 1) : Nat)] = some [ltN R k, ltN R (k + 1)] := fun d k => by
    rw [kl_struct Tryd.underlying25 ⟨by rw [c5]; rfl, by kernel_rfl⟩]
    simp only [List.mapM_cons, List.mapM_nil, c4, List.drop_zero, List.drop_succ_cons, List.take_succ_cons, List.take_zero, one d k, one d (k + 1)]
    rfl
  have a1 : Tryd.prog.keyLits 3 23 ((List.range 32).map fun i => Value.int .u64 (R (0 + i) : Nat)) = some ((List.range 32).map fun i => [ltN R i]).flatten := by
    rw [kl_array Tryd.underlying23 (by rw [c2]; simp), mapM_some _ (fun i => [ltN R i]) _ (fun i hi => ?_)]
    · rfl
    · have hi := List.mem_range.1 hi
      rw [c4, Nat.mul_one, take_one (R := fun i => R (0 + i)) hi, Nat.zero_add]
      exact one 1 i
  have a2 : Tryd.prog.keyLits 3 26 ((List.range 64).map fun i => Value.int .u64 (R (32 + i) : Nat)) = some ((List.range 32).map fun i => [ltN R (32 + i * 2), ltN R (32 + i * 2 + 1)]).flatten := by
    rw [kl_array Tryd.underlying26 (by rw [c3]; simp), mapM_some _ (fun i => [ltN R (32 + i * 2), ltN R (32 + i * 2 + 1)]) _ (fun i hi => ?_)]
    · rfl
    · have hi := List.mem_range.1 hi
      rw [c5, take_two (R := fun i => R (32 + i)) (by omega : i * 2 + 1 < 64)]
      exact two 0 (32 + i * 2)
  rw [kl_struct Tryd.underlying28 ⟨by rw [c1, Array.length_toList, rf_size], by kernel_rfl⟩]
  simp only [List.mapM_cons, List.mapM_nil, c2, c3, rf_drop R 0 32 (by decide), rf_drop R 32 64 (by decide), a1, a2]
  rfl
set_option maxRecDepth 100000 in
theorem eqrf (R S : Nat → Nat) (hR : ∀ k, R k < 18446744073709551616) (hS : ∀ k, S k < 18446744073709551616) (w : World) : (Op.equalIn 10000 28 (.agg (rf R)) (.agg (rf S))).run Tryd.prog w = .ok (rfE R S) w := by
  have f : ∀ R, (Value.agg (rf R)).formed Tryd.prog 28 = true := fun R => by
    have c1 : Tryd.prog.cellsOf 28 = 96 := by kernel_rfl
    simp only [Value.formed, Tryd.underlying28, rf_size, c1]
    rfl
  have E := run_equalIn_deep (P := Tryd.prog) 9996 4 28 (by kernel_rfl)
  obtain ⟨r, h1, h2⟩ := E w 4 4 (.agg (rf R)) (.agg (rf S)) (ltsN R) (ltsN S) (f R) (f S) (rf_lits R hR) (rf_lits S hS)
  rw [show rfE R S = r by rw [Bool.eq_iff_iff, rfE_iff, ← ltsN_eq]; exact h2.symm]
  exact h1
theorem rfE_self (R : Nat → Nat) : rfE R R = true := rfE_iff.2 (fun _ _ => rfl)
def inR (n : Int) : Bool := decide (0 ≤ n) && decide (n < 32)
def xV (R : Nat → Nat) (n : Int) : Nat × Int := if inR n = true then (R n.toNat, 0) else (0, 2)
def sxV (R : Nat → Nat) (n : Int) (v : Nat) : (Nat → Nat) × Int := if inR n = true then (if n = 0 then R else up R n.toNat v, 0) else (R, 2)
def fV (R : Nat → Nat) (n : Int) : Nat × Nat × Int := if inR n = true then (R (32 + n.toNat * 2), R (32 + n.toNat * 2 + 1), 0) else (0, 0, 2)
def ptV (R : Nat → Nat) (f n : Int) (u v : Nat) : (Nat → Nat) × Int := if (inR n && fitN f (v + 18446744073709551616 * u)) = true then (up (up R (32 + n.toNat * 2) (bv7 (v + 18446744073709551616 * u + abN f)).1) (32 + n.toNat * 2 + 1) (bv7 (v + 18446744073709551616 * u + abN f)).2, 0) else (R, 2)
theorem inR_nat {n : Int} (h : inR n = true) : ∃ k : Nat, k < 32 ∧ n = (k : Int) ∧ n.toNat = k := by
  unfold inR at h
  rw [Bool.and_eq_true, decide_eq_true_iff, decide_eq_true_iff] at h
  exact ⟨n.toNat, by omega, by omega, rfl⟩
def Bnd (R : Nat → Nat) : Prop := (∀ k, R k < 18446744073709551616) ∧ R 0 = 0
theorem bnd_up {R : Nat → Nat} (h : Bnd R) {k v : Nat} (hk : k ≠ 0) (hv : v < 18446744073709551616) : Bnd (up R k v) := ⟨up_lt h.1 hv, by unfold up; rw [if_neg (by omega)]; exact h.2⟩
def CLt (w : World) (b : Nat) (sv : Value) (l : List Chg) : Prop := (sv = .slice none 0 0 ∧ l = []) ∨ ∃ (ad : Addr) (L cv : Nat), sv = .slice (some ad) L cv ∧ l.length = L ∧ L ≤ cv ∧ (L = 0 ∨ (ad.spot = none ∧ ad.block < w.heap.size)) ∧ Box (∀ W, Only b w W → ∀ j u, (chsC l)[j]? = some u → W.cell? (ad.add j) = some u)
theorem CLt.cs {w : World} {b : Nat} {sv : Value} {l : List Chg} (h : CLt w b sv l) : ∀ W, Below w.heap.size w W → CS W sv l := by
  intro W bW
  rcases h with ⟨rfl, rfl⟩ | ⟨ad, L, cv, rfl, hl, hc, hs, HC⟩
  · exact ⟨none, 0, rfl, fun h => absurd rfl h⟩
  · refine ⟨some ad, cv, by rw [hl], fun hne => ?_⟩
    have hL : L ≠ 0 := fun z => hne (List.length_eq_zero_iff.1 (hl.trans z))
    obtain ⟨hsp, hbl⟩ := hs.resolve_left hL
    obtain ⟨g, z, sp⟩ := ad
    obtain rfl : sp = none := hsp
    refine ⟨g, z, rfl, Nat.lt_of_lt_of_le hbl bW.size, fun j u hj => ?_⟩
    have := HC.out W (Only.ofBelow bW (Nat.le_refl _)) j u hj
    rw [show (⟨g, z, none⟩ : Addr).add j = ⟨g, z + j, none⟩ from by unfold Addr.add; split <;> simp_all] at this
    exact this
theorem only_cell {b g k : Nat} {w w' : World} {v : Value} (o : Only b w w') (hb : g ≠ b) (hg : g < w.heap.size) (h : w.cell? ⟨g, k, none⟩ = some v) : w'.cell? ⟨g, k, none⟩ = some v := by
  have e := o.2.2.2.2 g hg hb
  unfold World.cell? at h ⊢
  rw [e]
  exact h
theorem bnd_zero : Bnd (fun _ => 0) := ⟨fun _ => (by decide : (0 : Nat) < 18446744073709551616), rfl⟩
set_option maxRecDepth 100000 in
set_option maxHeartbeats 8000000 in
theorem lives23 {T : World → Prop} (FB : Box (∀ {w w' : World}, T w → Below w.heap.size w w' → T w')) (rg : (Nat → Nat) → Array Value) (tg : TypeId) (PX : Box (∀ (R : Nat → Nat) (b : Nat) (n : Int) w, Bnd R → T w → w.heap[b]? = some (.cells (rg R) tg) → Calls Tryd.prog 20 #[.pointer (some ⟨b, 0, none⟩), .int .i64 n] w fun r w' => r = .returned (.tuple #[.int .u64 ((xV R n).1 : Nat), .int .i64 (xV R n).2]) ∧ Below w.heap.size w w')) (PF : Box (∀ (R : Nat → Nat) (b : Nat) (n : Int) w, Bnd R → T w → w.heap[b]? = some (.cells (rg R) tg) → Calls Tryd.prog 21 #[.pointer (some ⟨b, 0, none⟩), .int .i64 n] w fun r w' => r = .returned (.tuple #[.agg #[.int .u64 ((fV R n).1 : Nat), .int .u64 ((fV R n).2.1 : Nat)], .int .i64 (fV R n).2.2]) ∧ Below w.heap.size w w')) (PSX : Box (∀ (R : Nat → Nat) (b : Nat) (n : Int) (x : Nat) w, Bnd R → x < 18446744073709551616 → T w → w.heap[b]? = some (.cells (rg R) tg) → Calls Tryd.prog 25 #[.pointer (some ⟨b, 0, none⟩), .int .i64 n, .int .u64 (x : Nat)] w fun r w' => r = .returned (.int .i64 (sxV R n x).2) ∧ w'.heap[b]? = some (.cells (rg (sxV R n x).1) tg) ∧ Only b w w')) (PP : Box (∀ (R : Nat → Nat) (b : Nat) (f n : Int) (u v : Nat) w, Bnd R → 0 ≤ f → f ≤ 255 → u < 18446744073709551616 → v < 18446744073709551616 → T w → w.heap[b]? = some (.cells (rg R) tg) → Calls Tryd.prog 27 #[.pointer (some ⟨b, 0, none⟩), .int .u8 f, .int .i64 n, .agg #[.int .u64 (u : Nat), .int .u64 (v : Nat)]] w fun r w' => r = .returned (.int .i64 (ptV R f n u v).2) ∧ w'.heap[b]? = some (.cells (rg (ptV R f n u v).1) tg) ∧ Only b w w'))
    (PN : Box (∀ w, T w → Calls Tryd.prog 24 #[] w fun r w' => ∃ b, r = .returned (.pointer (some ⟨b, 0, none⟩)) ∧ w.heap.size ≤ b ∧ w'.heap[b]? = some (.cells (rg fun _ => 0) tg) ∧ Below w.heap.size w w'))
    (PM : Box (∀ w, T w → Calls Tryd.prog 18 #[.string ⟨#[102, 51, 49]⟩] w fun r w' => r = .returned (.tuple #[.bool true, .int .i64 31, .int .i64 0]) ∧ Below w.heap.size w w'))
    (w : World) (hT : T w) : Calls Tryd.prog 9 #[] w fun r w' => r = .returned (.bool true) ∧ Below w.heap.size w w' := by
  have FF := box hT
  clear hT
  have a1 : sxV (fun _ => 0) 0 7 = ((fun _ => 0), 0) := rfl
  have a2 : xV (fun _ => 0) 0 = (0, 0) := rfl
  have a3 : sxV (fun _ => 0) 5 7 = ((up (fun _ => 0) 5 7), 0) := rfl
  have a4 : xV (up (fun _ => 0) 5 7) 5 = (7, 0) := rfl
  have a5 : xV (up (fun _ => 0) 5 7) 32 = (0, 2) := rfl
  have a6 : ptV (up (fun _ => 0) 5 7) 2 3 0 15360 = ((up (up (up (fun _ => 0) 5 7) 38 18446744073709551615) 39 18446744073709501440), 0) := by
    have e : bv7 (15360 + 18446744073709551616 * 0 + abN 2) = (18446744073709551615, 18446744073709501440) := by decide +kernel
    have q : (inR 3 && fitN 2 (15360 + 18446744073709551616 * 0)) = true := by decide +kernel
    unfold ptV
    rw [if_pos q, e]
    rfl
  have a7 : fV (up (up (up (fun _ => 0) 5 7) 38 18446744073709551615) 39 18446744073709501440) 3 = (18446744073709551615, 18446744073709501440, 0) := rfl
  have b0 := bnd_zero
  have b1 : Bnd (up (fun _ => 0) 5 7) := bnd_up b0 (by decide) (by decide)
  have b2 : Bnd (up (up (up (fun _ => 0) 5 7) 38 18446744073709551615) 39 18446744073709501440) := bnd_up (bnd_up b1 (by decide) (by decide)) (by decide) (by decide)
  obtain ⟨S1, hS1⟩ : ∃ S, (up (fun _ => 0) 5 7) = S := ⟨_, rfl⟩
  rw [hS1] at a3 a4 a5 a6 a7 b1 b2
  obtain ⟨S2, hS2⟩ : ∃ S, (up (up S1 38 18446744073709551615) 39 18446744073709501440) = S := ⟨_, rfl⟩
  rw [hS2] at a6 a7 b2
  have Q0 := fun b w hT hr => PSX.out (fun _ => 0) b 0 7 w b0 (by decide) hT hr
  have Q1 := fun b w hT hr => PX.out (fun _ => 0) b 0 w b0 hT hr
  have Q2 := fun b w hT hr => PSX.out (fun _ => 0) b 5 7 w b0 (by decide) hT hr
  have Q3 := fun b w hT hr => PX.out S1 b 5 w b1 hT hr
  have Q4 := fun b w hT hr => PX.out S1 b 32 w b1 hT hr
  have Q5 := fun b w hT hr => PP.out S1 b 2 3 0 15360 w b1 (by decide) (by decide) (by decide) (by decide) hT hr
  have Q6 := fun b w hT hr => PF.out S2 b 3 w b2 hT hr
  rw [a1] at Q0
  rw [a2] at Q1
  rw [a3] at Q2
  rw [a4] at Q3
  rw [a5] at Q4
  rw [a6] at Q5
  rw [a7] at Q6
  have QQ := box (And.intro Q0 (And.intro Q1 (And.intro Q2 (And.intro Q3 (And.intro Q4 (And.intro Q5 Q6))))))
  clear Q0 Q1 Q2 Q3 Q4 Q5 Q6 a1 a2 a3 a4 a5 a6 a7 b0 b1 b2 hS1 hS2
  go_enter Tryd.func9, Tryd.ntmps9
  go_wp2_with fail
  refine (PN.out _ FF.out).mono ?_
  rintro r w1 ⟨b, rfl, gb, r1, B1⟩
  have hgb := box gb
  clear gb
  go_wp2_with fail
  refine (QQ.out.1 b _ (FB.out FF.out B1) r1).mono ?_
  rintro r w2 ⟨rfl, r2, o2⟩
  have B2 := Only.toBelow B1 o2 hgb.out B1.size
  clear B1 r1 o2
  go_wp2_with fail
  refine (QQ.out.2.1 b _ (FB.out FF.out B2) r2).mono ?_
  rintro r w3 ⟨rfl, q3⟩
  have B3 := btr B2 q3
  have r3 := heap_of q3 _ _ _ r2
  clear B2 r2 q3
  go_wp2_with fail
  refine (QQ.out.2.2.1 b _ (FB.out FF.out B3) r3).mono ?_
  rintro r w4 ⟨rfl, r4, o4⟩
  have B4 := Only.toBelow B3 o4 hgb.out B3.size
  clear B3 r3 o4
  go_wp2_with fail
  refine (QQ.out.2.2.2.1 b _ (FB.out FF.out B4) r4).mono ?_
  rintro r w5 ⟨rfl, q5⟩
  have B5 := btr B4 q5
  have r5 := heap_of q5 _ _ _ r4
  clear B4 r4 q5
  go_wp2_with fail
  refine (QQ.out.2.2.2.2.1 b _ (FB.out FF.out B5) r5).mono ?_
  rintro r w6 ⟨rfl, q6⟩
  have B6 := btr B5 q6
  have r6 := heap_of q6 _ _ _ r5
  clear B5 r5 q6
  go_wp2_with fail
  refine (QQ.out.2.2.2.2.2.1 b _ (FB.out FF.out B6) r6).mono ?_
  rintro r w7 ⟨rfl, r7, o7⟩
  have B7 := Only.toBelow B6 o7 hgb.out B6.size
  clear B6 r6 o7
  go_wp2_with fail
  refine (QQ.out.2.2.2.2.2.2 b _ (FB.out FF.out B7) r7).mono ?_
  rintro r w8 ⟨rfl, q8⟩
  have B8 := btr B7 q8
  have B9 := btr B8 (bal w8 (.cells #[.int .u64 18446744073709551615, .int .u64 18446744073709501440] 25))
  have Rn9 := heap_alloc_last w8 (.cells #[.int .u64 18446744073709551615, .int .u64 18446744073709501440] 25)
  clear B7 r7 q8
  go_wp2_with fail
  refine (PM.out _ (FB.out FF.out B9)).mono ?_
  rintro r w10 ⟨rfl, q10⟩
  have B10 := btr B9 q10
  obtain ⟨c0, c1⟩ := cells2s (heap_of q10 _ _ _ Rn9)
  clear B8 B9 Rn9 q10
  go_wp2
  go_ret
  exact ⟨rfl, B10⟩
theorem ch_cells {w : World} {g : Nat} {T : TypeId} {a b c d e : Value} (R : w.heap[g]? = some (.cells #[a, b, c, d, e] T)) : w.cell? ⟨g, 0, none⟩ = some a ∧ w.cell? ⟨g, 1, none⟩ = some b ∧ w.cell? ⟨g, 2, none⟩ = some c ∧ w.cell? ⟨g, 3, none⟩ = some d ∧ w.cell? ⟨g, 4, none⟩ = some e := ⟨cells4 R 0 _ rfl, cells4 R 1 _ rfl, cells4 R 2 _ rfl, cells4 R 3 _ rfl, cells4 R 4 _ rfl⟩
def NoR (z0 : Array Value) (tg : TypeId) (p : Option Addr) (w : World) : Prop := p = none ∨ ∃ b, p = some ⟨b, 0, none⟩ ∧ w.heap[b]? = some (.cells z0 tg)
theorem NoR.mono {z0 : Array Value} {tg : TypeId} {p : Option Addr} {w w' : World} (h : NoR z0 tg p w) (b : Below w.heap.size w w') : NoR z0 tg p w' := h.imp id (fun ⟨g, e, r⟩ => ⟨g, e, heap_of b _ _ _ r⟩)
set_option maxRecDepth 100000 in
set_option maxHeartbeats 8000000 in
theorem rno_law {T : World → Prop} (FB : Box (∀ {w w' : World}, T w → Below w.heap.size w w' → T w')) (rg : (Nat → Nat) → Array Value) (z0 : Array Value) (tg : TypeId) (htg : tg = 58) (hz0 : ∀ w, (zeroValue 58).run Tryd.prog w = .ok (.agg z0) w) (f n : Int) (fl : Bool) (cn : Int) (cx c1 c2 : Nat)
    (NX : Box (∀ (p : Option Addr) w, T w → NoR z0 tg p w → Calls Tryd.prog 20 #[.pointer p, .int .i64 n] w fun r w' => r = .returned (.tuple #[.int .u64 0, .int .i64 1]) ∧ Below w.heap.size w w'))
    (NF : Box (∀ (p : Option Addr) w, T w → NoR z0 tg p w → Calls Tryd.prog 21 #[.pointer p, .int .i64 n] w fun r w' => r = .returned (.tuple #[.agg #[.int .u64 0, .int .u64 0], .int .i64 1]) ∧ Below w.heap.size w w'))
    (NG : Box (∀ (p : Option Addr) w, T w → NoR z0 tg p w → Calls Tryd.prog 22 #[.pointer p, .int .u8 f, .int .i64 n] w fun r w' => r = .returned (.tuple #[.agg #[.int .u64 0, .int .u64 0], .int .i64 1]) ∧ Below w.heap.size w w'))
    (NL : Box (∀ (p : Option Addr) w, T w → NoR z0 tg p w → Calls Tryd.prog 23 #[.pointer p, .int .u8 f, .int .i64 n] w fun r w' => r = .returned (.tuple #[.agg #[.int .u64 0, .int .u64 0], .int .i64 1]) ∧ Below w.heap.size w w'))
    (NSX : Box (∀ (p : Option Addr) w, T w → NoR z0 tg p w → Calls Tryd.prog 25 #[.pointer p, .int .i64 n, .int .u64 1] w fun r w' => r = .returned (.int .i64 1) ∧ Below w.heap.size w w'))
    (NSF : Box (∀ (p : Option Addr) w, T w → NoR z0 tg p w → Calls Tryd.prog 26 #[.pointer p, .int .i64 n, .agg #[.int .u64 (c1 : Nat), .int .u64 (c2 : Nat)]] w fun r w' => r = .returned (.int .i64 1) ∧ Below w.heap.size w w'))
    (NP : Box (∀ (p : Option Addr) w, T w → NoR z0 tg p w → Calls Tryd.prog 27 #[.pointer p, .int .u8 f, .int .i64 n, .agg #[.int .u64 (c1 : Nat), .int .u64 (c2 : Nat)]] w fun r w' => r = .returned (.int .i64 1) ∧ Below w.heap.size w w'))
    (NC : Box (∀ (p : Option Addr) (g : Nat) w, w.heap[g]? = some (.cells #[.bool fl, .int .i64 cn, .int .u64 (cx : Nat), .int .u64 (c1 : Nat), .int .u64 (c2 : Nat)] 50) → T w → NoR z0 tg p w → Calls Tryd.prog 28 #[.pointer p, .slice (some ⟨g, 0, none⟩) 1 1] w fun r w' => r = .returned (.int .i64 1) ∧ Below w.heap.size w w'))
    (NY : Box (∀ (p : Option Addr) w, T w → NoR z0 tg p w → Calls Tryd.prog 10 #[.pointer p] w fun r w' => r = .returned (.pointer none) ∧ Below w.heap.size w w'))
    (NT : Box (∀ (p : Option Addr) w, T w → NoR z0 tg p w → Calls Tryd.prog 12 #[.pointer p] w fun r w' => r = .returned (.agg (rf fun _ => 0)) ∧ Below w.heap.size w w'))
    (NS : Box (∀ (p : Option Addr) w, T w → NoR z0 tg p w → Calls Tryd.prog 13 #[.pointer p, .pointer p] w fun r w' => r = .returned (.bool false) ∧ Below w.heap.size w w'))
    (NN : Box (∀ w, T w → Calls Tryd.prog 24 #[] w fun r w' => ∃ b, r = .returned (.pointer (some ⟨b, 0, none⟩)) ∧ w'.heap[b]? = some (.cells (rg fun _ => 0) tg) ∧ Below w.heap.size w w'))
    (NS2 : Box (∀ (p : Option Addr) (b : Nat) w, T w → NoR z0 tg p w → w.heap[b]? = some (.cells (rg fun _ => 0) tg) → Calls Tryd.prog 13 #[.pointer p, .pointer (some ⟨b, 0, none⟩)] w fun r w' => r = .returned (.bool false) ∧ Below w.heap.size w w'))
    (ND1 : Box (∀ (p : Option Addr) (b : Nat) w, T w → NoR z0 tg p w → w.heap[b]? = some (.cells (rg fun _ => 0) tg) → Calls Tryd.prog 14 #[.pointer p, .pointer (some ⟨b, 0, none⟩)] w fun r w' => ∃ ao cv, r = .returned (.tuple #[.slice ao 0 cv, .int .i64 1]) ∧ Below w.heap.size w w'))
    (ND2 : Box (∀ (p : Option Addr) (b : Nat) w, T w → NoR z0 tg p w → w.heap[b]? = some (.cells (rg fun _ => 0) tg) → Calls Tryd.prog 14 #[.pointer (some ⟨b, 0, none⟩), .pointer p] w fun r w' => ∃ ao cv, r = .returned (.tuple #[.slice ao 0 cv, .int .i64 1]) ∧ Below w.heap.size w w'))
    (KL : Box (∀ w, T w → Calls Tryd.prog 9 #[] w fun r w' => r = .returned (.bool true) ∧ Below w.heap.size w w'))
    (w : World) (hT : T w) : Calls Tryd.prog 5 #[.int .u8 f, .int .i64 n, .agg #[.bool fl, .int .i64 cn, .int .u64 (cx : Nat), .int .u64 (c1 : Nat), .int .u64 (c2 : Nat)]] w fun r w' => r = .returned (.bool true) ∧ Below w.heap.size w w' := by
  have FF := box hT
  clear hT
  subst htg
  have hrz := rf_zero
  have hrs : ∀ R, ((rf R).size = 96) = True := fun R => eq_true (rf_size R)
  have heqb := eqb
  have heb := ebb_own 0 0
  have heR := eqrf (fun _ => 0) (fun _ => 0) bnd_zero.1 bnd_zero.1
  rw [rfE_self] at heR
  obtain ⟨Rc_0, B0⟩ := opn1 w (Obj.cells #[.bool fl, .int .i64 cn, .int .u64 (cx : Nat), .int .u64 (c1 : Nat), .int .u64 (c2 : Nat)] 50)
  go_enter Tryd.func5, Tryd.ntmps5
  have Rz : (((w.alloc (Obj.cells #[.bool fl, .int .i64 cn, .int .u64 (cx : Nat), .int .u64 (c1 : Nat), .int .u64 (c2 : Nat)] 50)).alloc (Obj.cells z0 58)).alloc (Obj.cells #[.pointer none, .pointer (some ⟨w.heap.size + 1, 0, none⟩)] 32)).heap[w.heap.size + 1]? = some (.cells z0 58) := by
    have := heap_alloc_last (w.alloc (Obj.cells #[.bool fl, .int .i64 cn, .int .u64 (cx : Nat), .int .u64 (c1 : Nat), .int .u64 (c2 : Nat)] 50)) (Obj.cells z0 58)
    simp only [size_al] at this
    exact heap_of (bal _ _) _ _ _ this
  have Rl : (((w.alloc (Obj.cells #[.bool fl, .int .i64 cn, .int .u64 (cx : Nat), .int .u64 (c1 : Nat), .int .u64 (c2 : Nat)] 50)).alloc (Obj.cells z0 58)).alloc (Obj.cells #[.pointer none, .pointer (some ⟨w.heap.size + 1, 0, none⟩)] 32)).heap[w.heap.size + 1 + 1]? = some (.cells #[.pointer none, .pointer (some ⟨w.heap.size + 1, 0, none⟩)] 32) := by
    have := heap_alloc_last ((w.alloc (Obj.cells #[.bool fl, .int .i64 cn, .int .u64 (cx : Nat), .int .u64 (c1 : Nat), .int .u64 (c2 : Nat)] 50)).alloc (Obj.cells z0 58)) (Obj.cells #[.pointer none, .pointer (some ⟨w.heap.size + 1, 0, none⟩)] 32)
    simp only [size_al] at this
    exact this
  have Rc := heap_of (bal ((w.alloc (Obj.cells #[.bool fl, .int .i64 cn, .int .u64 (cx : Nat), .int .u64 (c1 : Nat), .int .u64 (c2 : Nat)] 50)).alloc (Obj.cells z0 58)) (Obj.cells #[.pointer none, .pointer (some ⟨w.heap.size + 1, 0, none⟩)] 32)) _ _ _ (heap_of (bal (w.alloc (Obj.cells #[.bool fl, .int .i64 cn, .int .u64 (cx : Nat), .int .u64 (c1 : Nat), .int .u64 (c2 : Nat)] 50)) (Obj.cells z0 58)) _ _ _ Rc_0)
  have B1 := btr (btr B0 (bal _ (Obj.cells z0 58))) (bal _ (Obj.cells #[.pointer none, .pointer (some ⟨w.heap.size + 1, 0, none⟩)] 32))
  clear Rc_0 B0
  go_wp2_with fail
  obtain ⟨V, hV⟩ : ∃ V, (((w.alloc (Obj.cells #[.bool fl, .int .i64 cn, .int .u64 (cx : Nat), .int .u64 (c1 : Nat), .int .u64 (c2 : Nat)] 50)).alloc (Obj.cells z0 58)).alloc (Obj.cells #[.pointer none, .pointer (some ⟨w.heap.size + 1, 0, none⟩)] 32)) = V := ⟨_, rfl⟩
  rw [hV] at Rz Rl Rc B1
  try rw [hV]
  clear hV
  go_loopw [9] (fun iv wr => ∃ k : Nat, k ≤ 2 ∧ iv = .int .i64 (k : Int) ∧ Below V.heap.size V wr) (fun iv _ => 2 - (intOf iv).toNat)
  case atStart => exact ⟨0, Nat.zero_le _, rfl, Below.refl _ _⟩
  case round =>
    obtain ⟨k, hk, rfl, bV⟩ := hrel
    by_cases hlt : k < 2
    · have dl : decide ((k : Int) < 2) = true := decide_eq_true (by omega)
      have hw1 : IntKind.i64.wrap ((k : Int) + 1) = ((k + 1 : Nat) : Int) := by rw [IntKind.wrap_i64]; omega
      have hb0 : (0 : Int) ≤ (k : Int) := by omega
      have hb1 : (k : Int) < 2 := by omega
      obtain ⟨p, np0, x0⟩ : ∃ p, Box (NoR z0 58 p wr) ∧ wr.cell? ⟨w.heap.size + 1 + 1, k, none⟩ = some (.pointer p) := by
        obtain ⟨y0, y1⟩ := cells2s (heap_of bV _ _ _ Rl)
        rcases (show k = 0 ∨ k = 1 by omega) with rfl | rfl
        · exact ⟨none, box (Or.inl rfl), y0⟩
        · exact ⟨_, box (Or.inr ⟨_, rfl, heap_of bV _ _ _ Rz⟩), y1⟩
      have Rc0 := heap_of bV _ _ _ Rc
      have B0 := btr B1 bV
      have BQ0 := bV
      clear Rl Rz Rc B1 bV
      go_wp2_with fail
      refine (NX.out p _ (FB.out FF.out B0) np0.out).mono ?_
      rintro r w1 ⟨rfl, q1⟩
      have qq := q1
      have B1 := btr B0 qq
      have np1 := box (np0.out.mono qq)
      have BQ1 := btr BQ0 qq
      clear BQ0
      have Rc1 := heap_of qq _ _ _ Rc0
      clear qq q1 B0 np0 Rc0
      go_wp2_with fail
      refine (NF.out p _ (FB.out FF.out B1) np1.out).mono ?_
      rintro r w2 ⟨rfl, q2⟩
      have bw := bal w2 (Obj.cells #[.int .u64 0, .int .u64 0] 25)
      have Rb2 := heap_alloc_last w2 (Obj.cells #[.int .u64 0, .int .u64 0] 25)
      have qq := btr q2 bw
      have B2 := btr B1 qq
      have np2 := box (np1.out.mono qq)
      have BQ2 := btr BQ1 qq
      clear BQ1
      have Rc2 := heap_of qq _ _ _ Rc1
      clear qq q2 B1 np1 Rc1 bw
      go_wp2_with fail
      refine (NG.out p _ (FB.out FF.out B2) np2.out).mono ?_
      rintro r w3 ⟨rfl, q3⟩
      have bw := bal w3 (Obj.cells #[.int .u64 0, .int .u64 0] 25)
      have Rd3 := heap_alloc_last w3 (Obj.cells #[.int .u64 0, .int .u64 0] 25)
      have qq := btr q3 bw
      have B3 := btr B2 qq
      have np3 := box (np2.out.mono qq)
      have BQ3 := btr BQ2 qq
      clear BQ2
      have Rc3 := heap_of qq _ _ _ Rc2
      have Rb3 := heap_of qq _ _ _ Rb2
      clear qq q3 B2 np2 Rc2 Rb2 bw
      go_wp2_with fail
      refine (NL.out p _ (FB.out FF.out B3) np3.out).mono ?_
      rintro r w4 ⟨rfl, q4⟩
      have bw := bal w4 (Obj.cells #[.int .u64 0, .int .u64 0] 25)
      have Rk4 := heap_alloc_last w4 (Obj.cells #[.int .u64 0, .int .u64 0] 25)
      have qq := btr q4 bw
      have B4 := btr B3 qq
      have np4 := box (np3.out.mono qq)
      have BQ4 := btr BQ3 qq
      clear BQ3
      have Rc4 := heap_of qq _ _ _ Rc3
      have Rb4 := heap_of qq _ _ _ Rb3
      have Rd4 := heap_of qq _ _ _ Rd3
      clear qq q4 B3 np3 Rc3 Rb3 Rd3 bw
      go_wp2_with fail
      refine (NN.out _ (FB.out FF.out B4)).mono ?_
      rintro r w5 ⟨gRa, rfl, Ra5, q5⟩
      have B5 := btr B4 q5
      have np5 := box (np4.out.mono q5)
      have BQ5 := btr BQ4 q5
      clear BQ4
      have Rc5 := heap_of q5 _ _ _ Rc4
      have Rb5 := heap_of q5 _ _ _ Rb4
      have Rd5 := heap_of q5 _ _ _ Rd4
      have Rk5 := heap_of q5 _ _ _ Rk4
      clear q5 B4 np4 Rc4 Rb4 Rd4 Rk4
      go_wp2_with fail
      refine (ND1.out p gRa _ (FB.out FF.out B5) np5.out Ra5).mono ?_
      rintro r w6 ⟨ao1, cv1, rfl, q6⟩
      have qq := q6
      have B6 := btr B5 qq
      have np6 := box (np5.out.mono qq)
      have BQ6 := btr BQ5 qq
      clear BQ5
      have Rc6 := heap_of qq _ _ _ Rc5
      have Rb6 := heap_of qq _ _ _ Rb5
      have Rd6 := heap_of qq _ _ _ Rd5
      have Rk6 := heap_of qq _ _ _ Rk5
      have Ra6 := heap_of qq _ _ _ Ra5
      clear qq q6 B5 np5 Rc5 Rb5 Rd5 Rk5 Ra5
      go_wp2_with fail
      refine (NN.out _ (FB.out FF.out B6)).mono ?_
      rintro r w7 ⟨gRe, rfl, Re7, q7⟩
      have B7 := btr B6 q7
      have np7 := box (np6.out.mono q7)
      have BQ7 := btr BQ6 q7
      clear BQ6
      have Rc7 := heap_of q7 _ _ _ Rc6
      have Rb7 := heap_of q7 _ _ _ Rb6
      have Rd7 := heap_of q7 _ _ _ Rd6
      have Rk7 := heap_of q7 _ _ _ Rk6
      clear q7 B6 np6 Rc6 Rb6 Rd6 Rk6
      go_wp2_with fail
      refine (ND2.out p gRe _ (FB.out FF.out B7) np7.out Re7).mono ?_
      rintro r w8 ⟨ao2, cv2, rfl, q8⟩
      have qq := q8
      have B8 := btr B7 qq
      have np8 := box (np7.out.mono qq)
      have BQ8 := btr BQ7 qq
      clear BQ7
      have Rc8 := heap_of qq _ _ _ Rc7
      have Rb8 := heap_of qq _ _ _ Rb7
      have Rd8 := heap_of qq _ _ _ Rd7
      have Rk8 := heap_of qq _ _ _ Rk7
      have Re8 := heap_of qq _ _ _ Re7
      clear qq q8 B7 np7 Rc7 Rb7 Rd7 Rk7 Re7
      obtain ⟨cRb0, cRb1⟩ := cells2s Rb8
      obtain ⟨cRd0, cRd1⟩ := cells2s Rd8
      obtain ⟨cRk0, cRk1⟩ := cells2s Rk8
      obtain ⟨cc0, cc1, cc2, cc3, cc4⟩ := ch_cells Rc8
      go_wp2_with fail
      refine (NSX.out p _ (FB.out FF.out B8) np8.out).mono ?_
      rintro r w9 ⟨rfl, q9⟩
      have qq := q9
      have B9 := btr B8 qq
      have np9 := box (np8.out.mono qq)
      have BQ9 := btr BQ8 qq
      clear BQ8
      have Rc9 := heap_of qq _ _ _ Rc8
      clear qq q9 B8 np8 Rc8
      obtain ⟨cc0, cc1, cc2, cc3, cc4⟩ := ch_cells Rc9
      go_wp2_with fail
      refine (NSF.out p _ (FB.out FF.out B9) np9.out).mono ?_
      rintro r w10 ⟨rfl, q10⟩
      have qq := q10
      have B10 := btr B9 qq
      have np10 := box (np9.out.mono qq)
      have BQ10 := btr BQ9 qq
      clear BQ9
      have Rc10 := heap_of qq _ _ _ Rc9
      clear qq q10 B9 np9 Rc9
      obtain ⟨cc0, cc1, cc2, cc3, cc4⟩ := ch_cells Rc10
      go_wp2_with fail
      refine (NP.out p _ (FB.out FF.out B10) np10.out).mono ?_
      rintro r w11 ⟨rfl, q11⟩
      have qq := q11
      have B11 := btr B10 qq
      have np11 := box (np10.out.mono qq)
      have BQ11 := btr BQ10 qq
      clear BQ10
      have Rc11 := heap_of qq _ _ _ Rc10
      clear qq q11 B10 np10 Rc10
      obtain ⟨cc0, cc1, cc2, cc3, cc4⟩ := ch_cells Rc11
      go_wp2_with fail
      have bw := bal w11 (Obj.cells #[.bool fl, .int .i64 cn, .int .u64 (cx : Nat), .int .u64 (c1 : Nat), .int .u64 (c2 : Nat)] 50)
      have Rv := heap_alloc_last w11 (Obj.cells #[.bool fl, .int .i64 cn, .int .u64 (cx : Nat), .int .u64 (c1 : Nat), .int .u64 (c2 : Nat)] 50)
      refine (NC.out p _ _ Rv (FB.out FF.out (btr B11 bw)) (np11.out.mono bw)).mono ?_
      rintro r w12 ⟨rfl, q12⟩
      have B12 := btr (btr B11 bw) q12
      have np12 := box ((np11.out.mono bw).mono q12)
      have BQ12 := btr (btr BQ11 bw) q12
      clear BQ11
      clear bw Rv q12 B11 np11 Rc11 cc0 cc1 cc2 cc3 cc4
      go_wp2_with fail
      refine (NY.out p _ (FB.out FF.out B12) np12.out).mono ?_
      rintro r w13 ⟨rfl, q13⟩
      have qq := q13
      have B13 := btr B12 qq
      have np13 := box (np12.out.mono qq)
      have BQ13 := btr BQ12 qq
      clear BQ12
      clear qq q13 B12 np12 
      go_wp2_with fail
      refine (NT.out p _ (FB.out FF.out B13) np13.out).mono ?_
      rintro r w14 ⟨rfl, q14⟩
      have qq := q14
      have B14 := btr B13 qq
      have np14 := box (np13.out.mono qq)
      have BQ14 := btr BQ13 qq
      clear BQ13
      clear qq q14 B13 np13 
      go_wp2_with fail
      refine (NS.out p _ (FB.out FF.out B14) np14.out).mono ?_
      rintro r w15 ⟨rfl, q15⟩
      have qq := q15
      have B15 := btr B14 qq
      have np15 := box (np14.out.mono qq)
      have BQ15 := btr BQ14 qq
      clear BQ14
      clear qq q15 B14 np14 
      go_wp2_with fail
      refine (NN.out _ (FB.out FF.out B15)).mono ?_
      rintro r w16 ⟨gRa, rfl, Ra16, q16⟩
      have B16 := btr B15 q16
      have np16 := box (np15.out.mono q16)
      have BQ16 := btr BQ15 q16
      clear BQ15
      clear q16 B15 np15 
      go_wp2_with fail
      refine (NS2.out p gRa _ (FB.out FF.out B16) np16.out Ra16).mono ?_
      rintro r w17 ⟨rfl, q17⟩
      have qq := q17
      have B17 := btr B16 qq
      have np17 := box (np16.out.mono qq)
      have BQ17 := btr BQ16 qq
      clear BQ16
      have Ra17 := heap_of qq _ _ _ Ra16
      clear qq q17 B16 np16 Ra16
      go_wp2_with fail
      go_roundw
      case rel => exact ⟨k + 1, by omega, by first | rfl | simp, BQ17⟩
      case measure => simp [intOf]; omega
    · obtain rfl : k = 2 := by omega
      go_wp2_with fail
      refine (KL.out _ (FB.out FF.out (btr B1 bV))).mono ?_
      rintro r w9 ⟨rfl, q9⟩
      have BE := btr (btr B1 bV) q9
      go_wp2
      go_ret
      exact ⟨rfl, BE⟩
theorem wd_three {f : Int} (h : 0 < wdF f) : 0 ≤ f ∧ f ≤ 3 := by
  unfold wdF at h
  (repeat' split at h) <;> omega
def CLw (w : World) (sv : Value) (l : List Chg) : Prop := (sv = .slice none 0 0 ∧ l = []) ∨ ∃ (ad : Addr) (L cv : Nat), sv = .slice (some ad) L cv ∧ l.length = L ∧ L ≤ cv ∧ (L = 0 ∨ (ad.spot = none ∧ ad.block < w.heap.size)) ∧ ∀ j u, (chsC l)[j]? = some u → w.cell? (ad.add j) = some u
theorem CLw.at {w W : World} {b : Nat} {sv : Value} {l : List Chg} (h : CLw w sv l) (q : Below w.heap.size w W) (hb : w.heap.size ≤ b) : CLt W b sv l := by
  rcases h with h | ⟨ad, L, cv, e, hl, hc, hs, hr⟩
  · exact Or.inl h
  · refine Or.inr ⟨ad, L, cv, e, hl, hc, hs.imp id (fun h => ⟨h.1, Nat.lt_of_lt_of_le h.2 q.size⟩), box (fun W' o j u hj => ?_)⟩
    rcases hs with h0 | ⟨sp, hg⟩
    · have : l = [] := List.length_eq_zero_iff.1 (by omega)
      subst this
      simp [chsC] at hj
    · have hh := hr j u hj
      obtain ⟨g, z, s⟩ := ad
      dsimp only at sp hg
      subst sp
      have hadd : (⟨g, z, none⟩ : Addr).add j = ⟨g, z + j, none⟩ := by unfold Addr.add; split <;> simp_all
      rw [hadd] at hh ⊢
      exact only_cell o (by omega) (Nat.lt_of_lt_of_le hg q.size) (below_cell q hg hh)
def nmV (fl : Bool) (n : Int) : ByteArray × Int := if (decide (0 ≤ n) && decide (n < 32)) = true then (nmB fl n.toNat, 0) else (⟨#[]⟩, 2)
end Go.Proofs.YtjbnifhpbdjonaaDoor
namespace Go.Proofs.YtjbnifhpbdjonaaDoor
set_option maxRecDepth 100000
set_option maxHeartbeats 40000000
set_option maxRecDepth 100000
open WMath
open Go.ChangeShapes Go.WideShapes Go.ChangeAt Go.RowKit
theorem rd_bits {H : Type} {enc : TypeId × Value → H} {w : World} {base : Nat} {spare : Nat → Bool} {held : Bool} {fuel : Nat} {cs : List Value} {x : DataW H × List MemPlace}
    (h : DataW.trod enc Tryd.prog w base spare held fuel 25 cs = some x) : ∃ a b : Nat, a < 18446744073709551616 ∧ b < 18446744073709551616 ∧ cs = [.int .u64 (a : Nat), .int .u64 (b : Nat)] ∧ x = (dB H (a, b), []) := by
  have hc : Tryd.prog.cellsOf 25 = 2 := by kernel_rfl
  have hce : Tryd.prog.cellsOf 22 = 1 := by kernel_rfl
  have hl : cs.length = 2 := by
    obtain ⟨_, _, _, _, hl, _⟩ := DataW.trod_struct Tryd.underlying25 h
    rw [hl, hc]
  obtain ⟨c0, c1, rfl⟩ := list2 cs (by simpa using hl)
  obtain ⟨y0, y1, n, hx, _, h0, h1⟩ := trod_struct2 Tryd.underlying25 h
  simp only [hce] at h0 h1
  obtain ⟨x0, e0, g0, w0⟩ := DataW.trod_int Tryd.underlying22 h0
  obtain ⟨x1, e1, g1, w1⟩ := DataW.trod_int Tryd.underlying22 h1
  simp at e0 e1
  subst e0 e1
  obtain ⟨a0, b0, rfl⟩ := nat_u64 w0
  obtain ⟨a1, b1, rfl⟩ := nat_u64 w1
  refine ⟨a0, a1, b0, b1, rfl, ?_⟩
  rw [hx, g0, g1]
  rfl
def dCh (H : Type) (c : Chg) : DataW H := .agg [.lit (.bool c.fl), .lit (.int .i64 c.n), .lit (.int .u64 (c.wd : Nat)), dB H (c.hi, c.lo)]
def ChB (c : Chg) : Prop := (Lit.int .i64 c.n).wf = true ∧ c.wd < 18446744073709551616 ∧ c.hi < 18446744073709551616 ∧ c.lo < 18446744073709551616
theorem list5c {α : Type} (l : List α) (h : l.length = 5) : ∃ a0 a1 a2 a3 a4, l = [a0, a1, a2, a3, a4] := by
  match l, h with
  | [a0, a1, a2, a3, a4], _ => exact ⟨a0, a1, a2, a3, a4, rfl⟩
theorem trod_st4c {H : Type} {enc : TypeId × Value → H} {P : Program} {w : World} {base : Nat} {spare : Nat → Bool} {held : Bool} {t : TypeId} {f0 f1 f2 f3 : Field} {fuel : Nat} {cs : List Value} {x : DataW H × List MemPlace} (ht : P.underlying t = some (.struct #[f0, f1, f2, f3])) (h : DataW.trod enc P w base spare held fuel t cs = some x) :
    ∃ y0 y1 y2 y3 n, x = (.agg [y0.1, y1.1, y2.1, y3.1], y0.2 ++ (y1.2 ++ (y2.2 ++ y3.2))) ∧ cs.length = P.cellsOf t ∧ DataW.trod enc P w base spare held n f0.type ((cs.drop f0.offset).take (P.cellsOf f0.type)) = some y0 ∧
      DataW.trod enc P w base spare held n f1.type ((cs.drop f1.offset).take (P.cellsOf f1.type)) = some y1 ∧ DataW.trod enc P w base spare held n f2.type ((cs.drop f2.offset).take (P.cellsOf f2.type)) = some y2 ∧
      DataW.trod enc P w base spare held n f3.type ((cs.drop f3.offset).take (P.cellsOf f3.type)) = some y3 := by
  obtain ⟨xs, n, _, rfl, hl, hlen, hf⟩ := DataW.trod_struct ht h
  match xs, hlen with
  | [y0, y1, y2, y3], _ => exact ⟨y0, y1, y2, y3, n, by simp, hl, by simpa using hf 0 f0 rfl, by simpa using hf 1 f1 rfl, by simpa using hf 2 f2 rfl, by simpa using hf 3 f3 rfl⟩
theorem rd_ch {H : Type} {enc : TypeId × Value → H} {w : World} {base : Nat} {spare : Nat → Bool} {held : Bool} {fuel : Nat} {cs : List Value} {x : DataW H × List MemPlace}
    (h : DataW.trod enc Tryd.prog w base spare held fuel 50 cs = some x) : ∃ c : Chg, ChB c ∧ cs = chC c ∧ x = (dCh H c, []) := by
  have hc : Tryd.prog.cellsOf 50 = 5 := by kernel_rfl
  have hcb : Tryd.prog.cellsOf 25 = 2 := by kernel_rfl
  have hce : Tryd.prog.cellsOf 22 = 1 := by kernel_rfl
  have hb1 : Tryd.prog.cellsOf 4 = 1 := by kernel_rfl
  have hi1 : Tryd.prog.cellsOf 3 = 1 := by kernel_rfl
  obtain ⟨y0, y1, y2, y3, n, hx, hl, h0, h1, h2, h3⟩ := trod_st4c Tryd.underlying50 h
  rw [hc] at hl
  obtain ⟨c0, c1, c2, c3, c4, rfl⟩ := list5c cs hl
  simp only [hcb, hce, hb1, hi1, List.drop_succ_cons, List.drop_zero, List.take_succ_cons, List.take_zero] at h0 h1 h2 h3
  obtain ⟨b0, e0, g0⟩ := DataW.trod_bool Tryd.underlying4 h0
  obtain ⟨x1, e1, g1, w1⟩ := DataW.trod_int Tryd.underlying3 h1
  obtain ⟨x2, e2, g2, w2⟩ := DataW.trod_int Tryd.underlying22 h2
  obtain ⟨a, c, ha, hc', e3, g3⟩ := rd_bits h3
  obtain ⟨a2, b2, rfl⟩ := nat_u64 w2
  simp at e0 e1 e2 e3
  obtain ⟨rfl, rfl⟩ := e3
  subst e0 e1 e2
  refine ⟨⟨b0, x1, a2, a, c⟩, ⟨w1, b2, ha, hc'⟩, rfl, ?_⟩
  rw [hx, g0, g1, g2, g3]
  rfl
theorem put_ch {H : Type} {enc : TypeId × Value → H} {w : World} {b : Nat} {spare : Nat → Bool} {held : Bool} (n : Nat) (c : Chg) (h : ChB c) : DataW.trod enc Tryd.prog w b spare held (n + 3) 50 (chC c) = some (dCh H c, []) := by
  have hc : Tryd.prog.cellsOf 50 = 5 := by kernel_rfl
  have hcb : Tryd.prog.cellsOf 25 = 2 := by kernel_rfl
  have hce : Tryd.prog.cellsOf 22 = 1 := by kernel_rfl
  have hb1 : Tryd.prog.cellsOf 4 = 1 := by kernel_rfl
  have hi1 : Tryd.prog.cellsOf 3 = 1 := by kernel_rfl
  have k0 := u64_nat _ h.2.1
  have k1 := u64_nat _ h.2.2.1
  have k2 := u64_nat _ h.2.2.2
  simp [DataW.trod, chC, Tryd.underlying50, Tryd.underlying25, Tryd.underlying22, Tryd.underlying4, Tryd.underlying3, hc, hcb, hce, hb1, hi1, k0, k1, k2, h.1, dB, dCh]
theorem open_ch {H : Type} {enc : TypeId × Value → H} {w : World} {base b : Nat} {spare : Nat → Bool} {held : Bool} {v : Value} {d : DataW H} {p : List MemPlace}
    (hok : Value.okWide Tryd.prog w .any base 50 v) (h : DataW.Trod enc Tryd.prog w b spare held 50 v d p) : ∃ c : Chg, ChB c ∧ v = .agg (chC c).toArray ∧ d = dCh H c ∧ p = [] := by
  obtain ⟨cs, rfl, hsz⟩ := okWide_struct Tryd.underlying50 hok
  obtain ⟨l⟩ := cs
  obtain ⟨fuel, hf⟩ := h
  obtain ⟨c, hc, e, hx⟩ := rd_ch hf
  simp only [Prod.mk.injEq] at hx
  exact ⟨c, hc, by rw [← e]; simp [Value.cells], hx.1, hx.2⟩
theorem shut_ch {H : Type} {enc : TypeId × Value → H} {w : World} {b : Nat} {spare : Nat → Bool} {held : Bool} (c : Chg) (h : ChB c) : DataW.Trod enc Tryd.prog w b spare held 50 (.agg (chC c).toArray) (dCh H c) [] := ⟨3, put_ch 0 c h⟩
end Go.Proofs.YtjbnifhpbdjonaaDoor
namespace Go.Proofs
open Go.Shelf
def Tryd.laysItoa_ren : Go.Shelf.Ren := ⟨fun | 171 => 39 | 243 => 57 | 246 => 73 | 283 => 86 | 284 => 87 | 285 => 88 | 286 => 89 | 129 => 97 | 317 => 96 | 318 => 98 | 319 => 99 | 320 => 100 | 337 => 103 | 338 => 104 | n => n, fun | 3 => 3 | 9 => 9 | 2 => 2 | 4 => 4 | 171 => 123 | 0 => 0 | 53 => 22 | 37 => 99 | 5 => 5 | 173 => 126 | 212 => 139 | 51 => 140 | 20 => 20 | 213 => 141 | 46 => 120 | 232 => 151 | 233 => 152 | n => n, fun | 17 => 3 | 18 => 5 | 19 => 6 | n => n⟩
theorem Tryd.laysItoa : Go.Proofs.LaysM.n171 Tryd.prog Tryd.laysItoa_ren := {
  mixed := by kernel_rfl
  f129 := Tryd.func97.trans (congrArg some (by kernel_rfl))
  f171 := Tryd.func39.trans (congrArg some (by kernel_rfl))
  f243 := Tryd.func57.trans (congrArg some (by kernel_rfl))
  f246 := Tryd.func73.trans (congrArg some (by kernel_rfl))
  f283 := Tryd.func86.trans (congrArg some (by kernel_rfl))
  f284 := Tryd.func87.trans (congrArg some (by kernel_rfl))
  f285 := Tryd.func88.trans (congrArg some (by kernel_rfl))
  f286 := Tryd.func89.trans (congrArg some (by kernel_rfl))
  f317 := Tryd.func96.trans (congrArg some (by kernel_rfl))
  f318 := Tryd.func98.trans (congrArg some (by kernel_rfl))
  f319 := Tryd.func99.trans (congrArg some (by kernel_rfl))
  f320 := Tryd.func100.trans (congrArg some (by kernel_rfl))
  f337 := Tryd.func103.trans (congrArg some (by kernel_rfl))
  f338 := Tryd.func104.trans (congrArg some (by kernel_rfl))
  t0 := Tryd.underlying0
  a0 := Tryd.isAgg0
  z0 := Tryd.sizeOf0
  v0 := Tryd.zeroValue0
  t2 := Tryd.underlying2
  a2 := Tryd.isAgg2
  z2 := Tryd.sizeOf2
  v2 := Tryd.zeroValue2
  t3 := Tryd.underlying3
  a3 := Tryd.isAgg3
  z3 := Tryd.sizeOf3
  v3 := Tryd.zeroValue3
  t4 := Tryd.underlying4
  a4 := Tryd.isAgg4
  z4 := Tryd.sizeOf4
  v4 := Tryd.zeroValue4
  t5 := Tryd.underlying5
  a5 := Tryd.isAgg5
  z5 := Tryd.sizeOf5
  v5 := Tryd.zeroValue5
  t9 := Tryd.underlying9
  a9 := Tryd.isAgg9
  z9 := Tryd.sizeOf9
  v9 := Tryd.zeroValue9
  t20 := Tryd.underlying20
  a20 := Tryd.isAgg20
  z20 := Tryd.sizeOf20
  v20 := Tryd.zeroValue20
  t37 := Tryd.underlying99
  a37 := Tryd.isAgg99
  z37 := Tryd.sizeOf99
  v37 := Tryd.zeroValue99
  t46 := Tryd.underlying120
  a46 := Tryd.isAgg120
  z46 := Tryd.sizeOf120
  v46 := Tryd.zeroValue120
  t51 := Tryd.underlying140
  a51 := Tryd.isAgg140
  z51 := Tryd.sizeOf140
  v51 := Tryd.zeroValue140
  t53 := Tryd.underlying22
  a53 := Tryd.isAgg22
  z53 := Tryd.sizeOf22
  v53 := Tryd.zeroValue22
  t171 := Tryd.underlying123
  a171 := Tryd.isAgg123
  z171 := Tryd.sizeOf123
  v171 := Tryd.zeroValue123
  t173 := Tryd.underlying126
  a173 := Tryd.isAgg126
  z173 := Tryd.sizeOf126
  v173 := Tryd.zeroValue126
  t212 := Tryd.underlying139
  a212 := Tryd.isAgg139
  z212 := Tryd.sizeOf139
  v212 := Tryd.zeroValue139
  t213 := Tryd.underlying141
  a213 := Tryd.isAgg141
  z213 := Tryd.sizeOf141
  t232 := Tryd.underlying151
  a232 := Tryd.isAgg151
  z232 := Tryd.sizeOf151
  v232 := Tryd.zeroValue151
  t233 := Tryd.underlying152
  a233 := Tryd.isAgg152
  z233 := Tryd.sizeOf152
  v233 := Tryd.zeroValue152
  g17 := by kernel_rfl
  g18 := by kernel_rfl
  g19 := by kernel_rfl
  i0 := by kernel_rfl
  i2 := by kernel_rfl
  i3 := by kernel_rfl
  i4 := by kernel_rfl
  i5 := by kernel_rfl
  i9 := by kernel_rfl
  i20 := by kernel_rfl
  i37 := by kernel_rfl
  i46 := by kernel_rfl
  i51 := by kernel_rfl
  i53 := by kernel_rfl
  i171 := by kernel_rfl
  i173 := by kernel_rfl
  i212 := by kernel_rfl
  i232 := by kernel_rfl
  i233 := by kernel_rfl
  m17 := by kernel_rfl
  m18 := by kernel_rfl
  m19 := by kernel_rfl }
def Tryd.laysAtoi_ren : Go.Shelf.Ren := ⟨fun | 172 => 44 | 244 => 60 | 245 => 61 | 247 => 75 | 279 => 76 | 280 => 77 | 281 => 78 | 282 => 79 | 287 => 90 | 316 => 91 | 171 => 39 | 205 => 92 | 321 => 101 | 322 => 102 | 243 => 57 | 246 => 73 | 283 => 86 | 284 => 87 | 285 => 88 | 286 => 89 | 129 => 97 | 317 => 96 | 318 => 98 | 319 => 99 | 320 => 100 | 337 => 103 | 338 => 104 | n => n, fun | 9 => 9 | 3 => 3 | 75 => 84 | 76 => 85 | 4 => 4 | 5 => 5 | 167 => 111 | 37 => 99 | 0 => 0 | 85 => 112 | 2 => 2 | 168 => 114 | 53 => 22 | 175 => 128 | 46 => 120 | 210 => 132 | 127 => 145 | 145 => 148 | 143 => 146 | 21 => 21 | 171 => 123 | 173 => 126 | 212 => 139 | 51 => 140 | 20 => 20 | 213 => 141 | 232 => 151 | 233 => 152 | 80 => 153 | n => n, fun | 15 => 1 | 16 => 2 | 17 => 3 | 18 => 5 | 19 => 6 | n => n⟩
theorem Tryd.laysAtoi : Go.Proofs.LaysC.n172 Tryd.prog Tryd.laysAtoi_ren := {
  mixed := by kernel_rfl
  f129 := Tryd.func97.trans (congrArg some (by kernel_rfl))
  f171 := Tryd.func39.trans (congrArg some (by kernel_rfl))
  f172 := Tryd.func44.trans (congrArg some (by kernel_rfl))
  f205 := Tryd.func92.trans (congrArg some (by kernel_rfl))
  f243 := Tryd.func57.trans (congrArg some (by kernel_rfl))
  f244 := Tryd.func60.trans (congrArg some (by kernel_rfl))
  f245 := Tryd.func61.trans (congrArg some (by kernel_rfl))
  f246 := Tryd.func73.trans (congrArg some (by kernel_rfl))
  f247 := Tryd.func75.trans (congrArg some (by kernel_rfl))
  f279 := Tryd.func76.trans (congrArg some (by kernel_rfl))
  f280 := Tryd.func77.trans (congrArg some (by kernel_rfl))
  f281 := Tryd.func78.trans (congrArg some (by kernel_rfl))
  f282 := Tryd.func79.trans (congrArg some (by kernel_rfl))
  f283 := Tryd.func86.trans (congrArg some (by kernel_rfl))
  f284 := Tryd.func87.trans (congrArg some (by kernel_rfl))
  f285 := Tryd.func88.trans (congrArg some (by kernel_rfl))
  f286 := Tryd.func89.trans (congrArg some (by kernel_rfl))
  f287 := Tryd.func90.trans (congrArg some (by kernel_rfl))
  f316 := Tryd.func91.trans (congrArg some (by kernel_rfl))
  f317 := Tryd.func96.trans (congrArg some (by kernel_rfl))
  f318 := Tryd.func98.trans (congrArg some (by kernel_rfl))
  f319 := Tryd.func99.trans (congrArg some (by kernel_rfl))
  f320 := Tryd.func100.trans (congrArg some (by kernel_rfl))
  f321 := Tryd.func101.trans (congrArg some (by kernel_rfl))
  f322 := Tryd.func102.trans (congrArg some (by kernel_rfl))
  f337 := Tryd.func103.trans (congrArg some (by kernel_rfl))
  f338 := Tryd.func104.trans (congrArg some (by kernel_rfl))
  t0 := Tryd.underlying0
  a0 := Tryd.isAgg0
  z0 := Tryd.sizeOf0
  v0 := Tryd.zeroValue0
  t2 := Tryd.underlying2
  a2 := Tryd.isAgg2
  z2 := Tryd.sizeOf2
  v2 := Tryd.zeroValue2
  t3 := Tryd.underlying3
  a3 := Tryd.isAgg3
  z3 := Tryd.sizeOf3
  v3 := Tryd.zeroValue3
  t4 := Tryd.underlying4
  a4 := Tryd.isAgg4
  z4 := Tryd.sizeOf4
  v4 := Tryd.zeroValue4
  t5 := Tryd.underlying5
  a5 := Tryd.isAgg5
  z5 := Tryd.sizeOf5
  v5 := Tryd.zeroValue5
  t9 := Tryd.underlying9
  a9 := Tryd.isAgg9
  z9 := Tryd.sizeOf9
  v9 := Tryd.zeroValue9
  t20 := Tryd.underlying20
  a20 := Tryd.isAgg20
  z20 := Tryd.sizeOf20
  v20 := Tryd.zeroValue20
  t21 := Tryd.underlying21
  a21 := Tryd.isAgg21
  z21 := Tryd.sizeOf21
  v21 := Tryd.zeroValue21
  t37 := Tryd.underlying99
  a37 := Tryd.isAgg99
  z37 := Tryd.sizeOf99
  v37 := Tryd.zeroValue99
  t46 := Tryd.underlying120
  a46 := Tryd.isAgg120
  z46 := Tryd.sizeOf120
  v46 := Tryd.zeroValue120
  t51 := Tryd.underlying140
  a51 := Tryd.isAgg140
  z51 := Tryd.sizeOf140
  v51 := Tryd.zeroValue140
  t53 := Tryd.underlying22
  a53 := Tryd.isAgg22
  z53 := Tryd.sizeOf22
  v53 := Tryd.zeroValue22
  t75 := Tryd.underlying84
  a75 := Tryd.isAgg84
  z75 := Tryd.sizeOf84
  v75 := Tryd.zeroValue84
  t76 := Tryd.underlying85
  a76 := Tryd.isAgg85
  z76 := Tryd.sizeOf85
  v76 := Tryd.zeroValue85
  t85 := Tryd.underlying112
  a85 := Tryd.isAgg112
  z85 := Tryd.sizeOf112
  v85 := Tryd.zeroValue112
  t127 := Tryd.underlying145
  a127 := Tryd.isAgg145
  z127 := Tryd.sizeOf145
  v127 := Tryd.zeroValue145
  t143 := Tryd.underlying146
  a143 := Tryd.isAgg146
  z143 := Tryd.sizeOf146
  v143 := Tryd.zeroValue146
  t145 := Tryd.underlying148
  a145 := Tryd.isAgg148
  z145 := Tryd.sizeOf148
  v145 := Tryd.zeroValue148
  t167 := Tryd.underlying111
  a167 := Tryd.isAgg111
  z167 := Tryd.sizeOf111
  v167 := Tryd.zeroValue111
  t168 := Tryd.underlying114
  a168 := Tryd.isAgg114
  z168 := Tryd.sizeOf114
  v168 := Tryd.zeroValue114
  t171 := Tryd.underlying123
  a171 := Tryd.isAgg123
  z171 := Tryd.sizeOf123
  v171 := Tryd.zeroValue123
  t173 := Tryd.underlying126
  a173 := Tryd.isAgg126
  z173 := Tryd.sizeOf126
  v173 := Tryd.zeroValue126
  t175 := Tryd.underlying128
  a175 := Tryd.isAgg128
  z175 := Tryd.sizeOf128
  v175 := Tryd.zeroValue128
  t210 := Tryd.underlying132
  a210 := Tryd.isAgg132
  z210 := Tryd.sizeOf132
  v210 := Tryd.zeroValue132
  t212 := Tryd.underlying139
  a212 := Tryd.isAgg139
  z212 := Tryd.sizeOf139
  v212 := Tryd.zeroValue139
  t213 := Tryd.underlying141
  a213 := Tryd.isAgg141
  z213 := Tryd.sizeOf141
  t232 := Tryd.underlying151
  a232 := Tryd.isAgg151
  z232 := Tryd.sizeOf151
  v232 := Tryd.zeroValue151
  t233 := Tryd.underlying152
  a233 := Tryd.isAgg152
  z233 := Tryd.sizeOf152
  v233 := Tryd.zeroValue152
  g15 := by kernel_rfl
  g16 := by kernel_rfl
  g17 := by kernel_rfl
  g18 := by kernel_rfl
  g19 := by kernel_rfl
  t80 := Tryd.underlying153
  a80 := Tryd.isAgg153
  z80 := Tryd.sizeOf153
  v80 := Tryd.zeroValue153
  i0 := by kernel_rfl
  i2 := by kernel_rfl
  i3 := by kernel_rfl
  i4 := by kernel_rfl
  i5 := by kernel_rfl
  i9 := by kernel_rfl
  i20 := by kernel_rfl
  i21 := by kernel_rfl
  i37 := by kernel_rfl
  i46 := by kernel_rfl
  i51 := by kernel_rfl
  i53 := by kernel_rfl
  i75 := by kernel_rfl
  i76 := by kernel_rfl
  i80 := by kernel_rfl
  i85 := by kernel_rfl
  i127 := by kernel_rfl
  i143 := by kernel_rfl
  i145 := by kernel_rfl
  i167 := by kernel_rfl
  i168 := by kernel_rfl
  i171 := by kernel_rfl
  i173 := by kernel_rfl
  i175 := by kernel_rfl
  i210 := by kernel_rfl
  i212 := by kernel_rfl
  i232 := by kernel_rfl
  i233 := by kernel_rfl
  m15 := by kernel_rfl
  m16 := by kernel_rfl
  m17 := by kernel_rfl
  m18 := by kernel_rfl
  m19 := by kernel_rfl
  c0 := by kernel_rfl
  c2 := by kernel_rfl
  c3 := by kernel_rfl
  c4 := by kernel_rfl
  c5 := by kernel_rfl
  c9 := by kernel_rfl
  c20 := by kernel_rfl
  c21 := by kernel_rfl
  c37 := by kernel_rfl
  c46 := by kernel_rfl
  c51 := by kernel_rfl
  c53 := by kernel_rfl
  c75 := by kernel_rfl
  c76 := by kernel_rfl
  c80 := by kernel_rfl
  c85 := by kernel_rfl
  c127 := by kernel_rfl
  c143 := by kernel_rfl
  c145 := by kernel_rfl
  c167 := by kernel_rfl
  c168 := by kernel_rfl
  c171 := by kernel_rfl
  c173 := by kernel_rfl
  c175 := by kernel_rfl
  c210 := by kernel_rfl
  c212 := by kernel_rfl
  c213 := by kernel_rfl
  c232 := by kernel_rfl
  c233 := by kernel_rfl }
def Tryd.laysCutPrefix_ren : Go.Shelf.Ren := ⟨fun | 103 => 42 | 210 => 58 | 206 => 74 | n => n, fun | 9 => 9 | 4 => 4 | 24 => 80 | 3 => 3 | n => n, fun | n => n⟩
theorem Tryd.laysCutPrefix : Go.Proofs.Lays.n103 Tryd.prog Tryd.laysCutPrefix_ren := {
  mixed := by kernel_rfl
  f103 := Tryd.func42.trans (congrArg some (by kernel_rfl))
  f206 := Tryd.func74.trans (congrArg some (by kernel_rfl))
  f210 := Tryd.func58.trans (congrArg some (by kernel_rfl))
  t3 := Tryd.underlying3
  a3 := Tryd.isAgg3
  z3 := Tryd.sizeOf3
  v3 := Tryd.zeroValue3
  t4 := Tryd.underlying4
  a4 := Tryd.isAgg4
  z4 := Tryd.sizeOf4
  v4 := Tryd.zeroValue4
  t9 := Tryd.underlying9
  a9 := Tryd.isAgg9
  z9 := Tryd.sizeOf9
  v9 := Tryd.zeroValue9
  t24 := Tryd.underlying80
  a24 := Tryd.isAgg80
  z24 := Tryd.sizeOf80
  v24 := Tryd.zeroValue80 }
def Tryd.laysTrimPrefix_ren : Go.Shelf.Ren := ⟨fun | 101 => 43 | 208 => 59 | 206 => 74 | n => n, fun | 9 => 9 | 4 => 4 | 3 => 3 | n => n, fun | n => n⟩
theorem Tryd.laysTrimPrefix : Go.Proofs.Lays.n101 Tryd.prog Tryd.laysTrimPrefix_ren := {
  mixed := by kernel_rfl
  f101 := Tryd.func43.trans (congrArg some (by kernel_rfl))
  f206 := Tryd.func74.trans (congrArg some (by kernel_rfl))
  f208 := Tryd.func59.trans (congrArg some (by kernel_rfl))
  t3 := Tryd.underlying3
  a3 := Tryd.isAgg3
  z3 := Tryd.sizeOf3
  v3 := Tryd.zeroValue3
  t4 := Tryd.underlying4
  a4 := Tryd.isAgg4
  z4 := Tryd.sizeOf4
  v4 := Tryd.zeroValue4
  t9 := Tryd.underlying9
  a9 := Tryd.isAgg9
  z9 := Tryd.sizeOf9
  v9 := Tryd.zeroValue9 }
end Go.Proofs
namespace Go.Proofs.YtjbnifhpbdjonaaDoor
set_option maxRecDepth 100000
set_option maxHeartbeats 40000000
set_option maxRecDepth 100000
open Go.RowKit WMath
def P10 (w : World) : Prop := Lib.TabIs Tryd.prog w "internal/strconv.uint64pow10" .u64 Lib.pow10Tab
theorem gP10 : Tryd.prog.globalNamed "internal/strconv.uint64pow10" = some 3 := by kernel_rfl
theorem p10B {w w' : World} (h : P10 w) (hb : Below w.heap.size w w') : P10 w' := by
  unfold P10 Lib.TabIs World.var? at h ⊢
  rw [gP10] at h ⊢
  simp only [Option.bind_some] at h ⊢
  have h0 : 3 < w.heap.size := by
    rcases Nat.lt_or_ge 3 w.heap.size with e | e
    · exact e
    · have : w.heap[3]? = none := Array.getElem?_eq_none e
      rw [this] at h
      cases h
  rw [hb.block 3 h0]
  exact h
theorem t_itoa (e : Int) (v : ByteArray) (h0 : -1000000000 ≤ e) (h1 : e ≤ 1000000000) (hv : (⟨(Lib.itoa e).toArray⟩ : ByteArray) = v) (w : World) (hP : P10 w) :
    Calls Tryd.prog 39 #[.int .i64 e] w fun r w' => r = .returned (.string v) ∧ Below w.heap.size w w' := by
  have h := Any.strconv_Itoa Tryd.laysItoa e (by omega) (by omega) w hP
  refine h.mono ?_
  rintro r w' ⟨rfl, k, os, rfl⟩
  rw [hv]
  refine ⟨rfl, rfl, rfl, rfl, ?_, ?_⟩
  · simp [Sort.grow, World.drewN]
  · intro j hj
    simp only [Sort.grow, World.drewN]
    exact Array.getElem?_append_left hj
end Go.Proofs.YtjbnifhpbdjonaaDoor
namespace Go.Proofs.YtjbnifhpbdjonaaDoor
set_option maxRecDepth 100000
set_option maxHeartbeats 40000000
set_option maxRecDepth 100000
open Go.RowKit WMath
set_option linter.unusedSimpArgs false
set_option linter.unusedVariables false
def rh (o : Bool) (R : Nat → Nat) : Array Value := #[Value.bool o] ++ rf R
theorem rh_size (o : Bool) (R : Nat → Nat) : (rh o R).size = 97 := by simp [rh, rf_size]
theorem rh_at0 (o : Bool) (R : Nat → Nat) : (rh o R)[0]? = some (.bool o) := by
  unfold rh
  rw [Array.getElem?_append_left (by simp)]
  rfl
theorem rh_at (o : Bool) (R : Nat → Nat) (k : Nat) (h : k < 96) : (rh o R)[1 + k]? = some (.int .u64 (R k : Nat)) := by
  unfold rh
  rw [Array.getElem?_append_right (by simp), show 1 + k - (#[Value.bool o] : Array Value).size = k by simp, rf_at R k h]
theorem rh_set (o : Bool) (R : Nat → Nat) (k v : Nat) (hk : k < 96) : (rh o R).setIfInBounds (1 + k) (.int .u64 (v : Nat)) = rh o (up R k v) := by
  apply Array.ext_getElem?
  intro j
  rw [Array.getElem?_setIfInBounds, rh_size]
  by_cases e : 1 + k = j
  · subst e
    rw [if_pos rfl, if_pos (by omega), rh_at _ _ _ hk]
    unfold up
    rw [if_pos rfl]
  · rw [if_neg e]
    rcases Nat.eq_zero_or_pos j with q | q
    · subst q
      rw [rh_at0, rh_at0]
    · obtain ⟨i, rfl⟩ : ∃ i, j = 1 + i := ⟨j - 1, by omega⟩
      by_cases hj : i < 96
      · rw [rh_at _ _ _ hj, rh_at _ _ _ hj]
        unfold up
        rw [if_neg (by omega)]
      · rw [Array.getElem?_eq_none (by rw [rh_size]; omega), Array.getElem?_eq_none (by rw [rh_size]; omega)]
theorem rh_set0 (o : Bool) (R : Nat → Nat) (k : Nat) (hk : k < 96) : (rh o R).setIfInBounds (1 + k) (.int .u64 0) = rh o (up R k 0) := rh_set o R k 0 hk
theorem rh_cell0 {w : World} {b : Nat} {o : Bool} {R : Nat → Nat} {T : TypeId} (h : w.heap[b]? = some (.cells (rh o R) T)) : w.cell? ⟨b, 0, none⟩ = some (.bool o) := cell7 h 0 _ (rh_at0 o R)
theorem rh_cell {w : World} {b : Nat} {o : Bool} {R : Nat → Nat} {T : TypeId} (h : w.heap[b]? = some (.cells (rh o R) T)) (k : Nat) (hk : k < 96) : w.cell? ⟨b, 1 + k, none⟩ = some (.int .u64 (R k : Nat)) := cell7 h (1 + k) _ (rh_at o R k hk)
theorem rh_zero (w : World) : (zeroValue 58).run Tryd.prog w = .ok (.agg (rh false fun _ => 0)) w := (zero_of_info (v := .agg (rh false fun _ => 0)) (n := 97) (by kernel_rfl)).1 w
set_option maxRecDepth 100000 in
theorem rh_build (o : Bool) (R : Nat → Nat) (w : World) : (Instr.build 58 #[(0, .bool o), (1, .agg (rf R))]).run Tryd.prog w = .ok (.agg (rh o R)) w := by kernel_rfl
theorem wp_rhb {w : World} {o : Oper} {a : Act} {K : Act → World → Prop} {Q : Exit → Act → World → Prop} (x y : Operand) (hop : o.op = Op.build 58 #[(0, x), (1, y)]) {m : Bool} {R : Nat → Nat} (hx : a.eval x = .bool m) (hy : a.eval y = .agg (rf R)) (hK : K (a.put o.dst (.agg (rh m R))) w) : o.wp Tryd.prog a w K Q := by
  have q := rh_build m R w
  unfold Oper.wp
  simp [execOp, hop, hx, hy, q, Result.andThen]
  exact hK
theorem wpl_rhb {w : World} {ops : Array Oper} {rest : List Oper} {o : Oper} {a : Act} {Q : Exit → Act → World → Prop} (hg : o.guard = none) (x y : Operand) (hop : o.op = Op.build 58 #[(0, x), (1, y)]) {m : Bool} {R : Nat → Nat} (hx : a.eval x = .bool m) (hy : a.eval y = .agg (rf R)) (hK : wpList Tryd.prog ops Q rest (a.put o.dst (.agg (rh m R))) w) : wpList Tryd.prog ops Q (o :: rest) a w :=
  wpList_plain hg fun K hK' => wp_rhb x y hop hx hy (hK' _ _ hK)
end Go.Proofs.YtjbnifhpbdjonaaDoor
