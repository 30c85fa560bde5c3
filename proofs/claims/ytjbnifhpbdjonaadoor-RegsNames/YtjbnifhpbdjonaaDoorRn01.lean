/-
  What the functions that the statement reaches return: part 1 (Mx, Word2, Pop, Bits1, Wide0, Quiet2, Wide7, Wide9, Frame6, List0, List2, List6, Xmath, X1, S1, S4, S5, S6, JA, JB, JC, JK, JL).
-/
import Derived.Laws.MathBits
import Derived.Laws.Bits64b
import Derived.Laws.BitsAllLaws
import Derived.Laws.ShiftsVarLaws
import Derived.WalkKit
import Derived.ProofKit
import Derived.Lib.BitFns
import Derived.Test.YtjbnifhpbdjonaaDoorRows
import Derived.WalkLawsBesides
import Derived.ScopeJumps
import Derived.Lib.TrailingZeros
import Derived.Deep.WholeRow
import Derived.Below
import Derived.Deep.QuietTactic
import Derived.BigQuiet
import Derived.ChangeKeysEq
import Derived.Deep.RegionWith
import Derived.Deep.OwnRows
import Derived.Laws.BytesString
import Derived.Deep.RegionLaw
import Derived.Laws.CopyOwn
import Derived.OpenShut
import Derived.Laws.IdiomArrays
import Derived.Carry
import Derived.RegionTactic
import Derived.Laws.Cover1
import Derived.Deep.RegionHeld3
namespace Go.Proofs.YtjbnifhpbdjonaaDoor.WMath
set_option maxRecDepth 100000
set_option maxHeartbeats 40000000
set_option maxRecDepth 100000
theorem testBit_toNat (x k : Nat) : (x.testBit k).toNat = x / 2 ^ k % 2 := by
  rw [Nat.testBit_eq_decide_div_mod_eq]
  have : x / 2 ^ k % 2 = 0 ∨ x / 2 ^ k % 2 = 1 := by omega
  rcases this with h | h <;> simp [h]

theorem mod_succ (x k : Nat) : x % 2 ^ (k + 1) = x % 2 ^ k + 2 ^ k * (x.testBit k).toNat := by
  rw [testBit_toNat, Nat.mod_pow_succ]

theorem two64 : (18446744073709551616 : Nat) = 2 ^ 64 := by decide
theorem top_bit (lo j : Nat) (hj : j < 64) : lo * 2 ^ j % 18446744073709551616 / 9223372036854775808 = (lo.testBit (63 - j)).toNat := by
  have e1 : (18446744073709551616 : Nat) = 2 ^ j * (2 ^ (63 - j) * 2) := by
    rw [← Nat.pow_succ, ← Nat.pow_add, two64]; congr 1; omega
  have e2 : (9223372036854775808 : Nat) = 2 ^ j * 2 ^ (63 - j) := by
    rw [← Nat.pow_add, show j + (63 - j) = 63 by omega]
  rw [testBit_toNat, e1, e2, Nat.mul_comm lo, Nat.mul_mod_mul_left, Nat.mul_div_mul_left _ _ (Nat.two_pow_pos j), Nat.mod_mul_right_div_self]

theorem low_split (x m : Nat) : x % 2 ^ (m + 1) = x % 2 ^ m + 2 ^ m * (x.testBit m).toNat := mod_succ x m

end Go.Proofs.YtjbnifhpbdjonaaDoor.WMath
namespace Go.Proofs.YtjbnifhpbdjonaaDoor.WMath
set_option maxRecDepth 100000
set_option maxHeartbeats 40000000
set_option maxRecDepth 100000

def Box (p : Prop) : Prop := p ∨ False
theorem box {p : Prop} (h : p) : Box p := Or.inl h
theorem Box.out {p : Prop} (h : Box p) : p := h.elim id False.elim

def wd (n k : Nat) : Nat := n / 2 ^ (64 * k) % 18446744073709551616
theorem wd_lt (n k : Nat) : wd n k < 18446744073709551616 := Nat.mod_lt _ (by decide)
theorem wd_bit (n k j : Nat) : (wd n k).testBit j = (decide (j < 64) && n.testBit (64 * k + j)) := by
  unfold wd
  rw [two64, Nat.testBit_mod_two_pow, Nat.testBit_div_two_pow, Nat.add_comm j]
theorem lt_bit {n q i : Nat} (h : n < 2 ^ q) (hi : q ≤ i) : n.testBit i = false := Nat.testBit_lt_two_pow (Nat.lt_of_lt_of_le h (Nat.pow_le_pow_right (by decide) hi))

def setw (n p x : Nat) : Nat := n % 2 ^ (64 * p) + 2 ^ (64 * p) * (x + 18446744073709551616 * (n / 2 ^ (64 * (p + 1))))

theorem setw_bit (n p x i : Nat) (hx : x < 18446744073709551616) : (setw n p x).testBit i = if i / 64 = p then x.testBit (i % 64) else n.testBit i := by
  unfold setw
  rw [Nat.add_comm, Nat.testBit_two_pow_mul_add _ (Nat.mod_lt _ (Nat.two_pow_pos _))]
  split
  · rename_i h
    rw [if_neg (by omega), Nat.testBit_mod_two_pow, decide_eq_true h, Bool.true_and]
  · rename_i h
    rw [Nat.add_comm, two64, Nat.testBit_two_pow_mul_add _ (by rw [← two64]; exact hx)]
    split
    · rename_i h2
      rw [if_pos (by omega)]
      congr 1; omega
    · rename_i h2
      rw [if_neg (by omega), Nat.testBit_div_two_pow]
      congr 1; omega

theorem wd_setw (n p x k : Nat) (hx : x < 18446744073709551616) : wd (setw n p x) k = if k = p then x else wd n k := by
  apply Nat.eq_of_testBit_eq
  intro j
  rw [wd_bit, setw_bit _ _ _ _ hx]
  by_cases hj : j < 64
  · rw [decide_eq_true hj, Bool.true_and, show (64 * k + j) / 64 = k by omega, show (64 * k + j) % 64 = j by omega]
    split
    · rfl
    · rw [wd_bit, decide_eq_true hj, Bool.true_and]
  · rw [decide_eq_false hj, Bool.false_and]
    have e : ∀ y, y < 18446744073709551616 → y.testBit j = false := fun y hy => lt_bit (q := 64) (by rw [← two64]; exact hy) (by omega)
    split
    · rw [e x hx]
    · rw [e _ (wd_lt _ _)]

theorem setw_lt (n p x q : Nat) (hn : n < 2 ^ (64 * q)) (hp : p < q) (hx : x < 18446744073709551616) : setw n p x < 2 ^ (64 * q) := by
  apply Nat.lt_pow_two_of_testBit
  intro i hi
  rw [setw_bit _ _ _ _ hx, if_neg (by omega), lt_bit hn hi]

def cw (L n : Nat) : Array Value := ((List.range L).map fun k => Value.int .u64 (wd n k : Nat)).toArray
theorem cw_at (L n k : Nat) (h : k < L) : (cw L n)[k]? = some (.int .u64 (wd n k : Nat)) := by simp [cw, h]
theorem cw6 (n : Nat) : cw 6 n = #[.int .u64 (wd n 0 : Nat), .int .u64 (wd n 1 : Nat), .int .u64 (wd n 2 : Nat), .int .u64 (wd n 3 : Nat), .int .u64 (wd n 4 : Nat), .int .u64 (wd n 5 : Nat)] := rfl
def pw (L : Nat) : Nat := 2 ^ (64 * L)
def Qn (k : Nat) : Nat := if h : k = 0 then pw 6 else Qn (k - 1)
  termination_by k
  decreasing_by omega
def Q : Nat := Qn 0
theorem Q_pw : ∃ L, L = 6 ∧ Q = pw L := by
  refine ⟨6, rfl, ?_⟩
  unfold Q
  rw [Qn, dif_pos rfl]
theorem Q_of : ∃ L, L = 6 ∧ Q = 2 ^ (64 * L) := by
  obtain ⟨L, hL, h⟩ := Q_pw
  exact ⟨L, hL, h⟩
def W (n : Nat) : Value := .agg (cw 6 n)

theorem w6 (a0 a1 a2 a3 a4 a5 : Nat) (h0 : a0 < 18446744073709551616) (h1 : a1 < 18446744073709551616) (h2 : a2 < 18446744073709551616) (h3 : a3 < 18446744073709551616) (h4 : a4 < 18446744073709551616) (h5 : a5 < 18446744073709551616) :
    ∃ n, n < Q ∧ cw 6 n = #[.int .u64 a0, .int .u64 a1, .int .u64 a2, .int .u64 a3, .int .u64 a4, .int .u64 a5] := by
  refine ⟨setw (setw (setw (setw (setw (setw 0 0 a0) 1 a1) 2 a2) 3 a3) 4 a4) 5 a5, ?_, ?_⟩
  · obtain ⟨L, hL, h⟩ := Q_of
    rw [h]
    repeat (refine setw_lt _ _ _ L ?_ (by omega) (by assumption))
    exact Nat.two_pow_pos _
  · rw [cw6]
    simp only [wd_setw _ _ _ _ h0, wd_setw _ _ _ _ h1, wd_setw _ _ _ _ h2, wd_setw _ _ _ _ h3, wd_setw _ _ _ _ h4, wd_setw _ _ _ _ h5]
    rfl
end Go.Proofs.YtjbnifhpbdjonaaDoor.WMath
namespace Go.Proofs.YtjbnifhpbdjonaaDoor.WMath
set_option maxRecDepth 100000
set_option maxHeartbeats 40000000
set_option maxRecDepth 100000

end Go.Proofs.YtjbnifhpbdjonaaDoor.WMath
namespace Go.Proofs.YtjbnifhpbdjonaaDoor.WMath
set_option maxRecDepth 100000
set_option maxHeartbeats 40000000
set_option maxRecDepth 100000

def blen (n : Nat) : Nat := if n = 0 then 0 else Nat.log2 n + 1
theorem blen_zero : blen 0 = 0 := rfl
theorem blen_lt (n : Nat) : n < 2 ^ blen n := by
  unfold blen
  split
  · rename_i h; subst h; decide
  · rename_i h; exact (Nat.log2_lt h).1 (by omega)
theorem blen_le (n : Nat) (h : n ≠ 0) : 2 ^ (blen n - 1) ≤ n := by
  unfold blen
  rw [if_neg h]
  exact (Nat.le_log2 h).1 (by omega)
theorem blen_le_of (n l : Nat) (h : n < 2 ^ l) : blen n ≤ l := by
  by_cases h0 : n = 0
  · subst h0; rw [blen_zero]; omega
  · have := blen_le n h0
    have := Nat.lt_of_le_of_lt this h
    have := (Nat.pow_lt_pow_iff_right (a := 2) (by decide)).1 this
    omega
def dgl : List UInt8 := [48, 49, 50, 51, 52, 53, 54, 55, 56, 57, 97, 98, 99, 100, 101, 102]
def dg (d : Nat) : UInt8 := dgl.getD d 0
end Go.Proofs.YtjbnifhpbdjonaaDoor.WMath
namespace Go.Proofs.YtjbnifhpbdjonaaDoor.WMath
set_option maxRecDepth 100000
set_option maxHeartbeats 40000000
set_option maxRecDepth 100000

end Go.Proofs.YtjbnifhpbdjonaaDoor.WMath
namespace Go.Proofs.YtjbnifhpbdjonaaDoor.WMath
set_option maxRecDepth 100000
set_option maxHeartbeats 40000000
set_option maxRecDepth 100000

end Go.Proofs.YtjbnifhpbdjonaaDoor.WMath
namespace Go.Proofs.YtjbnifhpbdjonaaDoor.WMath
set_option maxRecDepth 100000
set_option maxHeartbeats 40000000
set_option maxRecDepth 100000

end Go.Proofs.YtjbnifhpbdjonaaDoor.WMath
namespace Go.Proofs.YtjbnifhpbdjonaaDoor.WMath
set_option maxRecDepth 100000
set_option maxHeartbeats 40000000
set_option maxRecDepth 100000

end Go.Proofs.YtjbnifhpbdjonaaDoor.WMath
namespace Go.Proofs.YtjbnifhpbdjonaaDoor.WMath
set_option maxRecDepth 100000
set_option maxHeartbeats 40000000
set_option maxRecDepth 100000

def nl (n : Nat) : Nat := (blen n + 7) / 8
end Go.Proofs.YtjbnifhpbdjonaaDoor.WMath
namespace Go.Proofs.YtjbnifhpbdjonaaDoor.WMath
set_option maxRecDepth 100000
set_option maxHeartbeats 40000000
set_option maxRecDepth 100000

def wl (n : Nat) : Nat := (blen n + 63) / 64
end Go.Proofs.YtjbnifhpbdjonaaDoor.WMath
namespace Go.Proofs.YtjbnifhpbdjonaaDoor
set_option maxRecDepth 100000
set_option maxHeartbeats 40000000
set_option maxRecDepth 100000
open Go.RowKit WMath
def cnt (n : Int) : Nat := min n.toNat 64
def ext (n : Int) : Nat := max (cnt n) 1
end Go.Proofs.YtjbnifhpbdjonaaDoor
namespace Go.Proofs.YtjbnifhpbdjonaaDoor.WMath
set_option maxRecDepth 100000
set_option maxHeartbeats 40000000
set_option maxRecDepth 100000
def mask8 (c : Nat) : Nat → Nat
  | 0 => 0
  | n + 1 => c + 256 * mask8 c n
def fC (n x : Nat) : Nat := (x / 16 + x) &&& mask8 15 n
theorem t1 : ∀ b : Fin 256, ∀ c : Fin 2, ((b.val / 2 + 128 * c.val) &&& 85) = (b.val / 2 &&& 85) := by decide +kernel
theorem t2 : ∀ b : Fin 256, ∀ c : Fin 4, ((b.val / 4 + 64 * c.val) &&& 51) = (b.val / 4 &&& 51) := by decide +kernel
end Go.Proofs.YtjbnifhpbdjonaaDoor.WMath
namespace Go.Proofs.YtjbnifhpbdjonaaDoor
set_option maxRecDepth 100000
set_option maxHeartbeats 40000000
set_option maxRecDepth 100000
open Go.RowKit WMath
theorem m15 : mask8 15 8 = 1085102592571150095 := by decide

theorem heap_below (w : World) (b : Nat) (o : Obj) (h : b < w.heap.size) : (w.alloc o).heap[b]? = w.heap[b]? := Below.heap_alloc w o b h
theorem size_al (w : World) (o : Obj) : (w.alloc o).heap.size = w.heap.size + 1 := by
  show (w.heap.push o).size = _
  simp

theorem heap_of {W w1 : World} (hb : Below W.heap.size W w1) (b : Nat) (c : Array Value) (t : TypeId) (h : W.heap[b]? = some (.cells c t)) : w1.heap[b]? = some (.cells c t) := by
  rw [hb.block b (Array.getElem?_eq_some_iff.1 h).1, h]

def cb (l : List UInt8) : Array Value := (l.map fun b => Value.int .u8 (b.toNat : Int)).toArray

theorem fz {w : World} {b k : Nat} {c : Array Value} {t : TypeId} (h : w.heap[b]? = some (.cells c t)) : w.frozen? ⟨b, k, none⟩ = false := by simp [World.frozen?, h]
theorem setCell_row {w : World} {b k : Nat} {c : Array Value} {t : TypeId} {v : Value} (h : w.heap[b]? = some (.cells c t)) : (w.setCell ⟨b, k, none⟩ v).heap[b]? = some (.cells (c.setIfInBounds k v) t) := by
  simp [World.setCell, Array.getElem?_modify, h]
theorem setCell_other {w : World} {b b' k : Nat} {v : Value} (h : b ≠ b') : (w.setCell ⟨b, k, none⟩ v).heap[b']? = w.heap[b']? := by
  simp [World.setCell, Array.getElem?_modify, h]
theorem fold_bytes : ∀ (l : List UInt8) (a : Array UInt8), ((l.map fun b => (b.toNat : Int)).foldl (fun r n => r.push (UInt8.ofNat n.toNat)) (⟨a⟩ : ByteArray)) = ⟨a ++ l.toArray⟩
  | [], a => by simp
  | x :: l, a => by
    have := fold_bytes l (a.push x)
    simp only [List.map_cons, List.foldl_cons, Int.toNat_natCast, UInt8.ofNat_toNat]
    rw [show (ByteArray.mk a).push x = ⟨a.push x⟩ from rfl, this]
    simp
theorem str_of {w : World} {b c : Nat} {l : List UInt8} {t : TypeId} (h : w.heap[b]? = some (.cells (cb l) t)) :
    (convert 99 9 (.slice (some ⟨b, 0, none⟩) l.length c)).run Tryd.prog w = .ok (.string ⟨l.toArray⟩) w := by
  rw [run_convert_bytes_string w 99 9 5 _ _ _ Tryd.underlying99 Tryd.underlying5 Tryd.underlying9]
  have hl := run_loadCells_list (P := Tryd.prog) w ⟨b, 0, none⟩ (l.map fun x => Value.int .u8 (x.toNat : Int)) (fun j v hv => by
    have hadd : (⟨b, 0, none⟩ : Addr).add j = ⟨b, j, none⟩ := by unfold Addr.add; split <;> simp_all
    rw [hadd, cell_of_row w b j _ _ _ h]
    simpa [cb] using hv)
  rw [List.length_map] at hl
  rw [run_bytesToString (P := Tryd.prog) w ⟨b, 0, none⟩ l.length c (l.map fun x => (x.toNat : Int)) (by rw [hl]; simp), show ByteArray.empty = ⟨#[]⟩ from rfl, fold_bytes]
  simp

def bitsV (b : Nat × Nat) : Value := .agg #[.int .u64 (b.1 : Nat), .int .u64 (b.2 : Nat)]

end Go.Proofs.YtjbnifhpbdjonaaDoor
namespace Go.Proofs.YtjbnifhpbdjonaaDoor
set_option maxRecDepth 100000
set_option maxHeartbeats 40000000
set_option maxRecDepth 100000
open WMath
open Go.ChangeShapes Go.WideShapes Go.ChangeAt Go.RowKit
theorem post_plain {H : Type} {enc : TypeId × Value → H} {P : Program} {f : Func} {s : ChangeSpec} {apart fresh handsOn again : Bool} {W W' : World} {args : Array Value} {v : Value} {ds gs : List (DataW H)}
    (hW : DataW.Whole enc P f.params.toList s.vars apart W args.toList ds gs [])
    (hres : ∀ (b : Nat) (sp : Nat → Bool) (hd : Bool), DataW.TrodAll enc P W' b sp hd f.resultTypes.toList (v.resultList f.resultTypes.size) (s.fn H (ds ++ gs)).results [])
    (hargs : ∀ sp : Nat → Bool, DataW.TrodAll enc P W' 0 sp true f.params.toList args.toList (s.fn H (ds ++ gs)).args [])
    (hvars : ∀ sp : Nat → Bool, DataW.TrodVars enc P W' sp s.vars (s.fn H (ds ++ gs)).vars [])
    (hk : Below W.heap.size W W')
    (hok : ∀ (j : Nat) (t : TypeId) (r : Value), f.resultTypes[j]? = some t → (v.resultList f.resultTypes.size)[j]? = some r → Value.okWide P W' .any 0 t r) :
    s.post enc P f apart fresh handsOn again W args v W' := by
  refine ⟨ds, gs, [], [], [], [], hW, hres _ _ _, hargs _, hvars _, hk.frame _, fun _ => ⟨hok, _, _, [], ⟨[], [], trodAll_append (hargs _) (hres _ _ _), hvars _, rfl, ?_, ?_⟩, ?_⟩⟩
  · intro _ _ hp
    cases hp
  · intro _
    exact List.Pairwise.nil
  · intro _ hp
    cases hp
end Go.Proofs.YtjbnifhpbdjonaaDoor
namespace Go.Proofs.YtjbnifhpbdjonaaDoor
set_option maxRecDepth 100000
set_option maxHeartbeats 40000000
set_option maxRecDepth 100000
open Go.RowKit WMath
def SL (B : Nat) (w : World) (p : Option Addr) (L c n : Nat) : Prop := n < 2 ^ (64 * L) ∧ L ≤ c ∧ (0 < L → ∃ b o, p = some ⟨b, o, none⟩ ∧ b < B ∧ ∀ k, k < L → w.cell? ⟨b, o + k, none⟩ = some (.int .u64 (wd n k : Nat)))
theorem SL.mono {B B' : Nat} {w : World} {p : Option Addr} {L c n : Nat} (h : SL B w p L c n) (hB : B ≤ B') : SL B' w p L c n :=
  ⟨h.1, h.2.1, fun hL => by
    obtain ⟨b, o, hp, hlt, hc⟩ := h.2.2 hL
    exact ⟨b, o, hp, Nat.lt_of_lt_of_le hlt hB, hc⟩⟩
theorem cell_size {w : World} {b o : Nat} {v : Value} (h : w.cell? ⟨b, o, none⟩ = some v) : b < w.heap.size := by
  by_cases e : b < w.heap.size
  · exact e
  · exfalso
    have : w.heap[b]? = none := Array.getElem?_eq_none (by omega)
    simp [World.cell?, this] at h
def Only (g : Nat) (w w' : World) : Prop := w'.os = w.os ∧ w'.tape = w.tape ∧ w'.output = w.output ∧ w.heap.size ≤ w'.heap.size ∧ ∀ k, k < w.heap.size → k ≠ g → w'.heap[k]? = w.heap[k]?
theorem Only.refl (g : Nat) (w : World) : Only g w w := ⟨rfl, rfl, rfl, Nat.le_refl _, fun _ _ _ => rfl⟩
theorem Only.trans {g : Nat} {a b c : World} (h : Only g a b) (k : Only g b c) : Only g a c :=
  ⟨k.1.trans h.1, k.2.1.trans h.2.1, k.2.2.1.trans h.2.2.1, Nat.le_trans h.2.2.2.1 k.2.2.2.1, fun i hi hg => (k.2.2.2.2 i (Nat.lt_of_lt_of_le hi h.2.2.2.1) hg).trans (h.2.2.2.2 i hi hg)⟩
theorem Only.size {g : Nat} {a b : World} (h : Only g a b) : a.heap.size ≤ b.heap.size := h.2.2.2.1
theorem Only.ofBelow {g B : Nat} {a b : World} (h : Below B a b) (hB : a.heap.size ≤ B) : Only g a b := ⟨h.os, h.tape, h.output, h.size, fun k hk _ => h.block k (by omega)⟩
theorem Only.setCell {g o : Nat} {a w : World} (h : Only g a w) (u : Value) : Only g a (w.setCell ⟨g, o, none⟩ u) :=
  h.trans ⟨rfl, rfl, rfl, by simp [World.setCell], fun k _ hg => Below.heap_setCell _ _ _ _ hg⟩
theorem Only.drew {g : Nat} {a w : World} (h : Only g a w) : Only g a w.drew := h.trans ⟨rfl, rfl, rfl, Nat.le_refl _, fun _ _ _ => rfl⟩
theorem Only.toBelow {g B : Nat} {a w w' : World} (h : Below B a w) (k : Only g w w') (hB : B ≤ g) (hs : B ≤ w.heap.size) : Below B a w' :=
  h.trans ⟨k.1, k.2.1, k.2.2.1, k.2.2.2.1, fun i hi => k.2.2.2.2 i (by omega) (by omega)⟩
theorem Only.row {g b : Nat} {w w' : World} {c : Array Value} {t : TypeId} (k : Only g w w') (hb : b ≠ g) (h : w.heap[b]? = some (.cells c t)) : w'.heap[b]? = some (.cells c t) := by
  rw [k.2.2.2.2 b (Array.getElem?_eq_some_iff.1 h).1 hb, h]
theorem SL.only {B g : Nat} {w w' : World} {p : Option Addr} {L c n : Nat} (h : SL B w p L c n) (k : Only g w w') (hB : B ≤ g) : SL B w' p L c n := by
  refine ⟨h.1, h.2.1, fun hL => ?_⟩
  obtain ⟨b, o, hp, hlt, hc⟩ := h.2.2 hL
  refine ⟨b, o, hp, hlt, fun i hi => ?_⟩
  have h1 := hc i hi
  rw [World.cell?_of_block (w := w) (k.2.2.2.2 b (cell_size h1) (by omega))]
  exact h1

theorem SL.cell {B : Nat} {w : World} {b o L c n : Nat} (h : SL B w (some ⟨b, o, none⟩) L c n) (k x : Nat) (hk : k < L) (hx : wd n k = x) : w.cell? ⟨b, o + k, none⟩ = some (.int .u64 (x : Nat)) := by
  obtain ⟨b', o', e, _, hc⟩ := h.2.2 (by omega)
  simp only [Option.some.injEq, Addr.mk.injEq] at e
  obtain ⟨rfl, rfl, _⟩ := e
  rw [hc k hk, hx]
theorem SL.row {w : World} {b N X c : Nat} {T : TypeId} (r : w.heap[b]? = some (.cells (cw N X) T)) (B : Nat) (hB : b < B) (hX : X < 2 ^ (64 * N)) (hc : N ≤ c) : SL B w (some ⟨b, 0, none⟩) N c X :=
  ⟨hX, hc, fun _ => ⟨b, 0, rfl, hB, fun k hk => by rw [Nat.zero_add, cell_of_row w b k _ _ _ r, cw_at N X k hk]⟩⟩

theorem bal (w : World) (o : Obj) : Below w.heap.size w (w.alloc o) := (Below.refl _ _).alloc (Nat.le_refl _) _
theorem btr {a b c : World} (h : Below a.heap.size a b) (k : Below b.heap.size b c) : Below a.heap.size a c := h.trans (k.mono h.size)

end Go.Proofs.YtjbnifhpbdjonaaDoor
namespace Go.Proofs.YtjbnifhpbdjonaaDoor.XMath
set_option maxRecDepth 100000
set_option maxHeartbeats 40000000
set_option maxRecDepth 100000
open WMath
def tz (n : Nat) : Nat := if h : n = 0 ∨ n % 2 = 1 then 0 else tz (n / 2) + 1
termination_by n
decreasing_by omega
def od (n : Nat) : Nat := n / 2 ^ tz n
structure XN where
  b : Bool
  n : Nat
  d : Nat
  e : Int
def XN.can (x : XN) : Prop := nl x.n ≤ 16384 ∧ nl x.d ≤ 16384 ∧ -1048576 ≤ x.e ∧ x.e ≤ 1048576 ∧ ((x.b = false ∧ x.n = 0 ∧ x.d = 1 ∧ x.e = 0) ∨ (x.n % 2 = 1 ∧ x.d % 2 = 1 ∧ Nat.gcd x.n x.d = 1))
def sgn (b : Bool) : Rat := if b then -1 else 1
def XN.val (x : XN) : Rat := sgn x.b * ((x.n : Rat) / (x.d : Rat)) * (2 : Rat) ^ x.e
def X0 : XN := ⟨false, 0, 1, 0⟩
def XZ : XN := ⟨false, 0, 0, 0⟩
theorem XN.can.d {x : XN} (h : x.can) : x.d % 2 = 1 := by rcases h.2.2.2.2 with h | h <;> omega
theorem XN.can.d0 {x : XN} (h : x.can) : x.d ≠ 0 := by have := h.d; omega
def mk (neg : Bool) (n d : Nat) (e : Int) : XN × Int :=
  if n = 0 then (X0, 0)
  else if -1048576 ≤ e + (tz n : Int) - (tz d : Int) ∧ e + (tz n : Int) - (tz d : Int) ≤ 1048576 then (⟨neg, od n / Nat.gcd (od n) (od d), od d / Nat.gcd (od n) (od d), e + (tz n : Int) - (tz d : Int)⟩, 0)
  else (XZ, 4)
theorem p2 (e : Int) : (0 : Rat) < (2 : Rat) ^ e := Rat.zpow_pos (by decide)
end Go.Proofs.YtjbnifhpbdjonaaDoor.XMath
namespace Go.Proofs.YtjbnifhpbdjonaaDoor
set_option maxRecDepth 100000
set_option maxHeartbeats 40000000
set_option maxRecDepth 100000
open Go.RowKit WMath XMath
theorem cells4 {w : World} {g : Nat} {T : TypeId} {c : Array Value} (row : w.heap[g]? = some (.cells c T)) (k : Nat) (v : Value) (h : c[k]? = some v) : w.cell? ⟨g, k, none⟩ = some v := by
  rw [cell_of_row w g k _ _ _ row]
  exact h

theorem cells2s {w : World} {g : Nat} {T : TypeId} {a b : Value} (R : w.heap[g]? = some (.cells #[a, b] T)) : w.cell? ⟨g, 0, none⟩ = some a ∧ w.cell? ⟨g, 1, none⟩ = some b := ⟨cells4 R 0 _ rfl, cells4 R 1 _ rfl⟩
theorem opn1 (w : World) (o : Obj) : (w.alloc o).heap[w.heap.size]? = some o ∧ Below w.heap.size w (w.alloc o) := ⟨heap_alloc_last _ _, (Below.refl _ _).alloc (Nat.le_refl _) _⟩
theorem opn2 (w : World) (o1 o2 : Obj) : ((w.alloc o1).alloc o2).heap[w.heap.size]? = some o1 ∧ ((w.alloc o1).alloc o2).heap[w.heap.size + 1]? = some o2 ∧ Below w.heap.size w ((w.alloc o1).alloc o2) := by
  obtain ⟨r0, b⟩ := opn1 w o1
  have z : (w.alloc o1).heap.size = w.heap.size + 1 := by simp only [size_al]
  exact ⟨by rw [heap_below _ _ _ (by omega)]; exact r0, by rw [← z]; exact heap_alloc_last _ _, b.alloc (by omega) _⟩
end Go.Proofs.YtjbnifhpbdjonaaDoor
namespace Go.Proofs.YtjbnifhpbdjonaaDoor
set_option maxRecDepth 100000
set_option maxHeartbeats 40000000
set_option maxRecDepth 100000
open Go.RowKit WMath
theorem bal7 (w : World) (o : Obj) : Below w.heap.size w (w.alloc o) := (Below.refl _ _).alloc (Nat.le_refl _) _
theorem btr7 {a b c : World} (h : Below a.heap.size a b) (k : Below b.heap.size b c) : Below a.heap.size a c := h.trans (k.mono h.size)

def fcells : Array Value := #[.int .i64 32, .int .i64 24, .int .i64 127, .string ⟨#[115]⟩, .int .i64 64, .int .i64 53, .int .i64 1023, .string ⟨#[100]⟩, .int .i64 16, .int .i64 11, .int .i64 15, .string ⟨#[104]⟩, .int .i64 128, .int .i64 113, .int .i64 16383, .string ⟨#[113]⟩]
def xcells : List (Nat × Nat × Value) := [(0, 0, .int .u64 18446744073709551615), (0, 1, .int .u64 18446744069414584320), (0, 2, .int .u64 18446744073709551615), (0, 3, .int .u64 0), (0, 4, .int .u64 18446744073709551615), (0, 5, .int .u64 18446744073709486080), (0, 6, .int .u64 0), (0, 7, .int .u64 0)]
def FAt (w : World) : Prop := (∀ i, i < 16 → w.cell? ⟨4, i, none⟩ = fcells[i]?) ∧ ∀ p, p ∈ xcells → w.cell? ⟨p.1, p.2.1, none⟩ = some p.2.2
theorem fc_some (i : Nat) (h : i < 16) : ∃ v, fcells[i]? = some v := ⟨_, Array.getElem?_eq_getElem (show i < fcells.size from h)⟩
theorem fatB {w w' : World} (h : FAt w) (hb : Below w.heap.size w w') : FAt w' := ⟨fun i hi => by
  obtain ⟨v, hv⟩ := fc_some i hi
  rw [hb.cell (p := ⟨4, i, none⟩) (World.block_lt_of_cell? w _ ((h.1 i hi).trans hv))]
  exact h.1 i hi, fun p hp => by
  rw [hb.cell (p := ⟨p.1, p.2.1, none⟩) (World.block_lt_of_cell? w _ (h.2 p hp))]
  exact h.2 p hp⟩
theorem fat_at {w : World} (h : FAt w) (i : Nat) (v : Value) (hi : i < 16) (hv : fcells[i]? = some v) : w.cell? ⟨4, i, none⟩ = some v := (h.1 i hi).trans hv
theorem fat_x {w : World} (h : FAt w) (k b i : Nat) (v : Value) (hv : xcells[k]? = some (b, i, v)) : w.cell? ⟨b, i, none⟩ = some v := h.2 _ (List.mem_of_getElem? hv)

def fW (f : Int) : Int := if f = 0 then 32 else if f = 1 then 64 else if f = 2 then 16 else if f = 3 then 128 else 0
def fP (f : Int) : Int := if f = 0 then 24 else if f = 1 then 53 else if f = 2 then 11 else if f = 3 then 113 else 0
def fE (f : Int) : Int := if f = 0 then 127 else if f = 1 then 1023 else if f = 2 then 15 else if f = 3 then 16383 else 0
def fN (f : Int) : ByteArray := if f = 0 then ⟨#[115]⟩ else if f = 1 then ⟨#[100]⟩ else if f = 2 then ⟨#[104]⟩ else if f = 3 then ⟨#[113]⟩ else ⟨#[]⟩
def fR (f : Int) : Array Value := #[.int .i64 (fW f), .int .i64 (fP f), .int .i64 (fE f), .string (fN f)]
def fC (f : Int) : Int := if f = 0 ∨ f = 1 ∨ f = 2 ∨ f = 3 then 0 else 2

theorem f_cases (f : Int) (h0 : 0 ≤ f) : f = 0 ∨ f = 1 ∨ f = 2 ∨ f = 3 ∨ 4 ≤ f := by omega

theorem s_check (f : Int) (h0 : 0 ≤ f) (h1 : f ≤ 255) (w : World) :
    Calls Tryd.prog 65 #[.int .u8 f] w fun e w' => e = .returned (.int .i64 (fC f)) ∧ w' = w := by
  by_cases h : 4 ≤ f
  · have e : fC f = 2 := by unfold fC; rw [if_neg (by omega)]
    rw [e]
    have hd : decide ((4 : Int) ≤ f) = true := by simp [h]
    go_enter Tryd.func65, Tryd.ntmps65
    go_wp2
    go_ret
    exact ⟨rfl, rfl⟩
  · have e : fC f = 0 := by unfold fC; rw [if_pos (by omega)]
    rw [e]
    have hd : decide ((4 : Int) ≤ f) = false := by simp; omega
    go_enter Tryd.func65, Tryd.ntmps65
    go_wp2
    go_ret
    exact ⟨rfl, rfl⟩

theorem s_check_is (f c : Int) (h0 : 0 ≤ f) (h1 : f ≤ 255) (hc : fC f = c) (w : World) :
    Calls Tryd.prog 65 #[.int .u8 f] w fun e w' => e = .returned (.int .i64 c) ∧ w' = w := by
  subst hc; exact s_check f h0 h1 w

theorem s_of (f : Int) (h0 : 0 ≤ f) (h1 : f ≤ 255) (w : World) (hT : FAt w) :
    Calls Tryd.prog 95 #[.int .u8 f] w fun e w' => e = .returned (.agg #[.int .i64 (fW f), .int .i64 (fP f), .int .i64 (fE f), .string (fN f)]) ∧ w' = w.alloc (.cells (fR f) 135) := by
  have hB := bal7 w (.cells #[.int .i64 0, .int .i64 0, .int .i64 0, .string ⟨#[]⟩] 135)
  have T2 := fatB hT hB
  rcases f_cases f h0 with rfl | rfl | rfl | rfl | h
  · have c0 := fat_at T2 0 (.int .i64 32) (by decide) rfl
    have c1 := fat_at T2 1 (.int .i64 24) (by decide) rfl
    have c2 := fat_at T2 2 (.int .i64 127) (by decide) rfl
    have c3 := fat_at T2 3 (.string ⟨#[115]⟩) (by decide) rfl
    clear T2 hT
    go_enter Tryd.func95, Tryd.ntmps95
    go_wp2_with fail
    refine (s_check_is 0 0 (by omega) (by omega) rfl _).mono ?_
    rintro r w' ⟨rfl, rfl⟩
    go_wp2
    exact bodyPost_ret (v := .agg #[.int .i64 32, .int .i64 24, .int .i64 127, .string ⟨#[115]⟩]) (by simp [results, Tryd.results95, go_sem]) rfl ⟨rfl, rfl⟩
  · have c0 := fat_at T2 4 (.int .i64 64) (by decide) rfl
    have c1 := fat_at T2 5 (.int .i64 53) (by decide) rfl
    have c2 := fat_at T2 6 (.int .i64 1023) (by decide) rfl
    have c3 := fat_at T2 7 (.string ⟨#[100]⟩) (by decide) rfl
    clear T2 hT
    go_enter Tryd.func95, Tryd.ntmps95
    go_wp2_with fail
    refine (s_check_is 1 0 (by omega) (by omega) rfl _).mono ?_
    rintro r w' ⟨rfl, rfl⟩
    go_wp2
    exact bodyPost_ret (v := .agg #[.int .i64 64, .int .i64 53, .int .i64 1023, .string ⟨#[100]⟩]) (by simp [results, Tryd.results95, go_sem]) rfl ⟨rfl, rfl⟩
  · have c0 := fat_at T2 8 (.int .i64 16) (by decide) rfl
    have c1 := fat_at T2 9 (.int .i64 11) (by decide) rfl
    have c2 := fat_at T2 10 (.int .i64 15) (by decide) rfl
    have c3 := fat_at T2 11 (.string ⟨#[104]⟩) (by decide) rfl
    clear T2 hT
    go_enter Tryd.func95, Tryd.ntmps95
    go_wp2_with fail
    refine (s_check_is 2 0 (by omega) (by omega) rfl _).mono ?_
    rintro r w' ⟨rfl, rfl⟩
    go_wp2
    exact bodyPost_ret (v := .agg #[.int .i64 16, .int .i64 11, .int .i64 15, .string ⟨#[104]⟩]) (by simp [results, Tryd.results95, go_sem]) rfl ⟨rfl, rfl⟩
  · have c0 := fat_at T2 12 (.int .i64 128) (by decide) rfl
    have c1 := fat_at T2 13 (.int .i64 113) (by decide) rfl
    have c2 := fat_at T2 14 (.int .i64 16383) (by decide) rfl
    have c3 := fat_at T2 15 (.string ⟨#[113]⟩) (by decide) rfl
    clear T2 hT
    go_enter Tryd.func95, Tryd.ntmps95
    go_wp2_with fail
    refine (s_check_is 3 0 (by omega) (by omega) rfl _).mono ?_
    rintro r w' ⟨rfl, rfl⟩
    go_wp2
    exact bodyPost_ret (v := .agg #[.int .i64 128, .int .i64 113, .int .i64 16383, .string ⟨#[113]⟩]) (by simp [results, Tryd.results95, go_sem]) rfl ⟨rfl, rfl⟩
  · have hd : decide ((4 : Int) ≤ f) = true := by simp [h]
    have e0 : fW f = 0 := by unfold fW; rw [if_neg (by omega), if_neg (by omega), if_neg (by omega), if_neg (by omega)]
    have e1 : fP f = 0 := by unfold fP; rw [if_neg (by omega), if_neg (by omega), if_neg (by omega), if_neg (by omega)]
    have e2 : fE f = 0 := by unfold fE; rw [if_neg (by omega), if_neg (by omega), if_neg (by omega), if_neg (by omega)]
    have e3 : fN f = ⟨#[]⟩ := by unfold fN; rw [if_neg (by omega), if_neg (by omega), if_neg (by omega), if_neg (by omega)]
    have e4 : fC f = 2 := by unfold fC; rw [if_neg (by omega)]
    have e5 : fR f = #[.int .i64 0, .int .i64 0, .int .i64 0, .string ⟨#[]⟩] := by unfold fR; rw [e0, e1, e2, e3]
    rw [e0, e1, e2, e3, e5]
    clear T2 hT e0 e1 e2 e3 e5
    go_enter Tryd.func95, Tryd.ntmps95
    go_wp2_with fail
    refine (s_check_is f 2 (by omega) (by omega) e4 _).mono ?_
    rintro r w' ⟨rfl, rfl⟩
    go_wp2
    exact bodyPost_ret (v := .agg #[.int .i64 0, .int .i64 0, .int .i64 0, .string ⟨#[]⟩]) (by simp [results, Tryd.results95, go_sem]) rfl ⟨rfl, rfl⟩

theorem s_of_is (f w0 p0 m0 : Int) (n0 : ByteArray) (h0 : 0 ≤ f) (h1 : f ≤ 255) (hw : fW f = w0) (hp : fP f = p0) (he : fE f = m0) (hn : fN f = n0) (w : World) (hT : FAt w) :
    Calls Tryd.prog 95 #[.int .u8 f] w fun e w' => e = .returned (.agg #[.int .i64 w0, .int .i64 p0, .int .i64 m0, .string n0]) ∧ w' = w.alloc (.cells (fR f) 135) := by
  subst hw hp he hn
  exact s_of f h0 h1 w hT

theorem fld0 (a b c d : Value) (w : World) : (Instr.field 135 (.agg #[a, b, c, d]) 0).run Tryd.prog w = .ok a w := by kernel_rfl
theorem s_width (f v : Int) (h0 : 0 ≤ f) (h1 : f ≤ 255) (hv : fW f = v) (w : World) (hT : FAt w) :
    Calls Tryd.prog 85 #[.int .u8 f] w fun e w' => e = .returned (.int .i64 v) ∧ w' = w.alloc (.cells (fR f) 135) := by
  have hl := fld0
  go_enter Tryd.func85, Tryd.ntmps85
  go_wp2_with fail
  refine (s_of_is f v _ _ _ h0 h1 hv rfl rfl rfl _ hT).mono ?_
  rintro r w2 ⟨rfl, rfl⟩
  go_wp2
  go_ret
  exact ⟨rfl, rfl⟩
def rHi (x n : Int) : Int := bits .or .u64 (IntKind.u64.wrap (x * 2 ^ min (IntKind.u64.wrap (n - 64)).toNat 64)) (x / 2 ^ min (IntKind.u64.wrap (64 - n)).toNat 64)
def rLo (x n : Int) : Int := IntKind.u64.wrap (x * 2 ^ min n.toNat 64)

theorem cell7 {w : World} {g : Nat} {T : TypeId} {c : Array Value} (row : w.heap[g]? = some (.cells c T)) (k : Nat) (v : Value) (h : c[k]? = some v) : w.cell? ⟨g, k, none⟩ = some v := by
  simp [World.cell?, row, h]
theorem set2_below {n : Nat} {w wr : World} {b : Nat} (h : Below n w wr) (hb : n ≤ b) (v0 v1 : Value) : Below n w ((wr.setCell ⟨b, 0, none⟩ v0).setCell ⟨b, 1, none⟩ v1) := (h.setCell (by exact hb) _).setCell (by exact hb) _
theorem set2_row {w : World} {b : Nat} {c0 c1 : Value} {T : TypeId} (h : w.heap[b]? = some (.cells #[c0, c1] T)) (v0 v1 : Value) :
    ((w.setCell ⟨b, 0, none⟩ v0).setCell ⟨b, 1, none⟩ v1).heap[b]? = some (.cells #[v0, v1] T) := by
  rw [setCell_row (setCell_row h)]; rfl
theorem set2_cells {w : World} {b : Nat} {c0 c1 : Value} {T : TypeId} (h : w.heap[b]? = some (.cells #[c0, c1] T)) (v0 v1 : Value) :
    ((w.setCell ⟨b, 0, none⟩ v0).setCell ⟨b, 1, none⟩ v1).cell? ⟨b, 0, none⟩ = some v0 ∧ ((w.setCell ⟨b, 0, none⟩ v0).setCell ⟨b, 1, none⟩ v1).cell? ⟨b, 1, none⟩ = some v1 := by
  have r := set2_row h v0 v1
  exact ⟨cell7 r 0 _ rfl, cell7 r 1 _ rfl⟩
theorem last7 (w : World) (o : Obj) : (w.alloc o).heap[w.heap.size]? = some o := heap_alloc_last w o

def b2 (a b : Int) : Array Value := #[.int .u64 a, .int .u64 b]

theorem s_raised (x n H L : Int) (h0 : 0 ≤ n) (h1 : n ≤ 18446744073709551615) (hH : rHi x n = H) (hL : rLo x n = L) (w : World) :
    Calls Tryd.prog 82 #[.int .u64 x, .int .u64 n] w fun e w' => e = .returned (.agg #[.int .u64 H, .int .u64 L]) ∧ w' = w.alloc (.cells #[.int .u64 H, .int .u64 L] 25) := by
  obtain ⟨m, rfl⟩ := Int.eq_ofNat_of_zero_le h0
  subst hH hL
  go_enter Tryd.func82, Tryd.ntmps82
  go_wp2
  exact bodyPost_ret (v := .agg #[.int .u64 (rHi x m), .int .u64 (rLo x m)]) (by simp [results, Tryd.results82, go_sem, rHi, rLo]) rfl ⟨rfl, by simp [rHi, rLo]⟩

theorem s_ones (n H L : Int) (h0 : 0 ≤ n) (h1 : n ≤ 18446744073709551615) (hH : rHi 1 n = H) (hL : rLo 1 n = L) (K M : Int) (hK : (if L = 0 then IntKind.u64.wrap (H - 1) else H) = K) (hM : IntKind.u64.wrap (L - 1) = M) (w : World) :
    Calls Tryd.prog 84 #[.int .u64 n] w fun e w' => e = .returned (.agg #[.int .u64 K, .int .u64 M]) ∧ Below w.heap.size w w' := by
  by_cases hz : L = 0
  · have hd : (L == 0) = true := by simp [hz]
    rw [if_pos hz] at hK
    subst hz
    rw [show (0 : Int) - 1 = -1 by decide] at hM
    go_enter Tryd.func84, Tryd.ntmps84
    go_wp2_with fail
    refine (s_raised 1 n H _ h0 h1 hH hL _).mono ?_
    rintro r w2 ⟨rfl, rfl⟩
    go_wp2
    exact bodyPost_ret (v := .agg #[.int .u64 K, .int .u64 M]) (by simp [results, Tryd.results84, go_sem]) rfl ⟨rfl, (((Below.refl _ _).alloc (Nat.le_refl _) _).alloc (by simp only [size_al]; omega) _).alloc (by simp only [size_al]; omega) _⟩
  · have hd : (L == 0) = false := by simp [hz]
    rw [if_neg hz] at hK
    subst hK
    go_enter Tryd.func84, Tryd.ntmps84
    go_wp2_with fail
    refine (s_raised 1 n H _ h0 h1 hH hL _).mono ?_
    rintro r w2 ⟨rfl, rfl⟩
    go_wp2
    exact bodyPost_ret (v := .agg #[.int .u64 H, .int .u64 M]) (by simp [results, Tryd.results84, go_sem]) rfl ⟨rfl, (((Below.refl _ _).alloc (Nat.le_refl _) _).alloc (by simp only [size_al]; omega) _).alloc (by simp only [size_al]; omega) _⟩

def bv7 (v : Nat) : Nat × Nat := (v / 18446744073709551616, v % 18446744073709551616)
def Is4 (f : Int) : Prop := f = 0 ∨ f = 1 ∨ f = 2 ∨ f = 3
theorem is4_ok {f : Int} (h : Is4 f) : 0 ≤ f ∧ f ≤ 255 ∧ fC f = 0 ∧ 0 ≤ fW f - fP f := by
  rcases h with rfl | rfl | rfl | rfl <;> decide +kernel

theorem bel_al {w W : World} (h : Below w.heap.size w W) (o : Obj) : Below w.heap.size w (W.alloc o) := btr7 h (bal7 _ _)
theorem bel_dr {w W : World} (h : Below w.heap.size w W) : Below w.heap.size w W.drew := h.drew
theorem row_al {W : World} {b : Nat} {o : Obj} (h : W.heap[b]? = some o) (o' : Obj) : (W.alloc o').heap[b]? = some o := by
  rw [heap_below W b o' (Array.getElem?_eq_some_iff.1 h).1]; exact h
theorem row_last {W : World} {b : Nat} {o : Obj} (h : b = W.heap.size) : (W.alloc o).heap[b]? = some o := by subst h; exact heap_alloc_last W o
theorem fW_lim {f m : Int} (h : fW f = m) : 0 ≤ m ∧ m ≤ 128 := by rw [← h]; unfold fW; split <;> (try split) <;> (try split) <;> (try split) <;> omega

end Go.Proofs.YtjbnifhpbdjonaaDoor
namespace Go.Proofs.YtjbnifhpbdjonaaDoor
set_option maxRecDepth 100000
set_option maxHeartbeats 40000000
set_option maxRecDepth 100000
open Go.RowKit WMath
set_option linter.unusedVariables false
theorem andnot7 (x c m : Nat) (hx : x < 18446744073709551616) (hc : c ≤ 64) (hm : 2 ^ c - 1 = m) : (bits .andNot .u64 (x : Int) (m : Int) == 0) = decide (x < 2 ^ c) := by
  have e : bits .andNot .u64 (x : Int) (m : Int) = (((BitVec.ofNat 64 x &&& ~~~ BitVec.ofNat 64 m).toNat : Nat) : Int) := by
    show IntKind.u64.wrap ((BitVec.ofInt 64 (x : Int) &&& ~~~ BitVec.ofInt 64 (m : Int)).toNat : Int) = _
    rw [BitVec.ofInt_natCast, BitVec.ofInt_natCast, IntKind.wrap_u64]
    have := (BitVec.ofNat 64 x &&& ~~~ BitVec.ofNat 64 m).isLt
    generalize (BitVec.ofNat 64 x &&& ~~~ BitVec.ofNat 64 m).toNat = t at *
    omega
  rw [e]
  by_cases h : x < 2 ^ c
  · rw [decide_eq_true h]
    have z : BitVec.ofNat 64 x &&& ~~~ BitVec.ofNat 64 m = 0#64 := by
      apply BitVec.eq_of_getLsbD_eq
      intro i hi
      simp only [BitVec.getLsbD_and, BitVec.getLsbD_not, BitVec.getLsbD_ofNat, hi, decide_true, Bool.true_and]
      rw [← hm, Nat.testBit_two_pow_sub_one]
      by_cases hic : i < c
      · simp [hic]
      · rw [Nat.testBit_lt_two_pow (Nat.lt_of_lt_of_le h (Nat.pow_le_pow_right (by decide) (by omega)))]
        simp
    rw [z]
    rfl
  · rw [decide_eq_false h]
    simp only [beq_eq_false_iff_ne, ne_eq]
    intro z
    apply h
    apply Nat.lt_pow_two_of_testBit
    intro i hi
    by_cases h6 : i < 64
    · have z2 : (BitVec.ofNat 64 x &&& ~~~ BitVec.ofNat 64 m).getLsbD i = false := by
        have : BitVec.ofNat 64 x &&& ~~~ BitVec.ofNat 64 m = 0#64 := BitVec.eq_of_toNat_eq (by simpa using (by omega : (BitVec.ofNat 64 x &&& ~~~ BitVec.ofNat 64 m).toNat = 0))
        rw [this]; simp
      simp only [BitVec.getLsbD_and, BitVec.getLsbD_not, BitVec.getLsbD_ofNat, h6, decide_true, Bool.true_and] at z2
      rw [← hm, Nat.testBit_two_pow_sub_one] at z2
      have : decide (i < c) = false := by simp; omega
      rw [this] at z2
      simpa using z2
    · exact Nat.testBit_lt_two_pow (Nat.lt_of_lt_of_le hx (by rw [show 18446744073709551616 = 2 ^ 64 by decide]; exact Nat.pow_le_pow_right (by decide) (by omega)))

def oHi (f : Int) : Int := if rLo 1 (fW f) = 0 then IntKind.u64.wrap (rHi 1 (fW f) - 1) else rHi 1 (fW f)
def oLo (f : Int) : Int := IntKind.u64.wrap (rLo 1 (fW f) - 1)

theorem s_fits_no (f : Int) (b : Nat × Nat) (h0 : 0 ≤ f) (h1 : f ≤ 255) (hc : fC f = 2) (w : World) (hT : FAt w) :
    Calls Tryd.prog 67 #[.int .u8 f, bitsV b] w fun e w' => e = .returned (.bool false) ∧ Below w.heap.size w w' := by
  have hq : fW f = 0 := by
    unfold fC at hc
    unfold fW
    split at hc
    · simp at hc
    · rename_i h; rw [if_neg (fun e => h (Or.inl e)), if_neg (fun e => h (Or.inr (Or.inl e))), if_neg (fun e => h (Or.inr (Or.inr (Or.inl e)))), if_neg (fun e => h (Or.inr (Or.inr (Or.inr e))))]
  have TT := box hT
  unfold bitsV
  have B0 := bal7 w (.cells #[.int .u64 b.1, .int .u64 b.2] 25)
  go_enter Tryd.func67, Tryd.ntmps67
  go_wp2_with fail
  refine (s_width f 0 h0 h1 hq _ (fatB TT.out B0)).mono ?_
  rintro r w' ⟨rfl, rfl⟩
  have B1 := bel_al B0 (.cells (fR f) 135)
  clear B0
  go_wp2_with fail
  refine (s_ones 0 0 1 (by decide) (by decide) rfl rfl 0 0 rfl rfl _).mono ?_
  rintro r w2 ⟨rfl, b2⟩
  have B2 := bel_al (btr7 B1 b2) (.cells #[.int .u64 0, .int .u64 0] 25)
  clear B1 b2
  go_wp2_with fail
  refine (s_check_is f 2 h0 h1 hc _).mono ?_
  rintro r w' ⟨rfl, rfl⟩
  go_wp2
  go_ret
  exact ⟨rfl, B2⟩

set_option maxHeartbeats 1000000 in
theorem s_fits (f : Int) (b : Nat × Nat) (o : Bool) (hf : Is4 f) (hb1 : b.1 < 18446744073709551616) (hb2 : b.2 < 18446744073709551616) (p q : Bool) (hp : (bits .andNot .u64 (b.1 : Int) (oHi f) == 0) = p) (hq : (bits .andNot .u64 (b.2 : Int) (oLo f) == 0) = q) (ho : (p && q) = o) (w : World) (hT : FAt w) :
    Calls Tryd.prog 67 #[.int .u8 f, bitsV b] w fun e w' => e = .returned (.bool o) ∧ Below w.heap.size w w' := by
  have TT := box hT
  have f4 := is4_ok hf
  unfold bitsV
  obtain ⟨b1, b2⟩ := b
  simp only at hb1 hb2 hp hq
  obtain ⟨W, hW⟩ : ∃ W : Int, fW f = W := ⟨_, rfl⟩
  obtain ⟨K, hK⟩ : ∃ W : Int, oHi f = W := ⟨_, rfl⟩
  obtain ⟨M, hM⟩ : ∃ W : Int, oLo f = W := ⟨_, rfl⟩
  rw [hK] at hp
  rw [hM] at hq
  have w0 : IntKind.u64.wrap W = W := by rw [← hW]; rcases hf with rfl | rfl | rfl | rfl <;> decide +kernel
  have wl := fW_lim hW
  have KO : Box (∀ w : World, Calls Tryd.prog 84 #[.int .u64 W] w fun e w' => e = .returned (.agg #[.int .u64 K, .int .u64 M]) ∧ Below w.heap.size w w') := box (fun w => s_ones W _ _ (by omega) (by omega) rfl rfl K M (by rw [← hK, ← hW]; rfl) (by rw [← hM, ← hW]; rfl) w)
  have R0 : (w.alloc (.cells #[.int .u64 b1, .int .u64 b2] 25)).heap[w.heap.size]? = some (.cells #[.int .u64 b1, .int .u64 b2] 25) := last7 _ _
  have B0 := bal7 w (.cells #[.int .u64 b1, .int .u64 b2] 25)
  have HW := box hW
  clear hT hW hK hM hb1 hb2 hf wl
  go_enter Tryd.func67, Tryd.ntmps67
  go_wp2_with fail
  refine (s_width f W f4.1 f4.2.1 HW.out _ (fatB TT.out B0)).mono ?_
  rintro r w' ⟨rfl, rfl⟩
  have B1 := bel_al B0 (.cells (fR f) 135)
  have R1 := row_al R0 (.cells (fR f) 135)
  clear B0 R0
  go_wp2_with fail
  refine (KO.out _).mono ?_
  rintro r w2 ⟨rfl, b2'⟩
  have R2 := row_al (heap_of b2' _ _ _ R1) (.cells #[.int .u64 K, .int .u64 M] 25)
  have B2 := bel_al (btr7 B1 b2') (.cells #[.int .u64 K, .int .u64 M] 25)
  have c0 := cell7 R2 0 _ rfl
  have c1 := cell7 R2 1 _ rfl
  clear B1 b2' R1
  go_wp2_with fail
  refine (s_check_is f 0 f4.1 f4.2.1 f4.2.2.1 _).mono ?_
  rintro r w' ⟨rfl, rfl⟩
  cases p <;> cases q <;> subst ho
  · go_wp2
    go_ret
    exact ⟨rfl, B2⟩
  · go_wp2
    go_ret
    exact ⟨rfl, B2⟩
  · go_wp2
    go_ret
    exact ⟨rfl, B2⟩
  · go_wp2
    go_ret
    exact ⟨rfl, B2⟩
theorem no7 {f : Int} (h : 3 < f) : fC f = 2 ∧ fW f = 0 ∧ fP f = 0 ∧ fE f = 0 := by
  refine ⟨?_, ?_, ?_, ?_⟩
  · unfold fC; rw [if_neg (by omega)]
  · unfold fW; rw [if_neg (by omega), if_neg (by omega), if_neg (by omega), if_neg (by omega)]
  · unfold fP; rw [if_neg (by omega), if_neg (by omega), if_neg (by omega), if_neg (by omega)]
  · unfold fE; rw [if_neg (by omega), if_neg (by omega), if_neg (by omega), if_neg (by omega)]
theorem is4_of {f : Int} (h0 : 0 ≤ f) (h : f ≤ 3) : Is4 f := by unfold Is4; omega


theorem blen_iff (n W : Nat) : blen n ≤ W ↔ n < 2 ^ W := by
  constructor
  · intro h
    exact Nat.lt_of_lt_of_le (blen_lt n) (Nat.pow_le_pow_right (by decide) h)
  · exact blen_le_of n W

theorem fit7 (f : Int) (hf : Is4 f) (b1 b2 : Nat) (hb1 : b1 < 18446744073709551616) (hb2 : b2 < 18446744073709551616) :
    ((bits .andNot .u64 (b1 : Int) (oHi f) == 0) && (bits .andNot .u64 (b2 : Int) (oLo f) == 0)) = decide (((blen (b2 + 18446744073709551616 * b1) : Nat) : Int) ≤ fW f) := by
  have key : ∀ (c d W : Nat) (K M : Nat), c ≤ 64 → d ≤ 64 → 2 ^ c - 1 = K → 2 ^ d - 1 = M → oHi f = (K : Int) → oLo f = (M : Int) → fW f = (W : Int) →
      ((b1 < 2 ^ c ∧ b2 < 2 ^ d) ↔ b2 + 18446744073709551616 * b1 < 2 ^ W) → ((bits .andNot .u64 (b1 : Int) (oHi f) == 0) && (bits .andNot .u64 (b2 : Int) (oLo f) == 0)) = decide (((blen (b2 + 18446744073709551616 * b1) : Nat) : Int) ≤ fW f) := by
    intro c d W K M hc hd hK hM e1 e2 e3 h
    rw [e1, e2, e3, andnot7 b1 c K hb1 hc hK, andnot7 b2 d M hb2 hd hM]
    have h2 : (((blen (b2 + 18446744073709551616 * b1) : Nat) : Int) ≤ (W : Int)) ↔ (b1 < 2 ^ c ∧ b2 < 2 ^ d) := by
      rw [h, ← blen_iff]; omega
    rw [← Bool.decide_and]
    exact decide_eq_decide.2 h2.symm
  rcases hf with rfl | rfl | rfl | rfl
  · exact key 0 32 32 0 4294967295 (by decide) (by decide) (by decide) (by decide) (by decide +kernel) (by decide +kernel) (by decide +kernel) (by simp only [Nat.reducePow]; omega)
  · exact key 0 64 64 0 18446744073709551615 (by decide) (by decide) (by decide) (by decide) (by decide +kernel) (by decide +kernel) (by decide +kernel) (by simp only [Nat.reducePow]; omega)
  · exact key 0 16 16 0 65535 (by decide) (by decide) (by decide) (by decide) (by decide +kernel) (by decide +kernel) (by decide +kernel) (by simp only [Nat.reducePow]; omega)
  · exact key 64 64 128 18446744073709551615 18446744073709551615 (by decide) (by decide) (by decide) (by decide) (by decide +kernel) (by decide +kernel) (by decide +kernel) (by simp only [Nat.reducePow]; omega)

def fitsB (f : Int) (b : Nat × Nat) : Bool := decide (f ≤ 3) && decide (((blen (b.2 + 18446744073709551616 * b.1) : Nat) : Int) ≤ fW f)
theorem s_fits_is (f : Int) (b : Nat × Nat) (o : Bool) (h0 : 0 ≤ f) (h1 : f ≤ 255) (hb1 : b.1 < 18446744073709551616) (hb2 : b.2 < 18446744073709551616) (ho : fitsB f b = o) (w : World) (hT : FAt w) :
    Calls Tryd.prog 67 #[.int .u8 f, bitsV b] w fun e w' => e = .returned (.bool o) ∧ Below w.heap.size w w' := by
  by_cases h : f ≤ 3
  · refine s_fits f b o (is4_of h0 h) hb1 hb2 _ _ rfl rfl ?_ w hT
    rw [fit7 f (is4_of h0 h) b.1 b.2 hb1 hb2, ← ho]
    unfold fitsB
    rw [decide_eq_true h, Bool.true_and]
  · have e : o = false := by rw [← ho]; unfold fitsB; rw [decide_eq_false h, Bool.false_and]
    subst e
    exact s_fits_no f b h0 h1 (no7 (by omega)).1 w hT
end Go.Proofs.YtjbnifhpbdjonaaDoor
namespace Go.Proofs.YtjbnifhpbdjonaaDoor
set_option maxRecDepth 100000
set_option maxHeartbeats 40000000
set_option maxRecDepth 100000
open Go.RowKit WMath
set_option linter.unusedSimpArgs false
set_option linter.unusedVariables false
theorem bel_st {P : Program} {k : FuncId} {a : Array Value} {w : World} {v : Value} (h : Calls P k a w fun r w' => r = .returned v ∧ w' = w) : Calls P k a w fun r w' => r = .returned v ∧ Below w.heap.size w w' := h.mono fun _ _ q => ⟨q.1, by rw [q.2]; exact Below.refl _ _⟩
def wdF (f : Int) : Nat := if f = 0 then 32 else if f = 1 then 64 else if f = 2 then 16 else if f = 3 then 128 else 0
theorem bv_to {n x y : Nat} (hy : y < 18446744073709551616) (h : y + 18446744073709551616 * x = n) : bv7 n = (x, y) := by
  unfold bv7
  subst h
  congr 1 <;> omega
theorem wdF_pos {f : Int} (h0 : 0 ≤ f) (h3 : f ≤ 3) : 16 ≤ wdF f := by
  rcases (by omega : f = 0 ∨ f = 1 ∨ f = 2 ∨ f = 3) with rfl | rfl | rfl | rfl <;> decide
theorem wdF_none {f : Int} (h : ¬ f ≤ 3) : wdF f = 0 := by unfold wdF; rw [if_neg (by omega), if_neg (by omega), if_neg (by omega), if_neg (by omega)]
def fitN (f : Int) (N : Nat) : Bool := decide (0 < wdF f ∧ N < 2 ^ wdF f)
def abN (f : Int) : Nat := 2 ^ 128 - 2 ^ wdF f
theorem bx_join (a b c d H L : Int) (hH : bits .or .u64 a c = H) (hL : bits .or .u64 b d = L) (w : World) : Calls Tryd.prog 68 #[.agg #[.int .u64 a, .int .u64 b], .agg #[.int .u64 c, .int .u64 d]] w fun r w' => r = .returned (.agg #[.int .u64 H, .int .u64 L]) ∧ Below w.heap.size w w' := by
  go_enter Tryd.func68, Tryd.ntmps68
  go_wp2
  exact bodyPost_ret (v := .agg #[.int .u64 H, .int .u64 L]) (by simp [results, Tryd.results68, go_sem]) rfl ⟨rfl, ((bal7 _ _).alloc (by simp only [size_al]; omega) _).alloc (by simp only [size_al]; omega) _⟩
set_option maxRecDepth 100000 in
set_option maxHeartbeats 8000000 in
theorem bx_boxN (f : Int) (x y : Nat) (w : World) (KF : Box (∀ w, FAt w → Calls Tryd.prog 67 #[.int .u8 f, .agg #[.int .u64 (x : Nat), .int .u64 (y : Nat)]] w fun r w' => r = .returned (.bool false) ∧ Below w.heap.size w w')) (hT : FAt w) : Calls Tryd.prog 50 #[.int .u8 f, .agg #[.int .u64 (x : Nat), .int .u64 (y : Nat)]] w fun r w' => r = .returned (.tuple #[.agg #[.int .u64 0, .int .u64 0], .int .i64 2]) ∧ Below w.heap.size w w' := by
  have FF := box hT
  clear hT
  obtain ⟨Rb_0, Rz_0, B0⟩ := opn2 w (Obj.cells #[.int .u64 (x : Nat), .int .u64 (y : Nat)] 25) (Obj.cells #[.int .u64 0, .int .u64 0] 25)
  go_enter Tryd.func50, Tryd.ntmps50
  obtain ⟨cb_0_0, cb_0_1⟩ := cells2s Rb_0
  obtain ⟨cz_0_0, cz_0_1⟩ := cells2s Rz_0
  go_wp2_with fail
  refine (KF.out _ (fatB FF.out B0)).mono ?_
  rintro r w1 ⟨rfl, b1⟩
  have B1 : Below w.heap.size w w1 := btr B0 b1
  have Rb_1 := heap_of b1 _ _ _ Rb_0
  have Rz_1 := heap_of b1 _ _ _ Rz_0
  clear b1 B0 Rb_0 cb_0_0 cb_0_1 Rz_0 cz_0_0 cz_0_1
  obtain ⟨cb_1_0, cb_1_1⟩ := cells2s Rb_1
  obtain ⟨cz_1_0, cz_1_1⟩ := cells2s Rz_1
  have q0 := fz (k := 0) Rz_1
  have q1 := fz (k := 1) Rz_1
  obtain ⟨E0, E1⟩ := set2_cells Rz_1 (.int .u64 0) (.int .u64 0)
  go_wp2
  exact bodyPost_ret (v := .tuple #[.agg #[.int .u64 0, .int .u64 0], .int .i64 2]) (by simp [results, Tryd.results50, go_sem, E0, E1]) rfl ⟨rfl, set2_below B1 (by first | exact Nat.le_refl _ | omega | (skip; omega)) _ _⟩
set_option maxRecDepth 100000 in
set_option maxHeartbeats 8000000 in
theorem bx_box0 (x y H L : Nat) (w : World) (KF : Box (∀ w, FAt w → Calls Tryd.prog 67 #[.int .u8 0, .agg #[.int .u64 (x : Nat), .int .u64 (y : Nat)]] w fun r w' => r = .returned (.bool true) ∧ Below w.heap.size w w')) (KJ : Box (∀ w, Calls Tryd.prog 68 #[.agg #[.int .u64 (x : Nat), .int .u64 (y : Nat)], .agg #[.int .u64 18446744073709551615, .int .u64 18446744069414584320]] w fun r w' => r = .returned (.agg #[.int .u64 (H : Nat), .int .u64 (L : Nat)]) ∧ Below w.heap.size w w')) (hT : FAt w) : Calls Tryd.prog 50 #[.int .u8 0, .agg #[.int .u64 (x : Nat), .int .u64 (y : Nat)]] w fun r w' => r = .returned (.tuple #[.agg #[.int .u64 (H : Nat), .int .u64 (L : Nat)], .int .i64 0]) ∧ Below w.heap.size w w' := by
  have FF := box hT
  clear hT
  obtain ⟨Rb_0, Rz_0, B0⟩ := opn2 w (Obj.cells #[.int .u64 (x : Nat), .int .u64 (y : Nat)] 25) (Obj.cells #[.int .u64 0, .int .u64 0] 25)
  go_enter Tryd.func50, Tryd.ntmps50
  obtain ⟨cb_0_0, cb_0_1⟩ := cells2s Rb_0
  obtain ⟨cz_0_0, cz_0_1⟩ := cells2s Rz_0
  go_wp2_with fail
  refine (KF.out _ (fatB FF.out B0)).mono ?_
  rintro r w1 ⟨rfl, b1⟩
  have B1 : Below w.heap.size w w1 := btr B0 b1
  have Rb_1 := heap_of b1 _ _ _ Rb_0
  have Rz_1 := heap_of b1 _ _ _ Rz_0
  clear b1 B0 Rb_0 cb_0_0 cb_0_1 Rz_0 cz_0_0 cz_0_1
  obtain ⟨cb_1_0, cb_1_1⟩ := cells2s Rb_1
  obtain ⟨cz_1_0, cz_1_1⟩ := cells2s Rz_1
  have T2 := fatB FF.out B1
  have g0 := fat_x T2 0 0 0 (.int .u64 18446744073709551615) rfl
  have g1 := fat_x T2 1 0 1 (.int .u64 18446744069414584320) rfl
  clear T2
  have qb : (w1).drew.heap[w.heap.size]? = some (Obj.cells #[.int .u64 (x : Nat), .int .u64 (y : Nat)] 25) := Rb_1
  have qz : (w1).drew.heap[w.heap.size + 1]? = some (Obj.cells #[.int .u64 0, .int .u64 0] 25) := Rz_1
  have qB := B1.drew
  have iz0 := fz (k := 0) Rz_1
  have iz1 := fz (k := 1) Rz_1
  go_wp2_with fail
  first | (go_region_with (first | (go_at_call 68; refine (KJ.out _).mono ?_; rintro r wq ⟨rfl, bq⟩; have qb := heap_of bq _ _ _ qb; have qz := heap_of bq _ _ _ qz; have qB := btr qB bq; have db0 := cell7 qb 0 (.int .u64 (x : Nat)) rfl; have db1 := cell7 qb 1 (.int .u64 (y : Nat)) rfl; have dz0 := cell7 qz 0 (.int .u64 0) rfl; have dz1 := cell7 qz 1 (.int .u64 0) rfl; have iz0 := fz (k := 0) qz; have iz1 := fz (k := 1) qz; clear bq) | fail)) | fail
  all_goals
    obtain ⟨E0, E1⟩ := set2_cells qz (.int .u64 (H : Nat)) (.int .u64 (L : Nat))
    have BZ := set2_below qB (show w.heap.size ≤ w.heap.size + 1 by first | exact Nat.le_refl _ | omega | (skip; omega)) (.int .u64 (H : Nat)) (.int .u64 (L : Nat))
    go_wp2
    exact bodyPost_ret (v := .tuple #[.agg #[.int .u64 (H : Nat), .int .u64 (L : Nat)], .int .i64 0]) (by simp [results, Tryd.results50, go_sem, E0, E1]) rfl ⟨rfl, BZ⟩
set_option maxRecDepth 100000 in
set_option maxHeartbeats 8000000 in
theorem bx_box1 (x y H L : Nat) (w : World) (KF : Box (∀ w, FAt w → Calls Tryd.prog 67 #[.int .u8 1, .agg #[.int .u64 (x : Nat), .int .u64 (y : Nat)]] w fun r w' => r = .returned (.bool true) ∧ Below w.heap.size w w')) (KJ : Box (∀ w, Calls Tryd.prog 68 #[.agg #[.int .u64 (x : Nat), .int .u64 (y : Nat)], .agg #[.int .u64 18446744073709551615, .int .u64 0]] w fun r w' => r = .returned (.agg #[.int .u64 (H : Nat), .int .u64 (L : Nat)]) ∧ Below w.heap.size w w')) (hT : FAt w) : Calls Tryd.prog 50 #[.int .u8 1, .agg #[.int .u64 (x : Nat), .int .u64 (y : Nat)]] w fun r w' => r = .returned (.tuple #[.agg #[.int .u64 (H : Nat), .int .u64 (L : Nat)], .int .i64 0]) ∧ Below w.heap.size w w' := by
  have FF := box hT
  clear hT
  obtain ⟨Rb_0, Rz_0, B0⟩ := opn2 w (Obj.cells #[.int .u64 (x : Nat), .int .u64 (y : Nat)] 25) (Obj.cells #[.int .u64 0, .int .u64 0] 25)
  go_enter Tryd.func50, Tryd.ntmps50
  obtain ⟨cb_0_0, cb_0_1⟩ := cells2s Rb_0
  obtain ⟨cz_0_0, cz_0_1⟩ := cells2s Rz_0
  go_wp2_with fail
  refine (KF.out _ (fatB FF.out B0)).mono ?_
  rintro r w1 ⟨rfl, b1⟩
  have B1 : Below w.heap.size w w1 := btr B0 b1
  have Rb_1 := heap_of b1 _ _ _ Rb_0
  have Rz_1 := heap_of b1 _ _ _ Rz_0
  clear b1 B0 Rb_0 cb_0_0 cb_0_1 Rz_0 cz_0_0 cz_0_1
  obtain ⟨cb_1_0, cb_1_1⟩ := cells2s Rb_1
  obtain ⟨cz_1_0, cz_1_1⟩ := cells2s Rz_1
  have T2 := fatB FF.out B1
  have g0 := fat_x T2 2 0 2 (.int .u64 18446744073709551615) rfl
  have g1 := fat_x T2 3 0 3 (.int .u64 0) rfl
  clear T2
  have qb : (w1).drew.heap[w.heap.size]? = some (Obj.cells #[.int .u64 (x : Nat), .int .u64 (y : Nat)] 25) := Rb_1
  have qz : (w1).drew.heap[w.heap.size + 1]? = some (Obj.cells #[.int .u64 0, .int .u64 0] 25) := Rz_1
  have qB := B1.drew
  have iz0 := fz (k := 0) Rz_1
  have iz1 := fz (k := 1) Rz_1
  go_wp2_with fail
  first | (go_region_with (first | (go_at_call 68; refine (KJ.out _).mono ?_; rintro r wq ⟨rfl, bq⟩; have qb := heap_of bq _ _ _ qb; have qz := heap_of bq _ _ _ qz; have qB := btr qB bq; have db0 := cell7 qb 0 (.int .u64 (x : Nat)) rfl; have db1 := cell7 qb 1 (.int .u64 (y : Nat)) rfl; have dz0 := cell7 qz 0 (.int .u64 0) rfl; have dz1 := cell7 qz 1 (.int .u64 0) rfl; have iz0 := fz (k := 0) qz; have iz1 := fz (k := 1) qz; clear bq) | fail)) | fail
  all_goals
    obtain ⟨E0, E1⟩ := set2_cells qz (.int .u64 (H : Nat)) (.int .u64 (L : Nat))
    have BZ := set2_below qB (show w.heap.size ≤ w.heap.size + 1 by first | exact Nat.le_refl _ | omega | (skip; omega)) (.int .u64 (H : Nat)) (.int .u64 (L : Nat))
    go_wp2
    exact bodyPost_ret (v := .tuple #[.agg #[.int .u64 (H : Nat), .int .u64 (L : Nat)], .int .i64 0]) (by simp [results, Tryd.results50, go_sem, E0, E1]) rfl ⟨rfl, BZ⟩
set_option maxRecDepth 100000 in
set_option maxHeartbeats 8000000 in
theorem bx_box2 (x y H L : Nat) (w : World) (KF : Box (∀ w, FAt w → Calls Tryd.prog 67 #[.int .u8 2, .agg #[.int .u64 (x : Nat), .int .u64 (y : Nat)]] w fun r w' => r = .returned (.bool true) ∧ Below w.heap.size w w')) (KJ : Box (∀ w, Calls Tryd.prog 68 #[.agg #[.int .u64 (x : Nat), .int .u64 (y : Nat)], .agg #[.int .u64 18446744073709551615, .int .u64 18446744073709486080]] w fun r w' => r = .returned (.agg #[.int .u64 (H : Nat), .int .u64 (L : Nat)]) ∧ Below w.heap.size w w')) (hT : FAt w) : Calls Tryd.prog 50 #[.int .u8 2, .agg #[.int .u64 (x : Nat), .int .u64 (y : Nat)]] w fun r w' => r = .returned (.tuple #[.agg #[.int .u64 (H : Nat), .int .u64 (L : Nat)], .int .i64 0]) ∧ Below w.heap.size w w' := by
  have FF := box hT
  clear hT
  obtain ⟨Rb_0, Rz_0, B0⟩ := opn2 w (Obj.cells #[.int .u64 (x : Nat), .int .u64 (y : Nat)] 25) (Obj.cells #[.int .u64 0, .int .u64 0] 25)
  go_enter Tryd.func50, Tryd.ntmps50
  obtain ⟨cb_0_0, cb_0_1⟩ := cells2s Rb_0
  obtain ⟨cz_0_0, cz_0_1⟩ := cells2s Rz_0
  go_wp2_with fail
  refine (KF.out _ (fatB FF.out B0)).mono ?_
  rintro r w1 ⟨rfl, b1⟩
  have B1 : Below w.heap.size w w1 := btr B0 b1
  have Rb_1 := heap_of b1 _ _ _ Rb_0
  have Rz_1 := heap_of b1 _ _ _ Rz_0
  clear b1 B0 Rb_0 cb_0_0 cb_0_1 Rz_0 cz_0_0 cz_0_1
  obtain ⟨cb_1_0, cb_1_1⟩ := cells2s Rb_1
  obtain ⟨cz_1_0, cz_1_1⟩ := cells2s Rz_1
  have T2 := fatB FF.out B1
  have g0 := fat_x T2 4 0 4 (.int .u64 18446744073709551615) rfl
  have g1 := fat_x T2 5 0 5 (.int .u64 18446744073709486080) rfl
  clear T2
  have qb : (w1).drew.heap[w.heap.size]? = some (Obj.cells #[.int .u64 (x : Nat), .int .u64 (y : Nat)] 25) := Rb_1
  have qz : (w1).drew.heap[w.heap.size + 1]? = some (Obj.cells #[.int .u64 0, .int .u64 0] 25) := Rz_1
  have qB := B1.drew
  have iz0 := fz (k := 0) Rz_1
  have iz1 := fz (k := 1) Rz_1
  go_wp2_with fail
  first | (go_region_with (first | (go_at_call 68; refine (KJ.out _).mono ?_; rintro r wq ⟨rfl, bq⟩; have qb := heap_of bq _ _ _ qb; have qz := heap_of bq _ _ _ qz; have qB := btr qB bq; have db0 := cell7 qb 0 (.int .u64 (x : Nat)) rfl; have db1 := cell7 qb 1 (.int .u64 (y : Nat)) rfl; have dz0 := cell7 qz 0 (.int .u64 0) rfl; have dz1 := cell7 qz 1 (.int .u64 0) rfl; have iz0 := fz (k := 0) qz; have iz1 := fz (k := 1) qz; clear bq) | fail)) | fail
  all_goals
    obtain ⟨E0, E1⟩ := set2_cells qz (.int .u64 (H : Nat)) (.int .u64 (L : Nat))
    have BZ := set2_below qB (show w.heap.size ≤ w.heap.size + 1 by first | exact Nat.le_refl _ | omega | (skip; omega)) (.int .u64 (H : Nat)) (.int .u64 (L : Nat))
    go_wp2
    exact bodyPost_ret (v := .tuple #[.agg #[.int .u64 (H : Nat), .int .u64 (L : Nat)], .int .i64 0]) (by simp [results, Tryd.results50, go_sem, E0, E1]) rfl ⟨rfl, BZ⟩
set_option maxRecDepth 100000 in
set_option maxHeartbeats 8000000 in
theorem bx_box3 (x y H L : Nat) (w : World) (KF : Box (∀ w, FAt w → Calls Tryd.prog 67 #[.int .u8 3, .agg #[.int .u64 (x : Nat), .int .u64 (y : Nat)]] w fun r w' => r = .returned (.bool true) ∧ Below w.heap.size w w')) (KJ : Box (∀ w, Calls Tryd.prog 68 #[.agg #[.int .u64 (x : Nat), .int .u64 (y : Nat)], .agg #[.int .u64 0, .int .u64 0]] w fun r w' => r = .returned (.agg #[.int .u64 (H : Nat), .int .u64 (L : Nat)]) ∧ Below w.heap.size w w')) (hT : FAt w) : Calls Tryd.prog 50 #[.int .u8 3, .agg #[.int .u64 (x : Nat), .int .u64 (y : Nat)]] w fun r w' => r = .returned (.tuple #[.agg #[.int .u64 (H : Nat), .int .u64 (L : Nat)], .int .i64 0]) ∧ Below w.heap.size w w' := by
  have FF := box hT
  clear hT
  obtain ⟨Rb_0, Rz_0, B0⟩ := opn2 w (Obj.cells #[.int .u64 (x : Nat), .int .u64 (y : Nat)] 25) (Obj.cells #[.int .u64 0, .int .u64 0] 25)
  go_enter Tryd.func50, Tryd.ntmps50
  obtain ⟨cb_0_0, cb_0_1⟩ := cells2s Rb_0
  obtain ⟨cz_0_0, cz_0_1⟩ := cells2s Rz_0
  go_wp2_with fail
  refine (KF.out _ (fatB FF.out B0)).mono ?_
  rintro r w1 ⟨rfl, b1⟩
  have B1 : Below w.heap.size w w1 := btr B0 b1
  have Rb_1 := heap_of b1 _ _ _ Rb_0
  have Rz_1 := heap_of b1 _ _ _ Rz_0
  clear b1 B0 Rb_0 cb_0_0 cb_0_1 Rz_0 cz_0_0 cz_0_1
  obtain ⟨cb_1_0, cb_1_1⟩ := cells2s Rb_1
  obtain ⟨cz_1_0, cz_1_1⟩ := cells2s Rz_1
  have T2 := fatB FF.out B1
  have g0 := fat_x T2 6 0 6 (.int .u64 0) rfl
  have g1 := fat_x T2 7 0 7 (.int .u64 0) rfl
  clear T2
  have qb : (w1).drew.heap[w.heap.size]? = some (Obj.cells #[.int .u64 (x : Nat), .int .u64 (y : Nat)] 25) := Rb_1
  have qz : (w1).drew.heap[w.heap.size + 1]? = some (Obj.cells #[.int .u64 0, .int .u64 0] 25) := Rz_1
  have qB := B1.drew
  have iz0 := fz (k := 0) Rz_1
  have iz1 := fz (k := 1) Rz_1
  go_wp2_with fail
  first | (go_region_with (first | (go_at_call 68; refine (KJ.out _).mono ?_; rintro r wq ⟨rfl, bq⟩; have qb := heap_of bq _ _ _ qb; have qz := heap_of bq _ _ _ qz; have qB := btr qB bq; have db0 := cell7 qb 0 (.int .u64 (x : Nat)) rfl; have db1 := cell7 qb 1 (.int .u64 (y : Nat)) rfl; have dz0 := cell7 qz 0 (.int .u64 0) rfl; have dz1 := cell7 qz 1 (.int .u64 0) rfl; have iz0 := fz (k := 0) qz; have iz1 := fz (k := 1) qz; clear bq) | fail)) | fail
  all_goals
    obtain ⟨E0, E1⟩ := set2_cells qz (.int .u64 (H : Nat)) (.int .u64 (L : Nat))
    have BZ := set2_below qB (show w.heap.size ≤ w.heap.size + 1 by first | exact Nat.le_refl _ | omega | (skip; omega)) (.int .u64 (H : Nat)) (.int .u64 (L : Nat))
    go_wp2
    exact bodyPost_ret (v := .tuple #[.agg #[.int .u64 (H : Nat), .int .u64 (L : Nat)], .int .i64 0]) (by simp [results, Tryd.results50, go_sem, E0, E1]) rfl ⟨rfl, BZ⟩
theorem top_bit (c i : Nat) (hc : c ≤ 64) : (18446744073709551616 - 2 ^ c).testBit i = (decide (c ≤ i) && decide (i < 64)) := by
  have e : 18446744073709551616 - 2 ^ c = 2 ^ c * (2 ^ (64 - c) - 1) + 0 := by
    rw [Nat.mul_sub, ← Nat.pow_add, show c + (64 - c) = 64 by omega, Nat.mul_one, Nat.add_zero]
  rw [e, Nat.testBit_two_pow_mul_add _ (Nat.two_pow_pos c)]
  by_cases h : i < c
  · rw [if_pos h, Nat.zero_testBit, decide_eq_false (by omega : ¬ c ≤ i), Bool.false_and]
  · rw [if_neg h, Nat.testBit_two_pow_sub_one, decide_eq_true (by omega : c ≤ i), Bool.true_and]
    exact decide_eq_decide.2 (by omega)
theorem top_lt (c : Nat) : 18446744073709551616 - 2 ^ c < 18446744073709551616 := by have := Nat.two_pow_pos c; omega
theorem or_top (x c : Nat) (hx : x < 18446744073709551616) (hc : c ≤ 64) : bits .or .u64 (x : Int) ((18446744073709551616 - 2 ^ c : Nat) : Int) = ((x % 2 ^ c + (18446744073709551616 - 2 ^ c) : Nat) : Int) := by
  rw [bits_or_u64_nat _ _ hx (top_lt c)]
  congr 1
  apply Nat.eq_of_testBit_eq
  intro i
  have e : x % 2 ^ c + (18446744073709551616 - 2 ^ c) = 2 ^ c * (2 ^ (64 - c) - 1) + x % 2 ^ c := by
    rw [Nat.mul_sub, ← Nat.pow_add, show c + (64 - c) = 64 by omega, Nat.mul_one, Nat.add_comm]
  rw [Nat.testBit_or, top_bit c i hc, e, Nat.testBit_two_pow_mul_add _ (Nat.mod_lt _ (Nat.two_pow_pos c)), Nat.testBit_mod_two_pow, Nat.testBit_two_pow_sub_one]
  by_cases h : i < c
  · rw [if_pos h, decide_eq_false (by omega : ¬ c ≤ i), decide_eq_true h]
    simp
  · rw [if_neg h, decide_eq_true (by omega : c ≤ i), Bool.true_and]
    by_cases k : i < 64
    · rw [decide_eq_true k, decide_eq_true (by omega : i - c < 64 - c), Bool.or_true]
    · rw [decide_eq_false k, decide_eq_false (by omega : ¬ i - c < 64 - c), Bool.or_false]
      exact Nat.testBit_lt_two_pow (Nat.lt_of_lt_of_le hx (by rw [show 18446744073709551616 = 2 ^ 64 by decide]; exact Nat.pow_le_pow_right (by decide) (by omega)))
def hcN (f : Int) : Nat := if f = 3 then 64 else 0
def lcN (f : Int) : Nat := if f = 0 then 32 else if f = 2 then 16 else 64
theorem hc_le (f : Int) : hcN f ≤ 64 := by unfold hcN; split <;> omega
theorem lc_le (f : Int) : lcN f ≤ 64 := by unfold lcN; (repeat' split) <;> omega
def upN (f : Int) : Nat := 18446744073709551616 - 2 ^ hcN f
def loN (f : Int) : Nat := 18446744073709551616 - 2 ^ lcN f
theorem four {f : Int} (h0 : 0 ≤ f) (h3 : f ≤ 3) : f = 0 ∨ f = 1 ∨ f = 2 ∨ f = 3 := by omega
theorem kJoin (f : Int) (x y : Nat) (hx : x < 18446744073709551616) (hy : y < 18446744073709551616) (w : World) : Calls Tryd.prog 68 #[.agg #[.int .u64 (x : Nat), .int .u64 (y : Nat)], .agg #[.int .u64 (upN f : Nat), .int .u64 (loN f : Nat)]] w fun r w' => r = .returned (.agg #[.int .u64 ((x % 2 ^ hcN f + upN f : Nat) : Int), .int .u64 ((y % 2 ^ lcN f + loN f : Nat) : Int)]) ∧ Below w.heap.size w w' :=
  bx_join _ _ _ _ _ _ (or_top x (hcN f) hx (hc_le f)) (or_top y (lcN f) hy (lc_le f)) w
theorem kFits (f : Int) (x y N : Nat) (h0 : 0 ≤ f) (h1 : f ≤ 255) (hx : x < 18446744073709551616) (hy : y < 18446744073709551616) (hN : y + 18446744073709551616 * x = N) : Box (∀ w, FAt w → Calls Tryd.prog 67 #[.int .u8 f, .agg #[.int .u64 (x : Nat), .int .u64 (y : Nat)]] w fun r w' => r = .returned (.bool (fitN f N)) ∧ Below w.heap.size w w') := by
  refine box (fun w hT => s_fits_is f (x, y) (fitN f N) h0 h1 hx hy ?_ w hT)
  unfold fitsB fitN
  simp only
  rw [hN, ← Bool.decide_and]
  refine decide_eq_decide.2 ?_
  by_cases c : f ≤ 3
  · have e : fW f = ((wdF f : Nat) : Int) := by rcases four h0 c with rfl | rfl | rfl | rfl <;> rfl
    have p := wdF_pos h0 c
    have q : blen N ≤ wdF f ↔ N < 2 ^ wdF f := blen_iff N (wdF f)
    rw [e]
    omega
  · rw [wdF_none c]
    omega
theorem kBox_no (f : Int) (x y N : Nat) (h0 : 0 ≤ f) (h1 : f ≤ 255) (hx : x < 18446744073709551616) (hy : y < 18446744073709551616) (hN : y + 18446744073709551616 * x = N) (q : fitN f N = false) : Box (∀ w, FAt w → Calls Tryd.prog 50 #[.int .u8 f, .agg #[.int .u64 (x : Nat), .int .u64 (y : Nat)]] w fun r w' => r = .returned (.tuple #[.agg #[.int .u64 0, .int .u64 0], .int .i64 2]) ∧ Below w.heap.size w w') := by
  have K := kFits f x y N h0 h1 hx hy hN
  rw [q] at K
  exact box (fun w hT => bx_boxN f x y w K hT)
theorem low_split (f : Int) (h0 : 0 ≤ f) (h3 : f ≤ 3) (x y N : Nat) (hx : x < 18446744073709551616) (hy : y < 18446744073709551616) (hN : y + 18446744073709551616 * x = N) : y % 2 ^ lcN f + 18446744073709551616 * (x % 2 ^ hcN f) = N % 2 ^ wdF f := by
  subst hN
  rcases four h0 h3 with rfl | rfl | rfl | rfl
  · have a : hcN 0 = 0 := rfl
    have b : lcN 0 = 32 := rfl
    have c : wdF 0 = 32 := rfl
    rw [a, b, c]
    simp only [Nat.reducePow]
    omega
  · have a : hcN 1 = 0 := rfl
    have b : lcN 1 = 64 := rfl
    have c : wdF 1 = 64 := rfl
    rw [a, b, c]
    simp only [Nat.reducePow]
    omega
  · have a : hcN 2 = 0 := rfl
    have b : lcN 2 = 16 := rfl
    have c : wdF 2 = 16 := rfl
    rw [a, b, c]
    simp only [Nat.reducePow]
    omega
  · have a : hcN 3 = 64 := rfl
    have b : lcN 3 = 64 := rfl
    have c : wdF 3 = 128 := rfl
    rw [a, b, c]
    simp only [Nat.reducePow]
    omega
theorem up_lo (f : Int) (h0 : 0 ≤ f) (h3 : f ≤ 3) : loN f + 18446744073709551616 * upN f = abN f := by
  rcases four h0 h3 with rfl | rfl | rfl | rfl <;> decide +kernel
theorem mod_top (x c : Nat) : x % 2 ^ c + (18446744073709551616 - 2 ^ c) < 18446744073709551616 ∨ 64 < c := by
  by_cases h : 64 < c
  · exact Or.inr h
  · have := Nat.mod_lt x (Nat.two_pow_pos c)
    have : 2 ^ c ≤ 2 ^ 64 := Nat.pow_le_pow_right (by decide) (by omega)
    rw [show (2 : Nat) ^ 64 = 18446744073709551616 from rfl] at this
    exact Or.inl (by omega)
theorem kBox_is (f : Int) (x y N : Nat) (h0 : 0 ≤ f) (h3 : f ≤ 3) (hx : x < 18446744073709551616) (hy : y < 18446744073709551616) (hN : y + 18446744073709551616 * x = N) (fit : N < 2 ^ wdF f) (u v : Nat) (h : bv7 (N + abN f) = (u, v)) : Box (∀ w, FAt w → Calls Tryd.prog 50 #[.int .u8 f, .agg #[.int .u64 (x : Nat), .int .u64 (y : Nat)]] w fun r w' => r = .returned (.tuple #[.agg #[.int .u64 (u : Nat), .int .u64 (v : Nat)], .int .i64 0]) ∧ Below w.heap.size w w') := by
  have K := kFits f x y N h0 (by omega) hx hy hN
  have q : fitN f N = true := decide_eq_true ⟨by have := wdF_pos h0 h3; omega, fit⟩
  rw [q] at K
  have l := low_split f h0 h3 x y N hx hy hN
  rw [Nat.mod_eq_of_lt fit] at l
  have ul := up_lo f h0 h3
  have ly : y % 2 ^ lcN f + loN f < 18446744073709551616 := (mod_top y (lcN f)).resolve_right (by have := lc_le f; omega)
  have e : bv7 (N + abN f) = (x % 2 ^ hcN f + upN f, y % 2 ^ lcN f + loN f) := bv_to ly (by omega)
  rw [e] at h
  cases h
  have J := box (fun w => kJoin f x y hx hy w)
  refine box (fun w hT => ?_)
  clear e ly ul l q fit
  rcases four h0 h3 with rfl | rfl | rfl | rfl
  · exact bx_box0 x y _ _ w K J hT
  · exact bx_box1 x y _ _ w K J hT
  · exact bx_box2 x y _ _ w K J hT
  · exact bx_box3 x y _ _ w K J hT
end Go.Proofs.YtjbnifhpbdjonaaDoor
