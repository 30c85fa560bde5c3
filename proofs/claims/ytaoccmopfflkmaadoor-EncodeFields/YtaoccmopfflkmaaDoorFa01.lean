/-
  What the functions that the statement reaches return: part 1 (Mx, Pop, Bits1, Wide0, Quiet2, Wide7, List0, List2, List6, Xmath, X1, S1, BA, BC0, BE, BF, BI, BJ, BK, BL, BG, BH, BM, BO, BP, BQ, BS, JP, JM, DA).
-/
import Derived.Laws.MathBits
import Derived.Laws.Bits64b
import Derived.Laws.BitsAllLaws
import Derived.Laws.ShiftsVarLaws
import Derived.WalkKit
import Derived.ProofKit
import Derived.Lib.BitFns
import Derived.Test.YtaoccmopfflkmaaDoorRows
import Derived.WalkLawsBesides
import Derived.ScopeJumps
import Derived.Lib.TrailingZeros
import Derived.Deep.WholeRow
import Derived.Below
import Derived.Deep.QuietTactic
import Derived.BigQuiet
import Derived.ChangeKeysEq
import Derived.Deep.RegionWith
import Derived.Deep.OwnRows
import Derived.Laws.BytesString
import Derived.Deep.RegionLaw
import Derived.Laws.CopyOwn
import Derived.RegionTactic
import Derived.OpenShut
import Derived.Laws.IdiomArrays
import Derived.Carry
import Derived.Laws.Cover1
import Derived.Great.BuildSlice
import Derived.OwnWalk
import Derived.Laws.AppendOwn
import Derived.Maps.AppendAt
import Derived.Maps.Own
import Derived.Maps.Views
import Derived.StringKeys
import Derived.RangeFuncNested
import Derived.RangeFuncBound
import Derived.RangeFuncCalls
import Derived.RangeFuncLeaves
import Derived.RangeFuncFrom
import Derived.Shelf.Abstract
import Derived.Shelf.RegionOpen
import Derived.OwnWalkIn
import Derived.TacticsInMore
import Derived.LoopNIn
import Derived.LoopIn
import Derived.LoopN
import Derived.Sort.QuietIn
import Derived.Deep.RegionHeld3
import Derived.ChangeMaps5
import Derived.Deep.AppendLies
namespace Go.Proofs.YtaoccmopfflkmaaDoor.WMath
set_option maxRecDepth 100000
set_option maxHeartbeats 40000000
set_option maxRecDepth 100000
theorem two64 : (18446744073709551616 : Nat) = 2 ^ 64 := by decide
end Go.Proofs.YtaoccmopfflkmaaDoor.WMath
namespace Go.Proofs.YtaoccmopfflkmaaDoor.WMath
set_option maxRecDepth 100000
set_option maxHeartbeats 40000000
set_option maxRecDepth 100000

def Box (p : Prop) : Prop := p ∨ False
theorem box {p : Prop} (h : p) : Box p := Or.inl h
theorem Box.out {p : Prop} (h : Box p) : p := h.elim id False.elim

def wd (n k : Nat) : Nat := n / 2 ^ (64 * k) % 18446744073709551616
theorem wd_lt (n k : Nat) : wd n k < 18446744073709551616 := Nat.mod_lt _ (by decide)
theorem wd_bit (n k j : Nat) : (wd n k).testBit j = (decide (j < 64) && n.testBit (64 * k + j)) := by
  unfold wd
  rw [two64, Nat.testBit_mod_two_pow, Nat.testBit_div_two_pow, Nat.add_comm j]
theorem lt_bit {n q i : Nat} (h : n < 2 ^ q) (hi : q ≤ i) : n.testBit i = false := Nat.testBit_lt_two_pow (Nat.lt_of_lt_of_le h (Nat.pow_le_pow_right (by decide) hi))

def setw (n p x : Nat) : Nat := n % 2 ^ (64 * p) + 2 ^ (64 * p) * (x + 18446744073709551616 * (n / 2 ^ (64 * (p + 1))))

theorem setw_bit (n p x i : Nat) (hx : x < 18446744073709551616) : (setw n p x).testBit i = if i / 64 = p then x.testBit (i % 64) else n.testBit i := by
  unfold setw
  rw [Nat.add_comm, Nat.testBit_two_pow_mul_add _ (Nat.mod_lt _ (Nat.two_pow_pos _))]
  split
  · rename_i h
    rw [if_neg (by omega), Nat.testBit_mod_two_pow, decide_eq_true h, Bool.true_and]
  · rename_i h
    rw [Nat.add_comm, two64, Nat.testBit_two_pow_mul_add _ (by rw [← two64]; exact hx)]
    split
    · rename_i h2
      rw [if_pos (by omega)]
      congr 1; omega
    · rename_i h2
      rw [if_neg (by omega), Nat.testBit_div_two_pow]
      congr 1; omega

theorem wd_setw (n p x k : Nat) (hx : x < 18446744073709551616) : wd (setw n p x) k = if k = p then x else wd n k := by
  apply Nat.eq_of_testBit_eq
  intro j
  rw [wd_bit, setw_bit _ _ _ _ hx]
  by_cases hj : j < 64
  · rw [decide_eq_true hj, Bool.true_and, show (64 * k + j) / 64 = k by omega, show (64 * k + j) % 64 = j by omega]
    split
    · rfl
    · rw [wd_bit, decide_eq_true hj, Bool.true_and]
  · rw [decide_eq_false hj, Bool.false_and]
    have e : ∀ y, y < 18446744073709551616 → y.testBit j = false := fun y hy => lt_bit (q := 64) (by rw [← two64]; exact hy) (by omega)
    split
    · rw [e x hx]
    · rw [e _ (wd_lt _ _)]

theorem setw_lt (n p x q : Nat) (hn : n < 2 ^ (64 * q)) (hp : p < q) (hx : x < 18446744073709551616) : setw n p x < 2 ^ (64 * q) := by
  apply Nat.lt_pow_two_of_testBit
  intro i hi
  rw [setw_bit _ _ _ _ hx, if_neg (by omega), lt_bit hn hi]

def cw (L n : Nat) : Array Value := ((List.range L).map fun k => Value.int .u64 (wd n k : Nat)).toArray
theorem cw_at (L n k : Nat) (h : k < L) : (cw L n)[k]? = some (.int .u64 (wd n k : Nat)) := by simp [cw, h]
theorem cw6 (n : Nat) : cw 6 n = #[.int .u64 (wd n 0 : Nat), .int .u64 (wd n 1 : Nat), .int .u64 (wd n 2 : Nat), .int .u64 (wd n 3 : Nat), .int .u64 (wd n 4 : Nat), .int .u64 (wd n 5 : Nat)] := rfl
def pw (L : Nat) : Nat := 2 ^ (64 * L)
def Qn (k : Nat) : Nat := if h : k = 0 then pw 6 else Qn (k - 1)
  termination_by k
  decreasing_by omega
def Q : Nat := Qn 0
theorem Q_pw : ∃ L, L = 6 ∧ Q = pw L := by
  refine ⟨6, rfl, ?_⟩
  unfold Q
  rw [Qn, dif_pos rfl]
theorem Q_of : ∃ L, L = 6 ∧ Q = 2 ^ (64 * L) := by
  obtain ⟨L, hL, h⟩ := Q_pw
  exact ⟨L, hL, h⟩
def W (n : Nat) : Value := .agg (cw 6 n)

theorem w6 (a0 a1 a2 a3 a4 a5 : Nat) (h0 : a0 < 18446744073709551616) (h1 : a1 < 18446744073709551616) (h2 : a2 < 18446744073709551616) (h3 : a3 < 18446744073709551616) (h4 : a4 < 18446744073709551616) (h5 : a5 < 18446744073709551616) :
    ∃ n, n < Q ∧ cw 6 n = #[.int .u64 a0, .int .u64 a1, .int .u64 a2, .int .u64 a3, .int .u64 a4, .int .u64 a5] := by
  refine ⟨setw (setw (setw (setw (setw (setw 0 0 a0) 1 a1) 2 a2) 3 a3) 4 a4) 5 a5, ?_, ?_⟩
  · obtain ⟨L, hL, h⟩ := Q_of
    rw [h]
    repeat (refine setw_lt _ _ _ L ?_ (by omega) (by assumption))
    exact Nat.two_pow_pos _
  · rw [cw6]
    simp only [wd_setw _ _ _ _ h0, wd_setw _ _ _ _ h1, wd_setw _ _ _ _ h2, wd_setw _ _ _ _ h3, wd_setw _ _ _ _ h4, wd_setw _ _ _ _ h5]
    rfl
end Go.Proofs.YtaoccmopfflkmaaDoor.WMath
namespace Go.Proofs.YtaoccmopfflkmaaDoor.WMath
set_option maxRecDepth 100000
set_option maxHeartbeats 40000000
set_option maxRecDepth 100000

end Go.Proofs.YtaoccmopfflkmaaDoor.WMath
namespace Go.Proofs.YtaoccmopfflkmaaDoor.WMath
set_option maxRecDepth 100000
set_option maxHeartbeats 40000000
set_option maxRecDepth 100000

def blen (n : Nat) : Nat := if n = 0 then 0 else Nat.log2 n + 1
def dgl : List UInt8 := [48, 49, 50, 51, 52, 53, 54, 55, 56, 57, 97, 98, 99, 100, 101, 102]
def dg (d : Nat) : UInt8 := dgl.getD d 0
def hxs (L n : Nat) : List UInt8 := (List.range L).map fun i => dg (n / 16 ^ (L - 1 - i) % 16)
def nd (n : Nat) : Nat := max 1 ((blen n + 3) / 4)
def tx (n : Nat) : List UInt8 := hxs (nd n) n

end Go.Proofs.YtaoccmopfflkmaaDoor.WMath
namespace Go.Proofs.YtaoccmopfflkmaaDoor.WMath
set_option maxRecDepth 100000
set_option maxHeartbeats 40000000
set_option maxRecDepth 100000

end Go.Proofs.YtaoccmopfflkmaaDoor.WMath
namespace Go.Proofs.YtaoccmopfflkmaaDoor.WMath
set_option maxRecDepth 100000
set_option maxHeartbeats 40000000
set_option maxRecDepth 100000

end Go.Proofs.YtaoccmopfflkmaaDoor.WMath
namespace Go.Proofs.YtaoccmopfflkmaaDoor.WMath
set_option maxRecDepth 100000
set_option maxHeartbeats 40000000
set_option maxRecDepth 100000

end Go.Proofs.YtaoccmopfflkmaaDoor.WMath
namespace Go.Proofs.YtaoccmopfflkmaaDoor.WMath
set_option maxRecDepth 100000
set_option maxHeartbeats 40000000
set_option maxRecDepth 100000

def d8 (n k : Nat) : Nat := n / 2 ^ (8 * k) % 256
def c8 (L n : Nat) : Array Value := ((List.range L).map fun k => Value.int .u8 (d8 n k : Nat)).toArray
end Go.Proofs.YtaoccmopfflkmaaDoor.WMath
namespace Go.Proofs.YtaoccmopfflkmaaDoor.WMath
set_option maxRecDepth 100000
set_option maxHeartbeats 40000000
set_option maxRecDepth 100000

def nl (n : Nat) : Nat := (blen n + 7) / 8
end Go.Proofs.YtaoccmopfflkmaaDoor.WMath
namespace Go.Proofs.YtaoccmopfflkmaaDoor.WMath
set_option maxRecDepth 100000
set_option maxHeartbeats 40000000
set_option maxRecDepth 100000

end Go.Proofs.YtaoccmopfflkmaaDoor.WMath
namespace Go.Proofs.YtaoccmopfflkmaaDoor.WMath
set_option maxRecDepth 100000
set_option maxHeartbeats 40000000
set_option maxRecDepth 100000
def mask8 (c : Nat) : Nat → Nat
  | 0 => 0
  | n + 1 => c + 256 * mask8 c n
def sA (b : Nat) : Nat := ((b / 2) &&& 85) + (b &&& 85)
theorem t1 : ∀ b : Fin 256, ∀ c : Fin 2, ((b.val / 2 + 128 * c.val) &&& 85) = (b.val / 2 &&& 85) := by decide +kernel
theorem t2 : ∀ b : Fin 256, ∀ c : Fin 4, ((b.val / 4 + 64 * c.val) &&& 51) = (b.val / 4 &&& 51) := by decide +kernel
end Go.Proofs.YtaoccmopfflkmaaDoor.WMath
namespace Go.Proofs.YtaoccmopfflkmaaDoor
set_option maxRecDepth 100000
set_option maxHeartbeats 40000000
set_option maxRecDepth 100000
open Go.RowKit WMath
theorem m15 : mask8 15 8 = 1085102592571150095 := by decide

theorem heap_below (w : World) (b : Nat) (o : Obj) (h : b < w.heap.size) : (w.alloc o).heap[b]? = w.heap[b]? := Below.heap_alloc w o b h
theorem size_al (w : World) (o : Obj) : (w.alloc o).heap.size = w.heap.size + 1 := by
  show (w.heap.push o).size = _
  simp

theorem below_fun (W : World) : ∃ F : World → World, (∀ u, Below W.heap.size W (F u)) ∧ (∀ u, Below W.heap.size W u → F u = u) := by
  classical
  refine ⟨fun u => if Below W.heap.size W u then u else W, fun u => ?_, fun u h => if_pos h⟩
  by_cases h : Below W.heap.size W u
  · simp only [h, if_true]
  · simp only [h, if_false]; exact Below.refl _ _

theorem wp_region_below {P : Program} {id : Nat} {Q : Exit → Act → World → Prop} {a : Act} {W : World} {l : List Oper} (F : World → World) (hF : ∀ u, Below W.heap.size W u → F u = u)
    (hm : P.follows .mixedOrders = true) (hB : Region.lexB .any l.toArray = true)
    (h : wpQuiet P l.toArray (fun w' => ∃ u, w' = F u) (fun a' => ∀ w', (∃ u, w' = F u) → Q .normal a' w') l a) : (Code.region id l.toArray true).wp P Q a W :=
  wp_region_quiet (C := fun w' => ∃ u, w' = F u) hm hB ⟨W.drew, (hF _ ((Below.refl _ _).drew)).symm⟩ (by simpa using h)

theorem quietF {P : Program} {f : Nat} {args : Array Value} {v : Value} {W : World} {F : World → World} (h1 : ∀ u, Below W.heap.size W (F u)) (h2 : ∀ u, Below W.heap.size W u → F u = u) {u : World}
    (h : Calls P f args (F u) fun e w' => e = .returned v ∧ Below (F u).heap.size (F u) w') : Calls P f args (F u) fun e w'' => e = .returned v ∧ ∃ u', w'' = F u' :=
  h.mono fun _ w' ⟨he, hm⟩ => ⟨he, w', (h2 _ ((h1 u).trans (hm.mono (h1 u).size))).symm⟩
theorem heap_of {W w1 : World} (hb : Below W.heap.size W w1) (b : Nat) (c : Array Value) (t : TypeId) (h : W.heap[b]? = some (.cells c t)) : w1.heap[b]? = some (.cells c t) := by
  rw [hb.block b (Array.getElem?_eq_some_iff.1 h).1, h]

theorem setRow_row {w : World} {b : Nat} {c c' : Array Value} {t : TypeId} (h : w.heap[b]? = some (.cells c t)) : (w.setRow b c').heap[b]? = some (.cells c' t) := by
  simp [World.setRow, Array.getElem?_modify, h]
theorem setRow_other {w : World} {b b' : Nat} {c' : Array Value} (h : b ≠ b') : (w.setRow b c').heap[b']? = w.heap[b']? := by
  simp [World.setRow, Array.getElem?_modify, h]
theorem setRow_size {w : World} {b : Nat} {c' : Array Value} : (w.setRow b c').heap.size = w.heap.size := by
  simp [World.setRow]
theorem Below.setRow {B : Nat} {w w1 : World} {b : Nat} {c : Array Value} (h : Below B w w1) (hb : B ≤ b) : Below B w (w1.setRow b c) :=
  ⟨h.os, h.tape, h.output, by rw [setRow_size]; exact h.size, fun k hk => by rw [setRow_other (by omega)]; exact h.block k hk⟩

theorem fz {w : World} {b k : Nat} {c : Array Value} {t : TypeId} (h : w.heap[b]? = some (.cells c t)) : w.frozen? ⟨b, k, none⟩ = false := by simp [World.frozen?, h]
theorem setCell_row {w : World} {b k : Nat} {c : Array Value} {t : TypeId} {v : Value} (h : w.heap[b]? = some (.cells c t)) : (w.setCell ⟨b, k, none⟩ v).heap[b]? = some (.cells (c.setIfInBounds k v) t) := by
  simp [World.setCell, Array.getElem?_modify, h]
theorem setCell_other {w : World} {b b' k : Nat} {v : Value} (h : b ≠ b') : (w.setCell ⟨b, k, none⟩ v).heap[b']? = w.heap[b']? := by
  simp [World.setCell, Array.getElem?_modify, h]
def SL (B : Nat) (w : World) (p : Option Addr) (L c n : Nat) : Prop := n < 2 ^ (64 * L) ∧ L ≤ c ∧ (0 < L → ∃ b o, p = some ⟨b, o, none⟩ ∧ b < B ∧ ∀ k, k < L → w.cell? ⟨b, o + k, none⟩ = some (.int .u64 (wd n k : Nat)))
theorem SL.mono {B B' : Nat} {w : World} {p : Option Addr} {L c n : Nat} (h : SL B w p L c n) (hB : B ≤ B') : SL B' w p L c n :=
  ⟨h.1, h.2.1, fun hL => by
    obtain ⟨b, o, hp, hlt, hc⟩ := h.2.2 hL
    exact ⟨b, o, hp, Nat.lt_of_lt_of_le hlt hB, hc⟩⟩
theorem SL.below {w w' : World} {p : Option Addr} {L c n B B' : Nat} (h : SL B w p L c n) (hb : Below B' w w') (hB : B ≤ B') : SL B w' p L c n := by
  refine ⟨h.1, h.2.1, fun hL => ?_⟩
  obtain ⟨b, o, hp, hlt, hc⟩ := h.2.2 hL
  refine ⟨b, o, hp, hlt, fun k hk => ?_⟩
  rw [hb.cell (p := ⟨b, o + k, none⟩) (show b < B' by omega)]
  exact hc k hk
theorem cell_size {w : World} {b o : Nat} {v : Value} (h : w.cell? ⟨b, o, none⟩ = some v) : b < w.heap.size := by
  by_cases e : b < w.heap.size
  · exact e
  · exfalso
    have : w.heap[b]? = none := Array.getElem?_eq_none (by omega)
    simp [World.cell?, this] at h
def Only (g : Nat) (w w' : World) : Prop := w'.os = w.os ∧ w'.tape = w.tape ∧ w'.output = w.output ∧ w.heap.size ≤ w'.heap.size ∧ ∀ k, k < w.heap.size → k ≠ g → w'.heap[k]? = w.heap[k]?
theorem Only.refl (g : Nat) (w : World) : Only g w w := ⟨rfl, rfl, rfl, Nat.le_refl _, fun _ _ _ => rfl⟩
theorem Only.trans {g : Nat} {a b c : World} (h : Only g a b) (k : Only g b c) : Only g a c :=
  ⟨k.1.trans h.1, k.2.1.trans h.2.1, k.2.2.1.trans h.2.2.1, Nat.le_trans h.2.2.2.1 k.2.2.2.1, fun i hi hg => (k.2.2.2.2 i (Nat.lt_of_lt_of_le hi h.2.2.2.1) hg).trans (h.2.2.2.2 i hi hg)⟩
theorem Only.size {g : Nat} {a b : World} (h : Only g a b) : a.heap.size ≤ b.heap.size := h.2.2.2.1
theorem Only.setCell {g o : Nat} {a w : World} (h : Only g a w) (u : Value) : Only g a (w.setCell ⟨g, o, none⟩ u) :=
  h.trans ⟨rfl, rfl, rfl, by simp [World.setCell], fun k _ hg => Below.heap_setCell _ _ _ _ hg⟩
theorem Only.drew {g : Nat} {a w : World} (h : Only g a w) : Only g a w.drew := h.trans ⟨rfl, rfl, rfl, Nat.le_refl _, fun _ _ _ => rfl⟩
theorem Only.row {g b : Nat} {w w' : World} {c : Array Value} {t : TypeId} (k : Only g w w') (hb : b ≠ g) (h : w.heap[b]? = some (.cells c t)) : w'.heap[b]? = some (.cells c t) := by
  rw [k.2.2.2.2 b (Array.getElem?_eq_some_iff.1 h).1 hb, h]
theorem SL.only {B g : Nat} {w w' : World} {p : Option Addr} {L c n : Nat} (h : SL B w p L c n) (k : Only g w w') (hB : B ≤ g) : SL B w' p L c n := by
  refine ⟨h.1, h.2.1, fun hL => ?_⟩
  obtain ⟨b, o, hp, hlt, hc⟩ := h.2.2 hL
  refine ⟨b, o, hp, hlt, fun i hi => ?_⟩
  have h1 := hc i hi
  rw [World.cell?_of_block (w := w) (k.2.2.2.2 b (cell_size h1) (by omega))]
  exact h1

theorem SL.cell {B : Nat} {w : World} {b o L c n : Nat} (h : SL B w (some ⟨b, o, none⟩) L c n) (k x : Nat) (hk : k < L) (hx : wd n k = x) : w.cell? ⟨b, o + k, none⟩ = some (.int .u64 (x : Nat)) := by
  obtain ⟨b', o', e, _, hc⟩ := h.2.2 (by omega)
  simp only [Option.some.injEq, Addr.mk.injEq] at e
  obtain ⟨rfl, rfl, _⟩ := e
  rw [hc k hk, hx]
theorem SL.row {w : World} {b N X c : Nat} {T : TypeId} (r : w.heap[b]? = some (.cells (cw N X) T)) (B : Nat) (hB : b < B) (hX : X < 2 ^ (64 * N)) (hc : N ≤ c) : SL B w (some ⟨b, 0, none⟩) N c X :=
  ⟨hX, hc, fun _ => ⟨b, 0, rfl, hB, fun k hk => by rw [Nat.zero_add, cell_of_row w b k _ _ _ r, cw_at N X k hk]⟩⟩

theorem bal (w : World) (o : Obj) : Below w.heap.size w (w.alloc o) := (Below.refl _ _).alloc (Nat.le_refl _) _
theorem btr {a b c : World} (h : Below a.heap.size a b) (k : Below b.heap.size b c) : Below a.heap.size a c := h.trans (k.mono h.size)

end Go.Proofs.YtaoccmopfflkmaaDoor
namespace Go.Proofs.YtaoccmopfflkmaaDoor.XMath
set_option maxRecDepth 100000
set_option maxHeartbeats 40000000
set_option maxRecDepth 100000
open WMath
def tz (n : Nat) : Nat := if h : n = 0 ∨ n % 2 = 1 then 0 else tz (n / 2) + 1
termination_by n
decreasing_by omega
def od (n : Nat) : Nat := n / 2 ^ tz n
structure XN where
  b : Bool
  n : Nat
  d : Nat
  e : Int
def XN.can (x : XN) : Prop := nl x.n ≤ 16384 ∧ nl x.d ≤ 16384 ∧ -1048576 ≤ x.e ∧ x.e ≤ 1048576 ∧ ((x.b = false ∧ x.n = 0 ∧ x.d = 1 ∧ x.e = 0) ∨ (x.n % 2 = 1 ∧ x.d % 2 = 1 ∧ Nat.gcd x.n x.d = 1))
def sgn (b : Bool) : Rat := if b then -1 else 1
def XN.val (x : XN) : Rat := sgn x.b * ((x.n : Rat) / (x.d : Rat)) * (2 : Rat) ^ x.e
def X0 : XN := ⟨false, 0, 1, 0⟩
def XZ : XN := ⟨false, 0, 0, 0⟩
theorem XN.can.d {x : XN} (h : x.can) : x.d % 2 = 1 := by rcases h.2.2.2.2 with h | h <;> omega
theorem XN.can.d0 {x : XN} (h : x.can) : x.d ≠ 0 := by have := h.d; omega
def mk (neg : Bool) (n d : Nat) (e : Int) : XN × Int :=
  if n = 0 then (X0, 0)
  else if -1048576 ≤ e + (tz n : Int) - (tz d : Int) ∧ e + (tz n : Int) - (tz d : Int) ≤ 1048576 then (⟨neg, od n / Nat.gcd (od n) (od d), od d / Nat.gcd (od n) (od d), e + (tz n : Int) - (tz d : Int)⟩, 0)
  else (XZ, 4)
theorem p2 (e : Int) : (0 : Rat) < (2 : Rat) ^ e := Rat.zpow_pos (by decide)
def sA (x y : XN) : Nat := x.n * y.d * 2 ^ (x.e - min x.e y.e).toNat
def sS (x y : XN) : Nat := if x.b = y.b then sA x y + sA y x else if sA x y < sA y x then sA y x - sA x y else sA x y - sA y x
end Go.Proofs.YtaoccmopfflkmaaDoor.XMath
namespace Go.Proofs.YtaoccmopfflkmaaDoor
set_option maxRecDepth 100000
set_option maxHeartbeats 40000000
set_option maxRecDepth 100000
open Go.RowKit WMath XMath
theorem cells4 {w : World} {g : Nat} {T : TypeId} {c : Array Value} (row : w.heap[g]? = some (.cells c T)) (k : Nat) (v : Value) (h : c[k]? = some v) : w.cell? ⟨g, k, none⟩ = some v := by
  rw [cell_of_row w g k _ _ _ row]
  exact h

theorem opn1 (w : World) (o : Obj) : (w.alloc o).heap[w.heap.size]? = some o ∧ Below w.heap.size w (w.alloc o) := ⟨heap_alloc_last _ _, (Below.refl _ _).alloc (Nat.le_refl _) _⟩
theorem opn2 (w : World) (o1 o2 : Obj) : ((w.alloc o1).alloc o2).heap[w.heap.size]? = some o1 ∧ ((w.alloc o1).alloc o2).heap[w.heap.size + 1]? = some o2 ∧ Below w.heap.size w ((w.alloc o1).alloc o2) := by
  obtain ⟨r0, b⟩ := opn1 w o1
  have z : (w.alloc o1).heap.size = w.heap.size + 1 := by simp only [size_al]
  exact ⟨by rw [heap_below _ _ _ (by omega)]; exact r0, by rw [← z]; exact heap_alloc_last _ _, b.alloc (by omega) _⟩
end Go.Proofs.YtaoccmopfflkmaaDoor
namespace Go.Proofs.YtaoccmopfflkmaaDoor
set_option maxRecDepth 100000
set_option maxHeartbeats 40000000
set_option maxRecDepth 100000
open Go.RowKit WMath
def fE (f : Int) : Int := if f = 0 then 127 else if f = 1 then 1023 else if f = 2 then 15 else if f = 3 then 16383 else 0
theorem cell7 {w : World} {g : Nat} {T : TypeId} {c : Array Value} (row : w.heap[g]? = some (.cells c T)) (k : Nat) (v : Value) (h : c[k]? = some v) : w.cell? ⟨g, k, none⟩ = some v := by
  simp [World.cell?, row, h]
theorem last7 (w : World) (o : Obj) : (w.alloc o).heap[w.heap.size]? = some o := heap_alloc_last w o

def b2 (a b : Int) : Array Value := #[.int .u64 a, .int .u64 b]

def oV (f : Int) : Nat := 2 * (fE f).toNat + 1
theorem cut7 {G C : Prop} (h : G → C) (k : G) : C := h k
theorem row_al {W : World} {b : Nat} {o : Obj} (h : W.heap[b]? = some o) (o' : Obj) : (W.alloc o').heap[b]? = some o := by
  rw [heap_below W b o' (Array.getElem?_eq_some_iff.1 h).1]; exact h
theorem row_last {W : World} {b : Nat} {o : Obj} (h : b = W.heap.size) : (W.alloc o).heap[b]? = some o := by subst h; exact heap_alloc_last W o
end Go.Proofs.YtaoccmopfflkmaaDoor
namespace Go.Proofs.YtaoccmopfflkmaaDoor
set_option maxRecDepth 100000
set_option maxHeartbeats 40000000
set_option maxRecDepth 100000
set_option linter.unusedVariables false
structure Ln where
  op : Nat
  nm : List UInt8
  opc : Nat
  rs3 : Int
  rm : Int
  rs2 : Int
  lay : Nat
  noq : Bool
  frm : Bool
  knd : Bool
  nof : Bool
  szs : Bool
structure Rw where
  op : Nat
  form : Nat
  frm : Nat
  kind : Nat
  mask : Nat
  mtch : Nat
  lay : Nat
deriving DecidableEq
def linesL : List Ln := [
  ⟨1, [102, 108], 7, -1, 0, -1, 1, false, false, false, false, true⟩,
  ⟨2, [102, 115], 39, -1, 0, -1, 2, false, false, false, false, true⟩,
  ⟨3, [102, 109, 97, 100, 100], 67, -1, -1, -1, 3, false, false, false, false, false⟩,
  ⟨4, [102, 109, 115, 117, 98], 71, -1, -1, -1, 3, false, false, false, false, false⟩,
  ⟨5, [102, 110, 109, 115, 117, 98], 75, -1, -1, -1, 3, false, false, false, false, false⟩,
  ⟨6, [102, 110, 109, 97, 100, 100], 79, -1, -1, -1, 3, false, false, false, false, false⟩,
  ⟨7, [102, 97, 100, 100], 83, 0, -1, -1, 4, false, false, false, false, false⟩,
  ⟨8, [102, 115, 117, 98], 83, 1, -1, -1, 4, false, false, false, false, false⟩,
  ⟨9, [102, 109, 117, 108], 83, 2, -1, -1, 4, false, false, false, false, false⟩,
  ⟨10, [102, 100, 105, 118], 83, 3, -1, -1, 4, false, false, false, false, false⟩,
  ⟨11, [102, 115, 113, 114, 116], 83, 11, -1, 0, 6, false, false, false, false, false⟩,
  ⟨12, [102, 115, 103, 110, 106], 83, 4, 0, -1, 5, false, false, false, false, false⟩,
  ⟨13, [102, 115, 103, 110, 106, 110], 83, 4, 1, -1, 5, false, false, false, false, false⟩,
  ⟨14, [102, 115, 103, 110, 106, 120], 83, 4, 2, -1, 5, false, false, false, false, false⟩,
  ⟨15, [102, 109, 105, 110], 83, 5, 0, -1, 5, false, false, false, false, false⟩,
  ⟨16, [102, 109, 97, 120], 83, 5, 1, -1, 5, false, false, false, false, false⟩,
  ⟨17, [102, 99, 118, 116], 83, 8, -1, 0, 6, false, true, false, false, false⟩,
  ⟨18, [102, 101, 113], 83, 20, 2, -1, 5, false, false, false, false, false⟩,
  ⟨19, [102, 108, 116], 83, 20, 1, -1, 5, false, false, false, false, false⟩,
  ⟨20, [102, 108, 101], 83, 20, 0, -1, 5, false, false, false, false, false⟩,
  ⟨21, [102, 99, 118, 116], 83, 24, -1, 0, 6, false, false, true, false, false⟩,
  ⟨22, [102, 99, 118, 116], 83, 26, -1, 0, 6, false, false, true, false, false⟩,
  ⟨23, [102, 109, 118, 46, 120], 83, 28, 0, 0, 7, true, false, false, false, false⟩,
  ⟨24, [102, 99, 108, 97, 115, 115], 83, 28, 1, 0, 7, false, false, false, false, false⟩,
  ⟨25, [102, 109, 118], 83, 30, 0, 0, 7, true, false, false, false, false⟩,
  ⟨26, [99, 115, 114, 114, 119], 115, -1, 1, -1, 8, false, false, false, true, false⟩,
  ⟨27, [99, 115, 114, 114, 115], 115, -1, 2, -1, 8, false, false, false, true, false⟩,
  ⟨28, [99, 115, 114, 114, 99], 115, -1, 3, -1, 8, false, false, false, true, false⟩,
  ⟨29, [99, 115, 114, 114, 119, 105], 115, -1, 5, -1, 9, false, false, false, true, false⟩,
  ⟨30, [99, 115, 114, 114, 115, 105], 115, -1, 6, -1, 9, false, false, false, true, false⟩,
  ⟨31, [99, 115, 114, 114, 99, 105], 115, -1, 7, -1, 9, false, false, false, true, false⟩]
def letL (f : Nat) : List UInt8 := if f = 0 then [115] else if f = 1 then [100] else if f = 2 then [104] else [113]
def knL (k : Nat) : List UInt8 := if k = 0 then [119] else if k = 1 then [119, 117] else if k = 2 then [108] else [108, 117]
def szL (f : Nat) : List UInt8 := if f = 0 then [119] else if f = 1 then [100] else if f = 2 then [104] else [113]
def fixR (r : Rw) (low width n : Nat) : Rw := { r with mask := r.mask ||| (2 ^ width - 1) * 2 ^ low, mtch := r.mtch ||| n * 2 ^ low }
def fixI (r : Rw) (low width : Nat) (n : Int) : Rw := if 0 ≤ n then fixR r low width n.toNat else r
def rmL (l : Ln) (f : Nat) : Int := if l.szs then (if f = 0 then 2 else if f = 1 then 3 else if f = 2 then 1 else 4) else l.rm
def rs2L (l : Ln) (frm k : Nat) : Int := if l.frm then (frm : Int) else if l.op = 21 ∨ l.op = 22 then (k : Int) else l.rs2
def nmL (l : Ln) (f frm k : Nat) : List UInt8 :=
  let n0 := if l.szs then l.nm ++ szL f else l.nm
  if l.frm then n0 ++ [46] ++ letL f ++ [46] ++ letL frm
  else if l.op = 21 then n0 ++ [46] ++ knL k ++ [46] ++ letL f
  else if l.op = 22 then n0 ++ [46] ++ letL f ++ [46] ++ knL k
  else if l.op = 23 then n0 ++ [46] ++ szL f
  else if l.op = 25 then n0 ++ [46] ++ szL f ++ [46, 120]
  else if !l.szs && !l.nof then n0 ++ [46] ++ letL f
  else n0
def rwL (l : Ln) (f frm k : Nat) : Rw :=
  let r1 := fixI (fixR ⟨l.op, f, frm, k, 0, 0, l.lay⟩ 0 7 l.opc) 27 5 l.rs3
  let r2 := if !l.szs && !l.nof then fixR r1 25 2 f else r1
  fixI (fixI r2 12 3 (rmL l f)) 20 5 (rs2L l frm k)
def inL (l : Ln) (f n : Nat) : List (Rw × List UInt8) :=
  if l.frm = true ∧ n ≠ f then [(rwL l f n 0, nmL l f n 0)]
  else if l.knd = true then [(rwL l f 0 n, nmL l f 0 n)]
  else if l.frm = true ∨ 0 < n then []
  else [(rwL l f 0 0, nmL l f 0 0)]
def formL (l : Ln) (f : Nat) : List (Rw × List UInt8) := if l.noq = true ∧ f = 3 ∨ l.nof = true ∧ 0 < f then [] else (List.range 4).flatMap (inL l f)
def lineL (l : Ln) : List (Rw × List UInt8) := (List.range 4).flatMap (formL l)
def allL : List (Rw × List UInt8) := linesL.flatMap lineL
theorem allL_len : allL.length = 136 := by decide +kernel
def fitsL (r : Rw) (w : Nat) : Bool := decide (w &&& r.mask = r.mtch &&& r.mask) && !(decide (r.lay = 3 ∨ r.lay = 4 ∨ r.lay = 6) && decide (w / 4096 % 8 = 5 ∨ w / 4096 % 8 = 6)) && (!decide (r.lay = 8 ∨ r.lay = 9) || decide (1 ≤ w / 1048576 ∧ w / 1048576 ≤ 3))
theorem pairsL : (allL.zipIdx.all fun p => allL.zipIdx.all fun q => decide (q.2 ≤ p.2) || decide ((p.1.1.mask &&& q.1.1.mask) &&& (p.1.1.mtch ^^^ q.1.1.mtch) ≠ 0)) = true := by decide +kernel
theorem maskL : (allL.all fun p => decide (p.1.mtch &&& p.1.mask = p.1.mtch ∧ p.1.mask < 4294967296 ∧ p.1.mtch < 4294967296)) = true := by decide +kernel
end Go.Proofs.YtaoccmopfflkmaaDoor
namespace Go.Proofs.YtaoccmopfflkmaaDoor
set_option maxRecDepth 100000
set_option maxHeartbeats 40000000
set_option maxRecDepth 100000
open Go.RowKit WMath
set_option linter.unusedSimpArgs false
set_option linter.unusedVariables false
def lnC (l : Ln) : Array Value := #[.int .u8 (l.op : Nat), .string ⟨l.nm.toArray⟩, .int .i64 (l.opc : Nat), .int .i64 l.rs3, .int .i64 l.rm, .int .i64 l.rs2, .int .u8 (l.lay : Nat), .bool l.noq, .bool l.frm, .bool l.knd, .bool l.nof, .bool l.szs]
def rwC (r : Rw) : Array Value := #[.int .u8 (r.op : Nat), .int .u8 (r.form : Nat), .int .u8 (r.frm : Nat), .int .u8 (r.kind : Nat), .int .u32 (r.mask : Nat), .int .u32 (r.mtch : Nat), .int .u8 (r.lay : Nat)]
theorem rwC_cells {w : World} {b : Nat} {r : Rw} {T : TypeId} (h : w.heap[b]? = some (.cells (rwC r) T)) : w.cell? ⟨b, 0, none⟩ = some (.int .u8 (r.op : Nat)) ∧ w.cell? ⟨b, 1, none⟩ = some (.int .u8 (r.form : Nat)) ∧ w.cell? ⟨b, 2, none⟩ = some (.int .u8 (r.frm : Nat)) ∧ w.cell? ⟨b, 3, none⟩ = some (.int .u8 (r.kind : Nat)) ∧ w.cell? ⟨b, 4, none⟩ = some (.int .u32 (r.mask : Nat)) ∧ w.cell? ⟨b, 5, none⟩ = some (.int .u32 (r.mtch : Nat)) ∧ w.cell? ⟨b, 6, none⟩ = some (.int .u8 (r.lay : Nat)) :=
  ⟨cell7 h 0 _ rfl, cell7 h 1 _ rfl, cell7 h 2 _ rfl, cell7 h 3 _ rfl, cell7 h 4 _ rfl, cell7 h 5 _ rfl, cell7 h 6 _ rfl⟩
theorem rwC_fold (r : Rw) : #[Value.int .u8 (r.op : Nat), .int .u8 (r.form : Nat), .int .u8 (r.frm : Nat), .int .u8 (r.kind : Nat), .int .u32 (r.mask : Nat), .int .u32 (r.mtch : Nat), .int .u8 (r.lay : Nat)] = rwC r := rfl
def ndC (r : Rw) (s : ByteArray) : Array Value := #[.int .u8 (r.op : Nat), .int .u8 (r.form : Nat), .int .u8 (r.frm : Nat), .int .u8 (r.kind : Nat), .int .u32 (r.mask : Nat), .int .u32 (r.mtch : Nat), .int .u8 (r.lay : Nat), .string s]
theorem rwC_new (w : World) (b : Nat) (r : Rw) (hb : b = w.heap.size) : (storeCells ⟨b, 0, none⟩ (rwC r).toList 0).run Tryd.prog (w.alloc (.cells #[.int .u8 0, .int .u8 0, .int .u8 0, .int .u8 0, .int .u32 0, .int .u32 0, .int .u8 0] 45)) = .ok () (w.alloc (.cells (rwC r) 45)) := by
  subst hb
  exact run_storeCells_new (P := Tryd.prog) w 45 #[.int .u8 0, .int .u8 0, .int .u8 0, .int .u8 0, .int .u32 0, .int .u32 0, .int .u8 0] (rwC r) (by kernel_rfl) rfl (by simp [rwC]; exact ⟨rfl, rfl, rfl, rfl, rfl, rfl, rfl⟩)
def lnsC : Array Value := (linesL.flatMap fun l => (lnC l).toList).toArray
abbrev Nm := Rw × List UInt8
def nmC (p : Nm) : List Value := (ndC p.1 ⟨p.2.toArray⟩).toList
def ndsC (l : List Nm) : List Value := l.flatMap nmC
def NdsAt (w : World) (g : Nat) (l : List Nm) : Prop := ∃ cur, w.heap[g]? = some (.cells cur 47) ∧ ∀ k p, l[k]? = some p → ∀ j u, j < 8 → (nmC p)[j]? = some u → cur[k * 8 + j]? = some u
theorem NdsAt.below {w w' : World} {g : Nat} {l : List Nm} (h : NdsAt w g l) (hb : Below w.heap.size w w') : NdsAt w' g l := by
  obtain ⟨cur, h1, h2⟩ := h
  exact ⟨cur, heap_of hb _ _ _ h1, h2⟩
theorem NdsAt.cells {w : World} {g : Nat} {l : List Nm} (h : NdsAt w g l) {k : Nat} {r : Rw} {s : List UInt8} (hp : l[k]? = some (r, s)) :
    w.cell? ⟨g, k * 8, none⟩ = some (.int .u8 (r.op : Nat)) ∧ w.cell? ⟨g, k * 8 + 1, none⟩ = some (.int .u8 (r.form : Nat)) ∧ w.cell? ⟨g, k * 8 + 2, none⟩ = some (.int .u8 (r.frm : Nat)) ∧ w.cell? ⟨g, k * 8 + 3, none⟩ = some (.int .u8 (r.kind : Nat)) ∧ w.cell? ⟨g, k * 8 + 4, none⟩ = some (.int .u32 (r.mask : Nat)) ∧ w.cell? ⟨g, k * 8 + 5, none⟩ = some (.int .u32 (r.mtch : Nat)) ∧ w.cell? ⟨g, k * 8 + 6, none⟩ = some (.int .u8 (r.lay : Nat)) ∧ w.cell? ⟨g, k * 8 + 7, none⟩ = some (.string ⟨s.toArray⟩) := by
  obtain ⟨cur, h1, h2⟩ := h
  have e := fun j (hj : j < 8) u (hu : (nmC (r, s))[j]? = some u) => cell7 h1 (k * 8 + j) u (h2 k (r, s) hp j u hj hu)
  exact ⟨e 0 (by decide) _ rfl, e 1 (by decide) _ rfl, e 2 (by decide) _ rfl, e 3 (by decide) _ rfl, e 4 (by decide) _ rfl, e 5 (by decide) _ rfl, e 6 (by decide) _ rfl, e 7 (by decide) _ rfl⟩
def rwZ : Rw := ⟨0, 0, 0, 0, 0, 0, 0⟩
def fstL (f : Nm → Bool) : Option Nm := allL.find? f
theorem fst_yes {f : Nm → Bool} {k : Nat} {p : Nm} (h : ∀ j q, j < k → allL[j]? = some q → f q = false) (hp : allL[k]? = some p) (hf : f p = true) : fstL f = some p := by
  unfold fstL
  rw [List.find?_eq_some_iff_getElem]
  obtain ⟨hk, e⟩ := List.getElem?_eq_some_iff.1 hp
  exact ⟨hf, k, hk, e, fun j hj => by rw [h j _ hj (List.getElem?_eq_getElem (by omega))]; rfl⟩
theorem fst_no {f : Nm → Bool} (h : ∀ j q, j < 136 → allL[j]? = some q → f q = false) : fstL f = none := by
  unfold fstL
  rw [List.find?_eq_none]
  intro p hp
  obtain ⟨j, hj, e⟩ := List.getElem_of_mem hp
  rw [h j p (by rw [allL_len] at hj; exact hj) (by rw [List.getElem?_eq_getElem hj, e])]
  decide
def rwE (r q : Rw) : Bool := (((r.op : Nat) : Int) == ((q.op : Nat) : Int)) && (((r.form : Nat) : Int) == ((q.form : Nat) : Int)) && (((r.frm : Nat) : Int) == ((q.frm : Nat) : Int)) && (((r.kind : Nat) : Int) == ((q.kind : Nat) : Int)) && (((r.mask : Nat) : Int) == ((q.mask : Nat) : Int)) && (((r.mtch : Nat) : Int) == ((q.mtch : Nat) : Int)) && (((r.lay : Nat) : Int) == ((q.lay : Nat) : Int))
set_option maxRecDepth 100000 in
theorem eqr (r q : Rw) (w : World) : (Op.equalIn 10000 45 (.agg (rwC r)) (.agg (rwC q))).run Tryd.prog w = .ok (rwE r q) w := by
  have q0 : ∀ (r : Rw), (part 22 (rwC r) 0).run Tryd.prog w = .ok (.int .u8 (r.op : Nat)) w := fun r => by kernel_rfl
  have i0 : (Op.equalIn 9999 22 (.int .u8 (r.op : Nat)) (.int .u8 (q.op : Nat))).run Tryd.prog w = .ok (((r.op : Nat) : Int) == ((q.op : Nat) : Int)) w := run_equalIn_int w 9998 22 .u8 .u8 _ _ Tryd.underlying22
  have n0 : ("Op" = "_") = False := by simp
  have q1 : ∀ (r : Rw), (part 23 (rwC r) 1).run Tryd.prog w = .ok (.int .u8 (r.form : Nat)) w := fun r => by kernel_rfl
  have i1 : (Op.equalIn 9999 23 (.int .u8 (r.form : Nat)) (.int .u8 (q.form : Nat))).run Tryd.prog w = .ok (((r.form : Nat) : Int) == ((q.form : Nat) : Int)) w := run_equalIn_int w 9998 23 .u8 .u8 _ _ Tryd.underlying23
  have n1 : ("Form" = "_") = False := by simp
  have q2 : ∀ (r : Rw), (part 23 (rwC r) 2).run Tryd.prog w = .ok (.int .u8 (r.frm : Nat)) w := fun r => by kernel_rfl
  have i2 : (Op.equalIn 9999 23 (.int .u8 (r.frm : Nat)) (.int .u8 (q.frm : Nat))).run Tryd.prog w = .ok (((r.frm : Nat) : Int) == ((q.frm : Nat) : Int)) w := run_equalIn_int w 9998 23 .u8 .u8 _ _ Tryd.underlying23
  have n2 : ("From" = "_") = False := by simp
  have q3 : ∀ (r : Rw), (part 24 (rwC r) 3).run Tryd.prog w = .ok (.int .u8 (r.kind : Nat)) w := fun r => by kernel_rfl
  have i3 : (Op.equalIn 9999 24 (.int .u8 (r.kind : Nat)) (.int .u8 (q.kind : Nat))).run Tryd.prog w = .ok (((r.kind : Nat) : Int) == ((q.kind : Nat) : Int)) w := run_equalIn_int w 9998 24 .u8 .u8 _ _ Tryd.underlying24
  have n3 : ("Kind" = "_") = False := by simp
  have q4 : ∀ (r : Rw), (part 28 (rwC r) 4).run Tryd.prog w = .ok (.int .u32 (r.mask : Nat)) w := fun r => by kernel_rfl
  have i4 : (Op.equalIn 9999 28 (.int .u32 (r.mask : Nat)) (.int .u32 (q.mask : Nat))).run Tryd.prog w = .ok (((r.mask : Nat) : Int) == ((q.mask : Nat) : Int)) w := run_equalIn_int w 9998 28 .u32 .u32 _ _ Tryd.underlying28
  have n4 : ("Mask" = "_") = False := by simp
  have q5 : ∀ (r : Rw), (part 28 (rwC r) 5).run Tryd.prog w = .ok (.int .u32 (r.mtch : Nat)) w := fun r => by kernel_rfl
  have i5 : (Op.equalIn 9999 28 (.int .u32 (r.mtch : Nat)) (.int .u32 (q.mtch : Nat))).run Tryd.prog w = .ok (((r.mtch : Nat) : Int) == ((q.mtch : Nat) : Int)) w := run_equalIn_int w 9998 28 .u32 .u32 _ _ Tryd.underlying28
  have n5 : ("Match" = "_") = False := by simp
  have q6 : ∀ (r : Rw), (part 43 (rwC r) 6).run Tryd.prog w = .ok (.int .u8 (r.lay : Nat)) w := fun r => by kernel_rfl
  have i6 : (Op.equalIn 9999 43 (.int .u8 (r.lay : Nat)) (.int .u8 (q.lay : Nat))).run Tryd.prog w = .ok (((r.lay : Nat) : Int) == ((q.lay : Nat) : Int)) w := run_equalIn_int w 9998 43 .u8 .u8 _ _ Tryd.underlying43
  have n6 : ("Layout" = "_") = False := by simp
  have st : Tryd.prog.stoodInHeld 45 = false := by kernel_rfl
  rw [show (10000 : Nat) = 9999 + 1 from rfl]
  unfold Op.equalIn
  simp only [Sem.run_bind, run_underlying Tryd.underlying45, Result.andThen_ok]
  rw [show (Sem.run Tryd.prog program w) = .ok Tryd.prog w from rfl]
  simp only [Result.andThen_ok, st, Bool.false_eq_true, if_false]
  have fo : ∀ (l : List Field) (b : Field → (Option Bool × Unit) → Sem (ForInStep (Option Bool × Unit))), (forIn l.toArray (none, ()) b : Sem (Option Bool × Unit)) = forIn l (none, ()) b := fun l b => by simp
  simp only [fo, List.forIn_cons, List.forIn_nil, ne_eq, n0, n1, n2, n3, n4, n5, n6, not_false_eq_true, if_true]
  unfold rwE
  obtain ⟨b0, h0⟩ : ∃ x, (((r.op : Nat) : Int) == ((q.op : Nat) : Int)) = x := ⟨_, rfl⟩
  rw [h0] at i0
  obtain ⟨b1, h1⟩ : ∃ x, (((r.form : Nat) : Int) == ((q.form : Nat) : Int)) = x := ⟨_, rfl⟩
  rw [h1] at i1
  obtain ⟨b2, h2⟩ : ∃ x, (((r.frm : Nat) : Int) == ((q.frm : Nat) : Int)) = x := ⟨_, rfl⟩
  rw [h2] at i2
  obtain ⟨b3, h3⟩ : ∃ x, (((r.kind : Nat) : Int) == ((q.kind : Nat) : Int)) = x := ⟨_, rfl⟩
  rw [h3] at i3
  obtain ⟨b4, h4⟩ : ∃ x, (((r.mask : Nat) : Int) == ((q.mask : Nat) : Int)) = x := ⟨_, rfl⟩
  rw [h4] at i4
  obtain ⟨b5, h5⟩ : ∃ x, (((r.mtch : Nat) : Int) == ((q.mtch : Nat) : Int)) = x := ⟨_, rfl⟩
  rw [h5] at i5
  obtain ⟨b6, h6⟩ : ∃ x, (((r.lay : Nat) : Int) == ((q.lay : Nat) : Int)) = x := ⟨_, rfl⟩
  rw [h6] at i6
  rw [h0, h1, h2, h3, h4, h5, h6]
  cases b0
  · simp only [Sem.run_bind, Sem.run_pure, Result.andThen_ok, Bool.not_false, Bool.not_true, Bool.false_eq_true, if_false, if_true, Bool.false_and, Bool.true_and, q0, i0]
  cases b1
  · simp only [Sem.run_bind, Sem.run_pure, Result.andThen_ok, Bool.not_false, Bool.not_true, Bool.false_eq_true, if_false, if_true, Bool.false_and, Bool.true_and, q0, i0, q1, i1]
  cases b2
  · simp only [Sem.run_bind, Sem.run_pure, Result.andThen_ok, Bool.not_false, Bool.not_true, Bool.false_eq_true, if_false, if_true, Bool.false_and, Bool.true_and, q0, i0, q1, i1, q2, i2]
  cases b3
  · simp only [Sem.run_bind, Sem.run_pure, Result.andThen_ok, Bool.not_false, Bool.not_true, Bool.false_eq_true, if_false, if_true, Bool.false_and, Bool.true_and, q0, i0, q1, i1, q2, i2, q3, i3]
  cases b4
  · simp only [Sem.run_bind, Sem.run_pure, Result.andThen_ok, Bool.not_false, Bool.not_true, Bool.false_eq_true, if_false, if_true, Bool.false_and, Bool.true_and, q0, i0, q1, i1, q2, i2, q3, i3, q4, i4]
  cases b5
  · simp only [Sem.run_bind, Sem.run_pure, Result.andThen_ok, Bool.not_false, Bool.not_true, Bool.false_eq_true, if_false, if_true, Bool.false_and, Bool.true_and, q0, i0, q1, i1, q2, i2, q3, i3, q4, i4, q5, i5]
  cases b6
  · simp only [Sem.run_bind, Sem.run_pure, Result.andThen_ok, Bool.not_false, Bool.not_true, Bool.false_eq_true, if_false, if_true, Bool.false_and, Bool.true_and, q0, i0, q1, i1, q2, i2, q3, i3, q4, i4, q5, i5, q6, i6]
  simp only [Sem.run_bind, Sem.run_pure, Result.andThen_ok, Bool.not_false, Bool.not_true, Bool.false_eq_true, if_false, if_true, Bool.false_and, Bool.true_and, q0, i0, q1, i1, q2, i2, q3, i3, q4, i4, q5, i5, q6, i6]
def ofB (o f g k : Int) (p : Nm) : Bool := ((p.1.op : Int) == o) && ((p.1.form : Int) == f) && ((p.1.frm : Int) == g) && ((p.1.kind : Int) == k)
def OutAt (w0 wr : World) (v : Value) (l : List Nm) : Prop := wr.ownsRow (w0.heap.size + 1) 47 8 v l.length (ndsC l) ∧ Below w0.heap.size w0 wr ∧ wr.heap[w0.heap.size]? = some (.cells lnsC 78)
theorem OutAt.below {w0 w w' : World} {v : Value} {l : List Nm} (h : OutAt w0 w v l) (hb : Below w.heap.size w w') : OutAt w0 w' v l := by
  obtain ⟨h1, h2, h3⟩ := h
  refine ⟨⟨h1.1, ?_⟩, btr h2 hb, heap_of hb _ _ _ h3⟩
  rcases h1.2 with q | ⟨g, cap, cur, a1, a2, a3, a4⟩
  · exact Or.inl q
  · exact Or.inr ⟨g, cap, cur, a1, a2, heap_of hb _ _ _ a3, a4⟩
theorem OutAt.keep {w1 w3 : World} {v v' : Value} {o : Obj} {g : Nat} {c : Array Value} {T : TypeId} (hr : w1.heap[g]? = some (.cells c T)) (hn : v.ownBlock ≠ some g) (hg : (w1.alloc o).grownBy w3 v.ownBlock) (hb : v'.ownBlock = v.ownBlock ∨ v'.ownBlock = some (w1.alloc o).heap.size) : w3.heap[g]? = some (.cells c T) ∧ v'.ownBlock ≠ some g := by
  have lt := (Array.getElem?_eq_some_iff.1 hr).1
  refine ⟨?_, ?_⟩
  · rw [hg.block g (by simp only [size_al]; omega) (fun z => hn z.symm)]
    exact heap_of (bal w1 _) _ _ _ hr
  · rcases hb with q | q
    · rw [q]; exact hn
    · rw [q]; intro z; simp only [size_al] at z; injection z with z; omega
def mdL (l : Nat) : Bool := decide (l = 3 ∨ l = 4 ∨ l = 6)
def rmB (x : Nat) : Bool := decide (x / 4096 % 8 = 5 ∨ x / 4096 % 8 = 6)
def crB (x : Nat) : Bool := decide (1 ≤ x / 1048576 ∧ x / 1048576 ≤ 3)
theorem fits_parts (r : Rw) (x : Nat) (h : x &&& r.mask = r.mtch &&& r.mask) : fitsL r x = (!(mdL r.lay && rmB x) && (!decide (r.lay = 8 ∨ r.lay = 9) || crB x)) := by
  unfold fitsL mdL rmB crB
  rw [decide_eq_true h, Bool.true_and]
theorem fit24 (p : Nm) (hp : p ∈ allL) : p.1.mask < 4294967296 ∧ p.1.mtch < 4294967296 := by
  have := List.all_eq_true.1 maskL p hp
  simp only [decide_eq_true_iff] at this
  exact this.2
def fdL (x : Nat) : Option Nm := fstL fun p => fitsL p.1 x
def ndO (o : Option Nm) : Nm := o.getD (rwZ, [])
def erO (o : Option Nm) : Int := if o.isSome then 0 else 240
def ofR24 (o f g k : Int) : Option Nm := if o < 1 ∨ 31 < o then none else fstL (ofB o f g k)
def erF (o f g k : Int) : Int := if o < 1 ∨ 31 < o then 2 else erO (fstL (ofB o f g k))
theorem pair24 {j k : Nat} {p q : Nm} (hp : allL[j]? = some p) (hq : allL[k]? = some q) (h : j < k) : (p.1.mask &&& q.1.mask) &&& (p.1.mtch ^^^ q.1.mtch) ≠ 0 := by
  have a := List.all_eq_true.1 pairsL (p, j) (List.mem_zipIdx_iff_getElem?.2 hp)
  have b := List.all_eq_true.1 a (q, k) (List.mem_zipIdx_iff_getElem?.2 hq)
  simp only [Bool.or_eq_true, decide_eq_true_eq] at b
  rcases b with b | b
  · omega
  · exact b
theorem fits_mask {r : Rw} {x : Nat} (h : fitsL r x = true) : x &&& r.mask = r.mtch &&& r.mask := by
  unfold fitsL at h
  simp only [Bool.and_eq_true, decide_eq_true_eq] at h
  exact h.1.1
theorem lt24 {x j k : Nat} {p q : Nm} (hp : allL[j]? = some p) (hq : allL[k]? = some q) (h1 : fitsL p.1 x = true) (h2 : fitsL q.1 x = true) : ¬ j < k := by
  intro h
  apply pair24 hp hq h
  have e1 := fits_mask h1
  have e2 := fits_mask h2
  apply Nat.eq_of_testBit_eq
  intro i
  have t1 := congrArg (Nat.testBit · i) e1
  have t2 := congrArg (Nat.testBit · i) e2
  simp only [Nat.testBit_and, Nat.testBit_xor, Nat.zero_testBit] at t1 t2 ⊢
  revert t1 t2
  cases x.testBit i <;> cases p.1.mask.testBit i <;> cases q.1.mask.testBit i <;> cases p.1.mtch.testBit i <;> cases q.1.mtch.testBit i <;> decide
theorem one24 {x j k : Nat} {p q : Nm} (hp : allL[j]? = some p) (hq : allL[k]? = some q) (h1 : fitsL p.1 x = true) (h2 : fitsL q.1 x = true) : j = k := by
  have a := lt24 hp hq h1 h2
  have b := lt24 hq hp h2 h1
  omega
theorem fd_some {x j : Nat} {p : Nm} (hp : allL[j]? = some p) (h : fitsL p.1 x = true) : fdL x = some p :=
  fst_yes (fun i q hi hq => by
    cases c : fitsL q.1 x
    · rfl
    · exact absurd (one24 hq hp c h) (by omega)) hp h
def RwsAt (w : World) (g a : Nat) (l : List Nm) : Prop := ∃ cur, w.heap[g]? = some (.cells cur 45) ∧ ∀ k p, a ≤ k → l[k]? = some p → ∀ j u, j < 7 → (rwC p.1)[j]? = some u → cur[k * 7 + j]? = some u
theorem RwsAt.below {w w' : World} {g a : Nat} {l : List Nm} (h : RwsAt w g a l) (hb : Below w.heap.size w w') : RwsAt w' g a l := by
  obtain ⟨cur, h1, h2⟩ := h
  exact ⟨cur, heap_of hb _ _ _ h1, h2⟩
theorem RwsAt.cells {w : World} {g a : Nat} {l : List Nm} (h : RwsAt w g a l) {k : Nat} {r : Rw} {s : List UInt8} (ha : a ≤ k) (hp : l[k]? = some (r, s)) :
    w.cell? ⟨g, k * 7, none⟩ = some (.int .u8 (r.op : Nat)) ∧ w.cell? ⟨g, k * 7 + 1, none⟩ = some (.int .u8 (r.form : Nat)) ∧ w.cell? ⟨g, k * 7 + 2, none⟩ = some (.int .u8 (r.frm : Nat)) ∧ w.cell? ⟨g, k * 7 + 3, none⟩ = some (.int .u8 (r.kind : Nat)) ∧ w.cell? ⟨g, k * 7 + 4, none⟩ = some (.int .u32 (r.mask : Nat)) ∧ w.cell? ⟨g, k * 7 + 5, none⟩ = some (.int .u32 (r.mtch : Nat)) ∧ w.cell? ⟨g, k * 7 + 6, none⟩ = some (.int .u8 (r.lay : Nat)) := by
  obtain ⟨cur, h1, h2⟩ := h
  have e := fun j (hj : j < 7) u (hu : (rwC r)[j]? = some u) => cell7 h1 (k * 7 + j) u (h2 k (r, s) ha hp j u hj hu)
  exact ⟨e 0 (by decide) _ rfl, e 1 (by decide) _ rfl, e 2 (by decide) _ rfl, e 3 (by decide) _ rfl, e 4 (by decide) _ rfl, e 5 (by decide) _ rfl, e 6 (by decide) _ rfl⟩
def OwnsRws (w w' : World) (v : Value) : Prop := ∃ g cap, v = .slice (some ⟨g, 0, none⟩) 136 cap ∧ w.heap.size ≤ g ∧ RwsAt w' g 0 allL ∧ Below w.heap.size w w'
def FoundTo (x k n : Nat) (o : Rw) : Prop := (n = 0 ∧ o = rwZ ∧ ∀ j p, j < k → allL[j]? = some p → fitsL p.1 x = false) ∨ (n = 1 ∧ ∃ j p, j < k ∧ allL[j]? = some p ∧ fitsL p.1 x = true ∧ o = p.1)
theorem FoundTo.no {x k n : Nat} {o : Rw} (h : FoundTo x k n o) {p : Nm} (hp : allL[k]? = some p) (hf : fitsL p.1 x = false) : FoundTo x (k + 1) n o := by
  rcases h with ⟨a, b, c⟩ | ⟨a, j, q, c, d, e, f⟩
  · refine Or.inl ⟨a, b, fun j q hj hq => ?_⟩
    by_cases z : j < k
    · exact c j q z hq
    · obtain rfl : j = k := by omega
      rw [hp] at hq
      cases hq
      exact hf
  · exact Or.inr ⟨a, j, q, by omega, d, e, f⟩
theorem FoundTo.yes {x k n : Nat} {o : Rw} (h : FoundTo x k n o) {p : Nm} (hp : allL[k]? = some p) (hf : fitsL p.1 x = true) : n = 0 ∧ FoundTo x (k + 1) (n + 1) p.1 := by
  rcases h with ⟨a, b, c⟩ | ⟨a, j, q, c, d, e, f⟩
  · exact ⟨a, Or.inr ⟨by omega, k, p, by omega, hp, hf, rfl⟩⟩
  · exact absurd (one24 d hp e hf) (by omega)
theorem FoundTo.fin {x n : Nat} {o : Rw} (h : FoundTo x 136 n o) : n ≤ 1 ∧ (fdL x).isSome = decide (n = 1) ∧ (ndO (fdL x)).1 = o := by
  rcases h with ⟨rfl, rfl, c⟩ | ⟨rfl, j, q, c, d, e, rfl⟩
  · have z : fdL x = none := fst_no c
    rw [z]
    exact ⟨by omega, rfl, rfl⟩
  · rw [fd_some d e]
    exact ⟨by omega, rfl, rfl⟩
theorem RwsAt.set {w : World} {g a o : Nat} {l : List Nm} {v : Value} (h : RwsAt w g a l) (ho : o < a * 7) : RwsAt (w.setCell ⟨g, o, none⟩ v) g a l := by
  obtain ⟨cur, h1, h2⟩ := h
  refine ⟨_, setCell_row h1, fun k p hk hp j u hj hu => ?_⟩
  rw [Array.getElem?_setIfInBounds_ne (by omega)]
  exact h2 k p hk hp j u hj hu
end Go.Proofs.YtaoccmopfflkmaaDoor
namespace Go.Proofs.YtaoccmopfflkmaaDoor
set_option maxRecDepth 100000
set_option maxHeartbeats 40000000
set_option maxRecDepth 100000
open Go.RowKit WMath
set_option linter.unusedSimpArgs false
set_option linter.unusedVariables false
open Go.Maps
def NmsAt (w : World) (b k : Nat) : Prop := ∃ (n : Nat) (D : DataW Unit), n ≤ k ∧ w.ownsMap Tryd.prog 9 (plainElem Tryd.prog 4) b n D ∧ ∀ j p, k ≤ j → allL[j]? = some p → D.atKey (.string p.2) (.lit (.bool false)) = .lit (.bool false)
theorem NmsAt.below {w w' : World} {b k : Nat} (h : NmsAt w b k) (hb : Below w.heap.size w w') : NmsAt w' b k := by
  obtain ⟨n, D, hn, ho, hd⟩ := h
  have lt := ho.lt
  obtain ⟨es, clock, h1, h2, h3, h4⟩ := ho
  exact ⟨n, D, hn, ⟨es, clock, (hb.block b lt).trans h1, h2, h3, h4⟩, hd⟩
theorem NmsAt.same {w w' : World} {b k : Nat} (h : NmsAt w b k) (hb : w'.heap[b]? = w.heap[b]?) : NmsAt w' b k := by
  obtain ⟨n, D, hn, ⟨es, clock, h1, h2, h3, h4⟩, hd⟩ := h
  exact ⟨n, D, hn, ⟨es, clock, hb.trans h1, h2, h3, h4⟩, hd⟩
end Go.Proofs.YtaoccmopfflkmaaDoor
namespace Go.Proofs.YtaoccmopfflkmaaDoor
set_option maxRecDepth 100000
set_option maxHeartbeats 40000000
set_option maxRecDepth 100000
open Go.RowKit WMath
set_option linter.unusedSimpArgs false
set_option linter.unusedVariables false
def RwOk (q : Rw) : Prop := q.op < 256 ∧ q.form < 256 ∧ q.frm < 256 ∧ q.kind < 256 ∧ q.mask < 4294967296 ∧ q.mtch < 4294967296 ∧ q.lay < 256
theorem okL : (allL.all fun p => decide (p.1.op < 256 ∧ p.1.form < 256 ∧ p.1.frm < 256 ∧ p.1.kind < 256 ∧ p.1.mask < 4294967296 ∧ p.1.mtch < 4294967296 ∧ p.1.lay < 256)) = true := by decide +kernel
theorem ok24 {p : Nm} (hp : p ∈ allL) : RwOk p.1 := by
  unfold RwOk
  exact of_decide_eq_true (List.all_eq_true.1 okL p hp)
end Go.Proofs.YtaoccmopfflkmaaDoor
namespace Go.Proofs.YtaoccmopfflkmaaDoor
set_option maxRecDepth 100000
set_option maxHeartbeats 40000000
set_option maxRecDepth 100000
open Go.RowKit Go.Shelf WMath
set_option linter.unusedVariables false
set_option linter.unusedSimpArgs false
attribute [local go_sem] Oper.semAt_some

theorem row_grq {W W' : World} {row : Option Nat} {B g : Nat} {o : Obj} (h : W.heap[g]? = some o) (hg : W.grownBy W' row) (hr : ∀ r, row = some r → B ≤ r) (hb : g < B) : W'.heap[g]? = some o := by
  rw [hg.block g (Array.getElem?_eq_some_iff.1 h).1 (fun e => by have := hr g e.symm; omega)]
  exact h
end Go.Proofs.YtaoccmopfflkmaaDoor
namespace Go.Proofs.YtaoccmopfflkmaaDoor
set_option maxRecDepth 100000
set_option maxHeartbeats 40000000
set_option maxRecDepth 100000
open Go.RowKit WMath
set_option linter.unusedVariables false
structure TopK (B : Nat) (W W' : World) : Prop where
  size : W.heap.size ≤ W'.heap.size
  same : ∀ k, B ≤ k → k < W.heap.size → W'.heap[k]? = W.heap[k]?
theorem TopK.refl (B : Nat) (W : World) : TopK B W W := ⟨Nat.le_refl _, fun _ _ _ => rfl⟩
theorem TopK.trans {B : Nat} {X Y Z : World} (h : TopK B X Y) (k : TopK B Y Z) : TopK B X Z :=
  ⟨Nat.le_trans h.size k.size, fun i a b => (k.same i a (Nat.lt_of_lt_of_le b h.size)).trans (h.same i a b)⟩
theorem TopK.mono {B C : Nat} {X Y : World} (h : TopK B X Y) (c : B ≤ C) : TopK C X Y := ⟨h.size, fun i a b => h.same i (Nat.le_trans c a) b⟩
theorem TopK.grown {B : Nat} {W W' : World} {row : Option Nat} (hg : W.grownBy W' row) (hr : ∀ r, row = some r → r < B) : TopK B W W' :=
  ⟨hg.size, fun k a b => hg.block k b (fun e => by have := hr k e.symm; omega)⟩
theorem TopK.setCell {B : Nat} (W : World) (b i : Nat) (v : Value) (h : b < B) : TopK B W (W.setCell ⟨b, i, none⟩ v) := by
  refine ⟨?_, fun k a c => setCell_other (by omega)⟩
  exact ((Below.refl 0 W).setCell (p := ⟨b, i, none⟩) (Nat.zero_le _) v).size
theorem TopK.alloc {B : Nat} (W : World) (o : Obj) : TopK B W (W.alloc o) :=
  ⟨((Below.refl 0 W).alloc (Nat.zero_le _) o).size, fun k a b => Below.heap_alloc W o k b⟩
theorem TopK.putObj {B : Nat} (W : World) (l : Nat) (o : Obj) (h : l < B) : TopK B W (W.putObj l o) := .grown (grownBy_putObj' W l o) (fun r e => by cases e; exact h)
theorem TopK.below {B : Nat} {W W' : World} (h : Below W.heap.size W W') : TopK B W W' := ⟨h.size, fun k a b => h.block k b⟩
theorem TopK.row {B : Nat} {W W' : World} (h : TopK B W W') {k : Nat} {o : Obj} (a : B ≤ k) (hk : W.heap[k]? = some o) : W'.heap[k]? = some o := (h.same k a (Array.getElem?_eq_some_iff.1 hk).1).trans hk
end Go.Proofs.YtaoccmopfflkmaaDoor
namespace Go.Proofs.YtaoccmopfflkmaaDoor
set_option maxRecDepth 100000
set_option maxHeartbeats 40000000
set_option maxRecDepth 100000
set_option linter.unusedVariables false
structure Pl where
  nm : List UInt8
  opc : Nat
  rs3 : Nat
  rm : Nat
  lay : Nat
deriving DecidableEq
def plL : List Pl := [
  ⟨[], 0, 0, 0, 0⟩,
  ⟨[102, 108, 77], 7, 0, 0, 1⟩,
  ⟨[102, 115, 77], 39, 0, 0, 2⟩,
  ⟨[102, 109, 97, 100, 100, 46, 70], 67, 0, 0, 3⟩,
  ⟨[102, 109, 115, 117, 98, 46, 70], 71, 0, 0, 3⟩,
  ⟨[102, 110, 109, 115, 117, 98, 46, 70], 75, 0, 0, 3⟩,
  ⟨[102, 110, 109, 97, 100, 100, 46, 70], 79, 0, 0, 3⟩,
  ⟨[102, 97, 100, 100, 46, 70], 83, 0, 0, 4⟩,
  ⟨[102, 115, 117, 98, 46, 70], 83, 1, 0, 4⟩,
  ⟨[102, 109, 117, 108, 46, 70], 83, 2, 0, 4⟩,
  ⟨[102, 100, 105, 118, 46, 70], 83, 3, 0, 4⟩,
  ⟨[102, 115, 113, 114, 116, 46, 70], 83, 11, 0, 6⟩,
  ⟨[102, 115, 103, 110, 106, 46, 70], 83, 4, 0, 5⟩,
  ⟨[102, 115, 103, 110, 106, 110, 46, 70], 83, 4, 1, 5⟩,
  ⟨[102, 115, 103, 110, 106, 120, 46, 70], 83, 4, 2, 5⟩,
  ⟨[102, 109, 105, 110, 46, 70], 83, 5, 0, 5⟩,
  ⟨[102, 109, 97, 120, 46, 70], 83, 5, 1, 5⟩,
  ⟨[102, 99, 118, 116, 46, 70, 46, 71], 83, 8, 0, 6⟩,
  ⟨[102, 101, 113, 46, 70], 83, 20, 2, 5⟩,
  ⟨[102, 108, 116, 46, 70], 83, 20, 1, 5⟩,
  ⟨[102, 108, 101, 46, 70], 83, 20, 0, 5⟩,
  ⟨[102, 99, 118, 116, 46, 75, 46, 70], 83, 24, 0, 6⟩,
  ⟨[102, 99, 118, 116, 46, 70, 46, 75], 83, 26, 0, 6⟩,
  ⟨[102, 109, 118, 46, 120, 46, 77], 83, 28, 0, 7⟩,
  ⟨[102, 99, 108, 97, 115, 115, 46, 70], 83, 28, 1, 7⟩,
  ⟨[102, 109, 118, 46, 77, 46, 120], 83, 30, 0, 7⟩,
  ⟨[99, 115, 114, 114, 119], 115, 0, 1, 8⟩,
  ⟨[99, 115, 114, 114, 115], 115, 0, 2, 8⟩,
  ⟨[99, 115, 114, 114, 99], 115, 0, 3, 8⟩,
  ⟨[99, 115, 114, 114, 119, 105], 115, 0, 5, 9⟩,
  ⟨[99, 115, 114, 114, 115, 105], 115, 0, 6, 9⟩,
  ⟨[99, 115, 114, 114, 99, 105], 115, 0, 7, 9⟩]
def plZ : Pl := ⟨[], 0, 0, 0, 0⟩
def plN (o : Nat) : Pl := plL[o]?.getD plZ
def fxL : List Nat := [0, 28799, 28799, 100663423, 4261412991, 4261441663, 4293918847, 4293947519, 28799, 28799]
def fxN (l : Nat) : Nat := fxL[l]?.getD 0
def wdL : List Nat := [2, 3, 1, 4]
def wdN (f : Nat) : Nat := wdL[f]?.getD 0
structure Fd where
  opc : Nat
  rm : Nat
  rs2 : Nat
  form : Nat
  rs3 : Nat
deriving DecidableEq
def cutF (w : Nat) : Fd := ⟨w % 128, w / 4096 % 8, w / 1048576 % 32, w / 33554432 % 4, w / 134217728 % 32⟩
def wordF (f : Fd) : Nat := (((f.opc ||| f.rm * 4096) ||| f.rs2 * 1048576) ||| f.form * 33554432) ||| f.rs3 * 134217728
def cnQ (o : Nat) : Nat × Nat × Nat :=
  if (plN o).lay = 0 then (0, 0, 0) else if (plN o).lay = 8 ∨ (plN o).lay = 9 then (1, 1, 1) else if o = 23 ∨ o = 25 then (3, 1, 1) else if o = 17 then (4, 4, 1) else if o = 21 ∨ o = 22 then (4, 1, 4) else (4, 1, 1)
def rmP (o f : Nat) : Nat := if (plN o).lay = 1 ∨ (plN o).lay = 2 then wdN f else (plN o).rm
def fdP (o f g k : Nat) : Fd := ⟨(plN o).opc, rmP o f, g ||| k, f, (plN o).rs3⟩
def rwP24 (o f g k : Nat) : Rw := ⟨o, f, g, k, fxN (plN o).lay, wordF (fdP o f g k) &&& fxN (plN o).lay, (plN o).lay⟩
def inP24 (o f g k : Nat) : List Rw := if o = 17 ∧ g = f then [] else [rwP24 o f g k]
def kP24 (o f g k : Nat) : List Rw := (List.range k).flatMap (inP24 o f g)
def gP24 (o f g : Nat) : List Rw := (List.range g).flatMap fun g => kP24 o f g (cnQ o).2.2
def fP24 (o f : Nat) : List Rw := (List.range f).flatMap fun f => gP24 o f (cnQ o).2.1
def rwsO (o : Nat) : List Rw := fP24 o (cnQ o).1
theorem rwsO_all : (List.range 32).flatMap rwsO = allL.map (·.1) := by decide +kernel
theorem rwsO_out {o : Nat} (h : 32 ≤ o) : rwsO o = [] := by
  have e : plN o = plZ := by unfold plN; rw [List.getElem?_eq_none (by show 32 ≤ o; exact h)]; rfl
  simp [rwsO, cnQ, e, plZ, fP24]
theorem fP24_next (o f : Nat) : fP24 o (f + 1) = fP24 o f ++ gP24 o f (cnQ o).2.1 := by simp [fP24, List.range_succ]
theorem gP_next (o f g : Nat) : gP24 o f (g + 1) = gP24 o f g ++ kP24 o f g (cnQ o).2.2 := by simp [gP24, List.range_succ]
theorem kP_next (o f g k : Nat) : kP24 o f g (k + 1) = kP24 o f g k ++ inP24 o f g k := by simp [kP24, List.range_succ]
theorem cnQ_le : ((List.range 32).all fun o => decide ((cnQ o).1 ≤ 4 ∧ (cnQ o).2.1 ≤ 4 ∧ (cnQ o).2.2 ≤ 4)) = true := by decide +kernel
end Go.Proofs.YtaoccmopfflkmaaDoor
