/-
  What the functions that the statement reaches return: part 1 (Mx, Wide0, Quiet2, Frame6, Nat1, List0, List2, List6, Xmath, X1, IA, IC, IE, IF, FrameA, IG, II).
-/
import Derived.Laws.MathBits
import Derived.Laws.Bits64b
import Derived.Laws.BitsAllLaws
import Derived.Laws.ShiftsVarLaws
import Derived.WalkKit
import Derived.ProofKit
import Derived.Lib.BitFns
import Derived.Deep.WholeRow
import Derived.Below
import Derived.Test.YtinagedilgihjaaDoorRows
import Derived.WalkLawsBesides
import Derived.ScopeJumps
import Derived.Lib.TrailingZeros
import Derived.Deep.QuietTactic
import Derived.BigQuiet
import Derived.ChangeKeysEq
import Derived.Deep.RegionWith
import Derived.OpenShut
import Derived.Laws.IdiomArrays
import Derived.Carry
import Derived.Deep.RegionLaw
import Derived.Laws.CopyOwn
import Derived.Deep.OwnRows
import Derived.Laws.BytesString
import Derived.Laws.Cover1
import Derived.ChangeMaps5
namespace Go.Proofs.YtinagedilgihjaaDoor.WMath
set_option maxRecDepth 100000
set_option maxHeartbeats 40000000
set_option maxRecDepth 100000
theorem two64 : (18446744073709551616 : Nat) = 2 ^ 64 := by decide
end Go.Proofs.YtinagedilgihjaaDoor.WMath
namespace Go.Proofs.YtinagedilgihjaaDoor.WMath
set_option maxRecDepth 100000
set_option maxHeartbeats 40000000
set_option maxRecDepth 100000

def Box (p : Prop) : Prop := p ∨ False
theorem box {p : Prop} (h : p) : Box p := Or.inl h
theorem Box.out {p : Prop} (h : Box p) : p := h.elim id False.elim

def wd (n k : Nat) : Nat := n / 2 ^ (64 * k) % 18446744073709551616
theorem wd_lt (n k : Nat) : wd n k < 18446744073709551616 := Nat.mod_lt _ (by decide)
theorem wd_bit (n k j : Nat) : (wd n k).testBit j = (decide (j < 64) && n.testBit (64 * k + j)) := by
  unfold wd
  rw [two64, Nat.testBit_mod_two_pow, Nat.testBit_div_two_pow, Nat.add_comm j]
theorem lt_bit {n q i : Nat} (h : n < 2 ^ q) (hi : q ≤ i) : n.testBit i = false := Nat.testBit_lt_two_pow (Nat.lt_of_lt_of_le h (Nat.pow_le_pow_right (by decide) hi))

def setw (n p x : Nat) : Nat := n % 2 ^ (64 * p) + 2 ^ (64 * p) * (x + 18446744073709551616 * (n / 2 ^ (64 * (p + 1))))

theorem setw_bit (n p x i : Nat) (hx : x < 18446744073709551616) : (setw n p x).testBit i = if i / 64 = p then x.testBit (i % 64) else n.testBit i := by
  unfold setw
  rw [Nat.add_comm, Nat.testBit_two_pow_mul_add _ (Nat.mod_lt _ (Nat.two_pow_pos _))]
  split
  · rename_i h
    rw [if_neg (by omega), Nat.testBit_mod_two_pow, decide_eq_true h, Bool.true_and]
  · rename_i h
    rw [Nat.add_comm, two64, Nat.testBit_two_pow_mul_add _ (by rw [← two64]; exact hx)]
    split
    · rename_i h2
      rw [if_pos (by omega)]
      congr 1; omega
    · rename_i h2
      rw [if_neg (by omega), Nat.testBit_div_two_pow]
      congr 1; omega

theorem wd_setw (n p x k : Nat) (hx : x < 18446744073709551616) : wd (setw n p x) k = if k = p then x else wd n k := by
  apply Nat.eq_of_testBit_eq
  intro j
  rw [wd_bit, setw_bit _ _ _ _ hx]
  by_cases hj : j < 64
  · rw [decide_eq_true hj, Bool.true_and, show (64 * k + j) / 64 = k by omega, show (64 * k + j) % 64 = j by omega]
    split
    · rfl
    · rw [wd_bit, decide_eq_true hj, Bool.true_and]
  · rw [decide_eq_false hj, Bool.false_and]
    have e : ∀ y, y < 18446744073709551616 → y.testBit j = false := fun y hy => lt_bit (q := 64) (by rw [← two64]; exact hy) (by omega)
    split
    · rw [e x hx]
    · rw [e _ (wd_lt _ _)]

theorem setw_lt (n p x q : Nat) (hn : n < 2 ^ (64 * q)) (hp : p < q) (hx : x < 18446744073709551616) : setw n p x < 2 ^ (64 * q) := by
  apply Nat.lt_pow_two_of_testBit
  intro i hi
  rw [setw_bit _ _ _ _ hx, if_neg (by omega), lt_bit hn hi]

def cw (L n : Nat) : Array Value := ((List.range L).map fun k => Value.int .u64 (wd n k : Nat)).toArray
theorem cw_at (L n k : Nat) (h : k < L) : (cw L n)[k]? = some (.int .u64 (wd n k : Nat)) := by simp [cw, h]
theorem cw6 (n : Nat) : cw 6 n = #[.int .u64 (wd n 0 : Nat), .int .u64 (wd n 1 : Nat), .int .u64 (wd n 2 : Nat), .int .u64 (wd n 3 : Nat), .int .u64 (wd n 4 : Nat), .int .u64 (wd n 5 : Nat)] := rfl
def pw (L : Nat) : Nat := 2 ^ (64 * L)
def Qn (k : Nat) : Nat := if h : k = 0 then pw 6 else Qn (k - 1)
  termination_by k
  decreasing_by omega
def Q : Nat := Qn 0
theorem Q_pw : ∃ L, L = 6 ∧ Q = pw L := by
  refine ⟨6, rfl, ?_⟩
  unfold Q
  rw [Qn, dif_pos rfl]
theorem Q_of : ∃ L, L = 6 ∧ Q = 2 ^ (64 * L) := by
  obtain ⟨L, hL, h⟩ := Q_pw
  exact ⟨L, hL, h⟩
def W (n : Nat) : Value := .agg (cw 6 n)

theorem w6 (a0 a1 a2 a3 a4 a5 : Nat) (h0 : a0 < 18446744073709551616) (h1 : a1 < 18446744073709551616) (h2 : a2 < 18446744073709551616) (h3 : a3 < 18446744073709551616) (h4 : a4 < 18446744073709551616) (h5 : a5 < 18446744073709551616) :
    ∃ n, n < Q ∧ cw 6 n = #[.int .u64 a0, .int .u64 a1, .int .u64 a2, .int .u64 a3, .int .u64 a4, .int .u64 a5] := by
  refine ⟨setw (setw (setw (setw (setw (setw 0 0 a0) 1 a1) 2 a2) 3 a3) 4 a4) 5 a5, ?_, ?_⟩
  · obtain ⟨L, hL, h⟩ := Q_of
    rw [h]
    repeat (refine setw_lt _ _ _ L ?_ (by omega) (by assumption))
    exact Nat.two_pow_pos _
  · rw [cw6]
    simp only [wd_setw _ _ _ _ h0, wd_setw _ _ _ _ h1, wd_setw _ _ _ _ h2, wd_setw _ _ _ _ h3, wd_setw _ _ _ _ h4, wd_setw _ _ _ _ h5]
    rfl
end Go.Proofs.YtinagedilgihjaaDoor.WMath
namespace Go.Proofs.YtinagedilgihjaaDoor.WMath
set_option maxRecDepth 100000
set_option maxHeartbeats 40000000
set_option maxRecDepth 100000

end Go.Proofs.YtinagedilgihjaaDoor.WMath
namespace Go.Proofs.YtinagedilgihjaaDoor.WMath
set_option maxRecDepth 100000
set_option maxHeartbeats 40000000
set_option maxRecDepth 100000

def blen (n : Nat) : Nat := if n = 0 then 0 else Nat.log2 n + 1
end Go.Proofs.YtinagedilgihjaaDoor.WMath
namespace Go.Proofs.YtinagedilgihjaaDoor.WMath
set_option maxRecDepth 100000
set_option maxHeartbeats 40000000
set_option maxRecDepth 100000

end Go.Proofs.YtinagedilgihjaaDoor.WMath
namespace Go.Proofs.YtinagedilgihjaaDoor.WMath
set_option maxRecDepth 100000
set_option maxHeartbeats 40000000
set_option maxRecDepth 100000

end Go.Proofs.YtinagedilgihjaaDoor.WMath
namespace Go.Proofs.YtinagedilgihjaaDoor.WMath
set_option maxRecDepth 100000
set_option maxHeartbeats 40000000
set_option maxRecDepth 100000

end Go.Proofs.YtinagedilgihjaaDoor.WMath
namespace Go.Proofs.YtinagedilgihjaaDoor.WMath
set_option maxRecDepth 100000
set_option maxHeartbeats 40000000
set_option maxRecDepth 100000

end Go.Proofs.YtinagedilgihjaaDoor.WMath
namespace Go.Proofs.YtinagedilgihjaaDoor.WMath
set_option maxRecDepth 100000
set_option maxHeartbeats 40000000
set_option maxRecDepth 100000

def nl (n : Nat) : Nat := (blen n + 7) / 8
end Go.Proofs.YtinagedilgihjaaDoor.WMath
namespace Go.Proofs.YtinagedilgihjaaDoor.WMath
set_option maxRecDepth 100000
set_option maxHeartbeats 40000000
set_option maxRecDepth 100000

end Go.Proofs.YtinagedilgihjaaDoor.WMath
namespace Go.Proofs.YtinagedilgihjaaDoor
set_option maxRecDepth 100000
set_option maxHeartbeats 40000000
set_option maxRecDepth 100000
open Go.RowKit WMath
theorem size_al (w : World) (o : Obj) : (w.alloc o).heap.size = w.heap.size + 1 := by
  show (w.heap.push o).size = _
  simp

theorem heap_of {W w1 : World} (hb : Below W.heap.size W w1) (b : Nat) (c : Array Value) (t : TypeId) (h : W.heap[b]? = some (.cells c t)) : w1.heap[b]? = some (.cells c t) := by
  rw [hb.block b (Array.getElem?_eq_some_iff.1 h).1, h]

end Go.Proofs.YtinagedilgihjaaDoor
namespace Go.Proofs.YtinagedilgihjaaDoor
set_option maxRecDepth 100000
set_option maxHeartbeats 40000000
set_option maxRecDepth 100000
open WMath
open Go.ChangeShapes Go.WideShapes Go.ChangeAt Go.RowKit
theorem nat_u64 {x : Int} (h : (Lit.int .u64 x).wf = true) : ∃ n : Nat, n < 18446744073709551616 ∧ x = (n : Int) := by
  have hb := bounds_u64 h
  obtain ⟨n, rfl⟩ := Int.eq_ofNat_of_zero_le hb.1
  exact ⟨n, by omega, rfl⟩
theorem post_plain {H : Type} {enc : TypeId × Value → H} {P : Program} {f : Func} {s : ChangeSpec} {apart fresh handsOn again : Bool} {W W' : World} {args : Array Value} {v : Value} {ds gs : List (DataW H)}
    (hW : DataW.Whole enc P f.params.toList s.vars apart W args.toList ds gs [])
    (hres : ∀ (b : Nat) (sp : Nat → Bool) (hd : Bool), DataW.TrodAll enc P W' b sp hd f.resultTypes.toList (v.resultList f.resultTypes.size) (s.fn H (ds ++ gs)).results [])
    (hargs : ∀ sp : Nat → Bool, DataW.TrodAll enc P W' 0 sp true f.params.toList args.toList (s.fn H (ds ++ gs)).args [])
    (hvars : ∀ sp : Nat → Bool, DataW.TrodVars enc P W' sp s.vars (s.fn H (ds ++ gs)).vars [])
    (hk : Below W.heap.size W W')
    (hok : ∀ (j : Nat) (t : TypeId) (r : Value), f.resultTypes[j]? = some t → (v.resultList f.resultTypes.size)[j]? = some r → Value.okWide P W' .any 0 t r) :
    s.post enc P f apart fresh handsOn again W args v W' := by
  refine ⟨ds, gs, [], [], [], [], hW, hres _ _ _, hargs _, hvars _, hk.frame _, fun _ => ⟨hok, _, _, [], ⟨[], [], trodAll_append (hargs _) (hres _ _ _), hvars _, rfl, ?_, ?_⟩, ?_⟩⟩
  · intro _ _ hp
    cases hp
  · intro _
    exact List.Pairwise.nil
  · intro _ hp
    cases hp
end Go.Proofs.YtinagedilgihjaaDoor
namespace Go.Proofs.YtinagedilgihjaaDoor
set_option maxRecDepth 100000
set_option maxHeartbeats 40000000
set_option maxRecDepth 100000
open Go.RowKit WMath
theorem toList_len (s : ByteArray) : s.toList.length = s.size := by rw [ByteArray.toList_eq, Array.length_toList]; rfl
theorem eq_empty (s : ByteArray) : (s.toList == []) = decide (s.size = 0) := by
  rw [← toList_len]
  cases s.toList with
  | nil => rfl
  | cons x l => simp

def SL (B : Nat) (w : World) (p : Option Addr) (L c n : Nat) : Prop := n < 2 ^ (64 * L) ∧ L ≤ c ∧ (0 < L → ∃ b o, p = some ⟨b, o, none⟩ ∧ b < B ∧ ∀ k, k < L → w.cell? ⟨b, o + k, none⟩ = some (.int .u64 (wd n k : Nat)))
theorem SL.mono {B B' : Nat} {w : World} {p : Option Addr} {L c n : Nat} (h : SL B w p L c n) (hB : B ≤ B') : SL B' w p L c n :=
  ⟨h.1, h.2.1, fun hL => by
    obtain ⟨b, o, hp, hlt, hc⟩ := h.2.2 hL
    exact ⟨b, o, hp, Nat.lt_of_lt_of_le hlt hB, hc⟩⟩
theorem cell_size {w : World} {b o : Nat} {v : Value} (h : w.cell? ⟨b, o, none⟩ = some v) : b < w.heap.size := by
  by_cases e : b < w.heap.size
  · exact e
  · exfalso
    have : w.heap[b]? = none := Array.getElem?_eq_none (by omega)
    simp [World.cell?, this] at h
def Only (g : Nat) (w w' : World) : Prop := w'.os = w.os ∧ w'.tape = w.tape ∧ w'.output = w.output ∧ w.heap.size ≤ w'.heap.size ∧ ∀ k, k < w.heap.size → k ≠ g → w'.heap[k]? = w.heap[k]?
theorem Only.refl (g : Nat) (w : World) : Only g w w := ⟨rfl, rfl, rfl, Nat.le_refl _, fun _ _ _ => rfl⟩
theorem Only.trans {g : Nat} {a b c : World} (h : Only g a b) (k : Only g b c) : Only g a c :=
  ⟨k.1.trans h.1, k.2.1.trans h.2.1, k.2.2.1.trans h.2.2.1, Nat.le_trans h.2.2.2.1 k.2.2.2.1, fun i hi hg => (k.2.2.2.2 i (Nat.lt_of_lt_of_le hi h.2.2.2.1) hg).trans (h.2.2.2.2 i hi hg)⟩
theorem Only.size {g : Nat} {a b : World} (h : Only g a b) : a.heap.size ≤ b.heap.size := h.2.2.2.1
theorem Only.row {g b : Nat} {w w' : World} {c : Array Value} {t : TypeId} (k : Only g w w') (hb : b ≠ g) (h : w.heap[b]? = some (.cells c t)) : w'.heap[b]? = some (.cells c t) := by
  rw [k.2.2.2.2 b (Array.getElem?_eq_some_iff.1 h).1 hb, h]
theorem SL.only {B g : Nat} {w w' : World} {p : Option Addr} {L c n : Nat} (h : SL B w p L c n) (k : Only g w w') (hB : B ≤ g) : SL B w' p L c n := by
  refine ⟨h.1, h.2.1, fun hL => ?_⟩
  obtain ⟨b, o, hp, hlt, hc⟩ := h.2.2 hL
  refine ⟨b, o, hp, hlt, fun i hi => ?_⟩
  have h1 := hc i hi
  rw [World.cell?_of_block (w := w) (k.2.2.2.2 b (cell_size h1) (by omega))]
  exact h1

theorem SL.cell {B : Nat} {w : World} {b o L c n : Nat} (h : SL B w (some ⟨b, o, none⟩) L c n) (k x : Nat) (hk : k < L) (hx : wd n k = x) : w.cell? ⟨b, o + k, none⟩ = some (.int .u64 (x : Nat)) := by
  obtain ⟨b', o', e, _, hc⟩ := h.2.2 (by omega)
  simp only [Option.some.injEq, Addr.mk.injEq] at e
  obtain ⟨rfl, rfl, _⟩ := e
  rw [hc k hk, hx]
theorem SL.row {w : World} {b N X c : Nat} {T : TypeId} (r : w.heap[b]? = some (.cells (cw N X) T)) (B : Nat) (hB : b < B) (hX : X < 2 ^ (64 * N)) (hc : N ≤ c) : SL B w (some ⟨b, 0, none⟩) N c X :=
  ⟨hX, hc, fun _ => ⟨b, 0, rfl, hB, fun k hk => by rw [Nat.zero_add, cell_of_row w b k _ _ _ r, cw_at N X k hk]⟩⟩

theorem bal (w : World) (o : Obj) : Below w.heap.size w (w.alloc o) := (Below.refl _ _).alloc (Nat.le_refl _) _
theorem btr {a b c : World} (h : Below a.heap.size a b) (k : Below b.heap.size b c) : Below a.heap.size a c := h.trans (k.mono h.size)

end Go.Proofs.YtinagedilgihjaaDoor
namespace Go.Proofs.YtinagedilgihjaaDoor.XMath
set_option maxRecDepth 100000
set_option maxHeartbeats 40000000
set_option maxRecDepth 100000
open WMath
def tz (n : Nat) : Nat := if h : n = 0 ∨ n % 2 = 1 then 0 else tz (n / 2) + 1
termination_by n
decreasing_by omega
def od (n : Nat) : Nat := n / 2 ^ tz n
structure XN where
  b : Bool
  n : Nat
  d : Nat
  e : Int
def XN.can (x : XN) : Prop := nl x.n ≤ 16384 ∧ nl x.d ≤ 16384 ∧ -1048576 ≤ x.e ∧ x.e ≤ 1048576 ∧ ((x.b = false ∧ x.n = 0 ∧ x.d = 1 ∧ x.e = 0) ∨ (x.n % 2 = 1 ∧ x.d % 2 = 1 ∧ Nat.gcd x.n x.d = 1))
def X0 : XN := ⟨false, 0, 1, 0⟩
def XZ : XN := ⟨false, 0, 0, 0⟩
theorem XN.can.d {x : XN} (h : x.can) : x.d % 2 = 1 := by rcases h.2.2.2.2 with h | h <;> omega
theorem XN.can.d0 {x : XN} (h : x.can) : x.d ≠ 0 := by have := h.d; omega
def mk (neg : Bool) (n d : Nat) (e : Int) : XN × Int :=
  if n = 0 then (X0, 0)
  else if -1048576 ≤ e + (tz n : Int) - (tz d : Int) ∧ e + (tz n : Int) - (tz d : Int) ≤ 1048576 then (⟨neg, od n / Nat.gcd (od n) (od d), od d / Nat.gcd (od n) (od d), e + (tz n : Int) - (tz d : Int)⟩, 0)
  else (XZ, 4)
end Go.Proofs.YtinagedilgihjaaDoor.XMath
namespace Go.Proofs.YtinagedilgihjaaDoor
set_option maxRecDepth 100000
set_option maxHeartbeats 40000000
set_option maxRecDepth 100000
open Go.RowKit WMath XMath
theorem cells4 {w : World} {g : Nat} {T : TypeId} {c : Array Value} (row : w.heap[g]? = some (.cells c T)) (k : Nat) (v : Value) (h : c[k]? = some v) : w.cell? ⟨g, k, none⟩ = some v := by
  rw [cell_of_row w g k _ _ _ row]
  exact h

theorem cells4s {w : World} {g : Nat} {T : TypeId} {a b c d : Value} (R : w.heap[g]? = some (.cells #[a, b, c, d] T)) : w.cell? ⟨g, 0, none⟩ = some a ∧ w.cell? ⟨g, 1, none⟩ = some b ∧ w.cell? ⟨g, 2, none⟩ = some c ∧ w.cell? ⟨g, 3, none⟩ = some d := ⟨cells4 R 0 _ rfl, cells4 R 1 _ rfl, cells4 R 2 _ rfl, cells4 R 3 _ rfl⟩
theorem opn1 (w : World) (o : Obj) : (w.alloc o).heap[w.heap.size]? = some o ∧ Below w.heap.size w (w.alloc o) := ⟨heap_alloc_last _ _, (Below.refl _ _).alloc (Nat.le_refl _) _⟩
end Go.Proofs.YtinagedilgihjaaDoor
namespace Go.Proofs.YtinagedilgihjaaDoor
set_option maxRecDepth 100000
set_option maxHeartbeats 40000000
set_option maxRecDepth 100000
open Go.RowKit WMath
set_option linter.unusedSimpArgs false
set_option linter.unusedVariables false
def rdW (n : Int) (F : Nat) : Nat := if n = 1 then F % 32 else if n = 2 then F / 32 else F
def wrW (n : Int) (F x : Nat) : Nat := if n = 1 then F / 32 * 32 + x % 32 else if n = 2 then x % 8 * 32 + F % 32 else x % 256
def wdW (k : Nat) : ByteArray := if k = 0 then ⟨#[110, 120]⟩ else if k = 1 then ⟨#[117, 102]⟩ else if k = 2 then ⟨#[111, 102]⟩ else if k = 3 then ⟨#[100, 122]⟩ else ⟨#[110, 118]⟩
def txB (g : Nat) : Nat → ByteArray
  | 0 => ⟨#[]⟩
  | j + 1 => if g.testBit (4 - j) = true then (if ((txB g j).toList == []) = true then wdW (4 - j) else txB g j ++ ⟨#[43]⟩ ++ wdW (4 - j)) else txB g j
def txt (g : Nat) : ByteArray := if ((txB g 5).toList == []) = true then ⟨#[45]⟩ else txB g 5
end Go.Proofs.YtinagedilgihjaaDoor
namespace Go.Proofs.YtinagedilgihjaaDoor
set_option maxRecDepth 100000
set_option maxHeartbeats 40000000
set_option maxRecDepth 100000
open Go.RowKit WMath
set_option linter.unusedSimpArgs false
set_option linter.unusedVariables false
set_option maxRecDepth 100000 in
set_option maxHeartbeats 8000000 in
theorem r21lives {Tp : World → Prop} (FB : Box (∀ {w w' : World}, Tp w → Below w.heap.size w w' → Tp w')) (a3 a5 : Int) (w : World) (K1 : Box (∀ w, Tp w → Calls Tryd.prog 8 #[.int .i64 2, .int .u8 227] w fun r w' => r = .returned (.tuple #[.int .u64 7, .int .i64 0]) ∧ Below w.heap.size w w')) (K2 : Box (∀ w, Tp w → Calls Tryd.prog 10 #[.int .i64 1, .int .u8 227, .int .u64 500] w fun r w' => r = .returned (.tuple #[.int .u8 244, .int .i64 0]) ∧ Below w.heap.size w w')) (K3 : Box (∀ w, Tp w → Calls Tryd.prog 8 #[.int .i64 0, .int .u8 227] w fun r w' => r = .returned (.tuple #[.int .u64 a3, .int .i64 210]) ∧ Below w.heap.size w w')) (K4 : Box (∀ w, Tp w → Calls Tryd.prog 15 #[.int .u8 96, .int .u8 7] w fun r w' => r = .returned (.tuple #[.int .u8 3, .int .i64 0]) ∧ Below w.heap.size w w')) (K5 : Box (∀ w, Tp w → Calls Tryd.prog 15 #[.int .u8 160, .int .u8 7] w fun r w' => r = .returned (.tuple #[.int .u8 a5, .int .i64 211]) ∧ Below w.heap.size w w')) (K6 : Box (∀ w, Tp w → Calls Tryd.prog 26 #[.int .u8 21] w fun r w' => r = .returned (.tuple #[.string ⟨#[110, 118, 43, 111, 102, 43, 110, 120]⟩, .int .i64 0]) ∧ Below w.heap.size w w')) (hT : Tp w) : Calls Tryd.prog 14 #[] w fun r w' => r = .returned (.bool true) ∧ Below w.heap.size w w' := by
  have FF := box hT
  clear hT
  have B0 : Below w.heap.size w w := (Below.refl _ _)
  go_enter Tryd.func14, Tryd.ntmps14
  go_wp2_with fail
  refine (K1.out _ (FB.out FF.out B0)).mono ?_
  rintro r w1 ⟨rfl, b1⟩
  have B1 : Below w.heap.size w w1 := btr B0 b1
  clear b1 B0 
  go_wp2_with fail
  refine (K2.out _ (FB.out FF.out B1)).mono ?_
  rintro r w2 ⟨rfl, b2⟩
  have B2 : Below w.heap.size w w2 := btr B1 b2
  clear b2 B1 
  go_wp2_with fail
  refine (K3.out _ (FB.out FF.out B2)).mono ?_
  rintro r w3 ⟨rfl, b3⟩
  have B3 : Below w.heap.size w w3 := btr B2 b3
  clear b3 B2 
  go_wp2_with fail
  refine (K4.out _ (FB.out FF.out B3)).mono ?_
  rintro r w4 ⟨rfl, b4⟩
  have B4 : Below w.heap.size w w4 := btr B3 b4
  clear b4 B3 
  go_wp2_with fail
  refine (K5.out _ (FB.out FF.out B4)).mono ?_
  rintro r w5 ⟨rfl, b5⟩
  have B5 : Below w.heap.size w w5 := btr B4 b5
  clear b5 B4 
  go_wp2_with fail
  refine (K6.out _ (FB.out FF.out B5)).mono ?_
  rintro r w6 ⟨rfl, b6⟩
  have B6 : Below w.heap.size w w6 := btr B5 b6
  clear b6 B5 
  go_wp2
  go_ret
  exact ⟨rfl, B6⟩
set_option maxRecDepth 100000 in
set_option maxHeartbeats 8000000 in
theorem cp_law {Tp : World → Prop} (FB : Box (∀ {w w' : World}, Tp w → Below w.heap.size w w' → Tp w')) (ho n F X : Int) (si : Bool) (rm g : Int) (Y p q : Int) (one1 two1 got1 one2 two2 got2 one3 two3 got3 ot1 ot2 x1 x2 z1 z2 : Int) (g1 : X.tmod 32 = got1) (g2 : X.tmod 8 = got2) (g3 : X.tmod 256 = got3) (g1v h1v gov on bo al y1 y2 fg : Int) (hg : g.tmod 32 = g1v) (hh : Y.tmod 32 % 256 = h1v) (ho1 : bits .or .u8 g1v h1v = gov) (ho2 : bits .or .u8 q g1v = fg) (ho3 : bits .or .u8 fg h1v = al) (w : World) (KP : Box (∀ w, Tp w → Calls Tryd.prog 21 #[.int .u8 F] w fun r w' => r = .returned (.tuple #[.int .u8 p, .int .u8 q]) ∧ Below w.heap.size w w')) (KM : Box (∀ w, Tp w → Calls Tryd.prog 17 #[.int .u8 p, .int .u8 q] w fun r w' => r = .returned (.tuple #[.int .u8 F, .int .i64 0]) ∧ Below w.heap.size w w')) (W1 : Box (∀ w, Tp w → Calls Tryd.prog 10 #[.int .i64 1, .int .u8 F, .int .u64 X] w fun r w' => r = .returned (.tuple #[.int .u8 one1, .int .i64 0]) ∧ Below w.heap.size w w')) (V1 : Box (∀ w, Tp w → Calls Tryd.prog 10 #[.int .i64 1, .int .u8 one1, .int .u64 Y] w fun r w' => r = .returned (.tuple #[.int .u8 two1, .int .i64 0]) ∧ Below w.heap.size w w')) (U1 : Box (∀ w, Tp w → Calls Tryd.prog 10 #[.int .i64 1, .int .u8 F, .int .u64 Y] w fun r w' => r = .returned (.tuple #[.int .u8 two1, .int .i64 0]) ∧ Below w.heap.size w w')) (R1 : Box (∀ w, Tp w → Calls Tryd.prog 8 #[.int .i64 1, .int .u8 one1] w fun r w' => r = .returned (.tuple #[.int .u64 got1, .int .i64 0]) ∧ Below w.heap.size w w')) (S1 : Box (∀ w, Tp w → Calls Tryd.prog 8 #[.int .i64 2, .int .u8 F] w fun r w' => r = .returned (.tuple #[.int .u64 ot1, .int .i64 x1]) ∧ Below w.heap.size w w')) (T1 : Box (∀ w, Tp w → Calls Tryd.prog 8 #[.int .i64 2, .int .u8 one1] w fun r w' => r = .returned (.tuple #[.int .u64 ot1, .int .i64 z1]) ∧ Below w.heap.size w w')) (W2 : Box (∀ w, Tp w → Calls Tryd.prog 10 #[.int .i64 2, .int .u8 F, .int .u64 X] w fun r w' => r = .returned (.tuple #[.int .u8 one2, .int .i64 0]) ∧ Below w.heap.size w w')) (V2 : Box (∀ w, Tp w → Calls Tryd.prog 10 #[.int .i64 2, .int .u8 one2, .int .u64 Y] w fun r w' => r = .returned (.tuple #[.int .u8 two2, .int .i64 0]) ∧ Below w.heap.size w w')) (U2 : Box (∀ w, Tp w → Calls Tryd.prog 10 #[.int .i64 2, .int .u8 F, .int .u64 Y] w fun r w' => r = .returned (.tuple #[.int .u8 two2, .int .i64 0]) ∧ Below w.heap.size w w')) (R2 : Box (∀ w, Tp w → Calls Tryd.prog 8 #[.int .i64 2, .int .u8 one2] w fun r w' => r = .returned (.tuple #[.int .u64 got2, .int .i64 0]) ∧ Below w.heap.size w w')) (S2 : Box (∀ w, Tp w → Calls Tryd.prog 8 #[.int .i64 1, .int .u8 F] w fun r w' => r = .returned (.tuple #[.int .u64 ot2, .int .i64 x2]) ∧ Below w.heap.size w w')) (T2 : Box (∀ w, Tp w → Calls Tryd.prog 8 #[.int .i64 1, .int .u8 one2] w fun r w' => r = .returned (.tuple #[.int .u64 ot2, .int .i64 z2]) ∧ Below w.heap.size w w')) (W3 : Box (∀ w, Tp w → Calls Tryd.prog 10 #[.int .i64 3, .int .u8 F, .int .u64 X] w fun r w' => r = .returned (.tuple #[.int .u8 one3, .int .i64 0]) ∧ Below w.heap.size w w')) (V3 : Box (∀ w, Tp w → Calls Tryd.prog 10 #[.int .i64 3, .int .u8 one3, .int .u64 Y] w fun r w' => r = .returned (.tuple #[.int .u8 two3, .int .i64 0]) ∧ Below w.heap.size w w')) (U3 : Box (∀ w, Tp w → Calls Tryd.prog 10 #[.int .i64 3, .int .u8 F, .int .u64 Y] w fun r w' => r = .returned (.tuple #[.int .u8 two3, .int .i64 0]) ∧ Below w.heap.size w w')) (R3 : Box (∀ w, Tp w → Calls Tryd.prog 8 #[.int .i64 3, .int .u8 one3] w fun r w' => r = .returned (.tuple #[.int .u64 got3, .int .i64 0]) ∧ Below w.heap.size w w')) (A1 : Box (∀ w, Tp w → Calls Tryd.prog 19 #[.int .u8 F, .int .u8 g1v] w fun r w' => r = .returned (.tuple #[.int .u8 on, .int .i64 y1]) ∧ Below w.heap.size w w')) (A2 : Box (∀ w, Tp w → Calls Tryd.prog 19 #[.int .u8 on, .int .u8 h1v] w fun r w' => r = .returned (.tuple #[.int .u8 bo, .int .i64 y2]) ∧ Below w.heap.size w w')) (A3 : Box (∀ w, Tp w → Calls Tryd.prog 19 #[.int .u8 F, .int .u8 gov] w fun r w' => r = .returned (.tuple #[.int .u8 bo, .int .i64 0]) ∧ Below w.heap.size w w')) (KQ : Box (∀ w, Tp w → Calls Tryd.prog 21 #[.int .u8 bo] w fun r w' => r = .returned (.tuple #[.int .u8 p, .int .u8 al]) ∧ Below w.heap.size w w')) (KV : Box (∀ w, Tp w → Calls Tryd.prog 14 #[] w fun r w' => r = .returned (.bool true) ∧ Below w.heap.size w w')) (hT : Tp w) : Calls Tryd.prog 6 #[.agg #[.int .u8 ho, .int .i64 n, .int .u8 F, .int .u64 X, .bool si, .int .u8 rm, .int .u8 g], .int .u64 Y] w fun r w' => r = .returned (.bool true) ∧ Below w.heap.size w w' := by
  have FF := box hT
  clear hT
  obtain ⟨Rx_0, B0⟩ := opn1 w (Obj.cells #[.int .u8 ho, .int .i64 n, .int .u8 F, .int .u64 X, .bool si, .int .u8 rm, .int .u8 g] 26)
  go_enter Tryd.func6, Tryd.ntmps6
  have cx_0_0 := cells4 Rx_0 0 _ rfl
  have cx_0_1 := cells4 Rx_0 1 _ rfl
  have cx_0_2 := cells4 Rx_0 2 _ rfl
  have cx_0_3 := cells4 Rx_0 3 _ rfl
  have cx_0_4 := cells4 Rx_0 4 _ rfl
  have cx_0_5 := cells4 Rx_0 5 _ rfl
  have cx_0_6 := cells4 Rx_0 6 _ rfl
  go_wp2_with fail
  refine (KP.out _ (FB.out FF.out B0)).mono ?_
  rintro r w1 ⟨rfl, b1⟩
  have B1 : Below w.heap.size w w1 := btr B0 b1
  have Rx_1 := heap_of b1 _ _ _ Rx_0
  clear b1 B0 Rx_0 cx_0_0 cx_0_1 cx_0_2 cx_0_3 cx_0_4 cx_0_5 cx_0_6
  have cx_1_0 := cells4 Rx_1 0 _ rfl
  have cx_1_1 := cells4 Rx_1 1 _ rfl
  have cx_1_2 := cells4 Rx_1 2 _ rfl
  have cx_1_3 := cells4 Rx_1 3 _ rfl
  have cx_1_4 := cells4 Rx_1 4 _ rfl
  have cx_1_5 := cells4 Rx_1 5 _ rfl
  have cx_1_6 := cells4 Rx_1 6 _ rfl
  go_wp2_with fail
  refine (KM.out _ (FB.out FF.out B1)).mono ?_
  rintro r w2 ⟨rfl, b2⟩
  have B2 : Below w.heap.size w w2 := btr B1 b2
  have Rx_2 := heap_of b2 _ _ _ Rx_1
  clear b2 B1 Rx_1 cx_1_0 cx_1_1 cx_1_2 cx_1_3 cx_1_4 cx_1_5 cx_1_6
  have cx_2_0 := cells4 Rx_2 0 _ rfl
  have cx_2_1 := cells4 Rx_2 1 _ rfl
  have cx_2_2 := cells4 Rx_2 2 _ rfl
  have cx_2_3 := cells4 Rx_2 3 _ rfl
  have cx_2_4 := cells4 Rx_2 4 _ rfl
  have cx_2_5 := cells4 Rx_2 5 _ rfl
  have cx_2_6 := cells4 Rx_2 6 _ rfl
  go_wp2_with fail
  go_loopw [9] (fun iv wr => ∃ k : Nat, 1 ≤ k ∧ k ≤ 4 ∧ iv = .int .i64 (k : Int) ∧ Below w.heap.size w wr ∧ wr.heap[w.heap.size]? = some (.cells #[.int .u8 ho, .int .i64 n, .int .u8 F, .int .u64 X, .bool si, .int .u8 rm, .int .u8 g] 26)) (fun iv _ => 4 - (intOf iv).toNat)
  case atStart => exact ⟨1, by omega, by omega, rfl, B2, Rx_2⟩
  case round =>
    obtain ⟨k, hk1, hk, rfl, B20, Rx_20⟩ := hrel
    obtain ⟨w20, hw⟩ : ∃ w20, w20 = wr := ⟨_, rfl⟩
    subst hw
    clear Rx_2 B2
    rcases (by omega : k = 1 ∨ k = 2 ∨ k = 3 ∨ k = 4) with rfl | rfl | rfl | rfl
    · clear hk1
      have cx_20_0 := cells4 Rx_20 0 _ rfl
      have cx_20_1 := cells4 Rx_20 1 _ rfl
      have cx_20_2 := cells4 Rx_20 2 _ rfl
      have cx_20_3 := cells4 Rx_20 3 _ rfl
      have cx_20_4 := cells4 Rx_20 4 _ rfl
      have cx_20_5 := cells4 Rx_20 5 _ rfl
      have cx_20_6 := cells4 Rx_20 6 _ rfl
      go_wp2_with fail
      refine (W1.out _ (FB.out FF.out B20)).mono ?_
      rintro r w21 ⟨rfl, b21⟩
      have B21 : Below w.heap.size w w21 := btr B20 b21
      have Rx_21 := heap_of b21 _ _ _ Rx_20
      clear b21 B20 Rx_20 cx_20_0 cx_20_1 cx_20_2 cx_20_3 cx_20_4 cx_20_5 cx_20_6
      have cx_21_0 := cells4 Rx_21 0 _ rfl
      have cx_21_1 := cells4 Rx_21 1 _ rfl
      have cx_21_2 := cells4 Rx_21 2 _ rfl
      have cx_21_3 := cells4 Rx_21 3 _ rfl
      have cx_21_4 := cells4 Rx_21 4 _ rfl
      have cx_21_5 := cells4 Rx_21 5 _ rfl
      have cx_21_6 := cells4 Rx_21 6 _ rfl
      go_wp2_with fail
      refine (V1.out _ (FB.out FF.out B21)).mono ?_
      rintro r w22 ⟨rfl, b22⟩
      have B22 : Below w.heap.size w w22 := btr B21 b22
      have Rx_22 := heap_of b22 _ _ _ Rx_21
      clear b22 B21 Rx_21 cx_21_0 cx_21_1 cx_21_2 cx_21_3 cx_21_4 cx_21_5 cx_21_6
      have cx_22_0 := cells4 Rx_22 0 _ rfl
      have cx_22_1 := cells4 Rx_22 1 _ rfl
      have cx_22_2 := cells4 Rx_22 2 _ rfl
      have cx_22_3 := cells4 Rx_22 3 _ rfl
      have cx_22_4 := cells4 Rx_22 4 _ rfl
      have cx_22_5 := cells4 Rx_22 5 _ rfl
      have cx_22_6 := cells4 Rx_22 6 _ rfl
      go_wp2_with fail
      refine (U1.out _ (FB.out FF.out B22)).mono ?_
      rintro r w23 ⟨rfl, b23⟩
      have B23 : Below w.heap.size w w23 := btr B22 b23
      have Rx_23 := heap_of b23 _ _ _ Rx_22
      clear b23 B22 Rx_22 cx_22_0 cx_22_1 cx_22_2 cx_22_3 cx_22_4 cx_22_5 cx_22_6
      have cx_23_0 := cells4 Rx_23 0 _ rfl
      have cx_23_1 := cells4 Rx_23 1 _ rfl
      have cx_23_2 := cells4 Rx_23 2 _ rfl
      have cx_23_3 := cells4 Rx_23 3 _ rfl
      have cx_23_4 := cells4 Rx_23 4 _ rfl
      have cx_23_5 := cells4 Rx_23 5 _ rfl
      have cx_23_6 := cells4 Rx_23 6 _ rfl
      go_wp2_with fail
      refine (R1.out _ (FB.out FF.out B23)).mono ?_
      rintro r w24 ⟨rfl, b24⟩
      have B24 : Below w.heap.size w w24 := btr B23 b24
      have Rx_24 := heap_of b24 _ _ _ Rx_23
      clear b24 B23 Rx_23 cx_23_0 cx_23_1 cx_23_2 cx_23_3 cx_23_4 cx_23_5 cx_23_6
      have cx_24_0 := cells4 Rx_24 0 _ rfl
      have cx_24_1 := cells4 Rx_24 1 _ rfl
      have cx_24_2 := cells4 Rx_24 2 _ rfl
      have cx_24_3 := cells4 Rx_24 3 _ rfl
      have cx_24_4 := cells4 Rx_24 4 _ rfl
      have cx_24_5 := cells4 Rx_24 5 _ rfl
      have cx_24_6 := cells4 Rx_24 6 _ rfl
      have S25 := box B24.size
      have Lx_25 : Box (w.heap.size < w24.heap.size) := box (Array.getElem?_eq_some_iff.1 Rx_24).1
      have Rsl_25 := heap_alloc_last w24 (Obj.cells #[.int .u64 0, .int .u64 32, .int .u64 8, .int .u64 256] 23)
      have B25 := btr B24 (bal w24 (Obj.cells #[.int .u64 0, .int .u64 32, .int .u64 8, .int .u64 256] 23))
      have Rx_25 := heap_of (bal w24 (Obj.cells #[.int .u64 0, .int .u64 32, .int .u64 8, .int .u64 256] 23)) _ _ _ Rx_24
      clear B24 Rx_24 cx_24_0 cx_24_1 cx_24_2 cx_24_3 cx_24_4 cx_24_5 cx_24_6
      have cx_25_0 := cells4 Rx_25 0 _ rfl
      have cx_25_1 := cells4 Rx_25 1 _ rfl
      have cx_25_2 := cells4 Rx_25 2 _ rfl
      have cx_25_3 := cells4 Rx_25 3 _ rfl
      have cx_25_4 := cells4 Rx_25 4 _ rfl
      have cx_25_5 := cells4 Rx_25 5 _ rfl
      have cx_25_6 := cells4 Rx_25 6 _ rfl
      obtain ⟨csl_25_0, csl_25_1, csl_25_2, csl_25_3⟩ := cells4s Rsl_25
      go_wp2_with fail
      refine (S1.out _ (FB.out FF.out B25)).mono ?_
      rintro r w26 ⟨rfl, b26⟩
      have B26 : Below w.heap.size w w26 := btr B25 b26
      have Rx_26 := heap_of b26 _ _ _ Rx_25
      have Rsl_26 := heap_of b26 _ _ _ Rsl_25
      clear b26 B25 Rx_25 cx_25_0 cx_25_1 cx_25_2 cx_25_3 cx_25_4 cx_25_5 cx_25_6 Rsl_25 csl_25_0 csl_25_1 csl_25_2 csl_25_3
      have cx_26_0 := cells4 Rx_26 0 _ rfl
      have cx_26_1 := cells4 Rx_26 1 _ rfl
      have cx_26_2 := cells4 Rx_26 2 _ rfl
      have cx_26_3 := cells4 Rx_26 3 _ rfl
      have cx_26_4 := cells4 Rx_26 4 _ rfl
      have cx_26_5 := cells4 Rx_26 5 _ rfl
      have cx_26_6 := cells4 Rx_26 6 _ rfl
      obtain ⟨csl_26_0, csl_26_1, csl_26_2, csl_26_3⟩ := cells4s Rsl_26
      go_wp2_with fail
      refine (T1.out _ (FB.out FF.out B26)).mono ?_
      rintro r w27 ⟨rfl, b27⟩
      have B27 : Below w.heap.size w w27 := btr B26 b27
      have Rx_27 := heap_of b27 _ _ _ Rx_26
      have Rsl_27 := heap_of b27 _ _ _ Rsl_26
      clear b27 B26 Rx_26 cx_26_0 cx_26_1 cx_26_2 cx_26_3 cx_26_4 cx_26_5 cx_26_6 Rsl_26 csl_26_0 csl_26_1 csl_26_2 csl_26_3
      have cx_27_0 := cells4 Rx_27 0 _ rfl
      have cx_27_1 := cells4 Rx_27 1 _ rfl
      have cx_27_2 := cells4 Rx_27 2 _ rfl
      have cx_27_3 := cells4 Rx_27 3 _ rfl
      have cx_27_4 := cells4 Rx_27 4 _ rfl
      have cx_27_5 := cells4 Rx_27 5 _ rfl
      have cx_27_6 := cells4 Rx_27 6 _ rfl
      obtain ⟨csl_27_0, csl_27_1, csl_27_2, csl_27_3⟩ := cells4s Rsl_27
      go_wp2
      go_roundw
      case rel => exact ⟨2, by omega, by omega, rfl, B27, Rx_27⟩
      case measure => simp [intOf]
    · clear hk1
      have cx_20_0 := cells4 Rx_20 0 _ rfl
      have cx_20_1 := cells4 Rx_20 1 _ rfl
      have cx_20_2 := cells4 Rx_20 2 _ rfl
      have cx_20_3 := cells4 Rx_20 3 _ rfl
      have cx_20_4 := cells4 Rx_20 4 _ rfl
      have cx_20_5 := cells4 Rx_20 5 _ rfl
      have cx_20_6 := cells4 Rx_20 6 _ rfl
      go_wp2_with fail
      refine (W2.out _ (FB.out FF.out B20)).mono ?_
      rintro r w21 ⟨rfl, b21⟩
      have B21 : Below w.heap.size w w21 := btr B20 b21
      have Rx_21 := heap_of b21 _ _ _ Rx_20
      clear b21 B20 Rx_20 cx_20_0 cx_20_1 cx_20_2 cx_20_3 cx_20_4 cx_20_5 cx_20_6
      have cx_21_0 := cells4 Rx_21 0 _ rfl
      have cx_21_1 := cells4 Rx_21 1 _ rfl
      have cx_21_2 := cells4 Rx_21 2 _ rfl
      have cx_21_3 := cells4 Rx_21 3 _ rfl
      have cx_21_4 := cells4 Rx_21 4 _ rfl
      have cx_21_5 := cells4 Rx_21 5 _ rfl
      have cx_21_6 := cells4 Rx_21 6 _ rfl
      go_wp2_with fail
      refine (V2.out _ (FB.out FF.out B21)).mono ?_
      rintro r w22 ⟨rfl, b22⟩
      have B22 : Below w.heap.size w w22 := btr B21 b22
      have Rx_22 := heap_of b22 _ _ _ Rx_21
      clear b22 B21 Rx_21 cx_21_0 cx_21_1 cx_21_2 cx_21_3 cx_21_4 cx_21_5 cx_21_6
      have cx_22_0 := cells4 Rx_22 0 _ rfl
      have cx_22_1 := cells4 Rx_22 1 _ rfl
      have cx_22_2 := cells4 Rx_22 2 _ rfl
      have cx_22_3 := cells4 Rx_22 3 _ rfl
      have cx_22_4 := cells4 Rx_22 4 _ rfl
      have cx_22_5 := cells4 Rx_22 5 _ rfl
      have cx_22_6 := cells4 Rx_22 6 _ rfl
      go_wp2_with fail
      refine (U2.out _ (FB.out FF.out B22)).mono ?_
      rintro r w23 ⟨rfl, b23⟩
      have B23 : Below w.heap.size w w23 := btr B22 b23
      have Rx_23 := heap_of b23 _ _ _ Rx_22
      clear b23 B22 Rx_22 cx_22_0 cx_22_1 cx_22_2 cx_22_3 cx_22_4 cx_22_5 cx_22_6
      have cx_23_0 := cells4 Rx_23 0 _ rfl
      have cx_23_1 := cells4 Rx_23 1 _ rfl
      have cx_23_2 := cells4 Rx_23 2 _ rfl
      have cx_23_3 := cells4 Rx_23 3 _ rfl
      have cx_23_4 := cells4 Rx_23 4 _ rfl
      have cx_23_5 := cells4 Rx_23 5 _ rfl
      have cx_23_6 := cells4 Rx_23 6 _ rfl
      go_wp2_with fail
      refine (R2.out _ (FB.out FF.out B23)).mono ?_
      rintro r w24 ⟨rfl, b24⟩
      have B24 : Below w.heap.size w w24 := btr B23 b24
      have Rx_24 := heap_of b24 _ _ _ Rx_23
      clear b24 B23 Rx_23 cx_23_0 cx_23_1 cx_23_2 cx_23_3 cx_23_4 cx_23_5 cx_23_6
      have cx_24_0 := cells4 Rx_24 0 _ rfl
      have cx_24_1 := cells4 Rx_24 1 _ rfl
      have cx_24_2 := cells4 Rx_24 2 _ rfl
      have cx_24_3 := cells4 Rx_24 3 _ rfl
      have cx_24_4 := cells4 Rx_24 4 _ rfl
      have cx_24_5 := cells4 Rx_24 5 _ rfl
      have cx_24_6 := cells4 Rx_24 6 _ rfl
      have S25 := box B24.size
      have Lx_25 : Box (w.heap.size < w24.heap.size) := box (Array.getElem?_eq_some_iff.1 Rx_24).1
      have Rsl_25 := heap_alloc_last w24 (Obj.cells #[.int .u64 0, .int .u64 32, .int .u64 8, .int .u64 256] 23)
      have B25 := btr B24 (bal w24 (Obj.cells #[.int .u64 0, .int .u64 32, .int .u64 8, .int .u64 256] 23))
      have Rx_25 := heap_of (bal w24 (Obj.cells #[.int .u64 0, .int .u64 32, .int .u64 8, .int .u64 256] 23)) _ _ _ Rx_24
      clear B24 Rx_24 cx_24_0 cx_24_1 cx_24_2 cx_24_3 cx_24_4 cx_24_5 cx_24_6
      have cx_25_0 := cells4 Rx_25 0 _ rfl
      have cx_25_1 := cells4 Rx_25 1 _ rfl
      have cx_25_2 := cells4 Rx_25 2 _ rfl
      have cx_25_3 := cells4 Rx_25 3 _ rfl
      have cx_25_4 := cells4 Rx_25 4 _ rfl
      have cx_25_5 := cells4 Rx_25 5 _ rfl
      have cx_25_6 := cells4 Rx_25 6 _ rfl
      obtain ⟨csl_25_0, csl_25_1, csl_25_2, csl_25_3⟩ := cells4s Rsl_25
      go_wp2_with fail
      refine (S2.out _ (FB.out FF.out B25)).mono ?_
      rintro r w26 ⟨rfl, b26⟩
      have B26 : Below w.heap.size w w26 := btr B25 b26
      have Rx_26 := heap_of b26 _ _ _ Rx_25
      have Rsl_26 := heap_of b26 _ _ _ Rsl_25
      clear b26 B25 Rx_25 cx_25_0 cx_25_1 cx_25_2 cx_25_3 cx_25_4 cx_25_5 cx_25_6 Rsl_25 csl_25_0 csl_25_1 csl_25_2 csl_25_3
      have cx_26_0 := cells4 Rx_26 0 _ rfl
      have cx_26_1 := cells4 Rx_26 1 _ rfl
      have cx_26_2 := cells4 Rx_26 2 _ rfl
      have cx_26_3 := cells4 Rx_26 3 _ rfl
      have cx_26_4 := cells4 Rx_26 4 _ rfl
      have cx_26_5 := cells4 Rx_26 5 _ rfl
      have cx_26_6 := cells4 Rx_26 6 _ rfl
      obtain ⟨csl_26_0, csl_26_1, csl_26_2, csl_26_3⟩ := cells4s Rsl_26
      go_wp2_with fail
      refine (T2.out _ (FB.out FF.out B26)).mono ?_
      rintro r w27 ⟨rfl, b27⟩
      have B27 : Below w.heap.size w w27 := btr B26 b27
      have Rx_27 := heap_of b27 _ _ _ Rx_26
      have Rsl_27 := heap_of b27 _ _ _ Rsl_26
      clear b27 B26 Rx_26 cx_26_0 cx_26_1 cx_26_2 cx_26_3 cx_26_4 cx_26_5 cx_26_6 Rsl_26 csl_26_0 csl_26_1 csl_26_2 csl_26_3
      have cx_27_0 := cells4 Rx_27 0 _ rfl
      have cx_27_1 := cells4 Rx_27 1 _ rfl
      have cx_27_2 := cells4 Rx_27 2 _ rfl
      have cx_27_3 := cells4 Rx_27 3 _ rfl
      have cx_27_4 := cells4 Rx_27 4 _ rfl
      have cx_27_5 := cells4 Rx_27 5 _ rfl
      have cx_27_6 := cells4 Rx_27 6 _ rfl
      obtain ⟨csl_27_0, csl_27_1, csl_27_2, csl_27_3⟩ := cells4s Rsl_27
      go_wp2
      go_roundw
      case rel => exact ⟨3, by omega, by omega, rfl, B27, Rx_27⟩
      case measure => simp [intOf]
    · clear hk1
      have cx_20_0 := cells4 Rx_20 0 _ rfl
      have cx_20_1 := cells4 Rx_20 1 _ rfl
      have cx_20_2 := cells4 Rx_20 2 _ rfl
      have cx_20_3 := cells4 Rx_20 3 _ rfl
      have cx_20_4 := cells4 Rx_20 4 _ rfl
      have cx_20_5 := cells4 Rx_20 5 _ rfl
      have cx_20_6 := cells4 Rx_20 6 _ rfl
      go_wp2_with fail
      refine (W3.out _ (FB.out FF.out B20)).mono ?_
      rintro r w21 ⟨rfl, b21⟩
      have B21 : Below w.heap.size w w21 := btr B20 b21
      have Rx_21 := heap_of b21 _ _ _ Rx_20
      clear b21 B20 Rx_20 cx_20_0 cx_20_1 cx_20_2 cx_20_3 cx_20_4 cx_20_5 cx_20_6
      have cx_21_0 := cells4 Rx_21 0 _ rfl
      have cx_21_1 := cells4 Rx_21 1 _ rfl
      have cx_21_2 := cells4 Rx_21 2 _ rfl
      have cx_21_3 := cells4 Rx_21 3 _ rfl
      have cx_21_4 := cells4 Rx_21 4 _ rfl
      have cx_21_5 := cells4 Rx_21 5 _ rfl
      have cx_21_6 := cells4 Rx_21 6 _ rfl
      go_wp2_with fail
      refine (V3.out _ (FB.out FF.out B21)).mono ?_
      rintro r w22 ⟨rfl, b22⟩
      have B22 : Below w.heap.size w w22 := btr B21 b22
      have Rx_22 := heap_of b22 _ _ _ Rx_21
      clear b22 B21 Rx_21 cx_21_0 cx_21_1 cx_21_2 cx_21_3 cx_21_4 cx_21_5 cx_21_6
      have cx_22_0 := cells4 Rx_22 0 _ rfl
      have cx_22_1 := cells4 Rx_22 1 _ rfl
      have cx_22_2 := cells4 Rx_22 2 _ rfl
      have cx_22_3 := cells4 Rx_22 3 _ rfl
      have cx_22_4 := cells4 Rx_22 4 _ rfl
      have cx_22_5 := cells4 Rx_22 5 _ rfl
      have cx_22_6 := cells4 Rx_22 6 _ rfl
      go_wp2_with fail
      refine (U3.out _ (FB.out FF.out B22)).mono ?_
      rintro r w23 ⟨rfl, b23⟩
      have B23 : Below w.heap.size w w23 := btr B22 b23
      have Rx_23 := heap_of b23 _ _ _ Rx_22
      clear b23 B22 Rx_22 cx_22_0 cx_22_1 cx_22_2 cx_22_3 cx_22_4 cx_22_5 cx_22_6
      have cx_23_0 := cells4 Rx_23 0 _ rfl
      have cx_23_1 := cells4 Rx_23 1 _ rfl
      have cx_23_2 := cells4 Rx_23 2 _ rfl
      have cx_23_3 := cells4 Rx_23 3 _ rfl
      have cx_23_4 := cells4 Rx_23 4 _ rfl
      have cx_23_5 := cells4 Rx_23 5 _ rfl
      have cx_23_6 := cells4 Rx_23 6 _ rfl
      go_wp2_with fail
      refine (R3.out _ (FB.out FF.out B23)).mono ?_
      rintro r w24 ⟨rfl, b24⟩
      have B24 : Below w.heap.size w w24 := btr B23 b24
      have Rx_24 := heap_of b24 _ _ _ Rx_23
      clear b24 B23 Rx_23 cx_23_0 cx_23_1 cx_23_2 cx_23_3 cx_23_4 cx_23_5 cx_23_6
      have cx_24_0 := cells4 Rx_24 0 _ rfl
      have cx_24_1 := cells4 Rx_24 1 _ rfl
      have cx_24_2 := cells4 Rx_24 2 _ rfl
      have cx_24_3 := cells4 Rx_24 3 _ rfl
      have cx_24_4 := cells4 Rx_24 4 _ rfl
      have cx_24_5 := cells4 Rx_24 5 _ rfl
      have cx_24_6 := cells4 Rx_24 6 _ rfl
      have S25 := box B24.size
      have Lx_25 : Box (w.heap.size < w24.heap.size) := box (Array.getElem?_eq_some_iff.1 Rx_24).1
      have Rsl_25 := heap_alloc_last w24 (Obj.cells #[.int .u64 0, .int .u64 32, .int .u64 8, .int .u64 256] 23)
      have B25 := btr B24 (bal w24 (Obj.cells #[.int .u64 0, .int .u64 32, .int .u64 8, .int .u64 256] 23))
      have Rx_25 := heap_of (bal w24 (Obj.cells #[.int .u64 0, .int .u64 32, .int .u64 8, .int .u64 256] 23)) _ _ _ Rx_24
      clear B24 Rx_24 cx_24_0 cx_24_1 cx_24_2 cx_24_3 cx_24_4 cx_24_5 cx_24_6
      have cx_25_0 := cells4 Rx_25 0 _ rfl
      have cx_25_1 := cells4 Rx_25 1 _ rfl
      have cx_25_2 := cells4 Rx_25 2 _ rfl
      have cx_25_3 := cells4 Rx_25 3 _ rfl
      have cx_25_4 := cells4 Rx_25 4 _ rfl
      have cx_25_5 := cells4 Rx_25 5 _ rfl
      have cx_25_6 := cells4 Rx_25 6 _ rfl
      obtain ⟨csl_25_0, csl_25_1, csl_25_2, csl_25_3⟩ := cells4s Rsl_25
      go_wp2
      go_roundw
      case rel => exact ⟨4, by omega, by omega, rfl, B25, Rx_25⟩
      case measure => simp [intOf]
    · clear hk1
      have cx_20_0 := cells4 Rx_20 0 _ rfl
      have cx_20_1 := cells4 Rx_20 1 _ rfl
      have cx_20_2 := cells4 Rx_20 2 _ rfl
      have cx_20_3 := cells4 Rx_20 3 _ rfl
      have cx_20_4 := cells4 Rx_20 4 _ rfl
      have cx_20_5 := cells4 Rx_20 5 _ rfl
      have cx_20_6 := cells4 Rx_20 6 _ rfl
      go_wp2_with fail
      refine (A1.out _ (FB.out FF.out B20)).mono ?_
      rintro r w21 ⟨rfl, b21⟩
      have B21 : Below w.heap.size w w21 := btr B20 b21
      have Rx_21 := heap_of b21 _ _ _ Rx_20
      clear b21 B20 Rx_20 cx_20_0 cx_20_1 cx_20_2 cx_20_3 cx_20_4 cx_20_5 cx_20_6
      have cx_21_0 := cells4 Rx_21 0 _ rfl
      have cx_21_1 := cells4 Rx_21 1 _ rfl
      have cx_21_2 := cells4 Rx_21 2 _ rfl
      have cx_21_3 := cells4 Rx_21 3 _ rfl
      have cx_21_4 := cells4 Rx_21 4 _ rfl
      have cx_21_5 := cells4 Rx_21 5 _ rfl
      have cx_21_6 := cells4 Rx_21 6 _ rfl
      go_wp2_with fail
      refine (A2.out _ (FB.out FF.out B21)).mono ?_
      rintro r w22 ⟨rfl, b22⟩
      have B22 : Below w.heap.size w w22 := btr B21 b22
      have Rx_22 := heap_of b22 _ _ _ Rx_21
      clear b22 B21 Rx_21 cx_21_0 cx_21_1 cx_21_2 cx_21_3 cx_21_4 cx_21_5 cx_21_6
      have cx_22_0 := cells4 Rx_22 0 _ rfl
      have cx_22_1 := cells4 Rx_22 1 _ rfl
      have cx_22_2 := cells4 Rx_22 2 _ rfl
      have cx_22_3 := cells4 Rx_22 3 _ rfl
      have cx_22_4 := cells4 Rx_22 4 _ rfl
      have cx_22_5 := cells4 Rx_22 5 _ rfl
      have cx_22_6 := cells4 Rx_22 6 _ rfl
      go_wp2_with fail
      refine (A3.out _ (FB.out FF.out B22)).mono ?_
      rintro r w23 ⟨rfl, b23⟩
      have B23 : Below w.heap.size w w23 := btr B22 b23
      have Rx_23 := heap_of b23 _ _ _ Rx_22
      clear b23 B22 Rx_22 cx_22_0 cx_22_1 cx_22_2 cx_22_3 cx_22_4 cx_22_5 cx_22_6
      have cx_23_0 := cells4 Rx_23 0 _ rfl
      have cx_23_1 := cells4 Rx_23 1 _ rfl
      have cx_23_2 := cells4 Rx_23 2 _ rfl
      have cx_23_3 := cells4 Rx_23 3 _ rfl
      have cx_23_4 := cells4 Rx_23 4 _ rfl
      have cx_23_5 := cells4 Rx_23 5 _ rfl
      have cx_23_6 := cells4 Rx_23 6 _ rfl
      go_wp2_with fail
      refine (KQ.out _ (FB.out FF.out B23)).mono ?_
      rintro r w24 ⟨rfl, b24⟩
      have B24 : Below w.heap.size w w24 := btr B23 b24
      have Rx_24 := heap_of b24 _ _ _ Rx_23
      clear b24 B23 Rx_23 cx_23_0 cx_23_1 cx_23_2 cx_23_3 cx_23_4 cx_23_5 cx_23_6
      have cx_24_0 := cells4 Rx_24 0 _ rfl
      have cx_24_1 := cells4 Rx_24 1 _ rfl
      have cx_24_2 := cells4 Rx_24 2 _ rfl
      have cx_24_3 := cells4 Rx_24 3 _ rfl
      have cx_24_4 := cells4 Rx_24 4 _ rfl
      have cx_24_5 := cells4 Rx_24 5 _ rfl
      have cx_24_6 := cells4 Rx_24 6 _ rfl
      go_wp2_with fail
      refine (KV.out _ (FB.out FF.out B24)).mono ?_
      rintro r w25 ⟨rfl, b25⟩
      have B25 : Below w.heap.size w w25 := btr B24 b25
      have Rx_25 := heap_of b25 _ _ _ Rx_24
      clear b25 B24 Rx_24 cx_24_0 cx_24_1 cx_24_2 cx_24_3 cx_24_4 cx_24_5 cx_24_6
      have cx_25_0 := cells4 Rx_25 0 _ rfl
      have cx_25_1 := cells4 Rx_25 1 _ rfl
      have cx_25_2 := cells4 Rx_25 2 _ rfl
      have cx_25_3 := cells4 Rx_25 3 _ rfl
      have cx_25_4 := cells4 Rx_25 4 _ rfl
      have cx_25_5 := cells4 Rx_25 5 _ rfl
      have cx_25_6 := cells4 Rx_25 6 _ rfl
      go_wp2
      go_ret
      exact ⟨rfl, B25⟩
end Go.Proofs.YtinagedilgihjaaDoor
namespace Go.Proofs.YtinagedilgihjaaDoor
set_option maxRecDepth 100000
set_option maxHeartbeats 40000000
set_option maxRecDepth 100000
open Go.RowKit WMath
set_option linter.unusedSimpArgs false
set_option linter.unusedVariables false
def rdR (n : Int) (F : Nat) : Nat × Int := if 1 ≤ n ∧ n ≤ 3 then (rdW n F, 0) else (0, 210)
def wrR (n : Int) (F x : Nat) : Nat × Int := if 1 ≤ n ∧ n ≤ 3 then (wrW n F x, 0) else (0, 210)
def mdR (F rm : Nat) : Nat × Int := if 7 < rm then (0, 2) else if 4 < (if rm = 7 then F / 32 else rm) then (0, 211) else ((if rm = 7 then F / 32 else rm), 0)
def mkR (q g : Nat) : Nat × Int := if 7 < q ∨ 31 < g then (0, 2) else (32 * q + g, 0)
def akR (F g : Nat) : Nat × Int := if 31 < g then (0, 2) else (F ||| g, 0)
def txR (g : Nat) : ByteArray × Int := if 31 < g then (⟨#[]⟩, 2) else (txt g, 0)
theorem n_three {n : Int} (h : 1 ≤ n ∧ n ≤ 3) : n = 1 ∨ n = 2 ∨ n = 3 := by omega
theorem wrW_lt {n : Int} (h : 1 ≤ n ∧ n ≤ 3) {F : Nat} (hF : F < 256) (x : Nat) : wrW n F x < 256 := by
  rcases n_three h with rfl | rfl | rfl
  · show F / 32 * 32 + x % 32 < 256; omega
  · show x % 8 * 32 + F % 32 < 256; omega
  · show x % 256 < 256; omega
end Go.Proofs.YtinagedilgihjaaDoor
namespace Go.Proofs.YtinagedilgihjaaDoor
set_option maxRecDepth 100000
set_option maxHeartbeats 40000000
set_option maxRecDepth 100000
open WMath
open Go.ChangeShapes Go.WideShapes Go.ChangeAt Go.RowKit
theorem nat_u8a {x : Int} (h : (Lit.int .u8 x).wf = true) : ∃ n : Nat, n < 256 ∧ x = (n : Int) := by
  have hb := bounds_u8 h
  obtain ⟨n, rfl⟩ := Int.eq_ofNat_of_zero_le hb.1
  exact ⟨n, by omega, rfl⟩
def dA (H : Type) (a b c d : Int) (e : Bool) (f g : Int) : DataW H := .agg [.lit (.int .u8 a), .lit (.int .i64 b), .lit (.int .u8 c), .lit (.int .u64 d), .lit (.bool e), .lit (.int .u8 f), .lit (.int .u8 g)]
theorem list7 {α : Type} (l : List α) (h : (⟨l⟩ : Array α).size = 7) : ∃ a b c d e f g, l = [a, b, c, d, e, f, g] := by
  match l, h with
  | [a, b, c, d, e, f, g], _ => exact ⟨a, b, c, d, e, f, g, rfl⟩
theorem trod_struct7 {H : Type} {enc : TypeId × Value → H} {P : Program} {w : World} {base : Nat} {spare : Nat → Bool} {held : Bool} {t : TypeId} {f0 f1 f2 f3 f4 f5 f6 : Field} {fuel : Nat} {cs : List Value} {x : DataW H × List MemPlace} (ht : P.underlying t = some (.struct #[f0, f1, f2, f3, f4, f5, f6])) (h : DataW.trod enc P w base spare held fuel t cs = some x) :
    ∃ y0 y1 y2 y3 y4 y5 y6 n, x = (.agg [y0.1, y1.1, y2.1, y3.1, y4.1, y5.1, y6.1], y0.2 ++ (y1.2 ++ (y2.2 ++ (y3.2 ++ (y4.2 ++ (y5.2 ++ y6.2)))))) ∧ DataW.trod enc P w base spare held n f0.type ((cs.drop f0.offset).take (P.cellsOf f0.type)) = some y0 ∧
      DataW.trod enc P w base spare held n f1.type ((cs.drop f1.offset).take (P.cellsOf f1.type)) = some y1 ∧ DataW.trod enc P w base spare held n f2.type ((cs.drop f2.offset).take (P.cellsOf f2.type)) = some y2 ∧
      DataW.trod enc P w base spare held n f3.type ((cs.drop f3.offset).take (P.cellsOf f3.type)) = some y3 ∧ DataW.trod enc P w base spare held n f4.type ((cs.drop f4.offset).take (P.cellsOf f4.type)) = some y4 ∧
      DataW.trod enc P w base spare held n f5.type ((cs.drop f5.offset).take (P.cellsOf f5.type)) = some y5 ∧ DataW.trod enc P w base spare held n f6.type ((cs.drop f6.offset).take (P.cellsOf f6.type)) = some y6 := by
  obtain ⟨xs, n, _, rfl, hl, hlen, hf⟩ := DataW.trod_struct ht h
  match xs, hlen with
  | [y0, y1, y2, y3, y4, y5, y6], _ => exact ⟨y0, y1, y2, y3, y4, y5, y6, n, by simp, by simpa using hf 0 f0 rfl, by simpa using hf 1 f1 rfl, by simpa using hf 2 f2 rfl, by simpa using hf 3 f3 rfl, by simpa using hf 4 f4 rfl, by simpa using hf 5 f5 rfl, by simpa using hf 6 f6 rfl⟩

set_option maxRecDepth 100000 in
theorem open_ask {H : Type} {enc : TypeId × Value → H} {w : World} {base b : Nat} {spare : Nat → Bool} {held : Bool} {v : Value} {d : DataW H} {p : List MemPlace}
    (hok : Value.okWide Tryd.prog w .any base 26 v) (h : DataW.Trod enc Tryd.prog w b spare held 26 v d p) : ∃ (x0 x1 x2 x3 : Int) (x4 : Bool) (x5 x6 : Int), v = .agg #[.int .u8 x0, .int .i64 x1, .int .u8 x2, .int .u64 x3, .bool x4, .int .u8 x5, .int .u8 x6] ∧ d = dA H x0 x1 x2 x3 x4 x5 x6 ∧ p = [] ∧ (Lit.int .u8 x0).wf = true ∧ (Lit.int .i64 x1).wf = true ∧ (Lit.int .u8 x2).wf = true ∧ (Lit.int .u64 x3).wf = true ∧ (Lit.int .u8 x5).wf = true ∧ (Lit.int .u8 x6).wf = true := by
  have hc : Tryd.prog.cellsOf 26 = 7 := by kernel_rfl
  have h0 : Tryd.prog.cellsOf 22 = 1 := by kernel_rfl
  have h1 : Tryd.prog.cellsOf 3 = 1 := by kernel_rfl
  have h2 : Tryd.prog.cellsOf 5 = 1 := by kernel_rfl
  have h3 : Tryd.prog.cellsOf 23 = 1 := by kernel_rfl
  have h4 : Tryd.prog.cellsOf 4 = 1 := by kernel_rfl
  have h6 : Tryd.prog.cellsOf 24 = 1 := by kernel_rfl
  obtain ⟨cs, rfl, hsz⟩ := okWide_struct Tryd.underlying26 hok
  rw [hc] at hsz
  obtain ⟨l⟩ := cs
  obtain ⟨c0, c1, c2, c3, c4, c5, c6, rfl⟩ := list7 l hsz
  obtain ⟨fuel, hf⟩ := h
  obtain ⟨y0, y1, y2, y3, y4, y5, y6, n, hx, g0, g1, g2, g3, g4, g5, g6⟩ := trod_struct7 Tryd.underlying26 hf
  simp only [h0, h1, h2, h3, h4, h6] at g0 g1 g2 g3 g4 g5 g6
  obtain ⟨x0, e0, k0, w0⟩ := DataW.trod_int Tryd.underlying22 g0
  obtain ⟨x1, e1, k1, w1⟩ := DataW.trod_int Tryd.underlying3 g1
  obtain ⟨x2, e2, k2, w2⟩ := DataW.trod_int Tryd.underlying5 g2
  obtain ⟨x3, e3, k3, w3⟩ := DataW.trod_int Tryd.underlying23 g3
  obtain ⟨x4, e4, k4⟩ := DataW.trod_bool Tryd.underlying4 g4
  obtain ⟨x5, e5, k5, w5⟩ := DataW.trod_int Tryd.underlying5 g5
  obtain ⟨x6, e6, k6, w6⟩ := DataW.trod_int Tryd.underlying24 g6
  simp [Value.cells] at e0 e1 e2 e3 e4 e5 e6
  subst e0 e1 e2 e3 e4 e5 e6
  simp only [Prod.mk.injEq] at hx
  refine ⟨x0, x1, x2, x3, x4, x5, x6, rfl, ?_, ?_, w0, w1, w2, w3, w5, w6⟩
  · rw [hx.1, k0, k1, k2, k3, k4, k5, k6]; rfl
  · rw [hx.2, k0, k1, k2, k3, k4, k5, k6]; rfl

set_option maxRecDepth 100000 in
theorem shut_ask {H : Type} {enc : TypeId × Value → H} {w : World} {b : Nat} {spare : Nat → Bool} {held : Bool} {x0 x1 x2 x3 : Int} {x4 : Bool} {x5 x6 : Int} (h : (Lit.int .u8 x0).wf = true ∧ (Lit.int .i64 x1).wf = true ∧ (Lit.int .u8 x2).wf = true ∧ (Lit.int .u64 x3).wf = true ∧ (Lit.int .u8 x5).wf = true ∧ (Lit.int .u8 x6).wf = true) :
    DataW.Trod enc Tryd.prog w b spare held 26 (.agg #[.int .u8 x0, .int .i64 x1, .int .u8 x2, .int .u64 x3, .bool x4, .int .u8 x5, .int .u8 x6]) (dA H x0 x1 x2 x3 x4 x5 x6) [] := by
  have hc : Tryd.prog.cellsOf 26 = 7 := by kernel_rfl
  have h0 : Tryd.prog.cellsOf 22 = 1 := by kernel_rfl
  have h1 : Tryd.prog.cellsOf 3 = 1 := by kernel_rfl
  have h2 : Tryd.prog.cellsOf 5 = 1 := by kernel_rfl
  have h3 : Tryd.prog.cellsOf 23 = 1 := by kernel_rfl
  have h4 : Tryd.prog.cellsOf 4 = 1 := by kernel_rfl
  have h6 : Tryd.prog.cellsOf 24 = 1 := by kernel_rfl
  refine ⟨2, ?_⟩
  simp [DataW.trod, Value.cells, Tryd.underlying26, Tryd.underlying22, Tryd.underlying3, Tryd.underlying5, Tryd.underlying23, Tryd.underlying4, Tryd.underlying24, hc, h0, h1, h2, h3, h4, h6, h.1, h.2.1, h.2.2.1, h.2.2.2.1, h.2.2.2.2.1, h.2.2.2.2.2, dA]
end Go.Proofs.YtinagedilgihjaaDoor
namespace Go.Proofs.YtinagedilgihjaaDoor
set_option maxRecDepth 100000
set_option maxHeartbeats 40000000
set_option maxRecDepth 100000
open Go.RowKit WMath
set_option linter.unusedSimpArgs false
set_option linter.unusedVariables false
def txC (g : Nat) : Nat → ByteArray
  | 0 => ⟨#[]⟩
  | j + 1 => if g.testBit (4 - j) = true then (if (txC g j).size = 0 then wdW (4 - j) else txC g j ++ ⟨#[43]⟩ ++ wdW (4 - j)) else txC g j
def txD (g : Nat) : ByteArray := if (txC g 5).size = 0 then ⟨#[45]⟩ else txC g 5
theorem if_nil {a : Type} (S : ByteArray) (x y : a) : (if (S.toList == []) = true then x else y) = if S.size = 0 then x else y := by
  rw [eq_empty]
  by_cases c : S.size = 0
  · rw [if_pos (decide_eq_true c), if_pos c]
  · rw [if_neg (by rw [decide_eq_false c]; decide), if_neg c]
theorem txB_C (g : Nat) : ∀ j, txB g j = txC g j
  | 0 => rfl
  | j + 1 => by
    show (if g.testBit (4 - j) = true then (if ((txB g j).toList == []) = true then wdW (4 - j) else txB g j ++ ⟨#[43]⟩ ++ wdW (4 - j)) else txB g j) = _
    rw [if_nil, txB_C g j]
    rfl
theorem txt_D (g : Nat) : txt g = txD g := by
  unfold txt txD
  rw [if_nil, txB_C]
theorem txt_21 : txR 21 = (⟨#[110, 118, 43, 111, 102, 43, 110, 120]⟩, 0) := by
  unfold txR
  rw [txt_D]
  decide +kernel
theorem lives_all {Tp : World → Prop} (FB : Box (∀ {w w' : World}, Tp w → Below w.heap.size w w' → Tp w')) (CR : ∀ (n : Int) (F : Nat), -9223372036854775808 ≤ n → n ≤ 9223372036854775807 → F < 256 → Box (∀ w, Tp w → Calls Tryd.prog 8 #[.int .i64 n, .int .u8 (F : Nat)] w fun r w' => r = .returned (.tuple #[.int .u64 ((rdR n F).1 : Nat), .int .i64 (rdR n F).2]) ∧ Below w.heap.size w w')) (CW : ∀ (n : Int) (F x : Nat), -9223372036854775808 ≤ n → n ≤ 9223372036854775807 → F < 256 → x < 18446744073709551616 → Box (∀ w, Tp w → Calls Tryd.prog 10 #[.int .i64 n, .int .u8 (F : Nat), .int .u64 (x : Nat)] w fun r w' => r = .returned (.tuple #[.int .u8 ((wrR n F x).1 : Nat), .int .i64 (wrR n F x).2]) ∧ Below w.heap.size w w')) (CD : ∀ (F rm : Nat), F < 256 → rm < 256 → Box (∀ w, Tp w → Calls Tryd.prog 15 #[.int .u8 (F : Nat), .int .u8 (rm : Nat)] w fun r w' => r = .returned (.tuple #[.int .u8 ((mdR F rm).1 : Nat), .int .i64 (mdR F rm).2]) ∧ Below w.heap.size w w')) (CT : ∀ (g : Nat), g < 256 → Box (∀ w, Tp w → Calls Tryd.prog 26 #[.int .u8 (g : Nat)] w fun r w' => r = .returned (.tuple #[.string (txR g).1, .int .i64 (txR g).2]) ∧ Below w.heap.size w w')) (w : World) (hT : Tp w) : Calls Tryd.prog 14 #[] w fun r w' => r = .returned (.bool true) ∧ Below w.heap.size w w' := by
  have T := CT 21 (by decide)
  rw [txt_21] at T
  exact r21lives FB _ _ w (CR 2 227 (by decide) (by decide) (by decide)) (CW 1 227 500 (by decide) (by decide) (by decide) (by decide)) (CR 0 227 (by decide) (by decide) (by decide)) (CD 96 7 (by decide) (by decide)) (CD 160 7 (by decide) (by decide)) T hT
def bsW (n : Int) : Nat := if n = 1 then 32 else if n = 2 then 8 else 256
theorem rd_wr {n : Int} (h : 1 ≤ n ∧ n ≤ 3) {F : Nat} (hF : F < 256) (x : Nat) : rdW n (wrW n F x) = x % bsW n := by
  rcases n_three h with rfl | rfl | rfl
  · show (F / 32 * 32 + x % 32) % 32 = x % 32; omega
  · show (x % 8 * 32 + F % 32) / 32 = x % 8; omega
  · rfl
theorem wr_wr {n : Int} (h : 1 ≤ n ∧ n ≤ 3) {F : Nat} (hF : F < 256) (x y : Nat) : wrW n (wrW n F x) y = wrW n F y := by
  rcases n_three h with rfl | rfl | rfl
  · show (F / 32 * 32 + x % 32) / 32 * 32 + y % 32 = F / 32 * 32 + y % 32; omega
  · show y % 8 * 32 + (x % 8 * 32 + F % 32) % 32 = y % 8 * 32 + F % 32; omega
  · rfl
theorem bits_or_u8 (a b : Nat) (ha : a < 256) (hb : b < 256) : bits .or .u8 (a : Int) (b : Int) = ((a ||| b : Nat) : Int) := by
  have hx : a ||| b < 2 ^ 8 := Nat.or_lt_two_pow (by omega) (by omega)
  have h1 : (BitVec.ofInt 8 (a : Int)).toNat = a := by
    rw [BitVec.ofInt_natCast, BitVec.toNat_ofNat]; exact Nat.mod_eq_of_lt (by omega)
  have h2 : (BitVec.ofInt 8 (b : Int)).toNat = b := by
    rw [BitVec.ofInt_natCast, BitVec.toNat_ofNat]; exact Nat.mod_eq_of_lt (by omega)
  show IntKind.u8.wrap ((BitVec.ofInt 8 (a : Int) ||| BitVec.ofInt 8 (b : Int)).toNat : Int) = _
  rw [BitVec.toNat_or, h1, h2, show ∀ y : Int, IntKind.u8.wrap y = y % 256 from fun _ => rfl]
  omega
theorem parts_all {Tp : World → Prop} (FB : Box (∀ {w w' : World}, Tp w → Below w.heap.size w w' → Tp w')) (ho n : Int) (h0 : 0 ≤ ho) (h1 : ho ≤ 255) (n1 : -9223372036854775808 ≤ n) (n2 : n ≤ 9223372036854775807) (F : Nat) (hF : F < 256) (X : Nat) (hX : X < 18446744073709551616) (si : Bool) (rm g : Nat) (hr : rm < 256) (hg : g < 256) (Y : Nat) (hY : Y < 18446744073709551616) (CR : ∀ (n : Int) (F : Nat), -9223372036854775808 ≤ n → n ≤ 9223372036854775807 → F < 256 → Box (∀ w, Tp w → Calls Tryd.prog 8 #[.int .i64 n, .int .u8 (F : Nat)] w fun r w' => r = .returned (.tuple #[.int .u64 ((rdR n F).1 : Nat), .int .i64 (rdR n F).2]) ∧ Below w.heap.size w w')) (CW : ∀ (n : Int) (F x : Nat), -9223372036854775808 ≤ n → n ≤ 9223372036854775807 → F < 256 → x < 18446744073709551616 → Box (∀ w, Tp w → Calls Tryd.prog 10 #[.int .i64 n, .int .u8 (F : Nat), .int .u64 (x : Nat)] w fun r w' => r = .returned (.tuple #[.int .u8 ((wrR n F x).1 : Nat), .int .i64 (wrR n F x).2]) ∧ Below w.heap.size w w')) (CM : ∀ (q g : Nat), q < 256 → g < 256 → Box (∀ w, Tp w → Calls Tryd.prog 17 #[.int .u8 (q : Nat), .int .u8 (g : Nat)] w fun r w' => r = .returned (.tuple #[.int .u8 ((mkR q g).1 : Nat), .int .i64 (mkR q g).2]) ∧ Below w.heap.size w w')) (CK : ∀ (F g : Nat), F < 256 → g < 256 → Box (∀ w, Tp w → Calls Tryd.prog 19 #[.int .u8 (F : Nat), .int .u8 (g : Nat)] w fun r w' => r = .returned (.tuple #[.int .u8 ((akR F g).1 : Nat), .int .i64 (akR F g).2]) ∧ Below w.heap.size w w')) (CP : ∀ (F : Nat), F < 256 → Box (∀ w, Tp w → Calls Tryd.prog 21 #[.int .u8 (F : Nat)] w fun r w' => r = .returned (.tuple #[.int .u8 ((F / 32 : Nat) : Int), .int .u8 ((F % 32 : Nat) : Int)]) ∧ Below w.heap.size w w')) (KV : Box (∀ w, Tp w → Calls Tryd.prog 14 #[] w fun r w' => r = .returned (.bool true) ∧ Below w.heap.size w w')) (w : World) (hT : Tp w) : Calls Tryd.prog 6 #[.agg #[.int .u8 ho, .int .i64 n, .int .u8 (F : Nat), .int .u64 (X : Nat), .bool si, .int .u8 (rm : Nat), .int .u8 (g : Nat)], .int .u64 (Y : Nat)] w fun r w' => r = .returned (.bool true) ∧ Below w.heap.size w w' := by
  have T : ∀ k : Int, k = 1 ∨ k = 2 ∨ k = 3 → 1 ≤ k ∧ k ≤ 3 := fun k h => by omega
  have wr : ∀ (k : Int), k = 1 ∨ k = 2 ∨ k = 3 → ∀ (G x : Nat), G < 256 → x < 18446744073709551616 → Box (∀ w, Tp w → Calls Tryd.prog 10 #[.int .i64 k, .int .u8 (G : Nat), .int .u64 (x : Nat)] w fun r w' => r = .returned (.tuple #[.int .u8 (wrW k G x : Nat), .int .i64 0]) ∧ Below w.heap.size w w') := by
    intro k h G x hG hx
    have := CW k G x (by omega) (by omega) hG hx
    have e : wrR k G x = (wrW k G x, 0) := by unfold wrR; rw [if_pos (T k h)]
    rw [e] at this
    exact this
  have rd : ∀ (k : Int), k = 1 ∨ k = 2 ∨ k = 3 → ∀ (G : Nat), G < 256 → Box (∀ w, Tp w → Calls Tryd.prog 8 #[.int .i64 k, .int .u8 (G : Nat)] w fun r w' => r = .returned (.tuple #[.int .u64 (rdW k G : Nat), .int .i64 0]) ∧ Below w.heap.size w w') := by
    intro k h G hG
    have := CR k G (by omega) (by omega) hG
    have e : rdR k G = (rdW k G, 0) := by unfold rdR; rw [if_pos (T k h)]
    rw [e] at this
    exact this
  have one : ∀ (k : Int), k = 1 ∨ k = 2 ∨ k = 3 → wrW k F X < 256 := fun k h => wrW_lt (T k h) hF X
  have V : ∀ (k : Int), k = 1 ∨ k = 2 ∨ k = 3 → Box (∀ w, Tp w → Calls Tryd.prog 10 #[.int .i64 k, .int .u8 (wrW k F X : Nat), .int .u64 (Y : Nat)] w fun r w' => r = .returned (.tuple #[.int .u8 (wrW k F Y : Nat), .int .i64 0]) ∧ Below w.heap.size w w') := by
    intro k h
    have := wr k h (wrW k F X) Y (one k h) hY
    rw [wr_wr (T k h) hF] at this
    exact this
  have G : ∀ (k : Int), k = 1 ∨ k = 2 ∨ k = 3 → Box (∀ w, Tp w → Calls Tryd.prog 8 #[.int .i64 k, .int .u8 (wrW k F X : Nat)] w fun r w' => r = .returned (.tuple #[.int .u64 ((X % bsW k : Nat) : Int), .int .i64 0]) ∧ Below w.heap.size w w') := by
    intro k h
    have := rd k h (wrW k F X) (one k h)
    rw [rd_wr (T k h) hF] at this
    exact this
  have o1 : rdW 2 (wrW 1 F X) = rdW 2 F := by show (F / 32 * 32 + X % 32) / 32 = F / 32; omega
  have o2 : rdW 1 (wrW 2 F X) = rdW 1 F := by show (X % 8 * 32 + F % 32) % 32 = F % 32; omega
  have S1 := rd 2 (by decide) (wrW 1 F X) (one 1 (by decide))
  rw [o1] at S1
  have S2 := rd 1 (by decide) (wrW 2 F X) (one 2 (by decide))
  rw [o2] at S2
  have g32 : g % 32 < 32 := Nat.mod_lt _ (by decide)
  have y32 : Y % 32 < 32 := Nat.mod_lt _ (by decide)
  have gy : g % 32 ||| Y % 32 < 32 := Nat.or_lt_two_pow (n := 5) g32 y32
  have Fg : F ||| g % 32 < 256 := Nat.or_lt_two_pow (n := 8) hF (Nat.lt_trans g32 (by decide))
  have Fgy : F ||| (g % 32 ||| Y % 32) < 256 := Nat.or_lt_two_pow (n := 8) hF (Nat.lt_trans gy (by decide))
  have ac : ∀ (A b : Nat), A < 256 → b < 32 → Box (∀ w, Tp w → Calls Tryd.prog 19 #[.int .u8 (A : Nat), .int .u8 (b : Nat)] w fun r w' => r = .returned (.tuple #[.int .u8 ((A ||| b : Nat) : Int), .int .i64 0]) ∧ Below w.heap.size w w') := by
    intro A b hA hb
    have := CK A b hA (by omega)
    have e : akR A b = (A ||| b, 0) := by unfold akR; rw [if_neg (by omega)]
    rw [e] at this
    exact this
  have A2 := ac (F ||| g % 32) (Y % 32) Fg y32
  rw [Nat.or_assoc] at A2
  have M := CM (F / 32) (F % 32) (by omega) (by omega)
  have eM : mkR (F / 32) (F % 32) = (F, 0) := by
    unfold mkR
    rw [if_neg (by omega), show 32 * (F / 32) + F % 32 = F by omega]
  rw [eM] at M
  have Q := CP (F ||| (g % 32 ||| Y % 32)) Fgy
  have q1 : (F ||| (g % 32 ||| Y % 32)) / 32 = F / 32 := by
    have := Nat.or_div_two_pow (a := F) (b := g % 32 ||| Y % 32) (n := 5)
    rw [show (g % 32 ||| Y % 32) / 2 ^ 5 = 0 from Nat.div_eq_of_lt gy, Nat.or_zero] at this
    exact this
  have q2 : (F ||| (g % 32 ||| Y % 32)) % 32 = F % 32 ||| g % 32 ||| Y % 32 := by
    have := Nat.or_mod_two_pow (a := F) (b := g % 32 ||| Y % 32) (n := 5)
    rw [show (g % 32 ||| Y % 32) % 2 ^ 5 = g % 32 ||| Y % 32 from Nat.mod_eq_of_lt gy] at this
    exact this.trans (Nat.or_assoc _ _ _).symm
  rw [q1, q2] at Q
  have f32 : F % 32 < 32 := Nat.mod_lt _ (by decide)
  have fg : F % 32 ||| g % 32 < 32 := Nat.or_lt_two_pow (n := 5) f32 g32
  exact cp_law FB ho n _ _ si _ _ _ _ _ _ _ _ _ _ _ _ _ _ _ _ _ _ _ _ (show ((X : Nat) : Int).tmod 32 = ((X % bsW 1 : Nat) : Int) from rfl) (show ((X : Nat) : Int).tmod 8 = ((X % bsW 2 : Nat) : Int) from rfl) (show ((X : Nat) : Int).tmod 256 = ((X % bsW 3 : Nat) : Int) from rfl)
    ((g % 32 : Nat) : Int) ((Y % 32 : Nat) : Int) ((g % 32 ||| Y % 32 : Nat) : Int) _ _ _ _ _ ((F % 32 ||| g % 32 : Nat) : Int) rfl
    (show ((Y : Nat) : Int).tmod 32 % 256 = ((Y % 32 : Nat) : Int) from by have e : ((Y : Nat) : Int).tmod 32 = ((Y % 32 : Nat) : Int) := rfl; rw [e]; omega)
    (bits_or_u8 _ _ (by omega) (by omega)) (bits_or_u8 _ _ (by omega) (by omega)) (bits_or_u8 _ _ (by omega) (by omega)) w (CP F hF) M
    (wr 1 (by decide) F X hF hX) (V 1 (by decide)) (wr 1 (by decide) F Y hF hY) (G 1 (by decide)) (rd 2 (by decide) F hF) S1
    (wr 2 (by decide) F X hF hX) (V 2 (by decide)) (wr 2 (by decide) F Y hF hY) (G 2 (by decide)) (rd 1 (by decide) F hF) S2
    (wr 3 (by decide) F X hF hX) (V 3 (by decide)) (wr 3 (by decide) F Y hF hY) (G 3 (by decide))
    (ac F (g % 32) hF g32) A2 (ac F (g % 32 ||| Y % 32) hF gy) Q KV hT
theorem bal7 (w : World) (o : Obj) : Below w.heap.size w (w.alloc o) := (Below.refl _ _).alloc (Nat.le_refl _) _
def fcells : Array Value := #[.string ⟨#[102, 102, 108, 97, 103, 115]⟩, .int .u64 0, .int .u8 31, .string ⟨#[102, 114, 109]⟩, .int .u64 5, .int .u8 7, .string ⟨#[102, 99, 115, 114]⟩, .int .u64 0, .int .u8 255]
def wcells : Array Value := #[.string ⟨#[110, 118]⟩, .string ⟨#[100, 122]⟩, .string ⟨#[111, 102]⟩, .string ⟨#[117, 102]⟩, .string ⟨#[110, 120]⟩]
def FAt (w : World) : Prop := (∀ i, i < 9 → w.cell? ⟨0, i, none⟩ = fcells[i]?) ∧ ∀ i, i < 5 → w.cell? ⟨1, i, none⟩ = wcells[i]?
theorem fatB {w w' : World} (h : FAt w) (hb : Below w.heap.size w w') : FAt w' := ⟨fun i hi => by
  have hv : fcells[i]? = some _ := Array.getElem?_eq_getElem (show i < fcells.size from hi)
  rw [hb.cell (p := ⟨0, i, none⟩) (World.block_lt_of_cell? w _ ((h.1 i hi).trans hv))]
  exact h.1 i hi, fun i hi => by
  have hv : wcells[i]? = some _ := Array.getElem?_eq_getElem (show i < wcells.size from hi)
  rw [hb.cell (p := ⟨1, i, none⟩) (World.block_lt_of_cell? w _ ((h.2 i hi).trans hv))]
  exact h.2 i hi⟩
theorem fat_at {w : World} (h : FAt w) (i : Nat) (v : Value) (hi : i < 9) (hv : fcells[i]? = some v) : w.cell? ⟨0, i, none⟩ = some v := (h.1 i hi).trans hv
theorem fat_wd {w : World} (h : FAt w) (i : Nat) (v : Value) (hi : i < 5) (hv : wcells[i]? = some v) : w.cell? ⟨1, i, none⟩ = some v := (h.2 i hi).trans hv
theorem fat_al {w : World} (h : FAt w) (o : Obj) : FAt (w.alloc o) := fatB h (bal7 w o)
set_option maxRecDepth 100000 in
set_option maxHeartbeats 8000000 in
theorem pc_num1 (w : World) (hT : FAt w) : Calls Tryd.prog 30 #[.int .i64 1] w fun r w' => r = .returned (.tuple #[.agg #[.string ⟨#[102, 102, 108, 97, 103, 115]⟩, .int .u64 0, .int .u8 31], .int .i64 0]) ∧ Below w.heap.size w w' := by
  have T2 := fat_al hT (.cells #[.string ⟨#[]⟩, .int .u64 0, .int .u8 0] 54)
  have c0 := fat_at T2 0 (.string ⟨#[102, 102, 108, 97, 103, 115]⟩) (by decide) rfl
  have c1 := fat_at T2 1 (.int .u64 0) (by decide) rfl
  have c2 := fat_at T2 2 (.int .u8 31) (by decide) rfl
  clear T2 hT
  obtain ⟨Rz_0, B0⟩ := opn1 w (Obj.cells #[.string ⟨#[]⟩, .int .u64 0, .int .u8 0] 54)
  go_enter Tryd.func30, Tryd.ntmps30
  clear B0 Rz_0
  go_wp2
  exact bodyPost_ret (v := .tuple #[.agg #[.string ⟨#[102, 102, 108, 97, 103, 115]⟩, .int .u64 0, .int .u8 31], .int .i64 0]) (by simp [results, Tryd.results30, go_sem]) rfl ⟨rfl, bal7 w _⟩
set_option maxRecDepth 100000 in
set_option maxHeartbeats 8000000 in
theorem pc_num2 (w : World) (hT : FAt w) : Calls Tryd.prog 30 #[.int .i64 2] w fun r w' => r = .returned (.tuple #[.agg #[.string ⟨#[102, 114, 109]⟩, .int .u64 5, .int .u8 7], .int .i64 0]) ∧ Below w.heap.size w w' := by
  have T2 := fat_al hT (.cells #[.string ⟨#[]⟩, .int .u64 0, .int .u8 0] 54)
  have c0 := fat_at T2 3 (.string ⟨#[102, 114, 109]⟩) (by decide) rfl
  have c1 := fat_at T2 4 (.int .u64 5) (by decide) rfl
  have c2 := fat_at T2 5 (.int .u8 7) (by decide) rfl
  clear T2 hT
  obtain ⟨Rz_0, B0⟩ := opn1 w (Obj.cells #[.string ⟨#[]⟩, .int .u64 0, .int .u8 0] 54)
  go_enter Tryd.func30, Tryd.ntmps30
  clear B0 Rz_0
  go_wp2
  exact bodyPost_ret (v := .tuple #[.agg #[.string ⟨#[102, 114, 109]⟩, .int .u64 5, .int .u8 7], .int .i64 0]) (by simp [results, Tryd.results30, go_sem]) rfl ⟨rfl, bal7 w _⟩
set_option maxRecDepth 100000 in
set_option maxHeartbeats 8000000 in
theorem pc_num3 (w : World) (hT : FAt w) : Calls Tryd.prog 30 #[.int .i64 3] w fun r w' => r = .returned (.tuple #[.agg #[.string ⟨#[102, 99, 115, 114]⟩, .int .u64 0, .int .u8 255], .int .i64 0]) ∧ Below w.heap.size w w' := by
  have T2 := fat_al hT (.cells #[.string ⟨#[]⟩, .int .u64 0, .int .u8 0] 54)
  have c0 := fat_at T2 6 (.string ⟨#[102, 99, 115, 114]⟩) (by decide) rfl
  have c1 := fat_at T2 7 (.int .u64 0) (by decide) rfl
  have c2 := fat_at T2 8 (.int .u8 255) (by decide) rfl
  clear T2 hT
  obtain ⟨Rz_0, B0⟩ := opn1 w (Obj.cells #[.string ⟨#[]⟩, .int .u64 0, .int .u8 0] 54)
  go_enter Tryd.func30, Tryd.ntmps30
  clear B0 Rz_0
  go_wp2
  exact bodyPost_ret (v := .tuple #[.agg #[.string ⟨#[102, 99, 115, 114]⟩, .int .u64 0, .int .u8 255], .int .i64 0]) (by simp [results, Tryd.results30, go_sem]) rfl ⟨rfl, bal7 w _⟩
set_option maxRecDepth 100000 in
set_option maxHeartbeats 8000000 in
theorem pc_num_lo (n : Int) (h : decide (n < 1) = true) (w : World) : Calls Tryd.prog 30 #[.int .i64 n] w fun r w' => r = .returned (.tuple #[.agg #[.string ⟨#[]⟩, .int .u64 0, .int .u8 0], .int .i64 210]) ∧ Below w.heap.size w w' := by
  obtain ⟨Rz_0, B0⟩ := opn1 w (Obj.cells #[.string ⟨#[]⟩, .int .u64 0, .int .u8 0] 54)
  go_enter Tryd.func30, Tryd.ntmps30
  clear B0 Rz_0
  go_wp2
  exact bodyPost_ret (v := .tuple #[.agg #[.string ⟨#[]⟩, .int .u64 0, .int .u8 0], .int .i64 210]) (by simp [results, Tryd.results30, go_sem]) rfl ⟨rfl, bal7 w _⟩
set_option maxRecDepth 100000 in
set_option maxHeartbeats 8000000 in
theorem pc_num_hi (n : Int) (h : decide (n < 1) = false) (h3 : decide (3 < n) = true) (w : World) : Calls Tryd.prog 30 #[.int .i64 n] w fun r w' => r = .returned (.tuple #[.agg #[.string ⟨#[]⟩, .int .u64 0, .int .u8 0], .int .i64 210]) ∧ Below w.heap.size w w' := by
  obtain ⟨Rz_0, B0⟩ := opn1 w (Obj.cells #[.string ⟨#[]⟩, .int .u64 0, .int .u8 0] 54)
  go_enter Tryd.func30, Tryd.ntmps30
  clear B0 Rz_0
  go_wp2
  exact bodyPost_ret (v := .tuple #[.agg #[.string ⟨#[]⟩, .int .u64 0, .int .u8 0], .int .i64 210]) (by simp [results, Tryd.results30, go_sem]) rfl ⟨rfl, bal7 w _⟩
end Go.Proofs.YtinagedilgihjaaDoor
