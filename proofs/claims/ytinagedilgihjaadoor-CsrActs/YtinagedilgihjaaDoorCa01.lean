/-
  What the functions that the statement reaches return: part 1 (Mx, Word1, Wide0, Quiet2, Frame6, Nat1, Nat3, List0, List2, List6, Xmath, X1, IA, IC, IB, IE, IF).
-/
import Derived.Laws.MathBits
import Derived.Laws.Bits64b
import Derived.Laws.BitsAllLaws
import Derived.Laws.ShiftsVarLaws
import Derived.WalkKit
import Derived.ProofKit
import Derived.Lib.BitFns
import Derived.Test.YtinagedilgihjaaDoorRows
import Derived.WalkLawsBesides
import Derived.Deep.WholeRow
import Derived.Below
import Derived.ScopeJumps
import Derived.Lib.TrailingZeros
import Derived.Deep.QuietTactic
import Derived.BigQuiet
import Derived.ChangeKeysEq
import Derived.Deep.RegionWith
import Derived.OpenShut
import Derived.Laws.IdiomArrays
import Derived.Carry
import Derived.Deep.RegionLaw
import Derived.Laws.CopyOwn
import Derived.Deep.OwnRows
import Derived.Laws.BytesString
import Derived.Laws.Cover1
namespace Go.Proofs.YtinagedilgihjaaDoor.WMath
set_option maxRecDepth 100000
set_option maxHeartbeats 40000000
set_option maxRecDepth 100000
theorem bit_and (x k : Nat) : ((x / 2 ^ k) &&& 1 == 1) = x.testBit k := by
  rw [Nat.and_one_is_mod, Nat.testBit_eq_decide_div_mod_eq]
  rfl

theorem two64 : (18446744073709551616 : Nat) = 2 ^ 64 := by decide
end Go.Proofs.YtinagedilgihjaaDoor.WMath
namespace Go.Proofs.YtinagedilgihjaaDoor.WMath
set_option maxRecDepth 100000
set_option maxHeartbeats 40000000
set_option maxRecDepth 100000

def Box (p : Prop) : Prop := p ∨ False
theorem box {p : Prop} (h : p) : Box p := Or.inl h
theorem Box.out {p : Prop} (h : Box p) : p := h.elim id False.elim

def wd (n k : Nat) : Nat := n / 2 ^ (64 * k) % 18446744073709551616
theorem wd_lt (n k : Nat) : wd n k < 18446744073709551616 := Nat.mod_lt _ (by decide)
theorem wd_bit (n k j : Nat) : (wd n k).testBit j = (decide (j < 64) && n.testBit (64 * k + j)) := by
  unfold wd
  rw [two64, Nat.testBit_mod_two_pow, Nat.testBit_div_two_pow, Nat.add_comm j]
theorem lt_bit {n q i : Nat} (h : n < 2 ^ q) (hi : q ≤ i) : n.testBit i = false := Nat.testBit_lt_two_pow (Nat.lt_of_lt_of_le h (Nat.pow_le_pow_right (by decide) hi))

def setw (n p x : Nat) : Nat := n % 2 ^ (64 * p) + 2 ^ (64 * p) * (x + 18446744073709551616 * (n / 2 ^ (64 * (p + 1))))

theorem setw_bit (n p x i : Nat) (hx : x < 18446744073709551616) : (setw n p x).testBit i = if i / 64 = p then x.testBit (i % 64) else n.testBit i := by
  unfold setw
  rw [Nat.add_comm, Nat.testBit_two_pow_mul_add _ (Nat.mod_lt _ (Nat.two_pow_pos _))]
  split
  · rename_i h
    rw [if_neg (by omega), Nat.testBit_mod_two_pow, decide_eq_true h, Bool.true_and]
  · rename_i h
    rw [Nat.add_comm, two64, Nat.testBit_two_pow_mul_add _ (by rw [← two64]; exact hx)]
    split
    · rename_i h2
      rw [if_pos (by omega)]
      congr 1; omega
    · rename_i h2
      rw [if_neg (by omega), Nat.testBit_div_two_pow]
      congr 1; omega

theorem wd_setw (n p x k : Nat) (hx : x < 18446744073709551616) : wd (setw n p x) k = if k = p then x else wd n k := by
  apply Nat.eq_of_testBit_eq
  intro j
  rw [wd_bit, setw_bit _ _ _ _ hx]
  by_cases hj : j < 64
  · rw [decide_eq_true hj, Bool.true_and, show (64 * k + j) / 64 = k by omega, show (64 * k + j) % 64 = j by omega]
    split
    · rfl
    · rw [wd_bit, decide_eq_true hj, Bool.true_and]
  · rw [decide_eq_false hj, Bool.false_and]
    have e : ∀ y, y < 18446744073709551616 → y.testBit j = false := fun y hy => lt_bit (q := 64) (by rw [← two64]; exact hy) (by omega)
    split
    · rw [e x hx]
    · rw [e _ (wd_lt _ _)]

theorem setw_lt (n p x q : Nat) (hn : n < 2 ^ (64 * q)) (hp : p < q) (hx : x < 18446744073709551616) : setw n p x < 2 ^ (64 * q) := by
  apply Nat.lt_pow_two_of_testBit
  intro i hi
  rw [setw_bit _ _ _ _ hx, if_neg (by omega), lt_bit hn hi]

def cw (L n : Nat) : Array Value := ((List.range L).map fun k => Value.int .u64 (wd n k : Nat)).toArray
theorem cw_at (L n k : Nat) (h : k < L) : (cw L n)[k]? = some (.int .u64 (wd n k : Nat)) := by simp [cw, h]
theorem cw6 (n : Nat) : cw 6 n = #[.int .u64 (wd n 0 : Nat), .int .u64 (wd n 1 : Nat), .int .u64 (wd n 2 : Nat), .int .u64 (wd n 3 : Nat), .int .u64 (wd n 4 : Nat), .int .u64 (wd n 5 : Nat)] := rfl
def pw (L : Nat) : Nat := 2 ^ (64 * L)
def Qn (k : Nat) : Nat := if h : k = 0 then pw 6 else Qn (k - 1)
  termination_by k
  decreasing_by omega
def Q : Nat := Qn 0
theorem Q_pw : ∃ L, L = 6 ∧ Q = pw L := by
  refine ⟨6, rfl, ?_⟩
  unfold Q
  rw [Qn, dif_pos rfl]
theorem Q_of : ∃ L, L = 6 ∧ Q = 2 ^ (64 * L) := by
  obtain ⟨L, hL, h⟩ := Q_pw
  exact ⟨L, hL, h⟩
def W (n : Nat) : Value := .agg (cw 6 n)

theorem w6 (a0 a1 a2 a3 a4 a5 : Nat) (h0 : a0 < 18446744073709551616) (h1 : a1 < 18446744073709551616) (h2 : a2 < 18446744073709551616) (h3 : a3 < 18446744073709551616) (h4 : a4 < 18446744073709551616) (h5 : a5 < 18446744073709551616) :
    ∃ n, n < Q ∧ cw 6 n = #[.int .u64 a0, .int .u64 a1, .int .u64 a2, .int .u64 a3, .int .u64 a4, .int .u64 a5] := by
  refine ⟨setw (setw (setw (setw (setw (setw 0 0 a0) 1 a1) 2 a2) 3 a3) 4 a4) 5 a5, ?_, ?_⟩
  · obtain ⟨L, hL, h⟩ := Q_of
    rw [h]
    repeat (refine setw_lt _ _ _ L ?_ (by omega) (by assumption))
    exact Nat.two_pow_pos _
  · rw [cw6]
    simp only [wd_setw _ _ _ _ h0, wd_setw _ _ _ _ h1, wd_setw _ _ _ _ h2, wd_setw _ _ _ _ h3, wd_setw _ _ _ _ h4, wd_setw _ _ _ _ h5]
    rfl
end Go.Proofs.YtinagedilgihjaaDoor.WMath
namespace Go.Proofs.YtinagedilgihjaaDoor.WMath
set_option maxRecDepth 100000
set_option maxHeartbeats 40000000
set_option maxRecDepth 100000

end Go.Proofs.YtinagedilgihjaaDoor.WMath
namespace Go.Proofs.YtinagedilgihjaaDoor.WMath
set_option maxRecDepth 100000
set_option maxHeartbeats 40000000
set_option maxRecDepth 100000

def blen (n : Nat) : Nat := if n = 0 then 0 else Nat.log2 n + 1
end Go.Proofs.YtinagedilgihjaaDoor.WMath
namespace Go.Proofs.YtinagedilgihjaaDoor.WMath
set_option maxRecDepth 100000
set_option maxHeartbeats 40000000
set_option maxRecDepth 100000

end Go.Proofs.YtinagedilgihjaaDoor.WMath
namespace Go.Proofs.YtinagedilgihjaaDoor.WMath
set_option maxRecDepth 100000
set_option maxHeartbeats 40000000
set_option maxRecDepth 100000

end Go.Proofs.YtinagedilgihjaaDoor.WMath
namespace Go.Proofs.YtinagedilgihjaaDoor.WMath
set_option maxRecDepth 100000
set_option maxHeartbeats 40000000
set_option maxRecDepth 100000

end Go.Proofs.YtinagedilgihjaaDoor.WMath
namespace Go.Proofs.YtinagedilgihjaaDoor.WMath
set_option maxRecDepth 100000
set_option maxHeartbeats 40000000
set_option maxRecDepth 100000

def d8 (n k : Nat) : Nat := n / 2 ^ (8 * k) % 256
end Go.Proofs.YtinagedilgihjaaDoor.WMath
namespace Go.Proofs.YtinagedilgihjaaDoor.WMath
set_option maxRecDepth 100000
set_option maxHeartbeats 40000000
set_option maxRecDepth 100000

def nl (n : Nat) : Nat := (blen n + 7) / 8
def nbL (n : Nat) : List UInt8 := (List.range (nl n)).map fun i => UInt8.ofNat (d8 n (nl n - 1 - i))
def nbA (n : Nat) : ByteArray := ⟨(nbL n).toArray⟩
end Go.Proofs.YtinagedilgihjaaDoor.WMath
namespace Go.Proofs.YtinagedilgihjaaDoor.WMath
set_option maxRecDepth 100000
set_option maxHeartbeats 40000000
set_option maxRecDepth 100000

end Go.Proofs.YtinagedilgihjaaDoor.WMath
namespace Go.Proofs.YtinagedilgihjaaDoor
set_option maxRecDepth 100000
set_option maxHeartbeats 40000000
set_option maxRecDepth 100000
open Go.RowKit WMath
theorem hide {p : Prop} (h : p) : Hid p := h
theorem int_eq {k : IntKind} {a b : Int} (h : a = b) : Value.int k a = .int k b := by rw [h]
theorem ret_bool {a b : Bool} (h : a = b) : Ending.returned (.bool a) = .returned (.bool b) := by rw [h]
theorem div_cast (x k : Nat) : (x : Int) / 2 ^ k = ((x / 2 ^ k : Nat) : Int) := by simp

theorem size_al (w : World) (o : Obj) : (w.alloc o).heap.size = w.heap.size + 1 := by
  show (w.heap.push o).size = _
  simp

theorem heap_of {W w1 : World} (hb : Below W.heap.size W w1) (b : Nat) (c : Array Value) (t : TypeId) (h : W.heap[b]? = some (.cells c t)) : w1.heap[b]? = some (.cells c t) := by
  rw [hb.block b (Array.getElem?_eq_some_iff.1 h).1, h]

end Go.Proofs.YtinagedilgihjaaDoor
namespace Go.Proofs.YtinagedilgihjaaDoor
set_option maxRecDepth 100000
set_option maxHeartbeats 40000000
set_option maxRecDepth 100000
open WMath
open Go.ChangeShapes Go.WideShapes Go.ChangeAt Go.RowKit
theorem nat_u64 {x : Int} (h : (Lit.int .u64 x).wf = true) : ∃ n : Nat, n < 18446744073709551616 ∧ x = (n : Int) := by
  have hb := bounds_u64 h
  obtain ⟨n, rfl⟩ := Int.eq_ofNat_of_zero_le hb.1
  exact ⟨n, by omega, rfl⟩
theorem post_plain {H : Type} {enc : TypeId × Value → H} {P : Program} {f : Func} {s : ChangeSpec} {apart fresh handsOn again : Bool} {W W' : World} {args : Array Value} {v : Value} {ds gs : List (DataW H)}
    (hW : DataW.Whole enc P f.params.toList s.vars apart W args.toList ds gs [])
    (hres : ∀ (b : Nat) (sp : Nat → Bool) (hd : Bool), DataW.TrodAll enc P W' b sp hd f.resultTypes.toList (v.resultList f.resultTypes.size) (s.fn H (ds ++ gs)).results [])
    (hargs : ∀ sp : Nat → Bool, DataW.TrodAll enc P W' 0 sp true f.params.toList args.toList (s.fn H (ds ++ gs)).args [])
    (hvars : ∀ sp : Nat → Bool, DataW.TrodVars enc P W' sp s.vars (s.fn H (ds ++ gs)).vars [])
    (hk : Below W.heap.size W W')
    (hok : ∀ (j : Nat) (t : TypeId) (r : Value), f.resultTypes[j]? = some t → (v.resultList f.resultTypes.size)[j]? = some r → Value.okWide P W' .any 0 t r) :
    s.post enc P f apart fresh handsOn again W args v W' := by
  refine ⟨ds, gs, [], [], [], [], hW, hres _ _ _, hargs _, hvars _, hk.frame _, fun _ => ⟨hok, _, _, [], ⟨[], [], trodAll_append (hargs _) (hres _ _ _), hvars _, rfl, ?_, ?_⟩, ?_⟩⟩
  · intro _ _ hp
    cases hp
  · intro _
    exact List.Pairwise.nil
  · intro _ hp
    cases hp
end Go.Proofs.YtinagedilgihjaaDoor
namespace Go.Proofs.YtinagedilgihjaaDoor
set_option maxRecDepth 100000
set_option maxHeartbeats 40000000
set_option maxRecDepth 100000
open Go.RowKit WMath
theorem toList_len (s : ByteArray) : s.toList.length = s.size := by rw [ByteArray.toList_eq, Array.length_toList]; rfl
theorem eq_empty (s : ByteArray) : (s.toList == []) = decide (s.size = 0) := by
  rw [← toList_len]
  cases s.toList with
  | nil => rfl
  | cons x l => simp

def sb (a b : Nat) : ByteArray × Int := if a < b then (⟨#[]⟩, 2) else (nbA (a - b), 0)

def SL (B : Nat) (w : World) (p : Option Addr) (L c n : Nat) : Prop := n < 2 ^ (64 * L) ∧ L ≤ c ∧ (0 < L → ∃ b o, p = some ⟨b, o, none⟩ ∧ b < B ∧ ∀ k, k < L → w.cell? ⟨b, o + k, none⟩ = some (.int .u64 (wd n k : Nat)))
theorem SL.mono {B B' : Nat} {w : World} {p : Option Addr} {L c n : Nat} (h : SL B w p L c n) (hB : B ≤ B') : SL B' w p L c n :=
  ⟨h.1, h.2.1, fun hL => by
    obtain ⟨b, o, hp, hlt, hc⟩ := h.2.2 hL
    exact ⟨b, o, hp, Nat.lt_of_lt_of_le hlt hB, hc⟩⟩
theorem cell_size {w : World} {b o : Nat} {v : Value} (h : w.cell? ⟨b, o, none⟩ = some v) : b < w.heap.size := by
  by_cases e : b < w.heap.size
  · exact e
  · exfalso
    have : w.heap[b]? = none := Array.getElem?_eq_none (by omega)
    simp [World.cell?, this] at h
def Only (g : Nat) (w w' : World) : Prop := w'.os = w.os ∧ w'.tape = w.tape ∧ w'.output = w.output ∧ w.heap.size ≤ w'.heap.size ∧ ∀ k, k < w.heap.size → k ≠ g → w'.heap[k]? = w.heap[k]?
theorem Only.refl (g : Nat) (w : World) : Only g w w := ⟨rfl, rfl, rfl, Nat.le_refl _, fun _ _ _ => rfl⟩
theorem Only.trans {g : Nat} {a b c : World} (h : Only g a b) (k : Only g b c) : Only g a c :=
  ⟨k.1.trans h.1, k.2.1.trans h.2.1, k.2.2.1.trans h.2.2.1, Nat.le_trans h.2.2.2.1 k.2.2.2.1, fun i hi hg => (k.2.2.2.2 i (Nat.lt_of_lt_of_le hi h.2.2.2.1) hg).trans (h.2.2.2.2 i hi hg)⟩
theorem Only.size {g : Nat} {a b : World} (h : Only g a b) : a.heap.size ≤ b.heap.size := h.2.2.2.1
theorem Only.row {g b : Nat} {w w' : World} {c : Array Value} {t : TypeId} (k : Only g w w') (hb : b ≠ g) (h : w.heap[b]? = some (.cells c t)) : w'.heap[b]? = some (.cells c t) := by
  rw [k.2.2.2.2 b (Array.getElem?_eq_some_iff.1 h).1 hb, h]
theorem SL.only {B g : Nat} {w w' : World} {p : Option Addr} {L c n : Nat} (h : SL B w p L c n) (k : Only g w w') (hB : B ≤ g) : SL B w' p L c n := by
  refine ⟨h.1, h.2.1, fun hL => ?_⟩
  obtain ⟨b, o, hp, hlt, hc⟩ := h.2.2 hL
  refine ⟨b, o, hp, hlt, fun i hi => ?_⟩
  have h1 := hc i hi
  rw [World.cell?_of_block (w := w) (k.2.2.2.2 b (cell_size h1) (by omega))]
  exact h1

theorem SL.cell {B : Nat} {w : World} {b o L c n : Nat} (h : SL B w (some ⟨b, o, none⟩) L c n) (k x : Nat) (hk : k < L) (hx : wd n k = x) : w.cell? ⟨b, o + k, none⟩ = some (.int .u64 (x : Nat)) := by
  obtain ⟨b', o', e, _, hc⟩ := h.2.2 (by omega)
  simp only [Option.some.injEq, Addr.mk.injEq] at e
  obtain ⟨rfl, rfl, _⟩ := e
  rw [hc k hk, hx]
theorem SL.row {w : World} {b N X c : Nat} {T : TypeId} (r : w.heap[b]? = some (.cells (cw N X) T)) (B : Nat) (hB : b < B) (hX : X < 2 ^ (64 * N)) (hc : N ≤ c) : SL B w (some ⟨b, 0, none⟩) N c X :=
  ⟨hX, hc, fun _ => ⟨b, 0, rfl, hB, fun k hk => by rw [Nat.zero_add, cell_of_row w b k _ _ _ r, cw_at N X k hk]⟩⟩

theorem bal (w : World) (o : Obj) : Below w.heap.size w (w.alloc o) := (Below.refl _ _).alloc (Nat.le_refl _) _
theorem btr {a b c : World} (h : Below a.heap.size a b) (k : Below b.heap.size b c) : Below a.heap.size a c := h.trans (k.mono h.size)

end Go.Proofs.YtinagedilgihjaaDoor
namespace Go.Proofs.YtinagedilgihjaaDoor.XMath
set_option maxRecDepth 100000
set_option maxHeartbeats 40000000
set_option maxRecDepth 100000
open WMath
def tz (n : Nat) : Nat := if h : n = 0 ∨ n % 2 = 1 then 0 else tz (n / 2) + 1
termination_by n
decreasing_by omega
def od (n : Nat) : Nat := n / 2 ^ tz n
structure XN where
  b : Bool
  n : Nat
  d : Nat
  e : Int
def XN.can (x : XN) : Prop := nl x.n ≤ 16384 ∧ nl x.d ≤ 16384 ∧ -1048576 ≤ x.e ∧ x.e ≤ 1048576 ∧ ((x.b = false ∧ x.n = 0 ∧ x.d = 1 ∧ x.e = 0) ∨ (x.n % 2 = 1 ∧ x.d % 2 = 1 ∧ Nat.gcd x.n x.d = 1))
def X0 : XN := ⟨false, 0, 1, 0⟩
def XZ : XN := ⟨false, 0, 0, 0⟩
theorem XN.can.d {x : XN} (h : x.can) : x.d % 2 = 1 := by rcases h.2.2.2.2 with h | h <;> omega
theorem XN.can.d0 {x : XN} (h : x.can) : x.d ≠ 0 := by have := h.d; omega
def mk (neg : Bool) (n d : Nat) (e : Int) : XN × Int :=
  if n = 0 then (X0, 0)
  else if -1048576 ≤ e + (tz n : Int) - (tz d : Int) ∧ e + (tz n : Int) - (tz d : Int) ≤ 1048576 then (⟨neg, od n / Nat.gcd (od n) (od d), od d / Nat.gcd (od n) (od d), e + (tz n : Int) - (tz d : Int)⟩, 0)
  else (XZ, 4)
end Go.Proofs.YtinagedilgihjaaDoor.XMath
namespace Go.Proofs.YtinagedilgihjaaDoor
set_option maxRecDepth 100000
set_option maxHeartbeats 40000000
set_option maxRecDepth 100000
open Go.RowKit WMath XMath
theorem cells4 {w : World} {g : Nat} {T : TypeId} {c : Array Value} (row : w.heap[g]? = some (.cells c T)) (k : Nat) (v : Value) (h : c[k]? = some v) : w.cell? ⟨g, k, none⟩ = some v := by
  rw [cell_of_row w g k _ _ _ row]
  exact h

theorem opn1 (w : World) (o : Obj) : (w.alloc o).heap[w.heap.size]? = some o ∧ Below w.heap.size w (w.alloc o) := ⟨heap_alloc_last _ _, (Below.refl _ _).alloc (Nat.le_refl _) _⟩
end Go.Proofs.YtinagedilgihjaaDoor
namespace Go.Proofs.YtinagedilgihjaaDoor
set_option maxRecDepth 100000
set_option maxHeartbeats 40000000
set_option maxRecDepth 100000
open Go.RowKit WMath
set_option linter.unusedSimpArgs false
set_option linter.unusedVariables false
def rdW (n : Int) (F : Nat) : Nat := if n = 1 then F % 32 else if n = 2 then F / 32 else F
def wrW (n : Int) (F x : Nat) : Nat := if n = 1 then F / 32 * 32 + x % 32 else if n = 2 then x % 8 * 32 + F % 32 else x % 256
def acV (how : Int) (old x : Nat) : Nat := if how = 0 then x else if how = 1 then old ||| x else old ^^^ (old &&& x)
theorem mod_bit (n k : Nat) : n % 2 ^ (k + 1) = n % 2 ^ k + (if n.testBit k = true then 2 ^ k else 0) := by
  rw [Nat.pow_succ, Nat.mod_mul, Nat.testBit_eq_decide_div_mod_eq]
  by_cases c : n / 2 ^ k % 2 = 1
  · rw [c]
    simp
  · have : n / 2 ^ k % 2 = 0 := by omega
    rw [this]
    simp
theorem bit_div (n a k : Nat) : (n / 2 ^ a).testBit k = n.testBit (a + k) := by
  rw [← Nat.shiftRight_eq_div_pow, Nat.testBit_shiftRight]
theorem r21_bit (x k : Nat) (hx : x < 18446744073709551616) (hk : k < 64) (w : World) :
    Calls Tryd.prog 32 #[.int .u64 x, .int .i64 k] w fun e w' => e = .returned (.bool (x.testBit k)) ∧ w' = w := by
  have h1 : x / 2 ^ k < 18446744073709551616 := Nat.lt_of_le_of_lt (Nat.div_le_self _ _) hx
  have H1 : Hid (bits .and .u64 ((x : Int) / 2 ^ k) 1 = ((x / 2 ^ k &&& 1 : Nat) : Int)) := by
    have := bits_and_u64_nat (x / 2 ^ k) 1 h1 (by omega)
    rw [← div_cast] at this
    exact this
  go_enter Tryd.func32, Tryd.ntmps32
  go_wp2
  go_ret
  refine ⟨ret_bool ?_, rfl⟩
  rw [H1.out, ← bit_and, Bool.eq_iff_iff]
  simp only [beq_iff_eq]
  omega
theorem r21_part1 (w : World) : Calls Tryd.prog 31 #[.int .i64 1] w fun e w' => e = .returned (.tuple #[.int .i64 0, .int .i64 5]) ∧ w' = w := by
  go_enter Tryd.func31, Tryd.ntmps31
  go_wp2
  go_ret2
  exact ⟨rfl, rfl⟩
theorem r21_part2 (w : World) : Calls Tryd.prog 31 #[.int .i64 2] w fun e w' => e = .returned (.tuple #[.int .i64 5, .int .i64 3]) ∧ w' = w := by
  go_enter Tryd.func31, Tryd.ntmps31
  go_wp2
  go_ret2
  exact ⟨rfl, rfl⟩
theorem r21_part3 (w : World) : Calls Tryd.prog 31 #[.int .i64 3] w fun e w' => e = .returned (.tuple #[.int .i64 0, .int .i64 8]) ∧ w' = w := by
  go_enter Tryd.func31, Tryd.ntmps31
  go_wp2
  go_ret2
  exact ⟨rfl, rfl⟩
theorem r21_part0 (n : Int) (n1 : (n == 1) = false) (n2 : (n == 2) = false) (n3 : (n == 3) = false) (w : World) : Calls Tryd.prog 31 #[.int .i64 n] w fun e w' => e = .returned (.tuple #[.int .i64 0, .int .i64 0]) ∧ w' = w := by
  go_enter Tryd.func31, Tryd.ntmps31
  go_wp2
  go_ret2
  exact ⟨rfl, rfl⟩
theorem wsh64 (X k : Nat) (h : X + 2 ^ k < 18446744073709551616) : IntKind.u64.wrap ((X : Int) + IntKind.u64.wrap ((2 : Int) ^ k)) = ((X + 2 ^ k : Nat) : Int) := by
  rw [show ∀ y : Int, IntKind.u64.wrap y = y % 18446744073709551616 from fun _ => rfl, show ∀ y : Int, IntKind.u64.wrap y = y % 18446744073709551616 from fun _ => rfl]
  have e : ((2 ^ k : Nat) : Int) = (2 : Int) ^ k := Int.natCast_pow 2 k
  rw [← e]
  obtain ⟨P, hP⟩ : ∃ P, 2 ^ k = P := ⟨_, rfl⟩
  rw [hP] at h ⊢
  omega
theorem wsh8 (X k : Nat) (h : X + 2 ^ k < 256) : IntKind.u8.wrap ((X : Int) + IntKind.u8.wrap ((2 : Int) ^ k)) = ((X + 2 ^ k : Nat) : Int) := by
  rw [show ∀ y : Int, IntKind.u8.wrap y = y % 256 from fun _ => rfl, show ∀ y : Int, IntKind.u8.wrap y = y % 256 from fun _ => rfl]
  have e : ((2 ^ k : Nat) : Int) = (2 : Int) ^ k := Int.natCast_pow 2 k
  rw [← e]
  obtain ⟨P, hP⟩ : ∃ P, 2 ^ k = P := ⟨_, rfl⟩
  rw [hP] at h ⊢
  omega
theorem bit_lim {n k : Nat} (h : n.testBit k = true) (L : Nat) (hk : k < L) : n % 2 ^ k + 2 ^ k < 2 ^ L + 1 := by
  have a := mod_bit n k
  rw [if_pos h] at a
  have b := Nat.mod_lt n (Nat.two_pow_pos (k + 1))
  have c := Nat.pow_le_pow_right (show 0 < 2 by decide) (show k + 1 ≤ L from hk)
  omega
theorem r21_read1 (F : Nat) (hF : F < 256) (w : World) : Calls Tryd.prog 9 #[.int .i64 1, .int .u8 (F : Nat)] w fun e w' => e = .returned (.tuple #[.int .u64 ((F) % 2 ^ 5 : Nat), .int .i64 0]) ∧ w' = w := by
  go_enter Tryd.func9, Tryd.ntmps9
  go_wp2_with (go_at_call 31; refine (r21_part1 _).mono ?_; rintro e w' ⟨rfl, rfl⟩)
  go_loop [8, 9] (fun v i => ∃ k X : Nat, k ≤ 5 ∧ i = .int .i64 k ∧ v = .int .u64 X ∧ Hid (X = (F) % 2 ^ k)) (fun _ i => 5 - (intOf i).toNat)
  case atStart => exact ⟨0, 0, by omega, rfl, rfl, by show 0 = _; rw [Nat.pow_zero, Nat.mod_one]⟩
  case round =>
    obtain ⟨k, X, hk, rfl, rfl, HX⟩ := hrel
    by_cases hlt : k < 5
    · have BT : ∀ w : World, Calls Tryd.prog 32 #[.int .u64 (F : Nat), .int .i64 ((k : Nat))] w fun e w' => e = .returned (.bool ((F).testBit k)) ∧ w' = w := by
        intro w
        have := r21_bit F k (by omega) (by omega) w
        exact this
      cases hb : (F).testBit k
      · rw [hb] at BT
        go_wp2_with (go_at_call 32; refine (BT _).mono ?_; rintro e w' ⟨rfl, rfl⟩)
        go_round
        case rel => exact ⟨k + 1, X, by omega, by go_num, rfl, by show X = _; rw [mod_bit, hb, HX.out]; rfl⟩
        case measure => simp [intOf]; omega
      · rw [hb] at BT
        have lim := bit_lim hb 8 (by omega)
        rw [← HX.out] at lim
        go_wp2_with (go_at_call 32; refine (BT _).mono ?_; rintro e w' ⟨rfl, rfl⟩)
        go_round
        case rel => exact ⟨k + 1, X + 2 ^ k, by omega, by go_num, int_eq (wsh64 X k (by omega)), by show _ = _; rw [mod_bit, hb, HX.out]; rfl⟩
        case measure => simp [intOf]; omega
    · go_wp2
      go_ret2
      obtain rfl : k = 5 := by omega
      have e := HX.out
      subst e
      exact ⟨rfl, rfl⟩
theorem r21_read2 (F : Nat) (hF : F < 256) (w : World) : Calls Tryd.prog 9 #[.int .i64 2, .int .u8 (F : Nat)] w fun e w' => e = .returned (.tuple #[.int .u64 ((F / 2 ^ 5) % 2 ^ 3 : Nat), .int .i64 0]) ∧ w' = w := by
  go_enter Tryd.func9, Tryd.ntmps9
  go_wp2_with (go_at_call 31; refine (r21_part2 _).mono ?_; rintro e w' ⟨rfl, rfl⟩)
  go_loop [8, 9] (fun v i => ∃ k X : Nat, k ≤ 3 ∧ i = .int .i64 k ∧ v = .int .u64 X ∧ Hid (X = (F / 2 ^ 5) % 2 ^ k)) (fun _ i => 3 - (intOf i).toNat)
  case atStart => exact ⟨0, 0, by omega, rfl, rfl, by show 0 = _; rw [Nat.pow_zero, Nat.mod_one]⟩
  case round =>
    obtain ⟨k, X, hk, rfl, rfl, HX⟩ := hrel
    by_cases hlt : k < 3
    · have BT : ∀ w : World, Calls Tryd.prog 32 #[.int .u64 (F : Nat), .int .i64 ((5 : Int) + (k : Nat))] w fun e w' => e = .returned (.bool ((F / 2 ^ 5).testBit k)) ∧ w' = w := by
        intro w
        have := r21_bit F (5 + k) (by omega) (by omega) w
        rw [bit_div]
        exact this
      cases hb : (F / 2 ^ 5).testBit k
      · rw [hb] at BT
        go_wp2_with (go_at_call 32; refine (BT _).mono ?_; rintro e w' ⟨rfl, rfl⟩)
        go_round
        case rel => exact ⟨k + 1, X, by omega, by go_num, rfl, by show X = _; rw [mod_bit, hb, HX.out]; rfl⟩
        case measure => simp [intOf]; omega
      · rw [hb] at BT
        have lim := bit_lim hb 8 (by omega)
        rw [← HX.out] at lim
        go_wp2_with (go_at_call 32; refine (BT _).mono ?_; rintro e w' ⟨rfl, rfl⟩)
        go_round
        case rel => exact ⟨k + 1, X + 2 ^ k, by omega, by go_num, int_eq (wsh64 X k (by omega)), by show _ = _; rw [mod_bit, hb, HX.out]; rfl⟩
        case measure => simp [intOf]; omega
    · go_wp2
      go_ret2
      obtain rfl : k = 3 := by omega
      have e := HX.out
      subst e
      exact ⟨rfl, rfl⟩
theorem r21_read3 (F : Nat) (hF : F < 256) (w : World) : Calls Tryd.prog 9 #[.int .i64 3, .int .u8 (F : Nat)] w fun e w' => e = .returned (.tuple #[.int .u64 ((F) % 2 ^ 8 : Nat), .int .i64 0]) ∧ w' = w := by
  go_enter Tryd.func9, Tryd.ntmps9
  go_wp2_with (go_at_call 31; refine (r21_part3 _).mono ?_; rintro e w' ⟨rfl, rfl⟩)
  go_loop [8, 9] (fun v i => ∃ k X : Nat, k ≤ 8 ∧ i = .int .i64 k ∧ v = .int .u64 X ∧ Hid (X = (F) % 2 ^ k)) (fun _ i => 8 - (intOf i).toNat)
  case atStart => exact ⟨0, 0, by omega, rfl, rfl, by show 0 = _; rw [Nat.pow_zero, Nat.mod_one]⟩
  case round =>
    obtain ⟨k, X, hk, rfl, rfl, HX⟩ := hrel
    by_cases hlt : k < 8
    · have BT : ∀ w : World, Calls Tryd.prog 32 #[.int .u64 (F : Nat), .int .i64 ((k : Nat))] w fun e w' => e = .returned (.bool ((F).testBit k)) ∧ w' = w := by
        intro w
        have := r21_bit F k (by omega) (by omega) w
        exact this
      cases hb : (F).testBit k
      · rw [hb] at BT
        go_wp2_with (go_at_call 32; refine (BT _).mono ?_; rintro e w' ⟨rfl, rfl⟩)
        go_round
        case rel => exact ⟨k + 1, X, by omega, by go_num, rfl, by show X = _; rw [mod_bit, hb, HX.out]; rfl⟩
        case measure => simp [intOf]; omega
      · rw [hb] at BT
        have lim := bit_lim hb 8 (by omega)
        rw [← HX.out] at lim
        go_wp2_with (go_at_call 32; refine (BT _).mono ?_; rintro e w' ⟨rfl, rfl⟩)
        go_round
        case rel => exact ⟨k + 1, X + 2 ^ k, by omega, by go_num, int_eq (wsh64 X k (by omega)), by show _ = _; rw [mod_bit, hb, HX.out]; rfl⟩
        case measure => simp [intOf]; omega
    · go_wp2
      go_ret2
      obtain rfl : k = 8 := by omega
      have e := HX.out
      subst e
      exact ⟨rfl, rfl⟩
theorem r21_read0 (n : Int) (n1 : (n == 1) = false) (n2 : (n == 2) = false) (n3 : (n == 3) = false) (F : Nat) (w : World) : Calls Tryd.prog 9 #[.int .i64 n, .int .u8 (F : Nat)] w fun e w' => e = .returned (.tuple #[.int .u64 0, .int .i64 210]) ∧ w' = w := by
  have P := r21_part0 n n1 n2 n3
  go_enter Tryd.func9, Tryd.ntmps9
  go_wp2_with (go_at_call 31; refine (P _).mono ?_; rintro e w' ⟨rfl, rfl⟩)
  go_ret2
  exact ⟨rfl, rfl⟩
theorem wr_bit1 (F x k : Nat) : (F / 32 * 32 + x % 32).testBit k = if k < 5 then x.testBit k else F.testBit k := by
  rw [show F / 32 * 32 = 2 ^ 5 * (F / 2 ^ 5) by omega, Nat.testBit_two_pow_mul_add _ (show x % 32 < 2 ^ 5 by omega)]
  by_cases c : k < 5
  · rw [if_pos c, if_pos c, show x % 32 = x % 2 ^ 5 from rfl, Nat.testBit_mod_two_pow, decide_eq_true c, Bool.true_and]
  · rw [if_neg c, if_neg c, bit_div, show 5 + (k - 5) = k by omega]
theorem wr_bit2 (F x k : Nat) (hk : k < 8) : (x % 8 * 32 + F % 32).testBit k = if 5 ≤ k then x.testBit (k - 5) else F.testBit k := by
  rw [show x % 8 * 32 = 2 ^ 5 * (x % 2 ^ 3) by omega, Nat.testBit_two_pow_mul_add _ (show F % 32 < 2 ^ 5 by omega)]
  by_cases c : k < 5
  · rw [if_pos c, if_neg (by omega), show F % 32 = F % 2 ^ 5 from rfl, Nat.testBit_mod_two_pow, decide_eq_true c, Bool.true_and]
  · rw [if_neg c, if_pos (by omega), Nat.testBit_mod_two_pow, decide_eq_true (by omega), Bool.true_and]
theorem wr_bit3 (x k : Nat) (hk : k < 8) : (x % 256).testBit k = x.testBit k := by
  rw [show x % 256 = x % 2 ^ 8 from rfl, Nat.testBit_mod_two_pow, decide_eq_true hk, Bool.true_and]
set_option maxHeartbeats 4000000 in
theorem r21_write1 (F : Nat) (hF : F < 256) (x : Nat) (hx : x < 18446744073709551616) (W : Nat) (hW : F / 32 * 32 + x % 32 = W) (w : World) : Calls Tryd.prog 11 #[.int .i64 1, .int .u8 (F : Nat), .int .u64 (x : Nat)] w fun e w' => e = .returned (.tuple #[.int .u8 (W % 2 ^ 8 : Nat), .int .i64 0]) ∧ w' = w := by
  have HW := hide hW
  clear hW
  go_enter Tryd.func11, Tryd.ntmps11
  go_wp2_with (go_at_call 31; refine (r21_part1 _).mono ?_; rintro e w' ⟨rfl, rfl⟩)
  go_loop [10, 11] (fun v i => ∃ k X : Nat, k ≤ 8 ∧ i = .int .i64 k ∧ v = .int .u8 X ∧ Hid (X = W % 2 ^ k)) (fun _ i => 8 - (intOf i).toNat)
  case atStart => exact ⟨0, 0, by omega, rfl, rfl, by show 0 = _; rw [Nat.pow_zero, Nat.mod_one]⟩
  case round =>
    obtain ⟨k, X, hk, rfl, rfl, HX⟩ := hrel
    by_cases hlt : k < 8
    · obtain ⟨fb, hfb⟩ : ∃ b, F.testBit k = b := ⟨_, rfl⟩
      obtain ⟨sb, hsb⟩ : ∃ b, W.testBit k = b := ⟨_, rfl⟩
      have BF := r21_bit F k (by omega) (by omega)
      rw [hfb] at BF
      have wb : W.testBit k = if k < 5 then x.testBit k else F.testBit k := by rw [← HW.out]; exact wr_bit1 F x k
      by_cases c : k < 5
      · rw [if_pos c] at wb
        have BX : ∀ w : World, Calls Tryd.prog 32 #[.int .u64 (x : Nat), .int .i64 ((k : Nat))] w fun e w' => e = .returned (.bool sb) ∧ w' = w := by
          intro w
          have := r21_bit x (k) hx (by omega) w
          rw [← wb, hsb] at this
          exact this
        cases sb
        · go_wp2_with (first | (go_at_call 32; with_reducible refine (BX _).mono ?_; rintro e w' ⟨rfl, rfl⟩) | (go_at_call 32; with_reducible refine (BF _).mono ?_; rintro e w' ⟨rfl, rfl⟩))
          go_round
          case rel => exact ⟨k + 1, X, by omega, by go_num, rfl, by show X = _; rw [mod_bit, hsb, HX.out]; rfl⟩
          case measure => simp [intOf]; omega
        · have lim := bit_lim hsb 8 hlt
          rw [← HX.out] at lim
          have lim2 : X + 2 ^ k < 256 := by
            have a := mod_bit W k
            rw [if_pos hsb, ← HX.out] at a
            have b := Nat.mod_lt W (Nat.two_pow_pos (k + 1))
            have c := Nat.pow_le_pow_right (show 0 < 2 by decide) (show k + 1 ≤ 8 from hlt)
            omega
          go_wp2_with (first | (go_at_call 32; with_reducible refine (BX _).mono ?_; rintro e w' ⟨rfl, rfl⟩) | (go_at_call 32; with_reducible refine (BF _).mono ?_; rintro e w' ⟨rfl, rfl⟩))
          go_round
          case rel => exact ⟨k + 1, X + 2 ^ k, by omega, by go_num, int_eq (wsh8 X k lim2), by show _ = _; rw [mod_bit, hsb, HX.out]; rfl⟩
          case measure => simp [intOf]; omega
      · rw [if_neg c, hfb] at wb
        rw [← wb, hsb] at BF
        cases sb
        · go_wp2_with (go_at_call 32; with_reducible refine (BF _).mono ?_; rintro e w' ⟨rfl, rfl⟩)
          go_round
          case rel => exact ⟨k + 1, X, by omega, by go_num, rfl, by show X = _; rw [mod_bit, hsb, HX.out]; rfl⟩
          case measure => simp [intOf]; omega
        · have lim := bit_lim hsb 8 hlt
          rw [← HX.out] at lim
          have lim2 : X + 2 ^ k < 256 := by
            have a := mod_bit W k
            rw [if_pos hsb, ← HX.out] at a
            have b := Nat.mod_lt W (Nat.two_pow_pos (k + 1))
            have c := Nat.pow_le_pow_right (show 0 < 2 by decide) (show k + 1 ≤ 8 from hlt)
            omega
          go_wp2_with (go_at_call 32; with_reducible refine (BF _).mono ?_; rintro e w' ⟨rfl, rfl⟩)
          go_round
          case rel => exact ⟨k + 1, X + 2 ^ k, by omega, by go_num, int_eq (wsh8 X k lim2), by show _ = _; rw [mod_bit, hsb, HX.out]; rfl⟩
          case measure => simp [intOf]; omega
    · go_wp2
      go_ret2
      obtain rfl : k = 8 := by omega
      have e := HX.out
      subst e
      exact ⟨rfl, rfl⟩
set_option maxHeartbeats 4000000 in
theorem r21_write2 (F : Nat) (hF : F < 256) (x : Nat) (hx : x < 18446744073709551616) (W : Nat) (hW : x % 8 * 32 + F % 32 = W) (w : World) : Calls Tryd.prog 11 #[.int .i64 2, .int .u8 (F : Nat), .int .u64 (x : Nat)] w fun e w' => e = .returned (.tuple #[.int .u8 (W % 2 ^ 8 : Nat), .int .i64 0]) ∧ w' = w := by
  have HW := hide hW
  clear hW
  go_enter Tryd.func11, Tryd.ntmps11
  go_wp2_with (go_at_call 31; refine (r21_part2 _).mono ?_; rintro e w' ⟨rfl, rfl⟩)
  go_loop [10, 11] (fun v i => ∃ k X : Nat, k ≤ 8 ∧ i = .int .i64 k ∧ v = .int .u8 X ∧ Hid (X = W % 2 ^ k)) (fun _ i => 8 - (intOf i).toNat)
  case atStart => exact ⟨0, 0, by omega, rfl, rfl, by show 0 = _; rw [Nat.pow_zero, Nat.mod_one]⟩
  case round =>
    obtain ⟨k, X, hk, rfl, rfl, HX⟩ := hrel
    by_cases hlt : k < 8
    · obtain ⟨fb, hfb⟩ : ∃ b, F.testBit k = b := ⟨_, rfl⟩
      obtain ⟨sb, hsb⟩ : ∃ b, W.testBit k = b := ⟨_, rfl⟩
      have BF := r21_bit F k (by omega) (by omega)
      rw [hfb] at BF
      have wb : W.testBit k = if 5 ≤ k then x.testBit (k - 5) else F.testBit k := by rw [← HW.out]; exact wr_bit2 F x k hlt
      by_cases c : 5 ≤ k
      · rw [if_pos c] at wb
        have BX : ∀ w : World, Calls Tryd.prog 32 #[.int .u64 (x : Nat), .int .i64 ((k : Nat) - (5 : Int))] w fun e w' => e = .returned (.bool sb) ∧ w' = w := by
          intro w
          have := r21_bit x (k - 5) hx (by omega) w
          rw [← wb, hsb] at this
          rw [show (((k - 5 : Nat) : Int)) = (k : Int) - 5 by omega] at this
          exact this
        cases sb
        · go_wp2_with (first | (go_at_call 32; with_reducible refine (BX _).mono ?_; rintro e w' ⟨rfl, rfl⟩) | (go_at_call 32; with_reducible refine (BF _).mono ?_; rintro e w' ⟨rfl, rfl⟩))
          go_round
          case rel => exact ⟨k + 1, X, by omega, by go_num, rfl, by show X = _; rw [mod_bit, hsb, HX.out]; rfl⟩
          case measure => simp [intOf]; omega
        · have lim := bit_lim hsb 8 hlt
          rw [← HX.out] at lim
          have lim2 : X + 2 ^ k < 256 := by
            have a := mod_bit W k
            rw [if_pos hsb, ← HX.out] at a
            have b := Nat.mod_lt W (Nat.two_pow_pos (k + 1))
            have c := Nat.pow_le_pow_right (show 0 < 2 by decide) (show k + 1 ≤ 8 from hlt)
            omega
          go_wp2_with (first | (go_at_call 32; with_reducible refine (BX _).mono ?_; rintro e w' ⟨rfl, rfl⟩) | (go_at_call 32; with_reducible refine (BF _).mono ?_; rintro e w' ⟨rfl, rfl⟩))
          go_round
          case rel => exact ⟨k + 1, X + 2 ^ k, by omega, by go_num, int_eq (wsh8 X k lim2), by show _ = _; rw [mod_bit, hsb, HX.out]; rfl⟩
          case measure => simp [intOf]; omega
      · rw [if_neg c, hfb] at wb
        rw [← wb, hsb] at BF
        cases sb
        · go_wp2_with (go_at_call 32; with_reducible refine (BF _).mono ?_; rintro e w' ⟨rfl, rfl⟩)
          go_round
          case rel => exact ⟨k + 1, X, by omega, by go_num, rfl, by show X = _; rw [mod_bit, hsb, HX.out]; rfl⟩
          case measure => simp [intOf]; omega
        · have lim := bit_lim hsb 8 hlt
          rw [← HX.out] at lim
          have lim2 : X + 2 ^ k < 256 := by
            have a := mod_bit W k
            rw [if_pos hsb, ← HX.out] at a
            have b := Nat.mod_lt W (Nat.two_pow_pos (k + 1))
            have c := Nat.pow_le_pow_right (show 0 < 2 by decide) (show k + 1 ≤ 8 from hlt)
            omega
          go_wp2_with (go_at_call 32; with_reducible refine (BF _).mono ?_; rintro e w' ⟨rfl, rfl⟩)
          go_round
          case rel => exact ⟨k + 1, X + 2 ^ k, by omega, by go_num, int_eq (wsh8 X k lim2), by show _ = _; rw [mod_bit, hsb, HX.out]; rfl⟩
          case measure => simp [intOf]; omega
    · go_wp2
      go_ret2
      obtain rfl : k = 8 := by omega
      have e := HX.out
      subst e
      exact ⟨rfl, rfl⟩
set_option maxHeartbeats 4000000 in
theorem r21_write3 (F : Nat) (hF : F < 256) (x : Nat) (hx : x < 18446744073709551616) (W : Nat) (hW : x % 256 = W) (w : World) : Calls Tryd.prog 11 #[.int .i64 3, .int .u8 (F : Nat), .int .u64 (x : Nat)] w fun e w' => e = .returned (.tuple #[.int .u8 (W % 2 ^ 8 : Nat), .int .i64 0]) ∧ w' = w := by
  have HW := hide hW
  clear hW
  go_enter Tryd.func11, Tryd.ntmps11
  go_wp2_with (go_at_call 31; refine (r21_part3 _).mono ?_; rintro e w' ⟨rfl, rfl⟩)
  go_loop [10, 11] (fun v i => ∃ k X : Nat, k ≤ 8 ∧ i = .int .i64 k ∧ v = .int .u8 X ∧ Hid (X = W % 2 ^ k)) (fun _ i => 8 - (intOf i).toNat)
  case atStart => exact ⟨0, 0, by omega, rfl, rfl, by show 0 = _; rw [Nat.pow_zero, Nat.mod_one]⟩
  case round =>
    obtain ⟨k, X, hk, rfl, rfl, HX⟩ := hrel
    by_cases hlt : k < 8
    · obtain ⟨fb, hfb⟩ : ∃ b, F.testBit k = b := ⟨_, rfl⟩
      obtain ⟨sb, hsb⟩ : ∃ b, W.testBit k = b := ⟨_, rfl⟩
      have BF := r21_bit F k (by omega) (by omega)
      rw [hfb] at BF
      have wb : W.testBit k = x.testBit k := by rw [← HW.out]; exact wr_bit3 x k hlt
      have BX : ∀ w : World, Calls Tryd.prog 32 #[.int .u64 (x : Nat), .int .i64 ((k : Nat))] w fun e w' => e = .returned (.bool sb) ∧ w' = w := by
        intro w
        have := r21_bit x (k) hx (by omega) w
        rw [← wb, hsb] at this
        exact this
      cases sb
      · go_wp2_with (first | (go_at_call 32; with_reducible refine (BX _).mono ?_; rintro e w' ⟨rfl, rfl⟩) | (go_at_call 32; with_reducible refine (BF _).mono ?_; rintro e w' ⟨rfl, rfl⟩))
        go_round
        case rel => exact ⟨k + 1, X, by omega, by go_num, rfl, by show X = _; rw [mod_bit, hsb, HX.out]; rfl⟩
        case measure => simp [intOf]; omega
      · have lim := bit_lim hsb 8 hlt
        rw [← HX.out] at lim
        have lim2 : X + 2 ^ k < 256 := by
          have a := mod_bit W k
          rw [if_pos hsb, ← HX.out] at a
          have b := Nat.mod_lt W (Nat.two_pow_pos (k + 1))
          have c := Nat.pow_le_pow_right (show 0 < 2 by decide) (show k + 1 ≤ 8 from hlt)
          omega
        go_wp2_with (first | (go_at_call 32; with_reducible refine (BX _).mono ?_; rintro e w' ⟨rfl, rfl⟩) | (go_at_call 32; with_reducible refine (BF _).mono ?_; rintro e w' ⟨rfl, rfl⟩))
        go_round
        case rel => exact ⟨k + 1, X + 2 ^ k, by omega, by go_num, int_eq (wsh8 X k lim2), by show _ = _; rw [mod_bit, hsb, HX.out]; rfl⟩
        case measure => simp [intOf]; omega
    · go_wp2
      go_ret2
      obtain rfl : k = 8 := by omega
      have e := HX.out
      subst e
      exact ⟨rfl, rfl⟩
theorem r21_write0 (n : Int) (n1 : (n == 1) = false) (n2 : (n == 2) = false) (n3 : (n == 3) = false) (F x : Nat) (w : World) : Calls Tryd.prog 11 #[.int .i64 n, .int .u8 (F : Nat), .int .u64 (x : Nat)] w fun e w' => e = .returned (.tuple #[.int .u8 0, .int .i64 210]) ∧ w' = w := by
  have P := r21_part0 n n1 n2 n3
  go_enter Tryd.func11, Tryd.ntmps11
  go_wp2_with (go_at_call 31; refine (P _).mono ?_; rintro e w' ⟨rfl, rfl⟩)
  go_ret2
  exact ⟨rfl, rfl⟩
def wdW (k : Nat) : ByteArray := if k = 0 then ⟨#[110, 120]⟩ else if k = 1 then ⟨#[117, 102]⟩ else if k = 2 then ⟨#[111, 102]⟩ else if k = 3 then ⟨#[100, 122]⟩ else ⟨#[110, 118]⟩
def txB (g : Nat) : Nat → ByteArray
  | 0 => ⟨#[]⟩
  | j + 1 => if g.testBit (4 - j) = true then (if ((txB g j).toList == []) = true then wdW (4 - j) else txB g j ++ ⟨#[43]⟩ ++ wdW (4 - j)) else txB g j
def txt (g : Nat) : ByteArray := if ((txB g 5).toList == []) = true then ⟨#[45]⟩ else txB g 5
theorem res_tmp4 {fn : Func} {t u v x : Tmp} (h : fn.results = #[.tmp t, .tmp u, .tmp v, .tmp x]) (tmps : Array Value) (P : Program) (w : World) :
    (results fn tmps).run P w = .ok (.tuple #[tmps.getD t undef, tmps.getD u undef, tmps.getD v undef, tmps.getD x undef]) w := by
  simp [results, h]
theorem r21_act_e (how : Int) (hh : decide (2 < how) = true) (n : Int) (F x : Nat) (si : Bool) (w : World) : Calls Tryd.prog 13 #[.int .u8 how, .int .i64 n, .int .u8 (F : Nat), .int .u64 (x : Nat), .bool si] w fun e w' => e = .returned (.tuple #[.int .u64 0, .int .u8 0, .bool false, .int .i64 2]) ∧ w' = w := by
  go_enter Tryd.func13, Tryd.ntmps13
  go_wp2
  try simp only [Exit.inBlock, Exit.then]
  refine bodyPost_ret (res_tmp4 rfl _ _ _) rfl ?_
  exact ⟨rfl, rfl⟩
theorem r21_act_n (how : Int) (hh : decide (2 < how) = false) (n : Int) (F x : Nat) (si : Bool) (KR : ∀ w : World, Calls Tryd.prog 9 #[.int .i64 n, .int .u8 (F : Nat)] w fun e w' => e = .returned (.tuple #[.int .u64 0, .int .i64 210]) ∧ w' = w) (w : World) : Calls Tryd.prog 13 #[.int .u8 how, .int .i64 n, .int .u8 (F : Nat), .int .u64 (x : Nat), .bool si] w fun e w' => e = .returned (.tuple #[.int .u64 0, .int .u8 0, .bool false, .int .i64 210]) ∧ w' = w := by
  go_enter Tryd.func13, Tryd.ntmps13
  go_wp2_with (go_at_call 9; refine (KR _).mono ?_; rintro e w' ⟨rfl, rfl⟩)
  try simp only [Exit.inBlock, Exit.then]
  refine bodyPost_ret (res_tmp4 rfl _ _ _) rfl ?_
  exact ⟨rfl, rfl⟩
theorem r21_act_s (how : Int) (hh : decide (2 < how) = false) (h0 : (how == 0) = false) (h1 : (how != 0) = true) (n : Int) (F x old : Nat) (KR : ∀ w : World, Calls Tryd.prog 9 #[.int .i64 n, .int .u8 (F : Nat)] w fun e w' => e = .returned (.tuple #[.int .u64 (old : Nat), .int .i64 0]) ∧ w' = w) (w : World) : Calls Tryd.prog 13 #[.int .u8 how, .int .i64 n, .int .u8 (F : Nat), .int .u64 (x : Nat), .bool true] w fun e w' => e = .returned (.tuple #[.int .u64 (old : Nat), .int .u8 (F : Nat), .bool false, .int .i64 0]) ∧ w' = w := by
  go_enter Tryd.func13, Tryd.ntmps13
  go_wp2_with (go_at_call 9; refine (KR _).mono ?_; rintro e w' ⟨rfl, rfl⟩)
  try simp only [Exit.inBlock, Exit.then]
  refine bodyPost_ret (res_tmp4 rfl _ _ _) rfl ?_
  exact ⟨rfl, rfl⟩
set_option maxRecDepth 100000 in
set_option maxHeartbeats 4000000 in
theorem r21_act_0 (n : Int) (F x old nw : Nat) (hx : x < 18446744073709551616) (ho : old < 18446744073709551616) (KR : ∀ w : World, Calls Tryd.prog 9 #[.int .i64 n, .int .u8 (F : Nat)] w fun e w' => e = .returned (.tuple #[.int .u64 (old : Nat), .int .i64 0]) ∧ w' = w) (si : Bool) (V : Nat) (hV : x = V) (vl : V < 18446744073709551616) (KW : ∀ w : World, Calls Tryd.prog 11 #[.int .i64 n, .int .u8 (F : Nat), .int .u64 (V : Nat)] w fun e w' => e = .returned (.tuple #[.int .u8 (nw : Nat), .int .i64 0]) ∧ w' = w) (w : World) : Calls Tryd.prog 13 #[.int .u8 0, .int .i64 n, .int .u8 (F : Nat), .int .u64 (x : Nat), .bool si] w fun e w' => e = .returned (.tuple #[.int .u64 (old : Nat), .int .u8 (nw : Nat), .bool true, .int .i64 0]) ∧ w' = w := by
  have HV := hide hV
  clear hV
  go_enter Tryd.func13, Tryd.ntmps13
  go_wp2_with (go_at_call 9; refine (KR _).mono ?_; rintro e w' ⟨rfl, rfl⟩)
  go_loop [16, 17] (fun v i => ∃ k X : Nat, k ≤ 64 ∧ i = .int .i64 k ∧ v = .int .u64 X ∧ Hid (X = V % 2 ^ k)) (fun _ i => 64 - (intOf i).toNat)
  case atStart => exact ⟨0, 0, by omega, rfl, rfl, by show 0 = _; rw [Nat.pow_zero, Nat.mod_one]⟩
  case round =>
    obtain ⟨k, X, hk, rfl, rfl, HX⟩ := hrel
    by_cases hlt : k < 64
    · obtain ⟨xb, hxb⟩ : ∃ b, x.testBit k = b := ⟨_, rfl⟩
      obtain ⟨ob, hob⟩ : ∃ b, old.testBit k = b := ⟨_, rfl⟩
      have BX := r21_bit x k hx hlt
      have BO := r21_bit old k ho hlt
      rw [hxb] at BX
      rw [hob] at BO
      have vb : V.testBit k = x.testBit k := by rw [← HV.out]
      rw [hxb] at vb
      have lim : V.testBit k = true → X + 2 ^ k < 18446744073709551616 := by
        intro q
        have a := mod_bit V k
        rw [if_pos q, ← HX.out] at a
        have b := Nat.mod_le V (2 ^ (k + 1))
        omega
      cases xb
      · go_wp2_with (first | (go_at_call 32; with_reducible refine (BX _).mono ?_; rintro e w' ⟨rfl, rfl⟩))
        go_round
        case rel => exact ⟨k + 1, X, by omega, by go_num, rfl, by show X = _; rw [mod_bit, vb, HX.out]; rfl⟩
        case measure => simp [intOf]; omega
      · go_wp2_with (first | (go_at_call 32; with_reducible refine (BX _).mono ?_; rintro e w' ⟨rfl, rfl⟩))
        go_round
        case rel => exact ⟨k + 1, X + 2 ^ k, by omega, by go_num, int_eq (wsh64 X k (lim vb)), by show _ = _; rw [mod_bit, vb, HX.out]; rfl⟩
        case measure => simp [intOf]; omega
    · obtain rfl : k = 64 := by omega
      have e : X = V := by rw [HX.out]; exact Nat.mod_eq_of_lt vl
      subst e
      go_wp2_with (go_at_call 11; refine (KW _).mono ?_; rintro e w' ⟨rfl, rfl⟩)
      try simp only [Exit.inBlock, Exit.then]
      refine bodyPost_ret (res_tmp4 rfl _ _ _) rfl ?_
      exact ⟨rfl, rfl⟩
set_option maxRecDepth 100000 in
set_option maxHeartbeats 4000000 in
theorem r21_act_1 (n : Int) (F x old nw : Nat) (hx : x < 18446744073709551616) (ho : old < 18446744073709551616) (KR : ∀ w : World, Calls Tryd.prog 9 #[.int .i64 n, .int .u8 (F : Nat)] w fun e w' => e = .returned (.tuple #[.int .u64 (old : Nat), .int .i64 0]) ∧ w' = w) (V : Nat) (hV : old ||| x = V) (vl : V < 18446744073709551616) (KW : ∀ w : World, Calls Tryd.prog 11 #[.int .i64 n, .int .u8 (F : Nat), .int .u64 (V : Nat)] w fun e w' => e = .returned (.tuple #[.int .u8 (nw : Nat), .int .i64 0]) ∧ w' = w) (w : World) : Calls Tryd.prog 13 #[.int .u8 1, .int .i64 n, .int .u8 (F : Nat), .int .u64 (x : Nat), .bool false] w fun e w' => e = .returned (.tuple #[.int .u64 (old : Nat), .int .u8 (nw : Nat), .bool true, .int .i64 0]) ∧ w' = w := by
  have HV := hide hV
  clear hV
  go_enter Tryd.func13, Tryd.ntmps13
  go_wp2_with (go_at_call 9; refine (KR _).mono ?_; rintro e w' ⟨rfl, rfl⟩)
  go_loop [16, 17] (fun v i => ∃ k X : Nat, k ≤ 64 ∧ i = .int .i64 k ∧ v = .int .u64 X ∧ Hid (X = V % 2 ^ k)) (fun _ i => 64 - (intOf i).toNat)
  case atStart => exact ⟨0, 0, by omega, rfl, rfl, by show 0 = _; rw [Nat.pow_zero, Nat.mod_one]⟩
  case round =>
    obtain ⟨k, X, hk, rfl, rfl, HX⟩ := hrel
    by_cases hlt : k < 64
    · obtain ⟨xb, hxb⟩ : ∃ b, x.testBit k = b := ⟨_, rfl⟩
      obtain ⟨ob, hob⟩ : ∃ b, old.testBit k = b := ⟨_, rfl⟩
      have BX := r21_bit x k hx hlt
      have BO := r21_bit old k ho hlt
      rw [hxb] at BX
      rw [hob] at BO
      have vb : V.testBit k = (old.testBit k || x.testBit k) := by rw [← HV.out]; exact Nat.testBit_or old x k
      rw [hxb, hob] at vb
      have lim : V.testBit k = true → X + 2 ^ k < 18446744073709551616 := by
        intro q
        have a := mod_bit V k
        rw [if_pos q, ← HX.out] at a
        have b := Nat.mod_le V (2 ^ (k + 1))
        omega
      cases xb <;> cases ob
      · go_wp2_with (first | (go_at_call 32; with_reducible refine (BX _).mono ?_; rintro e w' ⟨rfl, rfl⟩) | (go_at_call 32; with_reducible refine (BO _).mono ?_; rintro e w' ⟨rfl, rfl⟩))
        go_round
        case rel => exact ⟨k + 1, X, by omega, by go_num, rfl, by show X = _; rw [mod_bit, vb, HX.out]; rfl⟩
        case measure => simp [intOf]; omega
      · go_wp2_with (first | (go_at_call 32; with_reducible refine (BX _).mono ?_; rintro e w' ⟨rfl, rfl⟩) | (go_at_call 32; with_reducible refine (BO _).mono ?_; rintro e w' ⟨rfl, rfl⟩))
        go_round
        case rel => exact ⟨k + 1, X + 2 ^ k, by omega, by go_num, int_eq (wsh64 X k (lim vb)), by show _ = _; rw [mod_bit, vb, HX.out]; rfl⟩
        case measure => simp [intOf]; omega
      · go_wp2_with (first | (go_at_call 32; with_reducible refine (BX _).mono ?_; rintro e w' ⟨rfl, rfl⟩) | (go_at_call 32; with_reducible refine (BO _).mono ?_; rintro e w' ⟨rfl, rfl⟩))
        go_round
        case rel => exact ⟨k + 1, X + 2 ^ k, by omega, by go_num, int_eq (wsh64 X k (lim vb)), by show _ = _; rw [mod_bit, vb, HX.out]; rfl⟩
        case measure => simp [intOf]; omega
      · go_wp2_with (first | (go_at_call 32; with_reducible refine (BX _).mono ?_; rintro e w' ⟨rfl, rfl⟩) | (go_at_call 32; with_reducible refine (BO _).mono ?_; rintro e w' ⟨rfl, rfl⟩))
        go_round
        case rel => exact ⟨k + 1, X + 2 ^ k, by omega, by go_num, int_eq (wsh64 X k (lim vb)), by show _ = _; rw [mod_bit, vb, HX.out]; rfl⟩
        case measure => simp [intOf]; omega
    · obtain rfl : k = 64 := by omega
      have e : X = V := by rw [HX.out]; exact Nat.mod_eq_of_lt vl
      subst e
      go_wp2_with (go_at_call 11; refine (KW _).mono ?_; rintro e w' ⟨rfl, rfl⟩)
      try simp only [Exit.inBlock, Exit.then]
      refine bodyPost_ret (res_tmp4 rfl _ _ _) rfl ?_
      exact ⟨rfl, rfl⟩
set_option maxRecDepth 100000 in
set_option maxHeartbeats 4000000 in
theorem r21_act_2 (n : Int) (F x old nw : Nat) (hx : x < 18446744073709551616) (ho : old < 18446744073709551616) (KR : ∀ w : World, Calls Tryd.prog 9 #[.int .i64 n, .int .u8 (F : Nat)] w fun e w' => e = .returned (.tuple #[.int .u64 (old : Nat), .int .i64 0]) ∧ w' = w) (V : Nat) (hV : old ^^^ (old &&& x) = V) (vl : V < 18446744073709551616) (KW : ∀ w : World, Calls Tryd.prog 11 #[.int .i64 n, .int .u8 (F : Nat), .int .u64 (V : Nat)] w fun e w' => e = .returned (.tuple #[.int .u8 (nw : Nat), .int .i64 0]) ∧ w' = w) (w : World) : Calls Tryd.prog 13 #[.int .u8 2, .int .i64 n, .int .u8 (F : Nat), .int .u64 (x : Nat), .bool false] w fun e w' => e = .returned (.tuple #[.int .u64 (old : Nat), .int .u8 (nw : Nat), .bool true, .int .i64 0]) ∧ w' = w := by
  have HV := hide hV
  clear hV
  go_enter Tryd.func13, Tryd.ntmps13
  go_wp2_with (go_at_call 9; refine (KR _).mono ?_; rintro e w' ⟨rfl, rfl⟩)
  go_loop [16, 17] (fun v i => ∃ k X : Nat, k ≤ 64 ∧ i = .int .i64 k ∧ v = .int .u64 X ∧ Hid (X = V % 2 ^ k)) (fun _ i => 64 - (intOf i).toNat)
  case atStart => exact ⟨0, 0, by omega, rfl, rfl, by show 0 = _; rw [Nat.pow_zero, Nat.mod_one]⟩
  case round =>
    obtain ⟨k, X, hk, rfl, rfl, HX⟩ := hrel
    by_cases hlt : k < 64
    · obtain ⟨xb, hxb⟩ : ∃ b, x.testBit k = b := ⟨_, rfl⟩
      obtain ⟨ob, hob⟩ : ∃ b, old.testBit k = b := ⟨_, rfl⟩
      have BX := r21_bit x k hx hlt
      have BO := r21_bit old k ho hlt
      rw [hxb] at BX
      rw [hob] at BO
      have vb : V.testBit k = (old.testBit k && !x.testBit k) := by rw [← HV.out]; exact by rw [Nat.testBit_xor, Nat.testBit_and]; cases old.testBit k <;> cases x.testBit k <;> rfl
      rw [hxb, hob] at vb
      have lim : V.testBit k = true → X + 2 ^ k < 18446744073709551616 := by
        intro q
        have a := mod_bit V k
        rw [if_pos q, ← HX.out] at a
        have b := Nat.mod_le V (2 ^ (k + 1))
        omega
      cases xb <;> cases ob
      · go_wp2_with (first | (go_at_call 32; with_reducible refine (BX _).mono ?_; rintro e w' ⟨rfl, rfl⟩) | (go_at_call 32; with_reducible refine (BO _).mono ?_; rintro e w' ⟨rfl, rfl⟩))
        go_round
        case rel => exact ⟨k + 1, X, by omega, by go_num, rfl, by show X = _; rw [mod_bit, vb, HX.out]; rfl⟩
        case measure => simp [intOf]; omega
      · go_wp2_with (first | (go_at_call 32; with_reducible refine (BX _).mono ?_; rintro e w' ⟨rfl, rfl⟩) | (go_at_call 32; with_reducible refine (BO _).mono ?_; rintro e w' ⟨rfl, rfl⟩))
        go_round
        case rel => exact ⟨k + 1, X + 2 ^ k, by omega, by go_num, int_eq (wsh64 X k (lim vb)), by show _ = _; rw [mod_bit, vb, HX.out]; rfl⟩
        case measure => simp [intOf]; omega
      · go_wp2_with (first | (go_at_call 32; with_reducible refine (BX _).mono ?_; rintro e w' ⟨rfl, rfl⟩) | (go_at_call 32; with_reducible refine (BO _).mono ?_; rintro e w' ⟨rfl, rfl⟩))
        go_round
        case rel => exact ⟨k + 1, X, by omega, by go_num, rfl, by show X = _; rw [mod_bit, vb, HX.out]; rfl⟩
        case measure => simp [intOf]; omega
      · go_wp2_with (first | (go_at_call 32; with_reducible refine (BX _).mono ?_; rintro e w' ⟨rfl, rfl⟩) | (go_at_call 32; with_reducible refine (BO _).mono ?_; rintro e w' ⟨rfl, rfl⟩))
        go_round
        case rel => exact ⟨k + 1, X, by omega, by go_num, rfl, by show X = _; rw [mod_bit, vb, HX.out]; rfl⟩
        case measure => simp [intOf]; omega
    · obtain rfl : k = 64 := by omega
      have e : X = V := by rw [HX.out]; exact Nat.mod_eq_of_lt vl
      subst e
      go_wp2_with (go_at_call 11; refine (KW _).mono ?_; rintro e w' ⟨rfl, rfl⟩)
      try simp only [Exit.inBlock, Exit.then]
      refine bodyPost_ret (res_tmp4 rfl _ _ _) rfl ?_
      exact ⟨rfl, rfl⟩
end Go.Proofs.YtinagedilgihjaaDoor
namespace Go.Proofs.YtinagedilgihjaaDoor
set_option maxRecDepth 100000
set_option maxHeartbeats 40000000
set_option maxRecDepth 100000
open Go.RowKit WMath
set_option linter.unusedSimpArgs false
set_option linter.unusedVariables false
set_option maxRecDepth 100000 in
set_option maxHeartbeats 8000000 in
theorem r21lives {Tp : World → Prop} (FB : Box (∀ {w w' : World}, Tp w → Below w.heap.size w w' → Tp w')) (a3 a5 : Int) (w : World) (K1 : Box (∀ w, Tp w → Calls Tryd.prog 8 #[.int .i64 2, .int .u8 227] w fun r w' => r = .returned (.tuple #[.int .u64 7, .int .i64 0]) ∧ Below w.heap.size w w')) (K2 : Box (∀ w, Tp w → Calls Tryd.prog 10 #[.int .i64 1, .int .u8 227, .int .u64 500] w fun r w' => r = .returned (.tuple #[.int .u8 244, .int .i64 0]) ∧ Below w.heap.size w w')) (K3 : Box (∀ w, Tp w → Calls Tryd.prog 8 #[.int .i64 0, .int .u8 227] w fun r w' => r = .returned (.tuple #[.int .u64 a3, .int .i64 210]) ∧ Below w.heap.size w w')) (K4 : Box (∀ w, Tp w → Calls Tryd.prog 15 #[.int .u8 96, .int .u8 7] w fun r w' => r = .returned (.tuple #[.int .u8 3, .int .i64 0]) ∧ Below w.heap.size w w')) (K5 : Box (∀ w, Tp w → Calls Tryd.prog 15 #[.int .u8 160, .int .u8 7] w fun r w' => r = .returned (.tuple #[.int .u8 a5, .int .i64 211]) ∧ Below w.heap.size w w')) (K6 : Box (∀ w, Tp w → Calls Tryd.prog 26 #[.int .u8 21] w fun r w' => r = .returned (.tuple #[.string ⟨#[110, 118, 43, 111, 102, 43, 110, 120]⟩, .int .i64 0]) ∧ Below w.heap.size w w')) (hT : Tp w) : Calls Tryd.prog 14 #[] w fun r w' => r = .returned (.bool true) ∧ Below w.heap.size w w' := by
  have FF := box hT
  clear hT
  have B0 : Below w.heap.size w w := (Below.refl _ _)
  go_enter Tryd.func14, Tryd.ntmps14
  go_wp2_with fail
  refine (K1.out _ (FB.out FF.out B0)).mono ?_
  rintro r w1 ⟨rfl, b1⟩
  have B1 : Below w.heap.size w w1 := btr B0 b1
  clear b1 B0 
  go_wp2_with fail
  refine (K2.out _ (FB.out FF.out B1)).mono ?_
  rintro r w2 ⟨rfl, b2⟩
  have B2 : Below w.heap.size w w2 := btr B1 b2
  clear b2 B1 
  go_wp2_with fail
  refine (K3.out _ (FB.out FF.out B2)).mono ?_
  rintro r w3 ⟨rfl, b3⟩
  have B3 : Below w.heap.size w w3 := btr B2 b3
  clear b3 B2 
  go_wp2_with fail
  refine (K4.out _ (FB.out FF.out B3)).mono ?_
  rintro r w4 ⟨rfl, b4⟩
  have B4 : Below w.heap.size w w4 := btr B3 b4
  clear b4 B3 
  go_wp2_with fail
  refine (K5.out _ (FB.out FF.out B4)).mono ?_
  rintro r w5 ⟨rfl, b5⟩
  have B5 : Below w.heap.size w w5 := btr B4 b5
  clear b5 B4 
  go_wp2_with fail
  refine (K6.out _ (FB.out FF.out B5)).mono ?_
  rintro r w6 ⟨rfl, b6⟩
  have B6 : Below w.heap.size w w6 := btr B5 b6
  clear b6 B5 
  go_wp2
  go_ret
  exact ⟨rfl, B6⟩
set_option maxRecDepth 100000 in
set_option maxHeartbeats 8000000 in
theorem ca_law {Tp : World → Prop} (FB : Box (∀ {w w' : World}, Tp w → Below w.heap.size w w' → Tp w')) (ho n F X : Int) (si : Bool) (rm g : Int) (a e c e2 o q e3 : Int) (wr : Bool) (w : World) (K1 : Box (∀ w, Tp w → Calls Tryd.prog 8 #[.int .i64 n, .int .u8 F] w fun r w' => r = .returned (.tuple #[.int .u64 a, .int .i64 e]) ∧ Below w.heap.size w w')) (RK1 : Box (∀ w, Calls Tryd.prog 9 #[.int .i64 n, .int .u8 F] w fun r w' => r = .returned (.tuple #[.int .u64 a, .int .i64 e]) ∧ Below w.heap.size w w')) (K2 : Box (∀ w, Tp w → Calls Tryd.prog 10 #[.int .i64 n, .int .u8 F, .int .u64 X] w fun r w' => r = .returned (.tuple #[.int .u8 c, .int .i64 e2]) ∧ Below w.heap.size w w')) (RK2 : Box (∀ w, Calls Tryd.prog 11 #[.int .i64 n, .int .u8 F, .int .u64 X] w fun r w' => r = .returned (.tuple #[.int .u8 c, .int .i64 e2]) ∧ Below w.heap.size w w')) (K3 : Box (∀ w, Tp w → Calls Tryd.prog 12 #[.int .u8 ho, .int .i64 n, .int .u8 F, .int .u64 X, .bool si] w fun r w' => r = .returned (.tuple #[.int .u64 o, .int .u8 q, .bool wr, .int .i64 e3]) ∧ Below w.heap.size w w')) (RK3 : Box (∀ w, Calls Tryd.prog 13 #[.int .u8 ho, .int .i64 n, .int .u8 F, .int .u64 X, .bool si] w fun r w' => r = .returned (.tuple #[.int .u64 o, .int .u8 q, .bool wr, .int .i64 e3]) ∧ Below w.heap.size w w')) (KV : Box (∀ w, Tp w → Calls Tryd.prog 14 #[] w fun r w' => r = .returned (.bool true) ∧ Below w.heap.size w w')) (hT : Tp w) : Calls Tryd.prog 3 #[.agg #[.int .u8 ho, .int .i64 n, .int .u8 F, .int .u64 X, .bool si, .int .u8 rm, .int .u8 g]] w fun r w' => r = .returned (.bool true) ∧ Below w.heap.size w w' := by
  have FF := box hT
  clear hT
  obtain ⟨Rx_0, B0⟩ := opn1 w (Obj.cells #[.int .u8 ho, .int .i64 n, .int .u8 F, .int .u64 X, .bool si, .int .u8 rm, .int .u8 g] 26)
  go_enter Tryd.func3, Tryd.ntmps3
  have cx_0_0 := cells4 Rx_0 0 _ rfl
  have cx_0_1 := cells4 Rx_0 1 _ rfl
  have cx_0_2 := cells4 Rx_0 2 _ rfl
  have cx_0_3 := cells4 Rx_0 3 _ rfl
  have cx_0_4 := cells4 Rx_0 4 _ rfl
  have cx_0_5 := cells4 Rx_0 5 _ rfl
  have cx_0_6 := cells4 Rx_0 6 _ rfl
  go_wp2_with fail
  refine (K1.out _ (FB.out FF.out B0)).mono ?_
  rintro r w1 ⟨rfl, b1⟩
  have B1 : Below w.heap.size w w1 := btr B0 b1
  have Rx_1 := heap_of b1 _ _ _ Rx_0
  clear b1 B0 Rx_0 cx_0_0 cx_0_1 cx_0_2 cx_0_3 cx_0_4 cx_0_5 cx_0_6
  have cx_1_0 := cells4 Rx_1 0 _ rfl
  have cx_1_1 := cells4 Rx_1 1 _ rfl
  have cx_1_2 := cells4 Rx_1 2 _ rfl
  have cx_1_3 := cells4 Rx_1 3 _ rfl
  have cx_1_4 := cells4 Rx_1 4 _ rfl
  have cx_1_5 := cells4 Rx_1 5 _ rfl
  have cx_1_6 := cells4 Rx_1 6 _ rfl
  go_wp2_with fail
  refine (RK1.out _).mono ?_
  rintro r w2 ⟨rfl, b2⟩
  have B2 : Below w.heap.size w w2 := btr B1 b2
  have Rx_2 := heap_of b2 _ _ _ Rx_1
  clear b2 B1 Rx_1 cx_1_0 cx_1_1 cx_1_2 cx_1_3 cx_1_4 cx_1_5 cx_1_6
  have cx_2_0 := cells4 Rx_2 0 _ rfl
  have cx_2_1 := cells4 Rx_2 1 _ rfl
  have cx_2_2 := cells4 Rx_2 2 _ rfl
  have cx_2_3 := cells4 Rx_2 3 _ rfl
  have cx_2_4 := cells4 Rx_2 4 _ rfl
  have cx_2_5 := cells4 Rx_2 5 _ rfl
  have cx_2_6 := cells4 Rx_2 6 _ rfl
  go_wp2_with fail
  refine (K2.out _ (FB.out FF.out B2)).mono ?_
  rintro r w3 ⟨rfl, b3⟩
  have B3 : Below w.heap.size w w3 := btr B2 b3
  have Rx_3 := heap_of b3 _ _ _ Rx_2
  clear b3 B2 Rx_2 cx_2_0 cx_2_1 cx_2_2 cx_2_3 cx_2_4 cx_2_5 cx_2_6
  have cx_3_0 := cells4 Rx_3 0 _ rfl
  have cx_3_1 := cells4 Rx_3 1 _ rfl
  have cx_3_2 := cells4 Rx_3 2 _ rfl
  have cx_3_3 := cells4 Rx_3 3 _ rfl
  have cx_3_4 := cells4 Rx_3 4 _ rfl
  have cx_3_5 := cells4 Rx_3 5 _ rfl
  have cx_3_6 := cells4 Rx_3 6 _ rfl
  go_wp2_with fail
  refine (RK2.out _).mono ?_
  rintro r w4 ⟨rfl, b4⟩
  have B4 : Below w.heap.size w w4 := btr B3 b4
  have Rx_4 := heap_of b4 _ _ _ Rx_3
  clear b4 B3 Rx_3 cx_3_0 cx_3_1 cx_3_2 cx_3_3 cx_3_4 cx_3_5 cx_3_6
  have cx_4_0 := cells4 Rx_4 0 _ rfl
  have cx_4_1 := cells4 Rx_4 1 _ rfl
  have cx_4_2 := cells4 Rx_4 2 _ rfl
  have cx_4_3 := cells4 Rx_4 3 _ rfl
  have cx_4_4 := cells4 Rx_4 4 _ rfl
  have cx_4_5 := cells4 Rx_4 5 _ rfl
  have cx_4_6 := cells4 Rx_4 6 _ rfl
  go_wp2_with fail
  refine (K3.out _ (FB.out FF.out B4)).mono ?_
  rintro r w5 ⟨rfl, b5⟩
  have B5 : Below w.heap.size w w5 := btr B4 b5
  have Rx_5 := heap_of b5 _ _ _ Rx_4
  clear b5 B4 Rx_4 cx_4_0 cx_4_1 cx_4_2 cx_4_3 cx_4_4 cx_4_5 cx_4_6
  have cx_5_0 := cells4 Rx_5 0 _ rfl
  have cx_5_1 := cells4 Rx_5 1 _ rfl
  have cx_5_2 := cells4 Rx_5 2 _ rfl
  have cx_5_3 := cells4 Rx_5 3 _ rfl
  have cx_5_4 := cells4 Rx_5 4 _ rfl
  have cx_5_5 := cells4 Rx_5 5 _ rfl
  have cx_5_6 := cells4 Rx_5 6 _ rfl
  go_wp2_with fail
  refine (RK3.out _).mono ?_
  rintro r w6 ⟨rfl, b6⟩
  have B6 : Below w.heap.size w w6 := btr B5 b6
  have Rx_6 := heap_of b6 _ _ _ Rx_5
  clear b6 B5 Rx_5 cx_5_0 cx_5_1 cx_5_2 cx_5_3 cx_5_4 cx_5_5 cx_5_6
  have cx_6_0 := cells4 Rx_6 0 _ rfl
  have cx_6_1 := cells4 Rx_6 1 _ rfl
  have cx_6_2 := cells4 Rx_6 2 _ rfl
  have cx_6_3 := cells4 Rx_6 3 _ rfl
  have cx_6_4 := cells4 Rx_6 4 _ rfl
  have cx_6_5 := cells4 Rx_6 5 _ rfl
  have cx_6_6 := cells4 Rx_6 6 _ rfl
  go_wp2_with fail
  refine (KV.out _ (FB.out FF.out B6)).mono ?_
  rintro r w7 ⟨rfl, b7⟩
  have B7 : Below w.heap.size w w7 := btr B6 b7
  have Rx_7 := heap_of b7 _ _ _ Rx_6
  clear b7 B6 Rx_6 cx_6_0 cx_6_1 cx_6_2 cx_6_3 cx_6_4 cx_6_5 cx_6_6
  have cx_7_0 := cells4 Rx_7 0 _ rfl
  have cx_7_1 := cells4 Rx_7 1 _ rfl
  have cx_7_2 := cells4 Rx_7 2 _ rfl
  have cx_7_3 := cells4 Rx_7 3 _ rfl
  have cx_7_4 := cells4 Rx_7 4 _ rfl
  have cx_7_5 := cells4 Rx_7 5 _ rfl
  have cx_7_6 := cells4 Rx_7 6 _ rfl
  go_wp2
  go_ret
  exact ⟨rfl, B7⟩
end Go.Proofs.YtinagedilgihjaaDoor
namespace Go.Proofs.YtinagedilgihjaaDoor
set_option maxRecDepth 100000
set_option maxHeartbeats 40000000
set_option maxRecDepth 100000
open Go.RowKit WMath
set_option linter.unusedSimpArgs false
set_option linter.unusedVariables false
def rdR (n : Int) (F : Nat) : Nat × Int := if 1 ≤ n ∧ n ≤ 3 then (rdW n F, 0) else (0, 210)
def wrR (n : Int) (F x : Nat) : Nat × Int := if 1 ≤ n ∧ n ≤ 3 then (wrW n F x, 0) else (0, 210)
def acR (ho n : Int) (F x : Nat) (si : Bool) : (Nat × Nat) × (Bool × Int) :=
  if 2 < ho then ((0, 0), (false, 2)) else if ¬ (1 ≤ n ∧ n ≤ 3) then ((0, 0), (false, 210)) else if ho ≠ 0 ∧ si = true then ((rdW n F, F), (false, 0)) else ((rdW n F, wrW n F (acV ho (rdW n F) x)), (true, 0))
def mdR (F rm : Nat) : Nat × Int := if 7 < rm then (0, 2) else if 4 < (if rm = 7 then F / 32 else rm) then (0, 211) else ((if rm = 7 then F / 32 else rm), 0)
def txR (g : Nat) : ByteArray × Int := if 31 < g then (⟨#[]⟩, 2) else (txt g, 0)
theorem bel_sr {P : Program} {k : FuncId} {a : Array Value} {w : World} {v : Value} (h : Calls P k a w fun r w' => r = .returned v ∧ w' = w) : Calls P k a w fun r w' => r = .returned v ∧ Below w.heap.size w w' := h.mono fun _ _ q => ⟨q.1, by rw [q.2]; exact Below.refl _ _⟩
theorem n_three {n : Int} (h : 1 ≤ n ∧ n ≤ 3) : n = 1 ∨ n = 2 ∨ n = 3 := by omega
theorem n_none {n : Int} (h : ¬ (1 ≤ n ∧ n ≤ 3)) : (n == 1) = false ∧ (n == 2) = false ∧ (n == 3) = false := by
  refine ⟨beq_eq_false_iff_ne.2 ?_, beq_eq_false_iff_ne.2 ?_, beq_eq_false_iff_ne.2 ?_⟩ <;> omega
theorem wrW_lt {n : Int} (h : 1 ≤ n ∧ n ≤ 3) {F : Nat} (hF : F < 256) (x : Nat) : wrW n F x < 256 := by
  rcases n_three h with rfl | rfl | rfl
  · show F / 32 * 32 + x % 32 < 256; omega
  · show x % 8 * 32 + F % 32 < 256; omega
  · show x % 256 < 256; omega
theorem rdW_lt {n : Int} (h : 1 ≤ n ∧ n ≤ 3) {F : Nat} (hF : F < 256) : rdW n F < 256 := by
  rcases n_three h with rfl | rfl | rfl
  · show F % 32 < 256; omega
  · show F / 32 < 256; omega
  · exact hF
theorem rRd_w (n : Int) (F : Nat) (hF : F < 256) (w : World) : Calls Tryd.prog 9 #[.int .i64 n, .int .u8 (F : Nat)] w fun e w' => e = .returned (.tuple #[.int .u64 ((rdR n F).1 : Nat), .int .i64 (rdR n F).2]) ∧ w' = w := by
  unfold rdR
  by_cases c : 1 ≤ n ∧ n ≤ 3
  · rw [if_pos c]
    rcases n_three c with rfl | rfl | rfl
    · exact r21_read1 F hF w
    · have := r21_read2 F hF w
      rw [show F / 2 ^ 5 % 2 ^ 3 = F / 32 by omega] at this
      exact this
    · have := r21_read3 F hF w
      rw [show F % 2 ^ 8 = F by omega] at this
      exact this
  · rw [if_neg c]
    obtain ⟨a, b, d⟩ := n_none c
    exact r21_read0 n a b d F w
theorem rWr_w (n : Int) (F : Nat) (hF : F < 256) (x : Nat) (hx : x < 18446744073709551616) (w : World) : Calls Tryd.prog 11 #[.int .i64 n, .int .u8 (F : Nat), .int .u64 (x : Nat)] w fun e w' => e = .returned (.tuple #[.int .u8 ((wrR n F x).1 : Nat), .int .i64 (wrR n F x).2]) ∧ w' = w := by
  unfold wrR
  by_cases c : 1 ≤ n ∧ n ≤ 3
  · rw [if_pos c]
    have l := wrW_lt c hF x
    have e : wrW n F x % 2 ^ 8 = wrW n F x := Nat.mod_eq_of_lt l
    rcases n_three c with rfl | rfl | rfl
    · have := r21_write1 F hF x hx (wrW 1 F x) rfl w
      rw [e] at this
      exact this
    · have := r21_write2 F hF x hx (wrW 2 F x) rfl w
      rw [e] at this
      exact this
    · have := r21_write3 F hF x hx (wrW 3 F x) rfl w
      rw [e] at this
      exact this
  · rw [if_neg c]
    obtain ⟨a, b, d⟩ := n_none c
    exact r21_write0 n a b d F x w
theorem acV_lt {ho : Int} {old x : Nat} (h1 : old < 18446744073709551616) (h2 : x < 18446744073709551616) : acV ho old x < 18446744073709551616 := by
  unfold acV
  split
  · exact h2
  · split
    · exact Nat.or_lt_two_pow (n := 64) h1 h2
    · exact Nat.xor_lt_two_pow (n := 64) h1 (Nat.and_lt_two_pow (n := 64) _ h2)
theorem rAc_w (ho n : Int) (h0 : 0 ≤ ho) (F : Nat) (hF : F < 256) (x : Nat) (hx : x < 18446744073709551616) (si : Bool) (w : World) : Calls Tryd.prog 13 #[.int .u8 ho, .int .i64 n, .int .u8 (F : Nat), .int .u64 (x : Nat), .bool si] w fun e w' => e = .returned (.tuple #[.int .u64 ((acR ho n F x si).1.1 : Nat), .int .u8 ((acR ho n F x si).1.2 : Nat), .bool (acR ho n F x si).2.1, .int .i64 (acR ho n F x si).2.2]) ∧ w' = w := by
  have R := rRd_w n F hF
  unfold acR
  by_cases ch : 2 < ho
  · rw [if_pos ch]
    exact r21_act_e ho (decide_eq_true ch) n F x si w
  rw [if_neg ch]
  have hh := decide_eq_false ch
  by_cases c : 1 ≤ n ∧ n ≤ 3
  · rw [if_neg (fun q => q c)]
    have e : rdR n F = (rdW n F, 0) := by unfold rdR; rw [if_pos c]
    rw [e] at R
    have old := Nat.lt_trans (rdW_lt c hF) (show 256 < 18446744073709551616 by decide)
    have W : ∀ V, V < 18446744073709551616 → ∀ w : World, Calls Tryd.prog 11 #[.int .i64 n, .int .u8 (F : Nat), .int .u64 (V : Nat)] w fun e w' => e = .returned (.tuple #[.int .u8 (wrW n F V : Nat), .int .i64 0]) ∧ w' = w := by
      intro V hV w
      have := rWr_w n F hF V hV w
      have e : wrR n F V = (wrW n F V, 0) := by unfold wrR; rw [if_pos c]
      rw [e] at this
      exact this
    have vl := acV_lt (ho := ho) old hx
    rcases (by omega : ho = 0 ∨ ho = 1 ∨ ho = 2) with rfl | rfl | rfl
    · rw [if_neg (fun q => q.1 rfl)]
      exact r21_act_0 n F x (rdW n F) _ hx old R si _ rfl vl (W _ vl) w
    · cases si
      · rw [if_neg (fun q => absurd q.2 (by decide))]
        exact r21_act_1 n F x (rdW n F) _ hx old R _ rfl vl (W _ vl) w
      · rw [if_pos ⟨by decide, rfl⟩]
        exact r21_act_s 1 hh (by decide) (by decide) n F x (rdW n F) R w
    · cases si
      · rw [if_neg (fun q => absurd q.2 (by decide))]
        exact r21_act_2 n F x (rdW n F) _ hx old R _ rfl vl (W _ vl) w
      · rw [if_pos ⟨by decide, rfl⟩]
        exact r21_act_s 2 hh (by decide) (by decide) n F x (rdW n F) R w
  · rw [if_pos c]
    have e : rdR n F = (0, 210) := by unfold rdR; rw [if_neg c]
    rw [e] at R
    exact r21_act_n ho hh n F x si R w
end Go.Proofs.YtinagedilgihjaaDoor
