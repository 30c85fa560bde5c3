/-
  What the functions that the statement reaches return: part 1 (Mx, Word1, Wide0, Quiet2, Frame6, Nat1, List0, List2, List6, Xmath, X1, IA, IC, ID, IE, IF, FrameA, IG, II, IJ).
-/
import Derived.Laws.MathBits
import Derived.Laws.Bits64b
import Derived.Laws.BitsAllLaws
import Derived.Laws.ShiftsVarLaws
import Derived.WalkKit
import Derived.ProofKit
import Derived.Lib.BitFns
import Derived.Test.YtinagedilgihjaaDoorRows
import Derived.WalkLawsBesides
import Derived.Deep.WholeRow
import Derived.Below
import Derived.ScopeJumps
import Derived.Lib.TrailingZeros
import Derived.Deep.QuietTactic
import Derived.BigQuiet
import Derived.ChangeKeysEq
import Derived.Deep.RegionWith
import Derived.OpenShut
import Derived.Laws.IdiomArrays
import Derived.Carry
import Derived.Deep.RegionLaw
import Derived.Laws.CopyOwn
import Derived.Deep.OwnRows
import Derived.Laws.BytesString
import Derived.Laws.Cover1
import Derived.ChangeMaps5
namespace Go.Proofs.YtinagedilgihjaaDoor.WMath
set_option maxRecDepth 100000
set_option maxHeartbeats 40000000
set_option maxRecDepth 100000
theorem bit_and (x k : Nat) : ((x / 2 ^ k) &&& 1 == 1) = x.testBit k := by
  rw [Nat.and_one_is_mod, Nat.testBit_eq_decide_div_mod_eq]
  rfl

theorem two64 : (18446744073709551616 : Nat) = 2 ^ 64 := by decide
end Go.Proofs.YtinagedilgihjaaDoor.WMath
namespace Go.Proofs.YtinagedilgihjaaDoor.WMath
set_option maxRecDepth 100000
set_option maxHeartbeats 40000000
set_option maxRecDepth 100000

def Box (p : Prop) : Prop := p ∨ False
theorem box {p : Prop} (h : p) : Box p := Or.inl h
theorem Box.out {p : Prop} (h : Box p) : p := h.elim id False.elim

def wd (n k : Nat) : Nat := n / 2 ^ (64 * k) % 18446744073709551616
theorem wd_lt (n k : Nat) : wd n k < 18446744073709551616 := Nat.mod_lt _ (by decide)
theorem wd_bit (n k j : Nat) : (wd n k).testBit j = (decide (j < 64) && n.testBit (64 * k + j)) := by
  unfold wd
  rw [two64, Nat.testBit_mod_two_pow, Nat.testBit_div_two_pow, Nat.add_comm j]
theorem lt_bit {n q i : Nat} (h : n < 2 ^ q) (hi : q ≤ i) : n.testBit i = false := Nat.testBit_lt_two_pow (Nat.lt_of_lt_of_le h (Nat.pow_le_pow_right (by decide) hi))

def setw (n p x : Nat) : Nat := n % 2 ^ (64 * p) + 2 ^ (64 * p) * (x + 18446744073709551616 * (n / 2 ^ (64 * (p + 1))))

theorem setw_bit (n p x i : Nat) (hx : x < 18446744073709551616) : (setw n p x).testBit i = if i / 64 = p then x.testBit (i % 64) else n.testBit i := by
  unfold setw
  rw [Nat.add_comm, Nat.testBit_two_pow_mul_add _ (Nat.mod_lt _ (Nat.two_pow_pos _))]
  split
  · rename_i h
    rw [if_neg (by omega), Nat.testBit_mod_two_pow, decide_eq_true h, Bool.true_and]
  · rename_i h
    rw [Nat.add_comm, two64, Nat.testBit_two_pow_mul_add _ (by rw [← two64]; exact hx)]
    split
    · rename_i h2
      rw [if_pos (by omega)]
      congr 1; omega
    · rename_i h2
      rw [if_neg (by omega), Nat.testBit_div_two_pow]
      congr 1; omega

theorem wd_setw (n p x k : Nat) (hx : x < 18446744073709551616) : wd (setw n p x) k = if k = p then x else wd n k := by
  apply Nat.eq_of_testBit_eq
  intro j
  rw [wd_bit, setw_bit _ _ _ _ hx]
  by_cases hj : j < 64
  · rw [decide_eq_true hj, Bool.true_and, show (64 * k + j) / 64 = k by omega, show (64 * k + j) % 64 = j by omega]
    split
    · rfl
    · rw [wd_bit, decide_eq_true hj, Bool.true_and]
  · rw [decide_eq_false hj, Bool.false_and]
    have e : ∀ y, y < 18446744073709551616 → y.testBit j = false := fun y hy => lt_bit (q := 64) (by rw [← two64]; exact hy) (by omega)
    split
    · rw [e x hx]
    · rw [e _ (wd_lt _ _)]

theorem setw_lt (n p x q : Nat) (hn : n < 2 ^ (64 * q)) (hp : p < q) (hx : x < 18446744073709551616) : setw n p x < 2 ^ (64 * q) := by
  apply Nat.lt_pow_two_of_testBit
  intro i hi
  rw [setw_bit _ _ _ _ hx, if_neg (by omega), lt_bit hn hi]

def cw (L n : Nat) : Array Value := ((List.range L).map fun k => Value.int .u64 (wd n k : Nat)).toArray
theorem cw_at (L n k : Nat) (h : k < L) : (cw L n)[k]? = some (.int .u64 (wd n k : Nat)) := by simp [cw, h]
theorem cw6 (n : Nat) : cw 6 n = #[.int .u64 (wd n 0 : Nat), .int .u64 (wd n 1 : Nat), .int .u64 (wd n 2 : Nat), .int .u64 (wd n 3 : Nat), .int .u64 (wd n 4 : Nat), .int .u64 (wd n 5 : Nat)] := rfl
def pw (L : Nat) : Nat := 2 ^ (64 * L)
def Qn (k : Nat) : Nat := if h : k = 0 then pw 6 else Qn (k - 1)
  termination_by k
  decreasing_by omega
def Q : Nat := Qn 0
theorem Q_pw : ∃ L, L = 6 ∧ Q = pw L := by
  refine ⟨6, rfl, ?_⟩
  unfold Q
  rw [Qn, dif_pos rfl]
theorem Q_of : ∃ L, L = 6 ∧ Q = 2 ^ (64 * L) := by
  obtain ⟨L, hL, h⟩ := Q_pw
  exact ⟨L, hL, h⟩
def W (n : Nat) : Value := .agg (cw 6 n)

theorem w6 (a0 a1 a2 a3 a4 a5 : Nat) (h0 : a0 < 18446744073709551616) (h1 : a1 < 18446744073709551616) (h2 : a2 < 18446744073709551616) (h3 : a3 < 18446744073709551616) (h4 : a4 < 18446744073709551616) (h5 : a5 < 18446744073709551616) :
    ∃ n, n < Q ∧ cw 6 n = #[.int .u64 a0, .int .u64 a1, .int .u64 a2, .int .u64 a3, .int .u64 a4, .int .u64 a5] := by
  refine ⟨setw (setw (setw (setw (setw (setw 0 0 a0) 1 a1) 2 a2) 3 a3) 4 a4) 5 a5, ?_, ?_⟩
  · obtain ⟨L, hL, h⟩ := Q_of
    rw [h]
    repeat (refine setw_lt _ _ _ L ?_ (by omega) (by assumption))
    exact Nat.two_pow_pos _
  · rw [cw6]
    simp only [wd_setw _ _ _ _ h0, wd_setw _ _ _ _ h1, wd_setw _ _ _ _ h2, wd_setw _ _ _ _ h3, wd_setw _ _ _ _ h4, wd_setw _ _ _ _ h5]
    rfl
end Go.Proofs.YtinagedilgihjaaDoor.WMath
namespace Go.Proofs.YtinagedilgihjaaDoor.WMath
set_option maxRecDepth 100000
set_option maxHeartbeats 40000000
set_option maxRecDepth 100000

end Go.Proofs.YtinagedilgihjaaDoor.WMath
namespace Go.Proofs.YtinagedilgihjaaDoor.WMath
set_option maxRecDepth 100000
set_option maxHeartbeats 40000000
set_option maxRecDepth 100000

def blen (n : Nat) : Nat := if n = 0 then 0 else Nat.log2 n + 1
end Go.Proofs.YtinagedilgihjaaDoor.WMath
namespace Go.Proofs.YtinagedilgihjaaDoor.WMath
set_option maxRecDepth 100000
set_option maxHeartbeats 40000000
set_option maxRecDepth 100000

end Go.Proofs.YtinagedilgihjaaDoor.WMath
namespace Go.Proofs.YtinagedilgihjaaDoor.WMath
set_option maxRecDepth 100000
set_option maxHeartbeats 40000000
set_option maxRecDepth 100000

end Go.Proofs.YtinagedilgihjaaDoor.WMath
namespace Go.Proofs.YtinagedilgihjaaDoor.WMath
set_option maxRecDepth 100000
set_option maxHeartbeats 40000000
set_option maxRecDepth 100000

end Go.Proofs.YtinagedilgihjaaDoor.WMath
namespace Go.Proofs.YtinagedilgihjaaDoor.WMath
set_option maxRecDepth 100000
set_option maxHeartbeats 40000000
set_option maxRecDepth 100000

end Go.Proofs.YtinagedilgihjaaDoor.WMath
namespace Go.Proofs.YtinagedilgihjaaDoor.WMath
set_option maxRecDepth 100000
set_option maxHeartbeats 40000000
set_option maxRecDepth 100000

def nl (n : Nat) : Nat := (blen n + 7) / 8
end Go.Proofs.YtinagedilgihjaaDoor.WMath
namespace Go.Proofs.YtinagedilgihjaaDoor.WMath
set_option maxRecDepth 100000
set_option maxHeartbeats 40000000
set_option maxRecDepth 100000

end Go.Proofs.YtinagedilgihjaaDoor.WMath
namespace Go.Proofs.YtinagedilgihjaaDoor
set_option maxRecDepth 100000
set_option maxHeartbeats 40000000
set_option maxRecDepth 100000
open Go.RowKit WMath
theorem hide {p : Prop} (h : p) : Hid p := h
theorem ret_bool {a b : Bool} (h : a = b) : Ending.returned (.bool a) = .returned (.bool b) := by rw [h]
theorem div_cast (x k : Nat) : (x : Int) / 2 ^ k = ((x / 2 ^ k : Nat) : Int) := by simp

theorem size_al (w : World) (o : Obj) : (w.alloc o).heap.size = w.heap.size + 1 := by
  show (w.heap.push o).size = _
  simp

theorem heap_of {W w1 : World} (hb : Below W.heap.size W w1) (b : Nat) (c : Array Value) (t : TypeId) (h : W.heap[b]? = some (.cells c t)) : w1.heap[b]? = some (.cells c t) := by
  rw [hb.block b (Array.getElem?_eq_some_iff.1 h).1, h]

end Go.Proofs.YtinagedilgihjaaDoor
namespace Go.Proofs.YtinagedilgihjaaDoor
set_option maxRecDepth 100000
set_option maxHeartbeats 40000000
set_option maxRecDepth 100000
open WMath
open Go.ChangeShapes Go.WideShapes Go.ChangeAt Go.RowKit
theorem post_plain {H : Type} {enc : TypeId × Value → H} {P : Program} {f : Func} {s : ChangeSpec} {apart fresh handsOn again : Bool} {W W' : World} {args : Array Value} {v : Value} {ds gs : List (DataW H)}
    (hW : DataW.Whole enc P f.params.toList s.vars apart W args.toList ds gs [])
    (hres : ∀ (b : Nat) (sp : Nat → Bool) (hd : Bool), DataW.TrodAll enc P W' b sp hd f.resultTypes.toList (v.resultList f.resultTypes.size) (s.fn H (ds ++ gs)).results [])
    (hargs : ∀ sp : Nat → Bool, DataW.TrodAll enc P W' 0 sp true f.params.toList args.toList (s.fn H (ds ++ gs)).args [])
    (hvars : ∀ sp : Nat → Bool, DataW.TrodVars enc P W' sp s.vars (s.fn H (ds ++ gs)).vars [])
    (hk : Below W.heap.size W W')
    (hok : ∀ (j : Nat) (t : TypeId) (r : Value), f.resultTypes[j]? = some t → (v.resultList f.resultTypes.size)[j]? = some r → Value.okWide P W' .any 0 t r) :
    s.post enc P f apart fresh handsOn again W args v W' := by
  refine ⟨ds, gs, [], [], [], [], hW, hres _ _ _, hargs _, hvars _, hk.frame _, fun _ => ⟨hok, _, _, [], ⟨[], [], trodAll_append (hargs _) (hres _ _ _), hvars _, rfl, ?_, ?_⟩, ?_⟩⟩
  · intro _ _ hp
    cases hp
  · intro _
    exact List.Pairwise.nil
  · intro _ hp
    cases hp
end Go.Proofs.YtinagedilgihjaaDoor
namespace Go.Proofs.YtinagedilgihjaaDoor
set_option maxRecDepth 100000
set_option maxHeartbeats 40000000
set_option maxRecDepth 100000
open Go.RowKit WMath
theorem toList_len (s : ByteArray) : s.toList.length = s.size := by rw [ByteArray.toList_eq, Array.length_toList]; rfl
theorem eq_empty (s : ByteArray) : (s.toList == []) = decide (s.size = 0) := by
  rw [← toList_len]
  cases s.toList with
  | nil => rfl
  | cons x l => simp

def SL (B : Nat) (w : World) (p : Option Addr) (L c n : Nat) : Prop := n < 2 ^ (64 * L) ∧ L ≤ c ∧ (0 < L → ∃ b o, p = some ⟨b, o, none⟩ ∧ b < B ∧ ∀ k, k < L → w.cell? ⟨b, o + k, none⟩ = some (.int .u64 (wd n k : Nat)))
theorem SL.mono {B B' : Nat} {w : World} {p : Option Addr} {L c n : Nat} (h : SL B w p L c n) (hB : B ≤ B') : SL B' w p L c n :=
  ⟨h.1, h.2.1, fun hL => by
    obtain ⟨b, o, hp, hlt, hc⟩ := h.2.2 hL
    exact ⟨b, o, hp, Nat.lt_of_lt_of_le hlt hB, hc⟩⟩
theorem cell_size {w : World} {b o : Nat} {v : Value} (h : w.cell? ⟨b, o, none⟩ = some v) : b < w.heap.size := by
  by_cases e : b < w.heap.size
  · exact e
  · exfalso
    have : w.heap[b]? = none := Array.getElem?_eq_none (by omega)
    simp [World.cell?, this] at h
def Only (g : Nat) (w w' : World) : Prop := w'.os = w.os ∧ w'.tape = w.tape ∧ w'.output = w.output ∧ w.heap.size ≤ w'.heap.size ∧ ∀ k, k < w.heap.size → k ≠ g → w'.heap[k]? = w.heap[k]?
theorem Only.refl (g : Nat) (w : World) : Only g w w := ⟨rfl, rfl, rfl, Nat.le_refl _, fun _ _ _ => rfl⟩
theorem Only.trans {g : Nat} {a b c : World} (h : Only g a b) (k : Only g b c) : Only g a c :=
  ⟨k.1.trans h.1, k.2.1.trans h.2.1, k.2.2.1.trans h.2.2.1, Nat.le_trans h.2.2.2.1 k.2.2.2.1, fun i hi hg => (k.2.2.2.2 i (Nat.lt_of_lt_of_le hi h.2.2.2.1) hg).trans (h.2.2.2.2 i hi hg)⟩
theorem Only.size {g : Nat} {a b : World} (h : Only g a b) : a.heap.size ≤ b.heap.size := h.2.2.2.1
theorem Only.row {g b : Nat} {w w' : World} {c : Array Value} {t : TypeId} (k : Only g w w') (hb : b ≠ g) (h : w.heap[b]? = some (.cells c t)) : w'.heap[b]? = some (.cells c t) := by
  rw [k.2.2.2.2 b (Array.getElem?_eq_some_iff.1 h).1 hb, h]
theorem SL.only {B g : Nat} {w w' : World} {p : Option Addr} {L c n : Nat} (h : SL B w p L c n) (k : Only g w w') (hB : B ≤ g) : SL B w' p L c n := by
  refine ⟨h.1, h.2.1, fun hL => ?_⟩
  obtain ⟨b, o, hp, hlt, hc⟩ := h.2.2 hL
  refine ⟨b, o, hp, hlt, fun i hi => ?_⟩
  have h1 := hc i hi
  rw [World.cell?_of_block (w := w) (k.2.2.2.2 b (cell_size h1) (by omega))]
  exact h1

theorem SL.cell {B : Nat} {w : World} {b o L c n : Nat} (h : SL B w (some ⟨b, o, none⟩) L c n) (k x : Nat) (hk : k < L) (hx : wd n k = x) : w.cell? ⟨b, o + k, none⟩ = some (.int .u64 (x : Nat)) := by
  obtain ⟨b', o', e, _, hc⟩ := h.2.2 (by omega)
  simp only [Option.some.injEq, Addr.mk.injEq] at e
  obtain ⟨rfl, rfl, _⟩ := e
  rw [hc k hk, hx]
theorem SL.row {w : World} {b N X c : Nat} {T : TypeId} (r : w.heap[b]? = some (.cells (cw N X) T)) (B : Nat) (hB : b < B) (hX : X < 2 ^ (64 * N)) (hc : N ≤ c) : SL B w (some ⟨b, 0, none⟩) N c X :=
  ⟨hX, hc, fun _ => ⟨b, 0, rfl, hB, fun k hk => by rw [Nat.zero_add, cell_of_row w b k _ _ _ r, cw_at N X k hk]⟩⟩

theorem bal (w : World) (o : Obj) : Below w.heap.size w (w.alloc o) := (Below.refl _ _).alloc (Nat.le_refl _) _
theorem btr {a b c : World} (h : Below a.heap.size a b) (k : Below b.heap.size b c) : Below a.heap.size a c := h.trans (k.mono h.size)

end Go.Proofs.YtinagedilgihjaaDoor
namespace Go.Proofs.YtinagedilgihjaaDoor.XMath
set_option maxRecDepth 100000
set_option maxHeartbeats 40000000
set_option maxRecDepth 100000
open WMath
def tz (n : Nat) : Nat := if h : n = 0 ∨ n % 2 = 1 then 0 else tz (n / 2) + 1
termination_by n
decreasing_by omega
def od (n : Nat) : Nat := n / 2 ^ tz n
structure XN where
  b : Bool
  n : Nat
  d : Nat
  e : Int
def XN.can (x : XN) : Prop := nl x.n ≤ 16384 ∧ nl x.d ≤ 16384 ∧ -1048576 ≤ x.e ∧ x.e ≤ 1048576 ∧ ((x.b = false ∧ x.n = 0 ∧ x.d = 1 ∧ x.e = 0) ∨ (x.n % 2 = 1 ∧ x.d % 2 = 1 ∧ Nat.gcd x.n x.d = 1))
def X0 : XN := ⟨false, 0, 1, 0⟩
def XZ : XN := ⟨false, 0, 0, 0⟩
theorem XN.can.d {x : XN} (h : x.can) : x.d % 2 = 1 := by rcases h.2.2.2.2 with h | h <;> omega
theorem XN.can.d0 {x : XN} (h : x.can) : x.d ≠ 0 := by have := h.d; omega
def mk (neg : Bool) (n d : Nat) (e : Int) : XN × Int :=
  if n = 0 then (X0, 0)
  else if -1048576 ≤ e + (tz n : Int) - (tz d : Int) ∧ e + (tz n : Int) - (tz d : Int) ≤ 1048576 then (⟨neg, od n / Nat.gcd (od n) (od d), od d / Nat.gcd (od n) (od d), e + (tz n : Int) - (tz d : Int)⟩, 0)
  else (XZ, 4)
theorem p2 (e : Int) : (0 : Rat) < (2 : Rat) ^ e := Rat.zpow_pos (by decide)
end Go.Proofs.YtinagedilgihjaaDoor.XMath
namespace Go.Proofs.YtinagedilgihjaaDoor
set_option maxRecDepth 100000
set_option maxHeartbeats 40000000
set_option maxRecDepth 100000
open Go.RowKit WMath XMath
theorem cells4 {w : World} {g : Nat} {T : TypeId} {c : Array Value} (row : w.heap[g]? = some (.cells c T)) (k : Nat) (v : Value) (h : c[k]? = some v) : w.cell? ⟨g, k, none⟩ = some v := by
  rw [cell_of_row w g k _ _ _ row]
  exact h

theorem opn1 (w : World) (o : Obj) : (w.alloc o).heap[w.heap.size]? = some o ∧ Below w.heap.size w (w.alloc o) := ⟨heap_alloc_last _ _, (Below.refl _ _).alloc (Nat.le_refl _) _⟩
end Go.Proofs.YtinagedilgihjaaDoor
namespace Go.Proofs.YtinagedilgihjaaDoor
set_option maxRecDepth 100000
set_option maxHeartbeats 40000000
set_option maxRecDepth 100000
open Go.RowKit WMath
set_option linter.unusedSimpArgs false
set_option linter.unusedVariables false
def rdW (n : Int) (F : Nat) : Nat := if n = 1 then F % 32 else if n = 2 then F / 32 else F
def wrW (n : Int) (F x : Nat) : Nat := if n = 1 then F / 32 * 32 + x % 32 else if n = 2 then x % 8 * 32 + F % 32 else x % 256
theorem r21_bit (x k : Nat) (hx : x < 18446744073709551616) (hk : k < 64) (w : World) :
    Calls Tryd.prog 32 #[.int .u64 x, .int .i64 k] w fun e w' => e = .returned (.bool (x.testBit k)) ∧ w' = w := by
  have h1 : x / 2 ^ k < 18446744073709551616 := Nat.lt_of_le_of_lt (Nat.div_le_self _ _) hx
  have H1 : Hid (bits .and .u64 ((x : Int) / 2 ^ k) 1 = ((x / 2 ^ k &&& 1 : Nat) : Int)) := by
    have := bits_and_u64_nat (x / 2 ^ k) 1 h1 (by omega)
    rw [← div_cast] at this
    exact this
  go_enter Tryd.func32, Tryd.ntmps32
  go_wp2
  go_ret
  refine ⟨ret_bool ?_, rfl⟩
  rw [H1.out, ← bit_and, Bool.eq_iff_iff]
  simp only [beq_iff_eq]
  omega
theorem r21_names (w : World) : Calls Tryd.prog 34 #[] w fun e w' => e = .returned (.slice (some ⟨w.heap.size, 0, none⟩) 4 4) ∧ w' = w.alloc (.cells #[.string ⟨#[]⟩, .string ⟨#[102, 102, 108, 97, 103, 115]⟩, .string ⟨#[102, 114, 109]⟩, .string ⟨#[102, 99, 115, 114]⟩] 9) := by
  go_enter Tryd.func34, Tryd.ntmps34
  go_wp2
  go_ret
  exact ⟨rfl, rfl⟩
def nmW (n : Int) : ByteArray := if n = 1 then ⟨#[102, 102, 108, 97, 103, 115]⟩ else if n = 2 then ⟨#[102, 114, 109]⟩ else ⟨#[102, 99, 115, 114]⟩
def wdW (k : Nat) : ByteArray := if k = 0 then ⟨#[110, 120]⟩ else if k = 1 then ⟨#[117, 102]⟩ else if k = 2 then ⟨#[111, 102]⟩ else if k = 3 then ⟨#[100, 122]⟩ else ⟨#[110, 118]⟩
def txB (g : Nat) : Nat → ByteArray
  | 0 => ⟨#[]⟩
  | j + 1 => if g.testBit (4 - j) = true then (if ((txB g j).toList == []) = true then wdW (4 - j) else txB g j ++ ⟨#[43]⟩ ++ wdW (4 - j)) else txB g j
theorem nil_of {S : ByteArray} (h : (S.toList == []) = true) : S = ⟨#[]⟩ := by
  rw [beq_iff_eq, ByteArray.toList_eq] at h
  obtain ⟨⟨l⟩⟩ := S
  have : l = [] := h
  rw [this]
def txt (g : Nat) : ByteArray := if ((txB g 5).toList == []) = true then ⟨#[45]⟩ else txB g 5
set_option maxRecDepth 100000 in
set_option maxHeartbeats 8000000 in
theorem r21_name1 (w : World) : Calls Tryd.prog 23 #[.int .i64 1] w fun e w' => e = .returned (.tuple #[.string ⟨#[102, 102, 108, 97, 103, 115]⟩, .int .i64 0]) ∧ Below w.heap.size w w' := by
  go_enter Tryd.func23, Tryd.ntmps23
  go_wp2_with (go_at_call 34; refine (r21_names _).mono ?_; rintro e w' ⟨rfl, rfl⟩)
  go_ret2
  exact ⟨rfl, (Below.refl _ _).alloc (Nat.le_refl _) _⟩
set_option maxRecDepth 100000 in
set_option maxHeartbeats 8000000 in
theorem r21_name2 (w : World) : Calls Tryd.prog 23 #[.int .i64 2] w fun e w' => e = .returned (.tuple #[.string ⟨#[102, 114, 109]⟩, .int .i64 0]) ∧ Below w.heap.size w w' := by
  go_enter Tryd.func23, Tryd.ntmps23
  go_wp2_with (go_at_call 34; refine (r21_names _).mono ?_; rintro e w' ⟨rfl, rfl⟩)
  go_ret2
  exact ⟨rfl, (Below.refl _ _).alloc (Nat.le_refl _) _⟩
set_option maxRecDepth 100000 in
set_option maxHeartbeats 8000000 in
theorem r21_name3 (w : World) : Calls Tryd.prog 23 #[.int .i64 3] w fun e w' => e = .returned (.tuple #[.string ⟨#[102, 99, 115, 114]⟩, .int .i64 0]) ∧ Below w.heap.size w w' := by
  go_enter Tryd.func23, Tryd.ntmps23
  go_wp2_with (go_at_call 34; refine (r21_names _).mono ?_; rintro e w' ⟨rfl, rfl⟩)
  go_ret2
  exact ⟨rfl, (Below.refl _ _).alloc (Nat.le_refl _) _⟩
set_option maxRecDepth 100000 in
set_option maxHeartbeats 8000000 in
theorem r21_name_lo (n : Int) (h : decide (n < 1) = true) (w : World) : Calls Tryd.prog 23 #[.int .i64 n] w fun e w' => e = .returned (.tuple #[.string ⟨#[]⟩, .int .i64 210]) ∧ Below w.heap.size w w' := by
  go_enter Tryd.func23, Tryd.ntmps23
  go_wp2
  go_ret2
  exact ⟨rfl, Below.refl _ _⟩
set_option maxRecDepth 100000 in
set_option maxHeartbeats 8000000 in
theorem r21_name_hi (n : Int) (h : decide (n < 1) = false) (h3 : decide (3 < n) = true) (w : World) : Calls Tryd.prog 23 #[.int .i64 n] w fun e w' => e = .returned (.tuple #[.string ⟨#[]⟩, .int .i64 210]) ∧ Below w.heap.size w w' := by
  go_enter Tryd.func23, Tryd.ntmps23
  go_wp2
  go_ret2
  exact ⟨rfl, Below.refl _ _⟩
set_option maxRecDepth 100000 in
set_option maxHeartbeats 8000000 in
theorem r21_text_e (g : Int) (h : decide (31 < g) = true) (w : World) : Calls Tryd.prog 27 #[.int .u8 g] w fun e w' => e = .returned (.tuple #[.string ⟨#[]⟩, .int .i64 2]) ∧ Below w.heap.size w w' := by
  go_enter Tryd.func27, Tryd.ntmps27
  go_wp2
  go_ret2
  exact ⟨rfl, (Below.refl _ _).alloc (Nat.le_refl _) _⟩
set_option maxRecDepth 100000 in
set_option maxHeartbeats 8000000 in
theorem r21_text (g : Nat) (hg : g < 32) (t : ByteArray) (ht : txt g = t) (w : World) : Calls Tryd.prog 27 #[.int .u8 (g : Nat)] w fun e w' => e = .returned (.tuple #[.string t, .int .i64 0]) ∧ Below w.heap.size w w' := by
  have HT := hide ht
  clear ht
  have B0 := (Below.refl w.heap.size w).alloc (Nat.le_refl _) (.cells #[.string ⟨#[110, 120]⟩, .string ⟨#[117, 102]⟩, .string ⟨#[111, 102]⟩, .string ⟨#[100, 122]⟩, .string ⟨#[110, 118]⟩] 9)
  go_enter Tryd.func27, Tryd.ntmps27
  go_wp2
  go_loop [5, 6] (fun v i => ∃ (j : Nat) (S : ByteArray), j ≤ 5 ∧ i = .int .i64 (4 - (j : Int)) ∧ v = .string S ∧ S.size ≤ 3 * j ∧ Hid (S = txB g j)) (fun _ i => (intOf i + 1).toNat)
  case atStart => exact ⟨0, ⟨#[]⟩, by omega, rfl, rfl, by decide, rfl⟩
  case round =>
    obtain ⟨j, S, hj, rfl, rfl, hz, HS⟩ := hrel
    have z1 : ¬ 9223372036854775807 < S.size + 1 := by omega
    have z2 : ¬ 9223372036854775807 < S.size + 1 + 2 := by omega
    by_cases hlt : j < 5
    · obtain ⟨gb, hgb⟩ : ∃ b, g.testBit (4 - j) = b := ⟨_, rfl⟩
      have BG := r21_bit g (4 - j) (by omega) (by omega)
      rw [hgb] at BG
      obtain ⟨em, hem⟩ : ∃ b, (S.toList == []) = b := ⟨_, rfl⟩
      have st : txB g (j + 1) = if gb = true then (if em = true then wdW (4 - j) else S ++ ⟨#[43]⟩ ++ wdW (4 - j)) else S := by
        rw [← hgb, ← hem, HS.out]
        rfl
      have ST := hide st
      clear st
      rcases (by omega : j = 0 ∨ j = 1 ∨ j = 2 ∨ j = 3 ∨ j = 4) with rfl | rfl | rfl | rfl | rfl
      · cases gb
        · go_wp2_with (go_at_call 32; refine (BG _).mono ?_; rintro e w' ⟨rfl, rfl⟩)
          go_round
          case rel => exact ⟨1, S, by omega, by go_num, rfl, by omega, ST.out.symm⟩
          case measure => simp [intOf]
        · cases em
          · go_wp2_with (go_at_call 32; refine (BG _).mono ?_; rintro e w' ⟨rfl, rfl⟩)
            go_round
            case rel => exact ⟨1, S ++ (⟨#[43]⟩ : ByteArray) ++ (⟨#[110, 118]⟩ : ByteArray), by omega, by go_num, rfl, by rw [ByteArray.size_append, ByteArray.size_append]; show S.size + 1 + 2 ≤ _; omega, ST.out.symm⟩
            case measure => simp [intOf]
          · obtain rfl : S = ⟨#[]⟩ := nil_of hem
            go_wp2_with (go_at_call 32; refine (BG _).mono ?_; rintro e w' ⟨rfl, rfl⟩)
            go_round
            case rel => exact ⟨1, (⟨#[110, 118]⟩ : ByteArray), by omega, by go_num, rfl, by decide, ST.out.symm⟩
            case measure => simp [intOf]
      · cases gb
        · go_wp2_with (go_at_call 32; refine (BG _).mono ?_; rintro e w' ⟨rfl, rfl⟩)
          go_round
          case rel => exact ⟨2, S, by omega, by go_num, rfl, by omega, ST.out.symm⟩
          case measure => simp [intOf]
        · cases em
          · go_wp2_with (go_at_call 32; refine (BG _).mono ?_; rintro e w' ⟨rfl, rfl⟩)
            go_round
            case rel => exact ⟨2, S ++ (⟨#[43]⟩ : ByteArray) ++ (⟨#[100, 122]⟩ : ByteArray), by omega, by go_num, rfl, by rw [ByteArray.size_append, ByteArray.size_append]; show S.size + 1 + 2 ≤ _; omega, ST.out.symm⟩
            case measure => simp [intOf]
          · obtain rfl : S = ⟨#[]⟩ := nil_of hem
            go_wp2_with (go_at_call 32; refine (BG _).mono ?_; rintro e w' ⟨rfl, rfl⟩)
            go_round
            case rel => exact ⟨2, (⟨#[100, 122]⟩ : ByteArray), by omega, by go_num, rfl, by decide, ST.out.symm⟩
            case measure => simp [intOf]
      · cases gb
        · go_wp2_with (go_at_call 32; refine (BG _).mono ?_; rintro e w' ⟨rfl, rfl⟩)
          go_round
          case rel => exact ⟨3, S, by omega, by go_num, rfl, by omega, ST.out.symm⟩
          case measure => simp [intOf]
        · cases em
          · go_wp2_with (go_at_call 32; refine (BG _).mono ?_; rintro e w' ⟨rfl, rfl⟩)
            go_round
            case rel => exact ⟨3, S ++ (⟨#[43]⟩ : ByteArray) ++ (⟨#[111, 102]⟩ : ByteArray), by omega, by go_num, rfl, by rw [ByteArray.size_append, ByteArray.size_append]; show S.size + 1 + 2 ≤ _; omega, ST.out.symm⟩
            case measure => simp [intOf]
          · obtain rfl : S = ⟨#[]⟩ := nil_of hem
            go_wp2_with (go_at_call 32; refine (BG _).mono ?_; rintro e w' ⟨rfl, rfl⟩)
            go_round
            case rel => exact ⟨3, (⟨#[111, 102]⟩ : ByteArray), by omega, by go_num, rfl, by decide, ST.out.symm⟩
            case measure => simp [intOf]
      · cases gb
        · go_wp2_with (go_at_call 32; refine (BG _).mono ?_; rintro e w' ⟨rfl, rfl⟩)
          go_round
          case rel => exact ⟨4, S, by omega, by go_num, rfl, by omega, ST.out.symm⟩
          case measure => simp [intOf]
        · cases em
          · go_wp2_with (go_at_call 32; refine (BG _).mono ?_; rintro e w' ⟨rfl, rfl⟩)
            go_round
            case rel => exact ⟨4, S ++ (⟨#[43]⟩ : ByteArray) ++ (⟨#[117, 102]⟩ : ByteArray), by omega, by go_num, rfl, by rw [ByteArray.size_append, ByteArray.size_append]; show S.size + 1 + 2 ≤ _; omega, ST.out.symm⟩
            case measure => simp [intOf]
          · obtain rfl : S = ⟨#[]⟩ := nil_of hem
            go_wp2_with (go_at_call 32; refine (BG _).mono ?_; rintro e w' ⟨rfl, rfl⟩)
            go_round
            case rel => exact ⟨4, (⟨#[117, 102]⟩ : ByteArray), by omega, by go_num, rfl, by decide, ST.out.symm⟩
            case measure => simp [intOf]
      · cases gb
        · go_wp2_with (go_at_call 32; refine (BG _).mono ?_; rintro e w' ⟨rfl, rfl⟩)
          go_round
          case rel => exact ⟨5, S, by omega, by go_num, rfl, by omega, ST.out.symm⟩
          case measure => simp [intOf]
        · cases em
          · go_wp2_with (go_at_call 32; refine (BG _).mono ?_; rintro e w' ⟨rfl, rfl⟩)
            go_round
            case rel => exact ⟨5, S ++ (⟨#[43]⟩ : ByteArray) ++ (⟨#[110, 120]⟩ : ByteArray), by omega, by go_num, rfl, by rw [ByteArray.size_append, ByteArray.size_append]; show S.size + 1 + 2 ≤ _; omega, ST.out.symm⟩
            case measure => simp [intOf]
          · obtain rfl : S = ⟨#[]⟩ := nil_of hem
            go_wp2_with (go_at_call 32; refine (BG _).mono ?_; rintro e w' ⟨rfl, rfl⟩)
            go_round
            case rel => exact ⟨5, (⟨#[110, 120]⟩ : ByteArray), by omega, by go_num, rfl, by decide, ST.out.symm⟩
            case measure => simp [intOf]
    · obtain rfl : j = 5 := by omega
      obtain ⟨em, hem⟩ : ∃ b, (S.toList == []) = b := ⟨_, rfl⟩
      have T : t = if em = true then ⟨#[45]⟩ else S := by rw [← hem, ← HT.out, HS.out]; rfl
      clear HT HS hz z1 z2
      cases em
      · replace T : t = S := T
        subst T
        go_wp2
        go_ret2
        exact ⟨rfl, B0⟩
      · replace T : t = ⟨#[45]⟩ := T
        subst T
        go_wp2
        go_ret2
        exact ⟨rfl, B0⟩
end Go.Proofs.YtinagedilgihjaaDoor
namespace Go.Proofs.YtinagedilgihjaaDoor
set_option maxRecDepth 100000
set_option maxHeartbeats 40000000
set_option maxRecDepth 100000
open Go.RowKit WMath
set_option linter.unusedSimpArgs false
set_option linter.unusedVariables false
set_option maxRecDepth 100000 in
set_option maxHeartbeats 8000000 in
theorem r21_named1 (s : ByteArray) (h1 : ([102, 102, 108, 97, 103, 115] == s.toList) = true) (w : World) : Calls Tryd.prog 25 #[.string s] w fun e w' => e = .returned (.tuple #[.int .i64 1, .int .i64 0]) ∧ Below w.heap.size w w' := by
  go_enter Tryd.func25, Tryd.ntmps25
  go_wp2
  go_loopw [4] (fun iv wr => ∃ k : Nat, 1 ≤ k ∧ k ≤ 1 ∧ iv = .int .i64 k ∧ Below w.heap.size w wr) (fun iv _ => 4 - (intOf iv).toNat)
  case atStart => exact ⟨1, by omega, by omega, rfl, Below.refl _ _⟩
  case round =>
    obtain ⟨k, hk1, hk, rfl, hB⟩ := hrel
    have hA := fun o => hB.alloc (Nat.le_of_lt_succ (Nat.lt_succ_of_le hB.size)) o
    rcases (by omega : k = 1) with rfl
    · go_wp2_with (go_at_call 34; refine (r21_names _).mono ?_; rintro e w' ⟨rfl, rfl⟩)
      go_ret2
      exact ⟨rfl, hA _⟩
set_option maxRecDepth 100000 in
set_option maxHeartbeats 8000000 in
theorem r21_named2 (s : ByteArray) (h1 : ([102, 102, 108, 97, 103, 115] == s.toList) = false) (h2 : ([102, 114, 109] == s.toList) = true) (w : World) : Calls Tryd.prog 25 #[.string s] w fun e w' => e = .returned (.tuple #[.int .i64 2, .int .i64 0]) ∧ Below w.heap.size w w' := by
  go_enter Tryd.func25, Tryd.ntmps25
  go_wp2
  go_loopw [4] (fun iv wr => ∃ k : Nat, 1 ≤ k ∧ k ≤ 2 ∧ iv = .int .i64 k ∧ Below w.heap.size w wr) (fun iv _ => 4 - (intOf iv).toNat)
  case atStart => exact ⟨1, by omega, by omega, rfl, Below.refl _ _⟩
  case round =>
    obtain ⟨k, hk1, hk, rfl, hB⟩ := hrel
    have hA := fun o => hB.alloc (Nat.le_of_lt_succ (Nat.lt_succ_of_le hB.size)) o
    rcases (by omega : k = 1 ∨ k = 2) with rfl | rfl
    · go_wp2_with (go_at_call 34; refine (r21_names _).mono ?_; rintro e w' ⟨rfl, rfl⟩)
      go_round
      case rel => exact ⟨2, by omega, by omega, rfl, hA _⟩
      case measure => simp [intOf]
    · go_wp2_with (go_at_call 34; refine (r21_names _).mono ?_; rintro e w' ⟨rfl, rfl⟩)
      go_ret2
      exact ⟨rfl, hA _⟩
set_option maxRecDepth 100000 in
set_option maxHeartbeats 8000000 in
theorem r21_named3 (s : ByteArray) (h1 : ([102, 102, 108, 97, 103, 115] == s.toList) = false) (h2 : ([102, 114, 109] == s.toList) = false) (h3 : ([102, 99, 115, 114] == s.toList) = true) (w : World) : Calls Tryd.prog 25 #[.string s] w fun e w' => e = .returned (.tuple #[.int .i64 3, .int .i64 0]) ∧ Below w.heap.size w w' := by
  go_enter Tryd.func25, Tryd.ntmps25
  go_wp2
  go_loopw [4] (fun iv wr => ∃ k : Nat, 1 ≤ k ∧ k ≤ 3 ∧ iv = .int .i64 k ∧ Below w.heap.size w wr) (fun iv _ => 4 - (intOf iv).toNat)
  case atStart => exact ⟨1, by omega, by omega, rfl, Below.refl _ _⟩
  case round =>
    obtain ⟨k, hk1, hk, rfl, hB⟩ := hrel
    have hA := fun o => hB.alloc (Nat.le_of_lt_succ (Nat.lt_succ_of_le hB.size)) o
    rcases (by omega : k = 1 ∨ k = 2 ∨ k = 3) with rfl | rfl | rfl
    · go_wp2_with (go_at_call 34; refine (r21_names _).mono ?_; rintro e w' ⟨rfl, rfl⟩)
      go_round
      case rel => exact ⟨2, by omega, by omega, rfl, hA _⟩
      case measure => simp [intOf]
    · go_wp2_with (go_at_call 34; refine (r21_names _).mono ?_; rintro e w' ⟨rfl, rfl⟩)
      go_round
      case rel => exact ⟨3, by omega, by omega, rfl, hA _⟩
      case measure => simp [intOf]
    · go_wp2_with (go_at_call 34; refine (r21_names _).mono ?_; rintro e w' ⟨rfl, rfl⟩)
      go_ret2
      exact ⟨rfl, hA _⟩
set_option maxRecDepth 100000 in
set_option maxHeartbeats 8000000 in
theorem r21_named4 (s : ByteArray) (h1 : ([102, 102, 108, 97, 103, 115] == s.toList) = false) (h2 : ([102, 114, 109] == s.toList) = false) (h3 : ([102, 99, 115, 114] == s.toList) = false) (w : World) : Calls Tryd.prog 25 #[.string s] w fun e w' => e = .returned (.tuple #[.int .i64 0, .int .i64 210]) ∧ Below w.heap.size w w' := by
  go_enter Tryd.func25, Tryd.ntmps25
  go_wp2
  go_loopw [4] (fun iv wr => ∃ k : Nat, 1 ≤ k ∧ k ≤ 4 ∧ iv = .int .i64 k ∧ Below w.heap.size w wr) (fun iv _ => 4 - (intOf iv).toNat)
  case atStart => exact ⟨1, by omega, by omega, rfl, Below.refl _ _⟩
  case round =>
    obtain ⟨k, hk1, hk, rfl, hB⟩ := hrel
    have hA := fun o => hB.alloc (Nat.le_of_lt_succ (Nat.lt_succ_of_le hB.size)) o
    rcases (by omega : k = 1 ∨ k = 2 ∨ k = 3 ∨ k = 4) with rfl | rfl | rfl | rfl
    · go_wp2_with (go_at_call 34; refine (r21_names _).mono ?_; rintro e w' ⟨rfl, rfl⟩)
      go_round
      case rel => exact ⟨2, by omega, by omega, rfl, hA _⟩
      case measure => simp [intOf]
    · go_wp2_with (go_at_call 34; refine (r21_names _).mono ?_; rintro e w' ⟨rfl, rfl⟩)
      go_round
      case rel => exact ⟨3, by omega, by omega, rfl, hA _⟩
      case measure => simp [intOf]
    · go_wp2_with (go_at_call 34; refine (r21_names _).mono ?_; rintro e w' ⟨rfl, rfl⟩)
      go_round
      case rel => exact ⟨4, by omega, by omega, rfl, hA _⟩
      case measure => simp [intOf]
    · go_wp2
      go_ret2
      exact ⟨rfl, hB⟩
set_option maxRecDepth 100000 in
set_option maxHeartbeats 8000000 in
theorem r21_rdt_y (s : ByteArray) (m : Nat) (hm : m < 32) (hy : ((txt m).toList == s.toList) = true) (hn : ∀ i, i < m → ((txt i).toList == s.toList) = false) (w : World) : Calls Tryd.prog 29 #[.string s] w fun e w' => e = .returned (.tuple #[.int .u8 (m : Nat), .int .i64 0]) ∧ Below w.heap.size w w' := by
  have HN := hide hn
  clear hn
  go_enter Tryd.func29, Tryd.ntmps29
  go_wp2
  go_loopw [4] (fun iv wr => ∃ k : Nat, k ≤ m ∧ iv = .int .u8 k ∧ Below w.heap.size w wr) (fun iv _ => 32 - (intOf iv).toNat)
  case atStart => exact ⟨0, by omega, rfl, Below.refl _ _⟩
  case round =>
    obtain ⟨k, hk, rfl, hB⟩ := hrel
    by_cases hlt : k < m
    · have hf := HN.out k hlt
      obtain ⟨t, ht⟩ : ∃ t, txt k = t := ⟨_, rfl⟩
      rw [ht] at hf
      have KT := r21_text k (by omega) t ht
      go_wp2_with (go_at_call 27; refine (KT _).mono ?_; rintro e w' ⟨rfl, b⟩; have hB := btr hB b; clear b)
      go_round
      case rel => exact ⟨k + 1, by omega, by go_num, hB⟩
      case measure => simp [intOf]; omega
    · obtain rfl : k = m := by omega
      obtain ⟨t, ht⟩ : ∃ t, txt k = t := ⟨_, rfl⟩
      rw [ht] at hy
      have KT := r21_text k (by omega) t ht
      go_wp2_with (go_at_call 27; refine (KT _).mono ?_; rintro e w' ⟨rfl, b⟩; have hB := btr hB b; clear b)
      go_ret2
      exact ⟨rfl, hB⟩
set_option maxRecDepth 100000 in
set_option maxHeartbeats 8000000 in
theorem r21_rdt_n (s : ByteArray)  (hn : ∀ i, i < 32 → ((txt i).toList == s.toList) = false) (w : World) : Calls Tryd.prog 29 #[.string s] w fun e w' => e = .returned (.tuple #[.int .u8 0, .int .i64 212]) ∧ Below w.heap.size w w' := by
  have HN := hide hn
  clear hn
  go_enter Tryd.func29, Tryd.ntmps29
  go_wp2
  go_loopw [4] (fun iv wr => ∃ k : Nat, k ≤ 32 ∧ iv = .int .u8 k ∧ Below w.heap.size w wr) (fun iv _ => 32 - (intOf iv).toNat)
  case atStart => exact ⟨0, by omega, rfl, Below.refl _ _⟩
  case round =>
    obtain ⟨k, hk, rfl, hB⟩ := hrel
    by_cases hlt : k < 32
    · have hf := HN.out k hlt
      obtain ⟨t, ht⟩ : ∃ t, txt k = t := ⟨_, rfl⟩
      rw [ht] at hf
      have KT := r21_text k (by omega) t ht
      go_wp2_with (go_at_call 27; refine (KT _).mono ?_; rintro e w' ⟨rfl, b⟩; have hB := btr hB b; clear b)
      go_round
      case rel => exact ⟨k + 1, by omega, by go_num, hB⟩
      case measure => simp [intOf]; omega
    · obtain rfl : k = 32 := by omega
      go_wp2
      go_ret2
      exact ⟨rfl, hB⟩
theorem r21lives {Tp : World → Prop} (FB : Box (∀ {w w' : World}, Tp w → Below w.heap.size w w' → Tp w')) (a3 a5 : Int) (w : World) (K1 : Box (∀ w, Tp w → Calls Tryd.prog 8 #[.int .i64 2, .int .u8 227] w fun r w' => r = .returned (.tuple #[.int .u64 7, .int .i64 0]) ∧ Below w.heap.size w w')) (K2 : Box (∀ w, Tp w → Calls Tryd.prog 10 #[.int .i64 1, .int .u8 227, .int .u64 500] w fun r w' => r = .returned (.tuple #[.int .u8 244, .int .i64 0]) ∧ Below w.heap.size w w')) (K3 : Box (∀ w, Tp w → Calls Tryd.prog 8 #[.int .i64 0, .int .u8 227] w fun r w' => r = .returned (.tuple #[.int .u64 a3, .int .i64 210]) ∧ Below w.heap.size w w')) (K4 : Box (∀ w, Tp w → Calls Tryd.prog 15 #[.int .u8 96, .int .u8 7] w fun r w' => r = .returned (.tuple #[.int .u8 3, .int .i64 0]) ∧ Below w.heap.size w w')) (K5 : Box (∀ w, Tp w → Calls Tryd.prog 15 #[.int .u8 160, .int .u8 7] w fun r w' => r = .returned (.tuple #[.int .u8 a5, .int .i64 211]) ∧ Below w.heap.size w w')) (K6 : Box (∀ w, Tp w → Calls Tryd.prog 26 #[.int .u8 21] w fun r w' => r = .returned (.tuple #[.string ⟨#[110, 118, 43, 111, 102, 43, 110, 120]⟩, .int .i64 0]) ∧ Below w.heap.size w w')) (hT : Tp w) : Calls Tryd.prog 14 #[] w fun r w' => r = .returned (.bool true) ∧ Below w.heap.size w w' := by
  have FF := box hT
  clear hT
  have B0 : Below w.heap.size w w := (Below.refl _ _)
  go_enter Tryd.func14, Tryd.ntmps14
  go_wp2_with fail
  refine (K1.out _ (FB.out FF.out B0)).mono ?_
  rintro r w1 ⟨rfl, b1⟩
  have B1 : Below w.heap.size w w1 := btr B0 b1
  clear b1 B0 
  go_wp2_with fail
  refine (K2.out _ (FB.out FF.out B1)).mono ?_
  rintro r w2 ⟨rfl, b2⟩
  have B2 : Below w.heap.size w w2 := btr B1 b2
  clear b2 B1 
  go_wp2_with fail
  refine (K3.out _ (FB.out FF.out B2)).mono ?_
  rintro r w3 ⟨rfl, b3⟩
  have B3 : Below w.heap.size w w3 := btr B2 b3
  clear b3 B2 
  go_wp2_with fail
  refine (K4.out _ (FB.out FF.out B3)).mono ?_
  rintro r w4 ⟨rfl, b4⟩
  have B4 : Below w.heap.size w w4 := btr B3 b4
  clear b4 B3 
  go_wp2_with fail
  refine (K5.out _ (FB.out FF.out B4)).mono ?_
  rintro r w5 ⟨rfl, b5⟩
  have B5 : Below w.heap.size w w5 := btr B4 b5
  clear b5 B4 
  go_wp2_with fail
  refine (K6.out _ (FB.out FF.out B5)).mono ?_
  rintro r w6 ⟨rfl, b6⟩
  have B6 : Below w.heap.size w w6 := btr B5 b6
  clear b6 B5 
  go_wp2
  go_ret
  exact ⟨rfl, B6⟩
set_option maxRecDepth 100000 in
set_option maxHeartbeats 8000000 in
theorem ct_law {Tp : World → Prop} (FB : Box (∀ {w w' : World}, Tp w → Below w.heap.size w w' → Tp w')) (n g : Int) (s a t : ByteArray) (e c e2 e3 q e4 : Int) (w : World) (K1 : Box (∀ w, Tp w → Calls Tryd.prog 22 #[.int .i64 n] w fun r w' => r = .returned (.tuple #[.string a, .int .i64 e]) ∧ Below w.heap.size w w')) (RK1 : Box (∀ w, Calls Tryd.prog 23 #[.int .i64 n] w fun r w' => r = .returned (.tuple #[.string a, .int .i64 e]) ∧ Below w.heap.size w w')) (K2 : Box (∀ w, Tp w → Calls Tryd.prog 24 #[.string s] w fun r w' => r = .returned (.tuple #[.int .i64 c, .int .i64 e2]) ∧ Below w.heap.size w w')) (RK2 : Box (∀ w, Calls Tryd.prog 25 #[.string s] w fun r w' => r = .returned (.tuple #[.int .i64 c, .int .i64 e2]) ∧ Below w.heap.size w w')) (K3 : Box (∀ w, Tp w → Calls Tryd.prog 26 #[.int .u8 g] w fun r w' => r = .returned (.tuple #[.string t, .int .i64 e3]) ∧ Below w.heap.size w w')) (RK3 : Box (∀ w, Calls Tryd.prog 27 #[.int .u8 g] w fun r w' => r = .returned (.tuple #[.string t, .int .i64 e3]) ∧ Below w.heap.size w w')) (K4 : Box (∀ w, Tp w → Calls Tryd.prog 28 #[.string s] w fun r w' => r = .returned (.tuple #[.int .u8 q, .int .i64 e4]) ∧ Below w.heap.size w w')) (RK4 : Box (∀ w, Calls Tryd.prog 29 #[.string s] w fun r w' => r = .returned (.tuple #[.int .u8 q, .int .i64 e4]) ∧ Below w.heap.size w w')) (KV : Box (∀ w, Tp w → Calls Tryd.prog 14 #[] w fun r w' => r = .returned (.bool true) ∧ Below w.heap.size w w')) (hT : Tp w) : Calls Tryd.prog 5 #[.int .i64 n, .int .u8 g, .string s] w fun r w' => r = .returned (.bool true) ∧ Below w.heap.size w w' := by
  have FF := box hT
  clear hT
  have B0 : Below w.heap.size w w := (Below.refl _ _)
  go_enter Tryd.func5, Tryd.ntmps5
  go_wp2_with fail
  refine (K1.out _ (FB.out FF.out B0)).mono ?_
  rintro r w1 ⟨rfl, b1⟩
  have B1 : Below w.heap.size w w1 := btr B0 b1
  clear b1 B0 
  go_wp2_with fail
  refine (RK1.out _).mono ?_
  rintro r w2 ⟨rfl, b2⟩
  have B2 : Below w.heap.size w w2 := btr B1 b2
  clear b2 B1 
  go_wp2_with fail
  refine (K2.out _ (FB.out FF.out B2)).mono ?_
  rintro r w3 ⟨rfl, b3⟩
  have B3 : Below w.heap.size w w3 := btr B2 b3
  clear b3 B2 
  go_wp2_with fail
  refine (RK2.out _).mono ?_
  rintro r w4 ⟨rfl, b4⟩
  have B4 : Below w.heap.size w w4 := btr B3 b4
  clear b4 B3 
  go_wp2_with fail
  refine (K3.out _ (FB.out FF.out B4)).mono ?_
  rintro r w5 ⟨rfl, b5⟩
  have B5 : Below w.heap.size w w5 := btr B4 b5
  clear b5 B4 
  go_wp2_with fail
  refine (RK3.out _).mono ?_
  rintro r w6 ⟨rfl, b6⟩
  have B6 : Below w.heap.size w w6 := btr B5 b6
  clear b6 B5 
  go_wp2_with fail
  refine (K4.out _ (FB.out FF.out B6)).mono ?_
  rintro r w7 ⟨rfl, b7⟩
  have B7 : Below w.heap.size w w7 := btr B6 b7
  clear b7 B6 
  go_wp2_with fail
  refine (RK4.out _).mono ?_
  rintro r w8 ⟨rfl, b8⟩
  have B8 : Below w.heap.size w w8 := btr B7 b8
  clear b8 B7 
  go_wp2_with fail
  refine (KV.out _ (FB.out FF.out B8)).mono ?_
  rintro r w9 ⟨rfl, b9⟩
  have B9 : Below w.heap.size w w9 := btr B8 b9
  clear b9 B8 
  go_wp2
  go_ret
  exact ⟨rfl, B9⟩
end Go.Proofs.YtinagedilgihjaaDoor
namespace Go.Proofs.YtinagedilgihjaaDoor
set_option maxRecDepth 100000
set_option maxHeartbeats 40000000
set_option maxRecDepth 100000
open Go.RowKit WMath
set_option linter.unusedSimpArgs false
set_option linter.unusedVariables false
def rdR (n : Int) (F : Nat) : Nat × Int := if 1 ≤ n ∧ n ≤ 3 then (rdW n F, 0) else (0, 210)
def wrR (n : Int) (F x : Nat) : Nat × Int := if 1 ≤ n ∧ n ≤ 3 then (wrW n F x, 0) else (0, 210)
def mdR (F rm : Nat) : Nat × Int := if 7 < rm then (0, 2) else if 4 < (if rm = 7 then F / 32 else rm) then (0, 211) else ((if rm = 7 then F / 32 else rm), 0)
def nmR (n : Int) : ByteArray × Int := if 1 ≤ n ∧ n ≤ 3 then (nmW n, 0) else (⟨#[]⟩, 210)
def ndR (s : ByteArray) : Int × Int := if ([102, 102, 108, 97, 103, 115] == s.toList) = true then (1, 0) else if ([102, 114, 109] == s.toList) = true then (2, 0) else if ([102, 99, 115, 114] == s.toList) = true then (3, 0) else (0, 210)
def txR (g : Nat) : ByteArray × Int := if 31 < g then (⟨#[]⟩, 2) else (txt g, 0)
def rtR (s : ByteArray) : Nat × Int := match (List.range 32).find? (fun i => (txt i).toList == s.toList) with | some m => (m, 0) | none => (0, 212)
theorem n_three {n : Int} (h : 1 ≤ n ∧ n ≤ 3) : n = 1 ∨ n = 2 ∨ n = 3 := by omega
theorem rNm_w (n : Int) (w : World) : Calls Tryd.prog 23 #[.int .i64 n] w fun r w' => r = .returned (.tuple #[.string (nmR n).1, .int .i64 (nmR n).2]) ∧ Below w.heap.size w w' := by
  unfold nmR
  by_cases c : 1 ≤ n ∧ n ≤ 3
  · rw [if_pos c]
    rcases n_three c with rfl | rfl | rfl
    · exact r21_name1 w
    · exact r21_name2 w
    · exact r21_name3 w
  · rw [if_neg c]
    by_cases d : n < 1
    · exact r21_name_lo n (decide_eq_true d) w
    · exact r21_name_hi n (decide_eq_false d) (decide_eq_true (by omega)) w
theorem rNd_w (s : ByteArray) (w : World) : Calls Tryd.prog 25 #[.string s] w fun r w' => r = .returned (.tuple #[.int .i64 (ndR s).1, .int .i64 (ndR s).2]) ∧ Below w.heap.size w w' := by
  unfold ndR
  by_cases c1 : ([102, 102, 108, 97, 103, 115] == s.toList) = true
  · rw [if_pos c1]; exact r21_named1 s c1 w
  rw [if_neg c1]
  by_cases c2 : ([102, 114, 109] == s.toList) = true
  · rw [if_pos c2]; exact r21_named2 s (Bool.eq_false_iff.2 c1) c2 w
  rw [if_neg c2]
  by_cases c3 : ([102, 99, 115, 114] == s.toList) = true
  · rw [if_pos c3]; exact r21_named3 s (Bool.eq_false_iff.2 c1) (Bool.eq_false_iff.2 c2) c3 w
  rw [if_neg c3]
  exact r21_named4 s (Bool.eq_false_iff.2 c1) (Bool.eq_false_iff.2 c2) (Bool.eq_false_iff.2 c3) w
theorem rTx_w (g : Nat) (w : World) : Calls Tryd.prog 27 #[.int .u8 (g : Nat)] w fun r w' => r = .returned (.tuple #[.string (txR g).1, .int .i64 (txR g).2]) ∧ Below w.heap.size w w' := by
  unfold txR
  by_cases c : 31 < g
  · rw [if_pos c]; exact r21_text_e _ (decide_eq_true (by omega)) w
  · rw [if_neg c]; exact r21_text g (by omega) _ rfl w
theorem rRt_w (s : ByteArray) (w : World) : Calls Tryd.prog 29 #[.string s] w fun r w' => r = .returned (.tuple #[.int .u8 ((rtR s).1 : Nat), .int .i64 (rtR s).2]) ∧ Below w.heap.size w w' := by
  unfold rtR
  cases h : (List.range 32).find? (fun i => (txt i).toList == s.toList) with
  | none =>
    refine r21_rdt_n s (fun i hi => ?_) w
    have := List.find?_eq_none.1 h i (List.mem_range.2 hi)
    exact Bool.eq_false_iff.2 this
  | some m =>
    have q := List.find?_range_eq_some.1 h
    refine r21_rdt_y s m (List.mem_range.1 q.2.1) q.1 (fun i hi => ?_) w
    have := q.2.2 i hi
    simpa using this
end Go.Proofs.YtinagedilgihjaaDoor
namespace Go.Proofs.YtinagedilgihjaaDoor
set_option maxRecDepth 100000
set_option maxHeartbeats 40000000
set_option maxRecDepth 100000
open WMath
open Go.ChangeShapes Go.WideShapes Go.ChangeAt Go.RowKit
theorem nat_u8a {x : Int} (h : (Lit.int .u8 x).wf = true) : ∃ n : Nat, n < 256 ∧ x = (n : Int) := by
  have hb := bounds_u8 h
  obtain ⟨n, rfl⟩ := Int.eq_ofNat_of_zero_le hb.1
  exact ⟨n, by omega, rfl⟩
end Go.Proofs.YtinagedilgihjaaDoor
namespace Go.Proofs.YtinagedilgihjaaDoor
set_option maxRecDepth 100000
set_option maxHeartbeats 40000000
set_option maxRecDepth 100000
open Go.RowKit WMath
set_option linter.unusedSimpArgs false
set_option linter.unusedVariables false
def txC (g : Nat) : Nat → ByteArray
  | 0 => ⟨#[]⟩
  | j + 1 => if g.testBit (4 - j) = true then (if (txC g j).size = 0 then wdW (4 - j) else txC g j ++ ⟨#[43]⟩ ++ wdW (4 - j)) else txC g j
def txD (g : Nat) : ByteArray := if (txC g 5).size = 0 then ⟨#[45]⟩ else txC g 5
theorem if_nil {a : Type} (S : ByteArray) (x y : a) : (if (S.toList == []) = true then x else y) = if S.size = 0 then x else y := by
  rw [eq_empty]
  by_cases c : S.size = 0
  · rw [if_pos (decide_eq_true c), if_pos c]
  · rw [if_neg (by rw [decide_eq_false c]; decide), if_neg c]
theorem txB_C (g : Nat) : ∀ j, txB g j = txC g j
  | 0 => rfl
  | j + 1 => by
    show (if g.testBit (4 - j) = true then (if ((txB g j).toList == []) = true then wdW (4 - j) else txB g j ++ ⟨#[43]⟩ ++ wdW (4 - j)) else txB g j) = _
    rw [if_nil, txB_C g j]
    rfl
theorem txt_D (g : Nat) : txt g = txD g := by
  unfold txt txD
  rw [if_nil, txB_C]
theorem txt_21 : txR 21 = (⟨#[110, 118, 43, 111, 102, 43, 110, 120]⟩, 0) := by
  unfold txR
  rw [txt_D]
  decide +kernel
theorem lives_all {Tp : World → Prop} (FB : Box (∀ {w w' : World}, Tp w → Below w.heap.size w w' → Tp w')) (CR : ∀ (n : Int) (F : Nat), -9223372036854775808 ≤ n → n ≤ 9223372036854775807 → F < 256 → Box (∀ w, Tp w → Calls Tryd.prog 8 #[.int .i64 n, .int .u8 (F : Nat)] w fun r w' => r = .returned (.tuple #[.int .u64 ((rdR n F).1 : Nat), .int .i64 (rdR n F).2]) ∧ Below w.heap.size w w')) (CW : ∀ (n : Int) (F x : Nat), -9223372036854775808 ≤ n → n ≤ 9223372036854775807 → F < 256 → x < 18446744073709551616 → Box (∀ w, Tp w → Calls Tryd.prog 10 #[.int .i64 n, .int .u8 (F : Nat), .int .u64 (x : Nat)] w fun r w' => r = .returned (.tuple #[.int .u8 ((wrR n F x).1 : Nat), .int .i64 (wrR n F x).2]) ∧ Below w.heap.size w w')) (CD : ∀ (F rm : Nat), F < 256 → rm < 256 → Box (∀ w, Tp w → Calls Tryd.prog 15 #[.int .u8 (F : Nat), .int .u8 (rm : Nat)] w fun r w' => r = .returned (.tuple #[.int .u8 ((mdR F rm).1 : Nat), .int .i64 (mdR F rm).2]) ∧ Below w.heap.size w w')) (CT : ∀ (g : Nat), g < 256 → Box (∀ w, Tp w → Calls Tryd.prog 26 #[.int .u8 (g : Nat)] w fun r w' => r = .returned (.tuple #[.string (txR g).1, .int .i64 (txR g).2]) ∧ Below w.heap.size w w')) (w : World) (hT : Tp w) : Calls Tryd.prog 14 #[] w fun r w' => r = .returned (.bool true) ∧ Below w.heap.size w w' := by
  have T := CT 21 (by decide)
  rw [txt_21] at T
  exact r21lives FB _ _ w (CR 2 227 (by decide) (by decide) (by decide)) (CW 1 227 500 (by decide) (by decide) (by decide) (by decide)) (CR 0 227 (by decide) (by decide) (by decide)) (CD 96 7 (by decide) (by decide)) (CD 160 7 (by decide) (by decide)) T hT
theorem bits_or_u8 (a b : Nat) (ha : a < 256) (hb : b < 256) : bits .or .u8 (a : Int) (b : Int) = ((a ||| b : Nat) : Int) := by
  have hx : a ||| b < 2 ^ 8 := Nat.or_lt_two_pow (by omega) (by omega)
  have h1 : (BitVec.ofInt 8 (a : Int)).toNat = a := by
    rw [BitVec.ofInt_natCast, BitVec.toNat_ofNat]; exact Nat.mod_eq_of_lt (by omega)
  have h2 : (BitVec.ofInt 8 (b : Int)).toNat = b := by
    rw [BitVec.ofInt_natCast, BitVec.toNat_ofNat]; exact Nat.mod_eq_of_lt (by omega)
  show IntKind.u8.wrap ((BitVec.ofInt 8 (a : Int) ||| BitVec.ofInt 8 (b : Int)).toNat : Int) = _
  rw [BitVec.toNat_or, h1, h2, show ∀ y : Int, IntKind.u8.wrap y = y % 256 from fun _ => rfl]
  omega
theorem bal7 (w : World) (o : Obj) : Below w.heap.size w (w.alloc o) := (Below.refl _ _).alloc (Nat.le_refl _) _
def fcells : Array Value := #[.string ⟨#[102, 102, 108, 97, 103, 115]⟩, .int .u64 0, .int .u8 31, .string ⟨#[102, 114, 109]⟩, .int .u64 5, .int .u8 7, .string ⟨#[102, 99, 115, 114]⟩, .int .u64 0, .int .u8 255]
def wcells : Array Value := #[.string ⟨#[110, 118]⟩, .string ⟨#[100, 122]⟩, .string ⟨#[111, 102]⟩, .string ⟨#[117, 102]⟩, .string ⟨#[110, 120]⟩]
def FAt (w : World) : Prop := (∀ i, i < 9 → w.cell? ⟨0, i, none⟩ = fcells[i]?) ∧ ∀ i, i < 5 → w.cell? ⟨1, i, none⟩ = wcells[i]?
theorem fatB {w w' : World} (h : FAt w) (hb : Below w.heap.size w w') : FAt w' := ⟨fun i hi => by
  have hv : fcells[i]? = some _ := Array.getElem?_eq_getElem (show i < fcells.size from hi)
  rw [hb.cell (p := ⟨0, i, none⟩) (World.block_lt_of_cell? w _ ((h.1 i hi).trans hv))]
  exact h.1 i hi, fun i hi => by
  have hv : wcells[i]? = some _ := Array.getElem?_eq_getElem (show i < wcells.size from hi)
  rw [hb.cell (p := ⟨1, i, none⟩) (World.block_lt_of_cell? w _ ((h.2 i hi).trans hv))]
  exact h.2 i hi⟩
theorem fat_at {w : World} (h : FAt w) (i : Nat) (v : Value) (hi : i < 9) (hv : fcells[i]? = some v) : w.cell? ⟨0, i, none⟩ = some v := (h.1 i hi).trans hv
theorem fat_wd {w : World} (h : FAt w) (i : Nat) (v : Value) (hi : i < 5) (hv : wcells[i]? = some v) : w.cell? ⟨1, i, none⟩ = some v := (h.2 i hi).trans hv
theorem fat_al {w : World} (h : FAt w) (o : Obj) : FAt (w.alloc o) := fatB h (bal7 w o)
set_option maxRecDepth 100000 in
set_option maxHeartbeats 8000000 in
theorem pc_num1 (w : World) (hT : FAt w) : Calls Tryd.prog 30 #[.int .i64 1] w fun r w' => r = .returned (.tuple #[.agg #[.string ⟨#[102, 102, 108, 97, 103, 115]⟩, .int .u64 0, .int .u8 31], .int .i64 0]) ∧ Below w.heap.size w w' := by
  have T2 := fat_al hT (.cells #[.string ⟨#[]⟩, .int .u64 0, .int .u8 0] 54)
  have c0 := fat_at T2 0 (.string ⟨#[102, 102, 108, 97, 103, 115]⟩) (by decide) rfl
  have c1 := fat_at T2 1 (.int .u64 0) (by decide) rfl
  have c2 := fat_at T2 2 (.int .u8 31) (by decide) rfl
  clear T2 hT
  obtain ⟨Rz_0, B0⟩ := opn1 w (Obj.cells #[.string ⟨#[]⟩, .int .u64 0, .int .u8 0] 54)
  go_enter Tryd.func30, Tryd.ntmps30
  clear B0 Rz_0
  go_wp2
  exact bodyPost_ret (v := .tuple #[.agg #[.string ⟨#[102, 102, 108, 97, 103, 115]⟩, .int .u64 0, .int .u8 31], .int .i64 0]) (by simp [results, Tryd.results30, go_sem]) rfl ⟨rfl, bal7 w _⟩
set_option maxRecDepth 100000 in
set_option maxHeartbeats 8000000 in
theorem pc_num2 (w : World) (hT : FAt w) : Calls Tryd.prog 30 #[.int .i64 2] w fun r w' => r = .returned (.tuple #[.agg #[.string ⟨#[102, 114, 109]⟩, .int .u64 5, .int .u8 7], .int .i64 0]) ∧ Below w.heap.size w w' := by
  have T2 := fat_al hT (.cells #[.string ⟨#[]⟩, .int .u64 0, .int .u8 0] 54)
  have c0 := fat_at T2 3 (.string ⟨#[102, 114, 109]⟩) (by decide) rfl
  have c1 := fat_at T2 4 (.int .u64 5) (by decide) rfl
  have c2 := fat_at T2 5 (.int .u8 7) (by decide) rfl
  clear T2 hT
  obtain ⟨Rz_0, B0⟩ := opn1 w (Obj.cells #[.string ⟨#[]⟩, .int .u64 0, .int .u8 0] 54)
  go_enter Tryd.func30, Tryd.ntmps30
  clear B0 Rz_0
  go_wp2
  exact bodyPost_ret (v := .tuple #[.agg #[.string ⟨#[102, 114, 109]⟩, .int .u64 5, .int .u8 7], .int .i64 0]) (by simp [results, Tryd.results30, go_sem]) rfl ⟨rfl, bal7 w _⟩
set_option maxRecDepth 100000 in
set_option maxHeartbeats 8000000 in
theorem pc_num3 (w : World) (hT : FAt w) : Calls Tryd.prog 30 #[.int .i64 3] w fun r w' => r = .returned (.tuple #[.agg #[.string ⟨#[102, 99, 115, 114]⟩, .int .u64 0, .int .u8 255], .int .i64 0]) ∧ Below w.heap.size w w' := by
  have T2 := fat_al hT (.cells #[.string ⟨#[]⟩, .int .u64 0, .int .u8 0] 54)
  have c0 := fat_at T2 6 (.string ⟨#[102, 99, 115, 114]⟩) (by decide) rfl
  have c1 := fat_at T2 7 (.int .u64 0) (by decide) rfl
  have c2 := fat_at T2 8 (.int .u8 255) (by decide) rfl
  clear T2 hT
  obtain ⟨Rz_0, B0⟩ := opn1 w (Obj.cells #[.string ⟨#[]⟩, .int .u64 0, .int .u8 0] 54)
  go_enter Tryd.func30, Tryd.ntmps30
  clear B0 Rz_0
  go_wp2
  exact bodyPost_ret (v := .tuple #[.agg #[.string ⟨#[102, 99, 115, 114]⟩, .int .u64 0, .int .u8 255], .int .i64 0]) (by simp [results, Tryd.results30, go_sem]) rfl ⟨rfl, bal7 w _⟩
set_option maxRecDepth 100000 in
set_option maxHeartbeats 8000000 in
theorem pc_num_lo (n : Int) (h : decide (n < 1) = true) (w : World) : Calls Tryd.prog 30 #[.int .i64 n] w fun r w' => r = .returned (.tuple #[.agg #[.string ⟨#[]⟩, .int .u64 0, .int .u8 0], .int .i64 210]) ∧ Below w.heap.size w w' := by
  obtain ⟨Rz_0, B0⟩ := opn1 w (Obj.cells #[.string ⟨#[]⟩, .int .u64 0, .int .u8 0] 54)
  go_enter Tryd.func30, Tryd.ntmps30
  clear B0 Rz_0
  go_wp2
  exact bodyPost_ret (v := .tuple #[.agg #[.string ⟨#[]⟩, .int .u64 0, .int .u8 0], .int .i64 210]) (by simp [results, Tryd.results30, go_sem]) rfl ⟨rfl, bal7 w _⟩
set_option maxRecDepth 100000 in
set_option maxHeartbeats 8000000 in
theorem pc_num_hi (n : Int) (h : decide (n < 1) = false) (h3 : decide (3 < n) = true) (w : World) : Calls Tryd.prog 30 #[.int .i64 n] w fun r w' => r = .returned (.tuple #[.agg #[.string ⟨#[]⟩, .int .u64 0, .int .u8 0], .int .i64 210]) ∧ Below w.heap.size w w' := by
  obtain ⟨Rz_0, B0⟩ := opn1 w (Obj.cells #[.string ⟨#[]⟩, .int .u64 0, .int .u8 0] 54)
  go_enter Tryd.func30, Tryd.ntmps30
  clear B0 Rz_0
  go_wp2
  exact bodyPost_ret (v := .tuple #[.agg #[.string ⟨#[]⟩, .int .u64 0, .int .u8 0], .int .i64 210]) (by simp [results, Tryd.results30, go_sem]) rfl ⟨rfl, bal7 w _⟩
end Go.Proofs.YtinagedilgihjaaDoor
namespace Go.Proofs.YtinagedilgihjaaDoor
set_option maxRecDepth 100000
set_option maxHeartbeats 40000000
set_option maxRecDepth 100000
open Go.RowKit WMath
set_option linter.unusedSimpArgs false
set_option linter.unusedVariables false
set_option maxRecDepth 100000 in
set_option maxHeartbeats 8000000 in
theorem pc_read1 (F : Nat) (a : Int) (ha : bits .and .u8 ((F : Nat) : Int) 31 = a) (hw : IntKind.u64.wrap a = a) (KN : Box (∀ w, FAt w → Calls Tryd.prog 30 #[.int .i64 1] w fun r w' => r = .returned (.tuple #[.agg #[.string ⟨#[102, 102, 108, 97, 103, 115]⟩, .int .u64 0, .int .u8 31], .int .i64 0]) ∧ Below w.heap.size w w')) (w : World) (hT : FAt w) : Calls Tryd.prog 8 #[.int .i64 1, .int .u8 (F : Nat)] w fun r w' => r = .returned (.tuple #[.int .u64 a, .int .i64 0]) ∧ Below w.heap.size w w' := by
  have FF := box hT
  clear hT
  have B0 : Below w.heap.size w w := (Below.refl _ _)
  go_enter Tryd.func8, Tryd.ntmps8
  go_wp2_with fail
  refine (KN.out _ (fatB FF.out B0)).mono ?_
  rintro r w1 ⟨rfl, b1⟩
  have B1 : Below w.heap.size w w1 := btr B0 b1
  clear b1 B0 
  have S2 := box B1.size
  have Rr_2 := heap_alloc_last w1 (Obj.cells #[.string ⟨#[102, 102, 108, 97, 103, 115]⟩, .int .u64 0, .int .u8 31] 54)
  have B2 := btr B1 (bal w1 (Obj.cells #[.string ⟨#[102, 102, 108, 97, 103, 115]⟩, .int .u64 0, .int .u8 31] 54))
  clear B1 
  have cr_2_0 := cells4 Rr_2 0 _ rfl
  have cr_2_1 := cells4 Rr_2 1 _ rfl
  have cr_2_2 := cells4 Rr_2 2 _ rfl
  go_wp2
  go_ret2
  exact ⟨rfl, B2⟩
set_option maxRecDepth 100000 in
set_option maxHeartbeats 8000000 in
theorem pc_write1 (F x : Nat) (a b c : Int) (ha : bits .andNot .u8 ((F : Nat) : Int) 31 = a) (hb : bits .or .u8 a (((x : Nat) : Int) % 32) = b) (KN : Box (∀ w, FAt w → Calls Tryd.prog 30 #[.int .i64 1] w fun r w' => r = .returned (.tuple #[.agg #[.string ⟨#[102, 102, 108, 97, 103, 115]⟩, .int .u64 0, .int .u8 31], .int .i64 0]) ∧ Below w.heap.size w w')) (w : World) (hT : FAt w) : Calls Tryd.prog 10 #[.int .i64 1, .int .u8 (F : Nat), .int .u64 (x : Nat)] w fun r w' => r = .returned (.tuple #[.int .u8 b, .int .i64 0]) ∧ Below w.heap.size w w' := by
  have FF := box hT
  clear hT
  have B0 : Below w.heap.size w w := (Below.refl _ _)
  go_enter Tryd.func10, Tryd.ntmps10
  go_wp2_with fail
  refine (KN.out _ (fatB FF.out B0)).mono ?_
  rintro r w1 ⟨rfl, b1⟩
  have B1 : Below w.heap.size w w1 := btr B0 b1
  clear b1 B0 
  have S2 := box B1.size
  have Rr_2 := heap_alloc_last w1 (Obj.cells #[.string ⟨#[102, 102, 108, 97, 103, 115]⟩, .int .u64 0, .int .u8 31] 54)
  have B2 := btr B1 (bal w1 (Obj.cells #[.string ⟨#[102, 102, 108, 97, 103, 115]⟩, .int .u64 0, .int .u8 31] 54))
  clear B1 
  have cr_2_0 := cells4 Rr_2 0 _ rfl
  have cr_2_1 := cells4 Rr_2 1 _ rfl
  have cr_2_2 := cells4 Rr_2 2 _ rfl
  go_wp2
  go_ret2
  exact ⟨rfl, B2⟩
set_option maxRecDepth 100000 in
set_option maxHeartbeats 8000000 in
theorem pc_read2 (F : Nat) (a : Int) (ha : bits .and .u8 (((F : Nat) : Int) / 32) 7 = a) (hw : IntKind.u64.wrap a = a) (KN : Box (∀ w, FAt w → Calls Tryd.prog 30 #[.int .i64 2] w fun r w' => r = .returned (.tuple #[.agg #[.string ⟨#[102, 114, 109]⟩, .int .u64 5, .int .u8 7], .int .i64 0]) ∧ Below w.heap.size w w')) (w : World) (hT : FAt w) : Calls Tryd.prog 8 #[.int .i64 2, .int .u8 (F : Nat)] w fun r w' => r = .returned (.tuple #[.int .u64 a, .int .i64 0]) ∧ Below w.heap.size w w' := by
  have FF := box hT
  clear hT
  have B0 : Below w.heap.size w w := (Below.refl _ _)
  go_enter Tryd.func8, Tryd.ntmps8
  go_wp2_with fail
  refine (KN.out _ (fatB FF.out B0)).mono ?_
  rintro r w1 ⟨rfl, b1⟩
  have B1 : Below w.heap.size w w1 := btr B0 b1
  clear b1 B0 
  have S2 := box B1.size
  have Rr_2 := heap_alloc_last w1 (Obj.cells #[.string ⟨#[102, 114, 109]⟩, .int .u64 5, .int .u8 7] 54)
  have B2 := btr B1 (bal w1 (Obj.cells #[.string ⟨#[102, 114, 109]⟩, .int .u64 5, .int .u8 7] 54))
  clear B1 
  have cr_2_0 := cells4 Rr_2 0 _ rfl
  have cr_2_1 := cells4 Rr_2 1 _ rfl
  have cr_2_2 := cells4 Rr_2 2 _ rfl
  go_wp2
  go_ret2
  exact ⟨rfl, B2⟩
set_option maxRecDepth 100000 in
set_option maxHeartbeats 8000000 in
theorem pc_write2 (F x : Nat) (a b c : Int) (ha : bits .andNot .u8 ((F : Nat) : Int) 224 = a) (hb : bits .or .u8 a (((x : Nat) : Int) % 8 * 32) = b) (KN : Box (∀ w, FAt w → Calls Tryd.prog 30 #[.int .i64 2] w fun r w' => r = .returned (.tuple #[.agg #[.string ⟨#[102, 114, 109]⟩, .int .u64 5, .int .u8 7], .int .i64 0]) ∧ Below w.heap.size w w')) (w : World) (hT : FAt w) : Calls Tryd.prog 10 #[.int .i64 2, .int .u8 (F : Nat), .int .u64 (x : Nat)] w fun r w' => r = .returned (.tuple #[.int .u8 b, .int .i64 0]) ∧ Below w.heap.size w w' := by
  have FF := box hT
  clear hT
  have B0 : Below w.heap.size w w := (Below.refl _ _)
  go_enter Tryd.func10, Tryd.ntmps10
  go_wp2_with fail
  refine (KN.out _ (fatB FF.out B0)).mono ?_
  rintro r w1 ⟨rfl, b1⟩
  have B1 : Below w.heap.size w w1 := btr B0 b1
  clear b1 B0 
  have S2 := box B1.size
  have Rr_2 := heap_alloc_last w1 (Obj.cells #[.string ⟨#[102, 114, 109]⟩, .int .u64 5, .int .u8 7] 54)
  have B2 := btr B1 (bal w1 (Obj.cells #[.string ⟨#[102, 114, 109]⟩, .int .u64 5, .int .u8 7] 54))
  clear B1 
  have cr_2_0 := cells4 Rr_2 0 _ rfl
  have cr_2_1 := cells4 Rr_2 1 _ rfl
  have cr_2_2 := cells4 Rr_2 2 _ rfl
  go_wp2
  go_ret2
  exact ⟨rfl, B2⟩
set_option maxRecDepth 100000 in
set_option maxHeartbeats 8000000 in
theorem pc_read3 (F : Nat) (a : Int) (ha : bits .and .u8 ((F : Nat) : Int) 255 = a) (hw : IntKind.u64.wrap a = a) (KN : Box (∀ w, FAt w → Calls Tryd.prog 30 #[.int .i64 3] w fun r w' => r = .returned (.tuple #[.agg #[.string ⟨#[102, 99, 115, 114]⟩, .int .u64 0, .int .u8 255], .int .i64 0]) ∧ Below w.heap.size w w')) (w : World) (hT : FAt w) : Calls Tryd.prog 8 #[.int .i64 3, .int .u8 (F : Nat)] w fun r w' => r = .returned (.tuple #[.int .u64 a, .int .i64 0]) ∧ Below w.heap.size w w' := by
  have FF := box hT
  clear hT
  have B0 : Below w.heap.size w w := (Below.refl _ _)
  go_enter Tryd.func8, Tryd.ntmps8
  go_wp2_with fail
  refine (KN.out _ (fatB FF.out B0)).mono ?_
  rintro r w1 ⟨rfl, b1⟩
  have B1 : Below w.heap.size w w1 := btr B0 b1
  clear b1 B0 
  have S2 := box B1.size
  have Rr_2 := heap_alloc_last w1 (Obj.cells #[.string ⟨#[102, 99, 115, 114]⟩, .int .u64 0, .int .u8 255] 54)
  have B2 := btr B1 (bal w1 (Obj.cells #[.string ⟨#[102, 99, 115, 114]⟩, .int .u64 0, .int .u8 255] 54))
  clear B1 
  have cr_2_0 := cells4 Rr_2 0 _ rfl
  have cr_2_1 := cells4 Rr_2 1 _ rfl
  have cr_2_2 := cells4 Rr_2 2 _ rfl
  go_wp2
  go_ret2
  exact ⟨rfl, B2⟩
set_option maxRecDepth 100000 in
set_option maxHeartbeats 8000000 in
theorem pc_write3 (F x : Nat) (a b c : Int) (ha : bits .andNot .u8 ((F : Nat) : Int) 255 = a) (hc : bits .and .u8 (((x : Nat) : Int) % 256) 255 = c) (hd : c % 256 = c) (hb : bits .or .u8 a c = b) (KN : Box (∀ w, FAt w → Calls Tryd.prog 30 #[.int .i64 3] w fun r w' => r = .returned (.tuple #[.agg #[.string ⟨#[102, 99, 115, 114]⟩, .int .u64 0, .int .u8 255], .int .i64 0]) ∧ Below w.heap.size w w')) (w : World) (hT : FAt w) : Calls Tryd.prog 10 #[.int .i64 3, .int .u8 (F : Nat), .int .u64 (x : Nat)] w fun r w' => r = .returned (.tuple #[.int .u8 b, .int .i64 0]) ∧ Below w.heap.size w w' := by
  have FF := box hT
  clear hT
  have B0 : Below w.heap.size w w := (Below.refl _ _)
  go_enter Tryd.func10, Tryd.ntmps10
  go_wp2_with fail
  refine (KN.out _ (fatB FF.out B0)).mono ?_
  rintro r w1 ⟨rfl, b1⟩
  have B1 : Below w.heap.size w w1 := btr B0 b1
  clear b1 B0 
  have S2 := box B1.size
  have Rr_2 := heap_alloc_last w1 (Obj.cells #[.string ⟨#[102, 99, 115, 114]⟩, .int .u64 0, .int .u8 255] 54)
  have B2 := btr B1 (bal w1 (Obj.cells #[.string ⟨#[102, 99, 115, 114]⟩, .int .u64 0, .int .u8 255] 54))
  clear B1 
  have cr_2_0 := cells4 Rr_2 0 _ rfl
  have cr_2_1 := cells4 Rr_2 1 _ rfl
  have cr_2_2 := cells4 Rr_2 2 _ rfl
  go_wp2
  go_ret2
  exact ⟨rfl, B2⟩
set_option maxRecDepth 100000 in
set_option maxHeartbeats 8000000 in
theorem pc_read_no (n F : Int) (hz : bits .and .u8 F 0 = 0) (KN : Box (∀ w, Calls Tryd.prog 30 #[.int .i64 n] w fun r w' => r = .returned (.tuple #[.agg #[.string ⟨#[]⟩, .int .u64 0, .int .u8 0], .int .i64 210]) ∧ Below w.heap.size w w')) (w : World) : Calls Tryd.prog 8 #[.int .i64 n, .int .u8 F] w fun r w' => r = .returned (.tuple #[.int .u64 0, .int .i64 210]) ∧ Below w.heap.size w w' := by
  have B0 : Below w.heap.size w w := (Below.refl _ _)
  go_enter Tryd.func8, Tryd.ntmps8
  go_wp2_with fail
  refine (KN.out _).mono ?_
  rintro r w1 ⟨rfl, b1⟩
  have B1 : Below w.heap.size w w1 := btr B0 b1
  clear b1 B0 
  have S2 := box B1.size
  have Rr_2 := heap_alloc_last w1 (Obj.cells #[.string ⟨#[]⟩, .int .u64 0, .int .u8 0] 54)
  have B2 := btr B1 (bal w1 (Obj.cells #[.string ⟨#[]⟩, .int .u64 0, .int .u8 0] 54))
  clear B1 
  have cr_2_0 := cells4 Rr_2 0 _ rfl
  have cr_2_1 := cells4 Rr_2 1 _ rfl
  have cr_2_2 := cells4 Rr_2 2 _ rfl
  go_wp2
  go_ret2
  exact ⟨rfl, B2⟩
set_option maxRecDepth 100000 in
set_option maxHeartbeats 8000000 in
theorem pc_write_no (n F x : Int) (KN : Box (∀ w, Calls Tryd.prog 30 #[.int .i64 n] w fun r w' => r = .returned (.tuple #[.agg #[.string ⟨#[]⟩, .int .u64 0, .int .u8 0], .int .i64 210]) ∧ Below w.heap.size w w')) (w : World) : Calls Tryd.prog 10 #[.int .i64 n, .int .u8 F, .int .u64 x] w fun r w' => r = .returned (.tuple #[.int .u8 0, .int .i64 210]) ∧ Below w.heap.size w w' := by
  have B0 : Below w.heap.size w w := (Below.refl _ _)
  go_enter Tryd.func10, Tryd.ntmps10
  go_wp2_with fail
  refine (KN.out _).mono ?_
  rintro r w1 ⟨rfl, b1⟩
  have B1 : Below w.heap.size w w1 := btr B0 b1
  clear b1 B0 
  have S2 := box B1.size
  have Rr_2 := heap_alloc_last w1 (Obj.cells #[.string ⟨#[]⟩, .int .u64 0, .int .u8 0] 54)
  have B2 := btr B1 (bal w1 (Obj.cells #[.string ⟨#[]⟩, .int .u64 0, .int .u8 0] 54))
  clear B1 
  have cr_2_0 := cells4 Rr_2 0 _ rfl
  have cr_2_1 := cells4 Rr_2 1 _ rfl
  have cr_2_2 := cells4 Rr_2 2 _ rfl
  go_wp2
  go_ret2
  exact ⟨rfl, B2⟩
set_option maxRecDepth 100000 in
set_option maxHeartbeats 8000000 in
theorem pc_name (n : Int) (s : ByteArray) (sh mk e : Int) (KN : Box (∀ w, FAt w → Calls Tryd.prog 30 #[.int .i64 n] w fun r w' => r = .returned (.tuple #[.agg #[.string s, .int .u64 sh, .int .u8 mk], .int .i64 e]) ∧ Below w.heap.size w w')) (w : World) (hT : FAt w) : Calls Tryd.prog 22 #[.int .i64 n] w fun r w' => r = .returned (.tuple #[.string s, .int .i64 e]) ∧ Below w.heap.size w w' := by
  have FF := box hT
  clear hT
  have B0 : Below w.heap.size w w := (Below.refl _ _)
  go_enter Tryd.func22, Tryd.ntmps22
  go_wp2_with fail
  refine (KN.out _ (fatB FF.out B0)).mono ?_
  rintro r w1 ⟨rfl, b1⟩
  have B1 : Below w.heap.size w w1 := btr B0 b1
  clear b1 B0 
  have S2 := box B1.size
  have Rr_2 := heap_alloc_last w1 (Obj.cells #[.string s, .int .u64 sh, .int .u8 mk] 54)
  have B2 := btr B1 (bal w1 (Obj.cells #[.string s, .int .u64 sh, .int .u8 mk] 54))
  clear B1 
  have cr_2_0 := cells4 Rr_2 0 _ rfl
  have cr_2_1 := cells4 Rr_2 1 _ rfl
  have cr_2_2 := cells4 Rr_2 2 _ rfl
  go_wp2
  go_ret2
  exact ⟨rfl, B2⟩
set_option maxRecDepth 100000 in
set_option maxHeartbeats 8000000 in
theorem pc_mode_e (F rm : Int) (h : decide (7 < rm) = true) (w : World) : Calls Tryd.prog 15 #[.int .u8 F, .int .u8 rm] w fun r w' => r = .returned (.tuple #[.int .u8 0, .int .i64 2]) ∧ Below w.heap.size w w' := by
  have B0 : Below w.heap.size w w := (Below.refl _ _)
  go_enter Tryd.func15, Tryd.ntmps15
  go_wp2
  go_ret2
  exact ⟨rfl, B0⟩
set_option maxRecDepth 100000 in
set_option maxHeartbeats 8000000 in
theorem pc_mode_n (F rm : Int) (h : decide (7 < rm) = false) (h7 : (rm == 7) = false) (h4 : decide (4 < rm) = true) (w : World) : Calls Tryd.prog 15 #[.int .u8 F, .int .u8 rm] w fun r w' => r = .returned (.tuple #[.int .u8 0, .int .i64 211]) ∧ Below w.heap.size w w' := by
  have B0 : Below w.heap.size w w := (Below.refl _ _)
  go_enter Tryd.func15, Tryd.ntmps15
  go_wp2
  go_ret2
  exact ⟨rfl, B0⟩
set_option maxRecDepth 100000 in
set_option maxHeartbeats 8000000 in
theorem pc_mode_y (F rm : Int) (h : decide (7 < rm) = false) (h7 : (rm == 7) = false) (h4 : decide (4 < rm) = false) (w : World) : Calls Tryd.prog 15 #[.int .u8 F, .int .u8 rm] w fun r w' => r = .returned (.tuple #[.int .u8 rm, .int .i64 0]) ∧ Below w.heap.size w w' := by
  have B0 : Below w.heap.size w w := (Below.refl _ _)
  go_enter Tryd.func15, Tryd.ntmps15
  go_wp2
  go_ret2
  exact ⟨rfl, B0⟩
set_option maxRecDepth 100000 in
set_option maxHeartbeats 8000000 in
theorem pc_mode_dn (F q g : Int) (KP : Box (∀ w, Calls Tryd.prog 21 #[.int .u8 F] w fun r w' => r = .returned (.tuple #[.int .u8 q, .int .u8 g]) ∧ Below w.heap.size w w')) (h4 : decide (4 < q) = true) (w : World) : Calls Tryd.prog 15 #[.int .u8 F, .int .u8 7] w fun r w' => r = .returned (.tuple #[.int .u8 0, .int .i64 211]) ∧ Below w.heap.size w w' := by
  have B0 : Below w.heap.size w w := (Below.refl _ _)
  go_enter Tryd.func15, Tryd.ntmps15
  go_wp2_with fail
  refine (KP.out _).mono ?_
  rintro r w1 ⟨rfl, b1⟩
  have B1 : Below w.heap.size w w1 := btr B0 b1
  clear b1 B0 
  go_wp2
  go_ret2
  exact ⟨rfl, B1⟩
set_option maxRecDepth 100000 in
set_option maxHeartbeats 8000000 in
theorem pc_mode_dy (F q g : Int) (KP : Box (∀ w, Calls Tryd.prog 21 #[.int .u8 F] w fun r w' => r = .returned (.tuple #[.int .u8 q, .int .u8 g]) ∧ Below w.heap.size w w')) (h4 : decide (4 < q) = false) (w : World) : Calls Tryd.prog 15 #[.int .u8 F, .int .u8 7] w fun r w' => r = .returned (.tuple #[.int .u8 q, .int .i64 0]) ∧ Below w.heap.size w w' := by
  have B0 : Below w.heap.size w w := (Below.refl _ _)
  go_enter Tryd.func15, Tryd.ntmps15
  go_wp2_with fail
  refine (KP.out _).mono ?_
  rintro r w1 ⟨rfl, b1⟩
  have B1 : Below w.heap.size w w1 := btr B0 b1
  clear b1 B0 
  go_wp2
  go_ret2
  exact ⟨rfl, B1⟩
set_option maxRecDepth 100000 in
set_option maxHeartbeats 8000000 in
theorem pc_parts (F : Nat) (a b : Int) (ha : ((F : Nat) : Int) / 32 = a) (hb : bits .and .u8 ((F : Nat) : Int) 31 = b) (w : World) : Calls Tryd.prog 21 #[.int .u8 (F : Nat)] w fun r w' => r = .returned (.tuple #[.int .u8 a, .int .u8 b]) ∧ Below w.heap.size w w' := by
  have B0 : Below w.heap.size w w := (Below.refl _ _)
  go_enter Tryd.func21, Tryd.ntmps21
  go_wp2
  go_ret2
  exact ⟨rfl, B0⟩
theorem pc_flag (i : Nat) (v : Int) (hv : (16 : Int) / 2 ^ min (IntKind.u64.wrap ((i : Nat) : Int)).toNat 8 = v) (w : World) : Calls Tryd.prog 37 #[.int .i64 (i : Nat)] w fun r w' => r = .returned (.int .u8 v) ∧ Below w.heap.size w w' := by
  have B0 : Below w.heap.size w w := (Below.refl _ _)
  go_enter Tryd.func37, Tryd.ntmps37
  go_wp2
  go_ret
  exact ⟨rfl, B0⟩
end Go.Proofs.YtinagedilgihjaaDoor
