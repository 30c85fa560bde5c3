/-
  What the functions that the statement reaches return: part 2 (FrameA, IG, II, IJ, IK, IL, IM, ShelfJ).
-/
import Derived.ChangeMaps5
import Derived.OpenShut
import Derived.Laws.AppendOwn
import Derived.OwnWalk
import Derived.Maps.AppendAt
import Derived.Lib.Join
import Derived.Lib.IndexMore
import Derived.Shelf.Strings.OnBuilder
import Derived.Ground.NamesProg
import Derived.Test.YtinagedilgihjaaDoorProg
import Derived.Test.YtinagedilgihjaaDoorCa01
namespace Go.Proofs.YtinagedilgihjaaDoor
set_option maxRecDepth 100000
set_option maxHeartbeats 40000000
set_option maxRecDepth 100000
open WMath
open Go.ChangeShapes Go.WideShapes Go.ChangeAt Go.RowKit
theorem nat_u8a {x : Int} (h : (Lit.int .u8 x).wf = true) : ∃ n : Nat, n < 256 ∧ x = (n : Int) := by
  have hb := bounds_u8 h
  obtain ⟨n, rfl⟩ := Int.eq_ofNat_of_zero_le hb.1
  exact ⟨n, by omega, rfl⟩
def dA (H : Type) (a b c d : Int) (e : Bool) (f g : Int) : DataW H := .agg [.lit (.int .u8 a), .lit (.int .i64 b), .lit (.int .u8 c), .lit (.int .u64 d), .lit (.bool e), .lit (.int .u8 f), .lit (.int .u8 g)]
theorem list7 {α : Type} (l : List α) (h : (⟨l⟩ : Array α).size = 7) : ∃ a b c d e f g, l = [a, b, c, d, e, f, g] := by
  match l, h with
  | [a, b, c, d, e, f, g], _ => exact ⟨a, b, c, d, e, f, g, rfl⟩
theorem trod_struct7 {H : Type} {enc : TypeId × Value → H} {P : Program} {w : World} {base : Nat} {spare : Nat → Bool} {held : Bool} {t : TypeId} {f0 f1 f2 f3 f4 f5 f6 : Field} {fuel : Nat} {cs : List Value} {x : DataW H × List MemPlace} (ht : P.underlying t = some (.struct #[f0, f1, f2, f3, f4, f5, f6])) (h : DataW.trod enc P w base spare held fuel t cs = some x) :
    ∃ y0 y1 y2 y3 y4 y5 y6 n, x = (.agg [y0.1, y1.1, y2.1, y3.1, y4.1, y5.1, y6.1], y0.2 ++ (y1.2 ++ (y2.2 ++ (y3.2 ++ (y4.2 ++ (y5.2 ++ y6.2)))))) ∧ DataW.trod enc P w base spare held n f0.type ((cs.drop f0.offset).take (P.cellsOf f0.type)) = some y0 ∧
      DataW.trod enc P w base spare held n f1.type ((cs.drop f1.offset).take (P.cellsOf f1.type)) = some y1 ∧ DataW.trod enc P w base spare held n f2.type ((cs.drop f2.offset).take (P.cellsOf f2.type)) = some y2 ∧
      DataW.trod enc P w base spare held n f3.type ((cs.drop f3.offset).take (P.cellsOf f3.type)) = some y3 ∧ DataW.trod enc P w base spare held n f4.type ((cs.drop f4.offset).take (P.cellsOf f4.type)) = some y4 ∧
      DataW.trod enc P w base spare held n f5.type ((cs.drop f5.offset).take (P.cellsOf f5.type)) = some y5 ∧ DataW.trod enc P w base spare held n f6.type ((cs.drop f6.offset).take (P.cellsOf f6.type)) = some y6 := by
  obtain ⟨xs, n, _, rfl, hl, hlen, hf⟩ := DataW.trod_struct ht h
  match xs, hlen with
  | [y0, y1, y2, y3, y4, y5, y6], _ => exact ⟨y0, y1, y2, y3, y4, y5, y6, n, by simp, by simpa using hf 0 f0 rfl, by simpa using hf 1 f1 rfl, by simpa using hf 2 f2 rfl, by simpa using hf 3 f3 rfl, by simpa using hf 4 f4 rfl, by simpa using hf 5 f5 rfl, by simpa using hf 6 f6 rfl⟩

set_option maxRecDepth 100000 in
theorem open_ask {H : Type} {enc : TypeId × Value → H} {w : World} {base b : Nat} {spare : Nat → Bool} {held : Bool} {v : Value} {d : DataW H} {p : List MemPlace}
    (hok : Value.okWide Tryd.prog w .any base 26 v) (h : DataW.Trod enc Tryd.prog w b spare held 26 v d p) : ∃ (x0 x1 x2 x3 : Int) (x4 : Bool) (x5 x6 : Int), v = .agg #[.int .u8 x0, .int .i64 x1, .int .u8 x2, .int .u64 x3, .bool x4, .int .u8 x5, .int .u8 x6] ∧ d = dA H x0 x1 x2 x3 x4 x5 x6 ∧ p = [] ∧ (Lit.int .u8 x0).wf = true ∧ (Lit.int .i64 x1).wf = true ∧ (Lit.int .u8 x2).wf = true ∧ (Lit.int .u64 x3).wf = true ∧ (Lit.int .u8 x5).wf = true ∧ (Lit.int .u8 x6).wf = true := by
  have hc : Tryd.prog.cellsOf 26 = 7 := by kernel_rfl
  have h0 : Tryd.prog.cellsOf 22 = 1 := by kernel_rfl
  have h1 : Tryd.prog.cellsOf 3 = 1 := by kernel_rfl
  have h2 : Tryd.prog.cellsOf 5 = 1 := by kernel_rfl
  have h3 : Tryd.prog.cellsOf 23 = 1 := by kernel_rfl
  have h4 : Tryd.prog.cellsOf 4 = 1 := by kernel_rfl
  have h6 : Tryd.prog.cellsOf 24 = 1 := by kernel_rfl
  obtain ⟨cs, rfl, hsz⟩ := okWide_struct Tryd.underlying26 hok
  rw [hc] at hsz
  obtain ⟨l⟩ := cs
  obtain ⟨c0, c1, c2, c3, c4, c5, c6, rfl⟩ := list7 l hsz
  obtain ⟨fuel, hf⟩ := h
  obtain ⟨y0, y1, y2, y3, y4, y5, y6, n, hx, g0, g1, g2, g3, g4, g5, g6⟩ := trod_struct7 Tryd.underlying26 hf
  simp only [h0, h1, h2, h3, h4, h6] at g0 g1 g2 g3 g4 g5 g6
  obtain ⟨x0, e0, k0, w0⟩ := DataW.trod_int Tryd.underlying22 g0
  obtain ⟨x1, e1, k1, w1⟩ := DataW.trod_int Tryd.underlying3 g1
  obtain ⟨x2, e2, k2, w2⟩ := DataW.trod_int Tryd.underlying5 g2
  obtain ⟨x3, e3, k3, w3⟩ := DataW.trod_int Tryd.underlying23 g3
  obtain ⟨x4, e4, k4⟩ := DataW.trod_bool Tryd.underlying4 g4
  obtain ⟨x5, e5, k5, w5⟩ := DataW.trod_int Tryd.underlying5 g5
  obtain ⟨x6, e6, k6, w6⟩ := DataW.trod_int Tryd.underlying24 g6
  simp [Value.cells] at e0 e1 e2 e3 e4 e5 e6
  subst e0 e1 e2 e3 e4 e5 e6
  simp only [Prod.mk.injEq] at hx
  refine ⟨x0, x1, x2, x3, x4, x5, x6, rfl, ?_, ?_, w0, w1, w2, w3, w5, w6⟩
  · rw [hx.1, k0, k1, k2, k3, k4, k5, k6]; rfl
  · rw [hx.2, k0, k1, k2, k3, k4, k5, k6]; rfl

set_option maxRecDepth 100000 in
theorem shut_ask {H : Type} {enc : TypeId × Value → H} {w : World} {b : Nat} {spare : Nat → Bool} {held : Bool} {x0 x1 x2 x3 : Int} {x4 : Bool} {x5 x6 : Int} (h : (Lit.int .u8 x0).wf = true ∧ (Lit.int .i64 x1).wf = true ∧ (Lit.int .u8 x2).wf = true ∧ (Lit.int .u64 x3).wf = true ∧ (Lit.int .u8 x5).wf = true ∧ (Lit.int .u8 x6).wf = true) :
    DataW.Trod enc Tryd.prog w b spare held 26 (.agg #[.int .u8 x0, .int .i64 x1, .int .u8 x2, .int .u64 x3, .bool x4, .int .u8 x5, .int .u8 x6]) (dA H x0 x1 x2 x3 x4 x5 x6) [] := by
  have hc : Tryd.prog.cellsOf 26 = 7 := by kernel_rfl
  have h0 : Tryd.prog.cellsOf 22 = 1 := by kernel_rfl
  have h1 : Tryd.prog.cellsOf 3 = 1 := by kernel_rfl
  have h2 : Tryd.prog.cellsOf 5 = 1 := by kernel_rfl
  have h3 : Tryd.prog.cellsOf 23 = 1 := by kernel_rfl
  have h4 : Tryd.prog.cellsOf 4 = 1 := by kernel_rfl
  have h6 : Tryd.prog.cellsOf 24 = 1 := by kernel_rfl
  refine ⟨2, ?_⟩
  simp [DataW.trod, Value.cells, Tryd.underlying26, Tryd.underlying22, Tryd.underlying3, Tryd.underlying5, Tryd.underlying23, Tryd.underlying4, Tryd.underlying24, hc, h0, h1, h2, h3, h4, h6, h.1, h.2.1, h.2.2.1, h.2.2.2.1, h.2.2.2.2.1, h.2.2.2.2.2, dA]
end Go.Proofs.YtinagedilgihjaaDoor
namespace Go.Proofs.YtinagedilgihjaaDoor
set_option maxRecDepth 100000
set_option maxHeartbeats 40000000
set_option maxRecDepth 100000
open Go.RowKit WMath
set_option linter.unusedSimpArgs false
set_option linter.unusedVariables false
def txC (g : Nat) : Nat → ByteArray
  | 0 => ⟨#[]⟩
  | j + 1 => if g.testBit (4 - j) = true then (if (txC g j).size = 0 then wdW (4 - j) else txC g j ++ ⟨#[43]⟩ ++ wdW (4 - j)) else txC g j
def txD (g : Nat) : ByteArray := if (txC g 5).size = 0 then ⟨#[45]⟩ else txC g 5
theorem if_nil {a : Type} (S : ByteArray) (x y : a) : (if (S.toList == []) = true then x else y) = if S.size = 0 then x else y := by
  rw [eq_empty]
  by_cases c : S.size = 0
  · rw [if_pos (decide_eq_true c), if_pos c]
  · rw [if_neg (by rw [decide_eq_false c]; decide), if_neg c]
theorem txB_C (g : Nat) : ∀ j, txB g j = txC g j
  | 0 => rfl
  | j + 1 => by
    show (if g.testBit (4 - j) = true then (if ((txB g j).toList == []) = true then wdW (4 - j) else txB g j ++ ⟨#[43]⟩ ++ wdW (4 - j)) else txB g j) = _
    rw [if_nil, txB_C g j]
    rfl
theorem txt_D (g : Nat) : txt g = txD g := by
  unfold txt txD
  rw [if_nil, txB_C]
theorem txt_21 : txR 21 = (⟨#[110, 118, 43, 111, 102, 43, 110, 120]⟩, 0) := by
  unfold txR
  rw [txt_D]
  decide +kernel
theorem lives_all {Tp : World → Prop} (FB : Box (∀ {w w' : World}, Tp w → Below w.heap.size w w' → Tp w')) (CR : ∀ (n : Int) (F : Nat), -9223372036854775808 ≤ n → n ≤ 9223372036854775807 → F < 256 → Box (∀ w, Tp w → Calls Tryd.prog 8 #[.int .i64 n, .int .u8 (F : Nat)] w fun r w' => r = .returned (.tuple #[.int .u64 ((rdR n F).1 : Nat), .int .i64 (rdR n F).2]) ∧ Below w.heap.size w w')) (CW : ∀ (n : Int) (F x : Nat), -9223372036854775808 ≤ n → n ≤ 9223372036854775807 → F < 256 → x < 18446744073709551616 → Box (∀ w, Tp w → Calls Tryd.prog 10 #[.int .i64 n, .int .u8 (F : Nat), .int .u64 (x : Nat)] w fun r w' => r = .returned (.tuple #[.int .u8 ((wrR n F x).1 : Nat), .int .i64 (wrR n F x).2]) ∧ Below w.heap.size w w')) (CD : ∀ (F rm : Nat), F < 256 → rm < 256 → Box (∀ w, Tp w → Calls Tryd.prog 15 #[.int .u8 (F : Nat), .int .u8 (rm : Nat)] w fun r w' => r = .returned (.tuple #[.int .u8 ((mdR F rm).1 : Nat), .int .i64 (mdR F rm).2]) ∧ Below w.heap.size w w')) (CT : ∀ (g : Nat), g < 256 → Box (∀ w, Tp w → Calls Tryd.prog 26 #[.int .u8 (g : Nat)] w fun r w' => r = .returned (.tuple #[.string (txR g).1, .int .i64 (txR g).2]) ∧ Below w.heap.size w w')) (w : World) (hT : Tp w) : Calls Tryd.prog 14 #[] w fun r w' => r = .returned (.bool true) ∧ Below w.heap.size w w' := by
  have T := CT 21 (by decide)
  rw [txt_21] at T
  exact r21lives FB _ _ w (CR 2 227 (by decide) (by decide) (by decide)) (CW 1 227 500 (by decide) (by decide) (by decide) (by decide)) (CR 0 227 (by decide) (by decide) (by decide)) (CD 96 7 (by decide) (by decide)) (CD 160 7 (by decide) (by decide)) T hT
theorem acts_all {Tp : World → Prop} (FB : Box (∀ {w w' : World}, Tp w → Below w.heap.size w w' → Tp w')) (ho n : Int) (h0 : 0 ≤ ho) (h1 : ho ≤ 255) (n1 : -9223372036854775808 ≤ n) (n2 : n ≤ 9223372036854775807) (F : Nat) (hF : F < 256) (X : Nat) (hX : X < 18446744073709551616) (si : Bool) (rm g : Nat) (hr : rm < 256) (hg : g < 256) (CR : ∀ (n : Int) (F : Nat), -9223372036854775808 ≤ n → n ≤ 9223372036854775807 → F < 256 → Box (∀ w, Tp w → Calls Tryd.prog 8 #[.int .i64 n, .int .u8 (F : Nat)] w fun r w' => r = .returned (.tuple #[.int .u64 ((rdR n F).1 : Nat), .int .i64 (rdR n F).2]) ∧ Below w.heap.size w w')) (CW : ∀ (n : Int) (F x : Nat), -9223372036854775808 ≤ n → n ≤ 9223372036854775807 → F < 256 → x < 18446744073709551616 → Box (∀ w, Tp w → Calls Tryd.prog 10 #[.int .i64 n, .int .u8 (F : Nat), .int .u64 (x : Nat)] w fun r w' => r = .returned (.tuple #[.int .u8 ((wrR n F x).1 : Nat), .int .i64 (wrR n F x).2]) ∧ Below w.heap.size w w')) (CA : ∀ (ho n : Int) (F x : Nat) (si : Bool), 0 ≤ ho → ho ≤ 255 → -9223372036854775808 ≤ n → n ≤ 9223372036854775807 → F < 256 → x < 18446744073709551616 → Box (∀ w, Tp w → Calls Tryd.prog 12 #[.int .u8 ho, .int .i64 n, .int .u8 (F : Nat), .int .u64 (x : Nat), .bool si] w fun r w' => r = .returned (.tuple #[.int .u64 ((acR ho n F x si).1.1 : Nat), .int .u8 ((acR ho n F x si).1.2 : Nat), .bool (acR ho n F x si).2.1, .int .i64 (acR ho n F x si).2.2]) ∧ Below w.heap.size w w')) (KV : Box (∀ w, Tp w → Calls Tryd.prog 14 #[] w fun r w' => r = .returned (.bool true) ∧ Below w.heap.size w w')) (w : World) (hT : Tp w) : Calls Tryd.prog 3 #[.agg #[.int .u8 ho, .int .i64 n, .int .u8 (F : Nat), .int .u64 (X : Nat), .bool si, .int .u8 (rm : Nat), .int .u8 (g : Nat)]] w fun r w' => r = .returned (.bool true) ∧ Below w.heap.size w w' :=
  ca_law FB ho n _ _ si _ _ _ _ _ _ _ _ _ _ w (CR n F n1 n2 hF) (box (fun w => bel_sr (rRd_w n F hF w))) (CW n F X n1 n2 hF hX) (box (fun w => bel_sr (rWr_w n F hF X hX w))) (CA ho n F X si h0 h1 n1 n2 hF hX) (box (fun w => bel_sr (rAc_w ho n h0 F hF X hX si w))) KV hT
theorem bits_or_u8 (a b : Nat) (ha : a < 256) (hb : b < 256) : bits .or .u8 (a : Int) (b : Int) = ((a ||| b : Nat) : Int) := by
  have hx : a ||| b < 2 ^ 8 := Nat.or_lt_two_pow (by omega) (by omega)
  have h1 : (BitVec.ofInt 8 (a : Int)).toNat = a := by
    rw [BitVec.ofInt_natCast, BitVec.toNat_ofNat]; exact Nat.mod_eq_of_lt (by omega)
  have h2 : (BitVec.ofInt 8 (b : Int)).toNat = b := by
    rw [BitVec.ofInt_natCast, BitVec.toNat_ofNat]; exact Nat.mod_eq_of_lt (by omega)
  show IntKind.u8.wrap ((BitVec.ofInt 8 (a : Int) ||| BitVec.ofInt 8 (b : Int)).toNat : Int) = _
  rw [BitVec.toNat_or, h1, h2, show ∀ y : Int, IntKind.u8.wrap y = y % 256 from fun _ => rfl]
  omega
theorem bal7 (w : World) (o : Obj) : Below w.heap.size w (w.alloc o) := (Below.refl _ _).alloc (Nat.le_refl _) _
def fcells : Array Value := #[.string ⟨#[102, 102, 108, 97, 103, 115]⟩, .int .u64 0, .int .u8 31, .string ⟨#[102, 114, 109]⟩, .int .u64 5, .int .u8 7, .string ⟨#[102, 99, 115, 114]⟩, .int .u64 0, .int .u8 255]
def wcells : Array Value := #[.string ⟨#[110, 118]⟩, .string ⟨#[100, 122]⟩, .string ⟨#[111, 102]⟩, .string ⟨#[117, 102]⟩, .string ⟨#[110, 120]⟩]
def FAt (w : World) : Prop := (∀ i, i < 9 → w.cell? ⟨0, i, none⟩ = fcells[i]?) ∧ ∀ i, i < 5 → w.cell? ⟨1, i, none⟩ = wcells[i]?
theorem fatB {w w' : World} (h : FAt w) (hb : Below w.heap.size w w') : FAt w' := ⟨fun i hi => by
  have hv : fcells[i]? = some _ := Array.getElem?_eq_getElem (show i < fcells.size from hi)
  rw [hb.cell (p := ⟨0, i, none⟩) (World.block_lt_of_cell? w _ ((h.1 i hi).trans hv))]
  exact h.1 i hi, fun i hi => by
  have hv : wcells[i]? = some _ := Array.getElem?_eq_getElem (show i < wcells.size from hi)
  rw [hb.cell (p := ⟨1, i, none⟩) (World.block_lt_of_cell? w _ ((h.2 i hi).trans hv))]
  exact h.2 i hi⟩
theorem fat_at {w : World} (h : FAt w) (i : Nat) (v : Value) (hi : i < 9) (hv : fcells[i]? = some v) : w.cell? ⟨0, i, none⟩ = some v := (h.1 i hi).trans hv
theorem fat_wd {w : World} (h : FAt w) (i : Nat) (v : Value) (hi : i < 5) (hv : wcells[i]? = some v) : w.cell? ⟨1, i, none⟩ = some v := (h.2 i hi).trans hv
theorem fat_al {w : World} (h : FAt w) (o : Obj) : FAt (w.alloc o) := fatB h (bal7 w o)
set_option maxRecDepth 100000 in
set_option maxHeartbeats 8000000 in
theorem pc_num1 (w : World) (hT : FAt w) : Calls Tryd.prog 30 #[.int .i64 1] w fun r w' => r = .returned (.tuple #[.agg #[.string ⟨#[102, 102, 108, 97, 103, 115]⟩, .int .u64 0, .int .u8 31], .int .i64 0]) ∧ Below w.heap.size w w' := by
  have T2 := fat_al hT (.cells #[.string ⟨#[]⟩, .int .u64 0, .int .u8 0] 54)
  have c0 := fat_at T2 0 (.string ⟨#[102, 102, 108, 97, 103, 115]⟩) (by decide) rfl
  have c1 := fat_at T2 1 (.int .u64 0) (by decide) rfl
  have c2 := fat_at T2 2 (.int .u8 31) (by decide) rfl
  clear T2 hT
  obtain ⟨Rz_0, B0⟩ := opn1 w (Obj.cells #[.string ⟨#[]⟩, .int .u64 0, .int .u8 0] 54)
  go_enter Tryd.func30, Tryd.ntmps30
  clear B0 Rz_0
  go_wp2
  exact bodyPost_ret (v := .tuple #[.agg #[.string ⟨#[102, 102, 108, 97, 103, 115]⟩, .int .u64 0, .int .u8 31], .int .i64 0]) (by simp [results, Tryd.results30, go_sem]) rfl ⟨rfl, bal7 w _⟩
set_option maxRecDepth 100000 in
set_option maxHeartbeats 8000000 in
theorem pc_num2 (w : World) (hT : FAt w) : Calls Tryd.prog 30 #[.int .i64 2] w fun r w' => r = .returned (.tuple #[.agg #[.string ⟨#[102, 114, 109]⟩, .int .u64 5, .int .u8 7], .int .i64 0]) ∧ Below w.heap.size w w' := by
  have T2 := fat_al hT (.cells #[.string ⟨#[]⟩, .int .u64 0, .int .u8 0] 54)
  have c0 := fat_at T2 3 (.string ⟨#[102, 114, 109]⟩) (by decide) rfl
  have c1 := fat_at T2 4 (.int .u64 5) (by decide) rfl
  have c2 := fat_at T2 5 (.int .u8 7) (by decide) rfl
  clear T2 hT
  obtain ⟨Rz_0, B0⟩ := opn1 w (Obj.cells #[.string ⟨#[]⟩, .int .u64 0, .int .u8 0] 54)
  go_enter Tryd.func30, Tryd.ntmps30
  clear B0 Rz_0
  go_wp2
  exact bodyPost_ret (v := .tuple #[.agg #[.string ⟨#[102, 114, 109]⟩, .int .u64 5, .int .u8 7], .int .i64 0]) (by simp [results, Tryd.results30, go_sem]) rfl ⟨rfl, bal7 w _⟩
set_option maxRecDepth 100000 in
set_option maxHeartbeats 8000000 in
theorem pc_num3 (w : World) (hT : FAt w) : Calls Tryd.prog 30 #[.int .i64 3] w fun r w' => r = .returned (.tuple #[.agg #[.string ⟨#[102, 99, 115, 114]⟩, .int .u64 0, .int .u8 255], .int .i64 0]) ∧ Below w.heap.size w w' := by
  have T2 := fat_al hT (.cells #[.string ⟨#[]⟩, .int .u64 0, .int .u8 0] 54)
  have c0 := fat_at T2 6 (.string ⟨#[102, 99, 115, 114]⟩) (by decide) rfl
  have c1 := fat_at T2 7 (.int .u64 0) (by decide) rfl
  have c2 := fat_at T2 8 (.int .u8 255) (by decide) rfl
  clear T2 hT
  obtain ⟨Rz_0, B0⟩ := opn1 w (Obj.cells #[.string ⟨#[]⟩, .int .u64 0, .int .u8 0] 54)
  go_enter Tryd.func30, Tryd.ntmps30
  clear B0 Rz_0
  go_wp2
  exact bodyPost_ret (v := .tuple #[.agg #[.string ⟨#[102, 99, 115, 114]⟩, .int .u64 0, .int .u8 255], .int .i64 0]) (by simp [results, Tryd.results30, go_sem]) rfl ⟨rfl, bal7 w _⟩
set_option maxRecDepth 100000 in
set_option maxHeartbeats 8000000 in
theorem pc_num_lo (n : Int) (h : decide (n < 1) = true) (w : World) : Calls Tryd.prog 30 #[.int .i64 n] w fun r w' => r = .returned (.tuple #[.agg #[.string ⟨#[]⟩, .int .u64 0, .int .u8 0], .int .i64 210]) ∧ Below w.heap.size w w' := by
  obtain ⟨Rz_0, B0⟩ := opn1 w (Obj.cells #[.string ⟨#[]⟩, .int .u64 0, .int .u8 0] 54)
  go_enter Tryd.func30, Tryd.ntmps30
  clear B0 Rz_0
  go_wp2
  exact bodyPost_ret (v := .tuple #[.agg #[.string ⟨#[]⟩, .int .u64 0, .int .u8 0], .int .i64 210]) (by simp [results, Tryd.results30, go_sem]) rfl ⟨rfl, bal7 w _⟩
set_option maxRecDepth 100000 in
set_option maxHeartbeats 8000000 in
theorem pc_num_hi (n : Int) (h : decide (n < 1) = false) (h3 : decide (3 < n) = true) (w : World) : Calls Tryd.prog 30 #[.int .i64 n] w fun r w' => r = .returned (.tuple #[.agg #[.string ⟨#[]⟩, .int .u64 0, .int .u8 0], .int .i64 210]) ∧ Below w.heap.size w w' := by
  obtain ⟨Rz_0, B0⟩ := opn1 w (Obj.cells #[.string ⟨#[]⟩, .int .u64 0, .int .u8 0] 54)
  go_enter Tryd.func30, Tryd.ntmps30
  clear B0 Rz_0
  go_wp2
  exact bodyPost_ret (v := .tuple #[.agg #[.string ⟨#[]⟩, .int .u64 0, .int .u8 0], .int .i64 210]) (by simp [results, Tryd.results30, go_sem]) rfl ⟨rfl, bal7 w _⟩
theorem results_tmp4 {fn : Func} {t u v x : Tmp} (h : fn.results = #[.tmp t, .tmp u, .tmp v, .tmp x]) (tmps : Array Value) (P : Program) (w : World) :
    (results fn tmps).run P w = .ok (.tuple #[tmps.getD t undef, tmps.getD u undef, tmps.getD v undef, tmps.getD x undef]) w := res_tmp4 h tmps P w
set_option maxRecDepth 100000 in
set_option maxHeartbeats 8000000 in
theorem pc_read1 (F : Nat) (a : Int) (ha : bits .and .u8 ((F : Nat) : Int) 31 = a) (hw : IntKind.u64.wrap a = a) (KN : Box (∀ w, FAt w → Calls Tryd.prog 30 #[.int .i64 1] w fun r w' => r = .returned (.tuple #[.agg #[.string ⟨#[102, 102, 108, 97, 103, 115]⟩, .int .u64 0, .int .u8 31], .int .i64 0]) ∧ Below w.heap.size w w')) (w : World) (hT : FAt w) : Calls Tryd.prog 8 #[.int .i64 1, .int .u8 (F : Nat)] w fun r w' => r = .returned (.tuple #[.int .u64 a, .int .i64 0]) ∧ Below w.heap.size w w' := by
  have FF := box hT
  clear hT
  have B0 : Below w.heap.size w w := (Below.refl _ _)
  go_enter Tryd.func8, Tryd.ntmps8
  go_wp2_with fail
  refine (KN.out _ (fatB FF.out B0)).mono ?_
  rintro r w1 ⟨rfl, b1⟩
  have B1 : Below w.heap.size w w1 := btr B0 b1
  clear b1 B0 
  have S2 := box B1.size
  have Rr_2 := heap_alloc_last w1 (Obj.cells #[.string ⟨#[102, 102, 108, 97, 103, 115]⟩, .int .u64 0, .int .u8 31] 54)
  have B2 := btr B1 (bal w1 (Obj.cells #[.string ⟨#[102, 102, 108, 97, 103, 115]⟩, .int .u64 0, .int .u8 31] 54))
  clear B1 
  have cr_2_0 := cells4 Rr_2 0 _ rfl
  have cr_2_1 := cells4 Rr_2 1 _ rfl
  have cr_2_2 := cells4 Rr_2 2 _ rfl
  go_wp2
  go_ret2
  exact ⟨rfl, B2⟩
set_option maxRecDepth 100000 in
set_option maxHeartbeats 8000000 in
theorem pc_write1 (F x : Nat) (a b c : Int) (ha : bits .andNot .u8 ((F : Nat) : Int) 31 = a) (hb : bits .or .u8 a (((x : Nat) : Int) % 32) = b) (KN : Box (∀ w, FAt w → Calls Tryd.prog 30 #[.int .i64 1] w fun r w' => r = .returned (.tuple #[.agg #[.string ⟨#[102, 102, 108, 97, 103, 115]⟩, .int .u64 0, .int .u8 31], .int .i64 0]) ∧ Below w.heap.size w w')) (w : World) (hT : FAt w) : Calls Tryd.prog 10 #[.int .i64 1, .int .u8 (F : Nat), .int .u64 (x : Nat)] w fun r w' => r = .returned (.tuple #[.int .u8 b, .int .i64 0]) ∧ Below w.heap.size w w' := by
  have FF := box hT
  clear hT
  have B0 : Below w.heap.size w w := (Below.refl _ _)
  go_enter Tryd.func10, Tryd.ntmps10
  go_wp2_with fail
  refine (KN.out _ (fatB FF.out B0)).mono ?_
  rintro r w1 ⟨rfl, b1⟩
  have B1 : Below w.heap.size w w1 := btr B0 b1
  clear b1 B0 
  have S2 := box B1.size
  have Rr_2 := heap_alloc_last w1 (Obj.cells #[.string ⟨#[102, 102, 108, 97, 103, 115]⟩, .int .u64 0, .int .u8 31] 54)
  have B2 := btr B1 (bal w1 (Obj.cells #[.string ⟨#[102, 102, 108, 97, 103, 115]⟩, .int .u64 0, .int .u8 31] 54))
  clear B1 
  have cr_2_0 := cells4 Rr_2 0 _ rfl
  have cr_2_1 := cells4 Rr_2 1 _ rfl
  have cr_2_2 := cells4 Rr_2 2 _ rfl
  go_wp2
  go_ret2
  exact ⟨rfl, B2⟩
set_option maxRecDepth 100000 in
set_option maxHeartbeats 8000000 in
theorem pc_read2 (F : Nat) (a : Int) (ha : bits .and .u8 (((F : Nat) : Int) / 32) 7 = a) (hw : IntKind.u64.wrap a = a) (KN : Box (∀ w, FAt w → Calls Tryd.prog 30 #[.int .i64 2] w fun r w' => r = .returned (.tuple #[.agg #[.string ⟨#[102, 114, 109]⟩, .int .u64 5, .int .u8 7], .int .i64 0]) ∧ Below w.heap.size w w')) (w : World) (hT : FAt w) : Calls Tryd.prog 8 #[.int .i64 2, .int .u8 (F : Nat)] w fun r w' => r = .returned (.tuple #[.int .u64 a, .int .i64 0]) ∧ Below w.heap.size w w' := by
  have FF := box hT
  clear hT
  have B0 : Below w.heap.size w w := (Below.refl _ _)
  go_enter Tryd.func8, Tryd.ntmps8
  go_wp2_with fail
  refine (KN.out _ (fatB FF.out B0)).mono ?_
  rintro r w1 ⟨rfl, b1⟩
  have B1 : Below w.heap.size w w1 := btr B0 b1
  clear b1 B0 
  have S2 := box B1.size
  have Rr_2 := heap_alloc_last w1 (Obj.cells #[.string ⟨#[102, 114, 109]⟩, .int .u64 5, .int .u8 7] 54)
  have B2 := btr B1 (bal w1 (Obj.cells #[.string ⟨#[102, 114, 109]⟩, .int .u64 5, .int .u8 7] 54))
  clear B1 
  have cr_2_0 := cells4 Rr_2 0 _ rfl
  have cr_2_1 := cells4 Rr_2 1 _ rfl
  have cr_2_2 := cells4 Rr_2 2 _ rfl
  go_wp2
  go_ret2
  exact ⟨rfl, B2⟩
set_option maxRecDepth 100000 in
set_option maxHeartbeats 8000000 in
theorem pc_write2 (F x : Nat) (a b c : Int) (ha : bits .andNot .u8 ((F : Nat) : Int) 224 = a) (hb : bits .or .u8 a (((x : Nat) : Int) % 8 * 32) = b) (KN : Box (∀ w, FAt w → Calls Tryd.prog 30 #[.int .i64 2] w fun r w' => r = .returned (.tuple #[.agg #[.string ⟨#[102, 114, 109]⟩, .int .u64 5, .int .u8 7], .int .i64 0]) ∧ Below w.heap.size w w')) (w : World) (hT : FAt w) : Calls Tryd.prog 10 #[.int .i64 2, .int .u8 (F : Nat), .int .u64 (x : Nat)] w fun r w' => r = .returned (.tuple #[.int .u8 b, .int .i64 0]) ∧ Below w.heap.size w w' := by
  have FF := box hT
  clear hT
  have B0 : Below w.heap.size w w := (Below.refl _ _)
  go_enter Tryd.func10, Tryd.ntmps10
  go_wp2_with fail
  refine (KN.out _ (fatB FF.out B0)).mono ?_
  rintro r w1 ⟨rfl, b1⟩
  have B1 : Below w.heap.size w w1 := btr B0 b1
  clear b1 B0 
  have S2 := box B1.size
  have Rr_2 := heap_alloc_last w1 (Obj.cells #[.string ⟨#[102, 114, 109]⟩, .int .u64 5, .int .u8 7] 54)
  have B2 := btr B1 (bal w1 (Obj.cells #[.string ⟨#[102, 114, 109]⟩, .int .u64 5, .int .u8 7] 54))
  clear B1 
  have cr_2_0 := cells4 Rr_2 0 _ rfl
  have cr_2_1 := cells4 Rr_2 1 _ rfl
  have cr_2_2 := cells4 Rr_2 2 _ rfl
  go_wp2
  go_ret2
  exact ⟨rfl, B2⟩
set_option maxRecDepth 100000 in
set_option maxHeartbeats 8000000 in
theorem pc_read3 (F : Nat) (a : Int) (ha : bits .and .u8 ((F : Nat) : Int) 255 = a) (hw : IntKind.u64.wrap a = a) (KN : Box (∀ w, FAt w → Calls Tryd.prog 30 #[.int .i64 3] w fun r w' => r = .returned (.tuple #[.agg #[.string ⟨#[102, 99, 115, 114]⟩, .int .u64 0, .int .u8 255], .int .i64 0]) ∧ Below w.heap.size w w')) (w : World) (hT : FAt w) : Calls Tryd.prog 8 #[.int .i64 3, .int .u8 (F : Nat)] w fun r w' => r = .returned (.tuple #[.int .u64 a, .int .i64 0]) ∧ Below w.heap.size w w' := by
  have FF := box hT
  clear hT
  have B0 : Below w.heap.size w w := (Below.refl _ _)
  go_enter Tryd.func8, Tryd.ntmps8
  go_wp2_with fail
  refine (KN.out _ (fatB FF.out B0)).mono ?_
  rintro r w1 ⟨rfl, b1⟩
  have B1 : Below w.heap.size w w1 := btr B0 b1
  clear b1 B0 
  have S2 := box B1.size
  have Rr_2 := heap_alloc_last w1 (Obj.cells #[.string ⟨#[102, 99, 115, 114]⟩, .int .u64 0, .int .u8 255] 54)
  have B2 := btr B1 (bal w1 (Obj.cells #[.string ⟨#[102, 99, 115, 114]⟩, .int .u64 0, .int .u8 255] 54))
  clear B1 
  have cr_2_0 := cells4 Rr_2 0 _ rfl
  have cr_2_1 := cells4 Rr_2 1 _ rfl
  have cr_2_2 := cells4 Rr_2 2 _ rfl
  go_wp2
  go_ret2
  exact ⟨rfl, B2⟩
set_option maxRecDepth 100000 in
set_option maxHeartbeats 8000000 in
theorem pc_write3 (F x : Nat) (a b c : Int) (ha : bits .andNot .u8 ((F : Nat) : Int) 255 = a) (hc : bits .and .u8 (((x : Nat) : Int) % 256) 255 = c) (hd : c % 256 = c) (hb : bits .or .u8 a c = b) (KN : Box (∀ w, FAt w → Calls Tryd.prog 30 #[.int .i64 3] w fun r w' => r = .returned (.tuple #[.agg #[.string ⟨#[102, 99, 115, 114]⟩, .int .u64 0, .int .u8 255], .int .i64 0]) ∧ Below w.heap.size w w')) (w : World) (hT : FAt w) : Calls Tryd.prog 10 #[.int .i64 3, .int .u8 (F : Nat), .int .u64 (x : Nat)] w fun r w' => r = .returned (.tuple #[.int .u8 b, .int .i64 0]) ∧ Below w.heap.size w w' := by
  have FF := box hT
  clear hT
  have B0 : Below w.heap.size w w := (Below.refl _ _)
  go_enter Tryd.func10, Tryd.ntmps10
  go_wp2_with fail
  refine (KN.out _ (fatB FF.out B0)).mono ?_
  rintro r w1 ⟨rfl, b1⟩
  have B1 : Below w.heap.size w w1 := btr B0 b1
  clear b1 B0 
  have S2 := box B1.size
  have Rr_2 := heap_alloc_last w1 (Obj.cells #[.string ⟨#[102, 99, 115, 114]⟩, .int .u64 0, .int .u8 255] 54)
  have B2 := btr B1 (bal w1 (Obj.cells #[.string ⟨#[102, 99, 115, 114]⟩, .int .u64 0, .int .u8 255] 54))
  clear B1 
  have cr_2_0 := cells4 Rr_2 0 _ rfl
  have cr_2_1 := cells4 Rr_2 1 _ rfl
  have cr_2_2 := cells4 Rr_2 2 _ rfl
  go_wp2
  go_ret2
  exact ⟨rfl, B2⟩
set_option maxRecDepth 100000 in
set_option maxHeartbeats 8000000 in
theorem pc_read_no (n F : Int) (hz : bits .and .u8 F 0 = 0) (KN : Box (∀ w, Calls Tryd.prog 30 #[.int .i64 n] w fun r w' => r = .returned (.tuple #[.agg #[.string ⟨#[]⟩, .int .u64 0, .int .u8 0], .int .i64 210]) ∧ Below w.heap.size w w')) (w : World) : Calls Tryd.prog 8 #[.int .i64 n, .int .u8 F] w fun r w' => r = .returned (.tuple #[.int .u64 0, .int .i64 210]) ∧ Below w.heap.size w w' := by
  have B0 : Below w.heap.size w w := (Below.refl _ _)
  go_enter Tryd.func8, Tryd.ntmps8
  go_wp2_with fail
  refine (KN.out _).mono ?_
  rintro r w1 ⟨rfl, b1⟩
  have B1 : Below w.heap.size w w1 := btr B0 b1
  clear b1 B0 
  have S2 := box B1.size
  have Rr_2 := heap_alloc_last w1 (Obj.cells #[.string ⟨#[]⟩, .int .u64 0, .int .u8 0] 54)
  have B2 := btr B1 (bal w1 (Obj.cells #[.string ⟨#[]⟩, .int .u64 0, .int .u8 0] 54))
  clear B1 
  have cr_2_0 := cells4 Rr_2 0 _ rfl
  have cr_2_1 := cells4 Rr_2 1 _ rfl
  have cr_2_2 := cells4 Rr_2 2 _ rfl
  go_wp2
  go_ret2
  exact ⟨rfl, B2⟩
set_option maxRecDepth 100000 in
set_option maxHeartbeats 8000000 in
theorem pc_write_no (n F x : Int) (KN : Box (∀ w, Calls Tryd.prog 30 #[.int .i64 n] w fun r w' => r = .returned (.tuple #[.agg #[.string ⟨#[]⟩, .int .u64 0, .int .u8 0], .int .i64 210]) ∧ Below w.heap.size w w')) (w : World) : Calls Tryd.prog 10 #[.int .i64 n, .int .u8 F, .int .u64 x] w fun r w' => r = .returned (.tuple #[.int .u8 0, .int .i64 210]) ∧ Below w.heap.size w w' := by
  have B0 : Below w.heap.size w w := (Below.refl _ _)
  go_enter Tryd.func10, Tryd.ntmps10
  go_wp2_with fail
  refine (KN.out _).mono ?_
  rintro r w1 ⟨rfl, b1⟩
  have B1 : Below w.heap.size w w1 := btr B0 b1
  clear b1 B0 
  have S2 := box B1.size
  have Rr_2 := heap_alloc_last w1 (Obj.cells #[.string ⟨#[]⟩, .int .u64 0, .int .u8 0] 54)
  have B2 := btr B1 (bal w1 (Obj.cells #[.string ⟨#[]⟩, .int .u64 0, .int .u8 0] 54))
  clear B1 
  have cr_2_0 := cells4 Rr_2 0 _ rfl
  have cr_2_1 := cells4 Rr_2 1 _ rfl
  have cr_2_2 := cells4 Rr_2 2 _ rfl
  go_wp2
  go_ret2
  exact ⟨rfl, B2⟩
set_option maxRecDepth 100000 in
set_option maxHeartbeats 8000000 in
theorem pc_ch0 (old x : Int) (w : World) : Calls Tryd.prog 33 #[.int .u8 0, .int .u64 old, .int .u64 x] w fun r w' => r = .returned (.int .u64 x) ∧ Below w.heap.size w w' := by
  have B0 : Below w.heap.size w w := (Below.refl _ _)
  go_enter Tryd.func33, Tryd.ntmps33
  go_wp2
  go_ret
  exact ⟨rfl, B0⟩
theorem pc_ch1 (old x v : Int) (h : bits .or .u64 old x = v) (w : World) : Calls Tryd.prog 33 #[.int .u8 1, .int .u64 old, .int .u64 x] w fun r w' => r = .returned (.int .u64 v) ∧ Below w.heap.size w w' := by
  have B0 : Below w.heap.size w w := (Below.refl _ _)
  go_enter Tryd.func33, Tryd.ntmps33
  go_wp2
  go_ret
  exact ⟨rfl, B0⟩
theorem pc_ch2 (old x v : Int) (h : bits .andNot .u64 old x = v) (w : World) : Calls Tryd.prog 33 #[.int .u8 2, .int .u64 old, .int .u64 x] w fun r w' => r = .returned (.int .u64 v) ∧ Below w.heap.size w w' := by
  have B0 : Below w.heap.size w w := (Below.refl _ _)
  go_enter Tryd.func33, Tryd.ntmps33
  go_wp2
  go_ret
  exact ⟨rfl, B0⟩
set_option maxRecDepth 100000 in
set_option maxHeartbeats 8000000 in
theorem pc_act_e (ho n F x : Int) (si : Bool) (h : decide (2 < ho) = true) (w : World) : Calls Tryd.prog 12 #[.int .u8 ho, .int .i64 n, .int .u8 F, .int .u64 x, .bool si] w fun r w' => r = .returned (.tuple #[.int .u64 0, .int .u8 0, .bool false, .int .i64 2]) ∧ Below w.heap.size w w' := by
  have B0 : Below w.heap.size w w := (Below.refl _ _)
  go_enter Tryd.func12, Tryd.ntmps12
  go_wp2
  try simp only [Exit.inBlock, Exit.then]
  refine bodyPost_ret (results_tmp4 rfl _ _ _) rfl ?_
  exact ⟨rfl, B0⟩
set_option maxRecDepth 100000 in
set_option maxHeartbeats 8000000 in
theorem pc_act_n (ho n F x old : Int) (si : Bool) (h : decide (2 < ho) = false) (KR : Box (∀ w, FAt w → Calls Tryd.prog 8 #[.int .i64 n, .int .u8 F] w fun r w' => r = .returned (.tuple #[.int .u64 old, .int .i64 210]) ∧ Below w.heap.size w w')) (w : World) (hT : FAt w) : Calls Tryd.prog 12 #[.int .u8 ho, .int .i64 n, .int .u8 F, .int .u64 x, .bool si] w fun r w' => r = .returned (.tuple #[.int .u64 0, .int .u8 0, .bool false, .int .i64 210]) ∧ Below w.heap.size w w' := by
  have FF := box hT
  clear hT
  have B0 : Below w.heap.size w w := (Below.refl _ _)
  go_enter Tryd.func12, Tryd.ntmps12
  go_wp2_with fail
  refine (KR.out _ (fatB FF.out B0)).mono ?_
  rintro r w1 ⟨rfl, b1⟩
  have B1 : Below w.heap.size w w1 := btr B0 b1
  clear b1 B0 
  go_wp2
  try simp only [Exit.inBlock, Exit.then]
  refine bodyPost_ret (results_tmp4 rfl _ _ _) rfl ?_
  exact ⟨rfl, B1⟩
set_option maxRecDepth 100000 in
set_option maxHeartbeats 8000000 in
theorem pc_act_s (ho n F x old : Int) (h : decide (2 < ho) = false) (h0 : (ho != 0) = true) (KR : Box (∀ w, FAt w → Calls Tryd.prog 8 #[.int .i64 n, .int .u8 F] w fun r w' => r = .returned (.tuple #[.int .u64 old, .int .i64 0]) ∧ Below w.heap.size w w')) (w : World) (hT : FAt w) : Calls Tryd.prog 12 #[.int .u8 ho, .int .i64 n, .int .u8 F, .int .u64 x, .bool true] w fun r w' => r = .returned (.tuple #[.int .u64 old, .int .u8 F, .bool false, .int .i64 0]) ∧ Below w.heap.size w w' := by
  have FF := box hT
  clear hT
  have B0 : Below w.heap.size w w := (Below.refl _ _)
  go_enter Tryd.func12, Tryd.ntmps12
  go_wp2_with fail
  refine (KR.out _ (fatB FF.out B0)).mono ?_
  rintro r w1 ⟨rfl, b1⟩
  have B1 : Below w.heap.size w w1 := btr B0 b1
  clear b1 B0 
  go_wp2
  try simp only [Exit.inBlock, Exit.then]
  refine bodyPost_ret (results_tmp4 rfl _ _ _) rfl ?_
  exact ⟨rfl, B1⟩
set_option maxRecDepth 100000 in
set_option maxHeartbeats 8000000 in
theorem pc_act_0t (n F x old v now : Int) (KR : Box (∀ w, FAt w → Calls Tryd.prog 8 #[.int .i64 n, .int .u8 F] w fun r w' => r = .returned (.tuple #[.int .u64 old, .int .i64 0]) ∧ Below w.heap.size w w')) (KC : Box (∀ w, Calls Tryd.prog 33 #[.int .u8 0, .int .u64 old, .int .u64 x] w fun r w' => r = .returned (.int .u64 v) ∧ Below w.heap.size w w')) (KW : Box (∀ w, FAt w → Calls Tryd.prog 10 #[.int .i64 n, .int .u8 F, .int .u64 v] w fun r w' => r = .returned (.tuple #[.int .u8 now, .int .i64 0]) ∧ Below w.heap.size w w')) (w : World) (hT : FAt w) : Calls Tryd.prog 12 #[.int .u8 0, .int .i64 n, .int .u8 F, .int .u64 x, .bool true] w fun r w' => r = .returned (.tuple #[.int .u64 old, .int .u8 now, .bool true, .int .i64 0]) ∧ Below w.heap.size w w' := by
  have FF := box hT
  clear hT
  have B0 : Below w.heap.size w w := (Below.refl _ _)
  go_enter Tryd.func12, Tryd.ntmps12
  go_wp2_with fail
  refine (KR.out _ (fatB FF.out B0)).mono ?_
  rintro r w1 ⟨rfl, b1⟩
  have B1 : Below w.heap.size w w1 := btr B0 b1
  clear b1 B0 
  go_wp2_with fail
  refine (KC.out _).mono ?_
  rintro r w2 ⟨rfl, b2⟩
  have B2 : Below w.heap.size w w2 := btr B1 b2
  clear b2 B1 
  go_wp2_with fail
  refine (KW.out _ (fatB FF.out B2)).mono ?_
  rintro r w3 ⟨rfl, b3⟩
  have B3 : Below w.heap.size w w3 := btr B2 b3
  clear b3 B2 
  go_wp2
  try simp only [Exit.inBlock, Exit.then]
  refine bodyPost_ret (results_tmp4 rfl _ _ _) rfl ?_
  exact ⟨rfl, B3⟩
set_option maxRecDepth 100000 in
set_option maxHeartbeats 8000000 in
theorem pc_act_0f (n F x old v now : Int) (KR : Box (∀ w, FAt w → Calls Tryd.prog 8 #[.int .i64 n, .int .u8 F] w fun r w' => r = .returned (.tuple #[.int .u64 old, .int .i64 0]) ∧ Below w.heap.size w w')) (KC : Box (∀ w, Calls Tryd.prog 33 #[.int .u8 0, .int .u64 old, .int .u64 x] w fun r w' => r = .returned (.int .u64 v) ∧ Below w.heap.size w w')) (KW : Box (∀ w, FAt w → Calls Tryd.prog 10 #[.int .i64 n, .int .u8 F, .int .u64 v] w fun r w' => r = .returned (.tuple #[.int .u8 now, .int .i64 0]) ∧ Below w.heap.size w w')) (w : World) (hT : FAt w) : Calls Tryd.prog 12 #[.int .u8 0, .int .i64 n, .int .u8 F, .int .u64 x, .bool false] w fun r w' => r = .returned (.tuple #[.int .u64 old, .int .u8 now, .bool true, .int .i64 0]) ∧ Below w.heap.size w w' := by
  have FF := box hT
  clear hT
  have B0 : Below w.heap.size w w := (Below.refl _ _)
  go_enter Tryd.func12, Tryd.ntmps12
  go_wp2_with fail
  refine (KR.out _ (fatB FF.out B0)).mono ?_
  rintro r w1 ⟨rfl, b1⟩
  have B1 : Below w.heap.size w w1 := btr B0 b1
  clear b1 B0 
  go_wp2_with fail
  refine (KC.out _).mono ?_
  rintro r w2 ⟨rfl, b2⟩
  have B2 : Below w.heap.size w w2 := btr B1 b2
  clear b2 B1 
  go_wp2_with fail
  refine (KW.out _ (fatB FF.out B2)).mono ?_
  rintro r w3 ⟨rfl, b3⟩
  have B3 : Below w.heap.size w w3 := btr B2 b3
  clear b3 B2 
  go_wp2
  try simp only [Exit.inBlock, Exit.then]
  refine bodyPost_ret (results_tmp4 rfl _ _ _) rfl ?_
  exact ⟨rfl, B3⟩
set_option maxRecDepth 100000 in
set_option maxHeartbeats 8000000 in
theorem pc_act_1 (n F x old v now : Int) (KR : Box (∀ w, FAt w → Calls Tryd.prog 8 #[.int .i64 n, .int .u8 F] w fun r w' => r = .returned (.tuple #[.int .u64 old, .int .i64 0]) ∧ Below w.heap.size w w')) (KC : Box (∀ w, Calls Tryd.prog 33 #[.int .u8 1, .int .u64 old, .int .u64 x] w fun r w' => r = .returned (.int .u64 v) ∧ Below w.heap.size w w')) (KW : Box (∀ w, FAt w → Calls Tryd.prog 10 #[.int .i64 n, .int .u8 F, .int .u64 v] w fun r w' => r = .returned (.tuple #[.int .u8 now, .int .i64 0]) ∧ Below w.heap.size w w')) (w : World) (hT : FAt w) : Calls Tryd.prog 12 #[.int .u8 1, .int .i64 n, .int .u8 F, .int .u64 x, .bool false] w fun r w' => r = .returned (.tuple #[.int .u64 old, .int .u8 now, .bool true, .int .i64 0]) ∧ Below w.heap.size w w' := by
  have FF := box hT
  clear hT
  have B0 : Below w.heap.size w w := (Below.refl _ _)
  go_enter Tryd.func12, Tryd.ntmps12
  go_wp2_with fail
  refine (KR.out _ (fatB FF.out B0)).mono ?_
  rintro r w1 ⟨rfl, b1⟩
  have B1 : Below w.heap.size w w1 := btr B0 b1
  clear b1 B0 
  go_wp2_with fail
  refine (KC.out _).mono ?_
  rintro r w2 ⟨rfl, b2⟩
  have B2 : Below w.heap.size w w2 := btr B1 b2
  clear b2 B1 
  go_wp2_with fail
  refine (KW.out _ (fatB FF.out B2)).mono ?_
  rintro r w3 ⟨rfl, b3⟩
  have B3 : Below w.heap.size w w3 := btr B2 b3
  clear b3 B2 
  go_wp2
  try simp only [Exit.inBlock, Exit.then]
  refine bodyPost_ret (results_tmp4 rfl _ _ _) rfl ?_
  exact ⟨rfl, B3⟩
set_option maxRecDepth 100000 in
set_option maxHeartbeats 8000000 in
theorem pc_act_2 (n F x old v now : Int) (KR : Box (∀ w, FAt w → Calls Tryd.prog 8 #[.int .i64 n, .int .u8 F] w fun r w' => r = .returned (.tuple #[.int .u64 old, .int .i64 0]) ∧ Below w.heap.size w w')) (KC : Box (∀ w, Calls Tryd.prog 33 #[.int .u8 2, .int .u64 old, .int .u64 x] w fun r w' => r = .returned (.int .u64 v) ∧ Below w.heap.size w w')) (KW : Box (∀ w, FAt w → Calls Tryd.prog 10 #[.int .i64 n, .int .u8 F, .int .u64 v] w fun r w' => r = .returned (.tuple #[.int .u8 now, .int .i64 0]) ∧ Below w.heap.size w w')) (w : World) (hT : FAt w) : Calls Tryd.prog 12 #[.int .u8 2, .int .i64 n, .int .u8 F, .int .u64 x, .bool false] w fun r w' => r = .returned (.tuple #[.int .u64 old, .int .u8 now, .bool true, .int .i64 0]) ∧ Below w.heap.size w w' := by
  have FF := box hT
  clear hT
  have B0 : Below w.heap.size w w := (Below.refl _ _)
  go_enter Tryd.func12, Tryd.ntmps12
  go_wp2_with fail
  refine (KR.out _ (fatB FF.out B0)).mono ?_
  rintro r w1 ⟨rfl, b1⟩
  have B1 : Below w.heap.size w w1 := btr B0 b1
  clear b1 B0 
  go_wp2_with fail
  refine (KC.out _).mono ?_
  rintro r w2 ⟨rfl, b2⟩
  have B2 : Below w.heap.size w w2 := btr B1 b2
  clear b2 B1 
  go_wp2_with fail
  refine (KW.out _ (fatB FF.out B2)).mono ?_
  rintro r w3 ⟨rfl, b3⟩
  have B3 : Below w.heap.size w w3 := btr B2 b3
  clear b3 B2 
  go_wp2
  try simp only [Exit.inBlock, Exit.then]
  refine bodyPost_ret (results_tmp4 rfl _ _ _) rfl ?_
  exact ⟨rfl, B3⟩
set_option maxRecDepth 100000 in
set_option maxHeartbeats 8000000 in
theorem pc_mode_e (F rm : Int) (h : decide (7 < rm) = true) (w : World) : Calls Tryd.prog 15 #[.int .u8 F, .int .u8 rm] w fun r w' => r = .returned (.tuple #[.int .u8 0, .int .i64 2]) ∧ Below w.heap.size w w' := by
  have B0 : Below w.heap.size w w := (Below.refl _ _)
  go_enter Tryd.func15, Tryd.ntmps15
  go_wp2
  go_ret2
  exact ⟨rfl, B0⟩
set_option maxRecDepth 100000 in
set_option maxHeartbeats 8000000 in
theorem pc_mode_n (F rm : Int) (h : decide (7 < rm) = false) (h7 : (rm == 7) = false) (h4 : decide (4 < rm) = true) (w : World) : Calls Tryd.prog 15 #[.int .u8 F, .int .u8 rm] w fun r w' => r = .returned (.tuple #[.int .u8 0, .int .i64 211]) ∧ Below w.heap.size w w' := by
  have B0 : Below w.heap.size w w := (Below.refl _ _)
  go_enter Tryd.func15, Tryd.ntmps15
  go_wp2
  go_ret2
  exact ⟨rfl, B0⟩
set_option maxRecDepth 100000 in
set_option maxHeartbeats 8000000 in
theorem pc_mode_y (F rm : Int) (h : decide (7 < rm) = false) (h7 : (rm == 7) = false) (h4 : decide (4 < rm) = false) (w : World) : Calls Tryd.prog 15 #[.int .u8 F, .int .u8 rm] w fun r w' => r = .returned (.tuple #[.int .u8 rm, .int .i64 0]) ∧ Below w.heap.size w w' := by
  have B0 : Below w.heap.size w w := (Below.refl _ _)
  go_enter Tryd.func15, Tryd.ntmps15
  go_wp2
  go_ret2
  exact ⟨rfl, B0⟩
set_option maxRecDepth 100000 in
set_option maxHeartbeats 8000000 in
theorem pc_mode_dn (F q g : Int) (KP : Box (∀ w, Calls Tryd.prog 21 #[.int .u8 F] w fun r w' => r = .returned (.tuple #[.int .u8 q, .int .u8 g]) ∧ Below w.heap.size w w')) (h4 : decide (4 < q) = true) (w : World) : Calls Tryd.prog 15 #[.int .u8 F, .int .u8 7] w fun r w' => r = .returned (.tuple #[.int .u8 0, .int .i64 211]) ∧ Below w.heap.size w w' := by
  have B0 : Below w.heap.size w w := (Below.refl _ _)
  go_enter Tryd.func15, Tryd.ntmps15
  go_wp2_with fail
  refine (KP.out _).mono ?_
  rintro r w1 ⟨rfl, b1⟩
  have B1 : Below w.heap.size w w1 := btr B0 b1
  clear b1 B0 
  go_wp2
  go_ret2
  exact ⟨rfl, B1⟩
set_option maxRecDepth 100000 in
set_option maxHeartbeats 8000000 in
theorem pc_mode_dy (F q g : Int) (KP : Box (∀ w, Calls Tryd.prog 21 #[.int .u8 F] w fun r w' => r = .returned (.tuple #[.int .u8 q, .int .u8 g]) ∧ Below w.heap.size w w')) (h4 : decide (4 < q) = false) (w : World) : Calls Tryd.prog 15 #[.int .u8 F, .int .u8 7] w fun r w' => r = .returned (.tuple #[.int .u8 q, .int .i64 0]) ∧ Below w.heap.size w w' := by
  have B0 : Below w.heap.size w w := (Below.refl _ _)
  go_enter Tryd.func15, Tryd.ntmps15
  go_wp2_with fail
  refine (KP.out _).mono ?_
  rintro r w1 ⟨rfl, b1⟩
  have B1 : Below w.heap.size w w1 := btr B0 b1
  clear b1 B0 
  go_wp2
  go_ret2
  exact ⟨rfl, B1⟩
set_option maxRecDepth 100000 in
set_option maxHeartbeats 8000000 in
theorem pc_parts (F : Nat) (a b : Int) (ha : ((F : Nat) : Int) / 32 = a) (hb : bits .and .u8 ((F : Nat) : Int) 31 = b) (w : World) : Calls Tryd.prog 21 #[.int .u8 (F : Nat)] w fun r w' => r = .returned (.tuple #[.int .u8 a, .int .u8 b]) ∧ Below w.heap.size w w' := by
  have B0 : Below w.heap.size w w := (Below.refl _ _)
  go_enter Tryd.func21, Tryd.ntmps21
  go_wp2
  go_ret2
  exact ⟨rfl, B0⟩
theorem pc_flag (i : Nat) (v : Int) (hv : (16 : Int) / 2 ^ min (IntKind.u64.wrap ((i : Nat) : Int)).toNat 8 = v) (w : World) : Calls Tryd.prog 37 #[.int .i64 (i : Nat)] w fun r w' => r = .returned (.int .u8 v) ∧ Below w.heap.size w w' := by
  have B0 : Below w.heap.size w w := (Below.refl _ _)
  go_enter Tryd.func37, Tryd.ntmps37
  go_wp2
  go_ret
  exact ⟨rfl, B0⟩
theorem ixw0 (w : World) : (Instr.index 65 (.agg #[.string ⟨#[110, 118]⟩, .string ⟨#[100, 122]⟩, .string ⟨#[111, 102]⟩, .string ⟨#[117, 102]⟩, .string ⟨#[110, 120]⟩]) (.int .i64 0)).run Tryd.prog w = .ok (.string ⟨#[110, 118]⟩) w := by kernel_rfl
theorem ixw1 (w : World) : (Instr.index 65 (.agg #[.string ⟨#[110, 118]⟩, .string ⟨#[100, 122]⟩, .string ⟨#[111, 102]⟩, .string ⟨#[117, 102]⟩, .string ⟨#[110, 120]⟩]) (.int .i64 1)).run Tryd.prog w = .ok (.string ⟨#[100, 122]⟩) w := by kernel_rfl
theorem ixw2 (w : World) : (Instr.index 65 (.agg #[.string ⟨#[110, 118]⟩, .string ⟨#[100, 122]⟩, .string ⟨#[111, 102]⟩, .string ⟨#[117, 102]⟩, .string ⟨#[110, 120]⟩]) (.int .i64 2)).run Tryd.prog w = .ok (.string ⟨#[111, 102]⟩) w := by kernel_rfl
theorem ixw3 (w : World) : (Instr.index 65 (.agg #[.string ⟨#[110, 118]⟩, .string ⟨#[100, 122]⟩, .string ⟨#[111, 102]⟩, .string ⟨#[117, 102]⟩, .string ⟨#[110, 120]⟩]) (.int .i64 3)).run Tryd.prog w = .ok (.string ⟨#[117, 102]⟩) w := by kernel_rfl
theorem ixw4 (w : World) : (Instr.index 65 (.agg #[.string ⟨#[110, 118]⟩, .string ⟨#[100, 122]⟩, .string ⟨#[111, 102]⟩, .string ⟨#[117, 102]⟩, .string ⟨#[110, 120]⟩]) (.int .i64 4)).run Tryd.prog w = .ok (.string ⟨#[110, 120]⟩) w := by kernel_rfl
def wdA (k : Nat) : ByteArray := if k = 0 then ⟨#[110, 118]⟩ else if k = 1 then ⟨#[100, 122]⟩ else if k = 2 then ⟨#[111, 102]⟩ else if k = 3 then ⟨#[117, 102]⟩ else ⟨#[110, 120]⟩
def wlK (g : Nat) : Nat → List ByteArray
  | 0 => []
  | k + 1 => wlK g k ++ (if g.testBit (4 - k) = true then [wdA k] else [])
theorem wlK_len (g : Nat) : ∀ k, (wlK g k).length ≤ k
  | 0 => Nat.le_refl _
  | k + 1 => by
    have := wlK_len g k
    simp only [wlK, List.length_append]
    split <;> simp <;> omega
theorem own_mo {w w' : World} {base : Nat} {e : TypeId} {size : Nat} {v : Value} {n : Nat} {xs : List Value} (h : w.ownsRow base e size v n xs) (hb : Below w.heap.size w w') : w'.ownsRow base e size v n xs := by
  refine ⟨h.1, ?_⟩
  rcases h.2 with q | ⟨g, cap, cur, h1, h2, h3, h4⟩
  · exact Or.inl q
  · exact Or.inr ⟨g, cap, cur, h1, h2, heap_of hb _ _ _ h3, h4⟩
theorem fl_bit : ∀ g, g < 32 → ∀ k, k < 5 → (bits .and .u8 ((g : Nat) : Int) ((16 : Int) / 2 ^ k) != 0) = g.testBit (4 - k) := by decide +kernel
def txJ (g : Nat) : List UInt8 := Lib.join ((wlK g 5).map (·.data.toList)) [43]
set_option maxRecDepth 100000 in
set_option maxHeartbeats 8000000 in
theorem pc_joined0 (w : World) : Calls Tryd.prog 35 #[.int .u8 0] w fun r w' => r = .returned (.string ⟨#[45]⟩) ∧ Below w.heap.size w w' := by
  have B0 : Below w.heap.size w w := (Below.refl _ _)
  go_enter Tryd.func35, Tryd.ntmps35
  go_wp2
  go_ret
  exact ⟨rfl, B0⟩
set_option maxRecDepth 100000 in
set_option maxHeartbeats 8000000 in
theorem pc_joined (g : Nat) (hg : g < 32) (h0 : (((g : Nat) : Int) == 0) = false) (t : ByteArray) (w : World) (KJ : Box (∀ (W : World) (b : Nat) (v : Value) (n : Nat), W.ownsRow b 9 1 v n ((wlK g 5).map Value.string) → Calls Tryd.prog 38 #[v, .string ⟨#[43]⟩] W fun r w' => r = .returned (.string t) ∧ Below W.heap.size W w')) (hT : FAt w) : Calls Tryd.prog 35 #[.int .u8 (g : Nat)] w fun r w' => r = .returned (.string t) ∧ Below w.heap.size w w' := by
  obtain ⟨i0, hi, hz0, hz1, hz2⟩ := info_parts (show (Tryd.prog.info? 9).map (fun i => (i.zero, i.size, i.bytes)) = some (some (.string ⟨#[]⟩), 1, 16) by kernel_rfl)
  have c0 := fat_wd hT 0 (.string ⟨#[110, 118]⟩) (by decide) rfl
  have c1 := fat_wd hT 1 (.string ⟨#[100, 122]⟩) (by decide) rfl
  have c2 := fat_wd hT 2 (.string ⟨#[111, 102]⟩) (by decide) rfl
  have c3 := fat_wd hT 3 (.string ⟨#[117, 102]⟩) (by decide) rfl
  have c4 := fat_wd hT 4 (.string ⟨#[110, 120]⟩) (by decide) rfl
  have KF0 := box (fun w => pc_flag 0 16 rfl w)
  have KF1 := box (fun w => pc_flag 1 8 rfl w)
  have KF2 := box (fun w => pc_flag 2 4 rfl w)
  have KF3 := box (fun w => pc_flag 3 2 rfl w)
  have KF4 := box (fun w => pc_flag 4 1 rfl w)
  clear hT
  go_enter Tryd.func35, Tryd.ntmps35
  go_wp2
  go_loopw [3, 9] (fun v i wr => ∃ (k : Nat) (j : Int) (ao : Option Addr) (cv : Nat), k ≤ 5 ∧ j = (k : Int) ∧ i = .int .i64 j ∧ v = .slice ao (wlK g k).length cv ∧ wr.ownsRow w.heap.size 9 1 v (wlK g k).length ((wlK g k).map Value.string) ∧ Below w.heap.size w wr) (fun _ i _ => 5 - (intOf i).toNat)
  case atStart => exact ⟨0, 0, none, 0, Nat.zero_le _, rfl, rfl, rfl, World.ownsRow_nil _ _ _ _, Below.refl _ _⟩
  case round =>
    obtain ⟨k, j, ao, cv, hk, hj, rfl, rfl, hown, hB⟩ := hrel
    clear c0 c1 c2 c3 c4
    rcases (show k = 0 ∨ k = 1 ∨ k = 2 ∨ k = 3 ∨ k = 4 ∨ k = 5 from by omega) with rfl | rfl | rfl | rfl | rfl | rfl
    · obtain rfl : j = 0 := hj
      have hix := ixw0
      have hpl := wlK_len g 0
      have hpk : wlK g 1 = wlK g 0 ++ (if g.testBit 4 = true then [⟨#[110, 118]⟩] else []) := rfl
      have hm := fl_bit g hg 0 (by decide)
      rw [show (16 : Int) / 2 ^ 0 = 16 from rfl, show 4 - 0 = 4 from rfl] at hm
      obtain ⟨m, em⟩ : ∃ m, bits .and .u8 ((g : Nat) : Int) 16 = m := ⟨_, rfl⟩
      rw [em] at hm
      cases q : g.testBit 4
      · rw [q] at hm hpk
        rw [if_neg (by decide), List.append_nil] at hpk
        go_wp2_with fail
        refine (KF0.out _).mono ?_
        rintro r w1 ⟨rfl, b1⟩
        have hB1 := btr hB b1
        have ho1 := own_mo hown b1
        go_wp2
        go_roundw
        case rel => exact ⟨1, 1, ao, cv, by omega, rfl, by first | rfl | simp, by rw [hpk], by rw [hpk]; exact ho1, hB1⟩
        case measure => simp [intOf]
      · rw [q] at hm hpk
        rw [if_pos rfl] at hpk
        go_wp2_with fail
        refine (KF0.out _).mono ?_
        rintro r w1 ⟨rfl, b1⟩
        have hB1 := btr hB b1
        have ho1 := own_mo hown b1
        have hs1 := hB1.size
        go_wp2_with (first
          | (at_builtin; refine wpList_append_own _ rfl _ _ 61 rfl w.heap.size 9 i0 (.string ⟨#[]⟩) 1 16 Tryd.underlying61 hi hz0 hz1 hz2 rfl (by decide) _ _ _ rfl (ho1.alloc _) ⟨w1.heap.size, 0, none⟩ 1 1 [.string ⟨#[110, 118]⟩] rfl rfl (cell_one_new _ _ _) (fun x hx => by simp at hx; subst hx; rfl) (by unfold maxLen; omega) (by omega) (by simp only [size_al]; omega) ?_; intro v' w3 hown' hgrow3 hnil3))
        go_roundw
        case rel =>
          obtain ⟨g3, cap3, hv3⟩ : ∃ g3 cap3, v' = .slice (some ⟨g3, 0, none⟩) ((wlK g 0).length + 1) cap3 := by
            rcases hown'.2 with ⟨_, h⟩ | ⟨g3, cap3, _, h, _⟩
            · omega
            · exact ⟨g3, cap3, h⟩
          exact ⟨1, 1, some ⟨g3, 0, none⟩, cap3, by omega, rfl, by first | rfl | simp, by rw [hv3, hpk]; simp, by rw [hpk, List.map_append, List.length_append]; exact hown', (hB1.alloc hs1 _).grown hgrow3 (by simp only [size_al]; omega) (fun q hq => by have := (ho1.lt q hq).1; omega)⟩
        case measure => simp [intOf]
    · obtain rfl : j = 1 := hj
      have hix := ixw1
      have hpl := wlK_len g 1
      have hpk : wlK g 2 = wlK g 1 ++ (if g.testBit 3 = true then [⟨#[100, 122]⟩] else []) := rfl
      have hm := fl_bit g hg 1 (by decide)
      rw [show (16 : Int) / 2 ^ 1 = 8 from rfl, show 4 - 1 = 3 from rfl] at hm
      obtain ⟨m, em⟩ : ∃ m, bits .and .u8 ((g : Nat) : Int) 8 = m := ⟨_, rfl⟩
      rw [em] at hm
      cases q : g.testBit 3
      · rw [q] at hm hpk
        rw [if_neg (by decide), List.append_nil] at hpk
        go_wp2_with fail
        refine (KF1.out _).mono ?_
        rintro r w1 ⟨rfl, b1⟩
        have hB1 := btr hB b1
        have ho1 := own_mo hown b1
        go_wp2
        go_roundw
        case rel => exact ⟨2, 2, ao, cv, by omega, rfl, by first | rfl | simp, by rw [hpk], by rw [hpk]; exact ho1, hB1⟩
        case measure => simp [intOf]
      · rw [q] at hm hpk
        rw [if_pos rfl] at hpk
        go_wp2_with fail
        refine (KF1.out _).mono ?_
        rintro r w1 ⟨rfl, b1⟩
        have hB1 := btr hB b1
        have ho1 := own_mo hown b1
        have hs1 := hB1.size
        go_wp2_with (first
          | (at_builtin; refine wpList_append_own _ rfl _ _ 61 rfl w.heap.size 9 i0 (.string ⟨#[]⟩) 1 16 Tryd.underlying61 hi hz0 hz1 hz2 rfl (by decide) _ _ _ rfl (ho1.alloc _) ⟨w1.heap.size, 0, none⟩ 1 1 [.string ⟨#[100, 122]⟩] rfl rfl (cell_one_new _ _ _) (fun x hx => by simp at hx; subst hx; rfl) (by unfold maxLen; omega) (by omega) (by simp only [size_al]; omega) ?_; intro v' w3 hown' hgrow3 hnil3))
        go_roundw
        case rel =>
          obtain ⟨g3, cap3, hv3⟩ : ∃ g3 cap3, v' = .slice (some ⟨g3, 0, none⟩) ((wlK g 1).length + 1) cap3 := by
            rcases hown'.2 with ⟨_, h⟩ | ⟨g3, cap3, _, h, _⟩
            · omega
            · exact ⟨g3, cap3, h⟩
          exact ⟨2, 2, some ⟨g3, 0, none⟩, cap3, by omega, rfl, by first | rfl | simp, by rw [hv3, hpk]; simp, by rw [hpk, List.map_append, List.length_append]; exact hown', (hB1.alloc hs1 _).grown hgrow3 (by simp only [size_al]; omega) (fun q hq => by have := (ho1.lt q hq).1; omega)⟩
        case measure => simp [intOf]
    · obtain rfl : j = 2 := hj
      have hix := ixw2
      have hpl := wlK_len g 2
      have hpk : wlK g 3 = wlK g 2 ++ (if g.testBit 2 = true then [⟨#[111, 102]⟩] else []) := rfl
      have hm := fl_bit g hg 2 (by decide)
      rw [show (16 : Int) / 2 ^ 2 = 4 from rfl, show 4 - 2 = 2 from rfl] at hm
      obtain ⟨m, em⟩ : ∃ m, bits .and .u8 ((g : Nat) : Int) 4 = m := ⟨_, rfl⟩
      rw [em] at hm
      cases q : g.testBit 2
      · rw [q] at hm hpk
        rw [if_neg (by decide), List.append_nil] at hpk
        go_wp2_with fail
        refine (KF2.out _).mono ?_
        rintro r w1 ⟨rfl, b1⟩
        have hB1 := btr hB b1
        have ho1 := own_mo hown b1
        go_wp2
        go_roundw
        case rel => exact ⟨3, 3, ao, cv, by omega, rfl, by first | rfl | simp, by rw [hpk], by rw [hpk]; exact ho1, hB1⟩
        case measure => simp [intOf]
      · rw [q] at hm hpk
        rw [if_pos rfl] at hpk
        go_wp2_with fail
        refine (KF2.out _).mono ?_
        rintro r w1 ⟨rfl, b1⟩
        have hB1 := btr hB b1
        have ho1 := own_mo hown b1
        have hs1 := hB1.size
        go_wp2_with (first
          | (at_builtin; refine wpList_append_own _ rfl _ _ 61 rfl w.heap.size 9 i0 (.string ⟨#[]⟩) 1 16 Tryd.underlying61 hi hz0 hz1 hz2 rfl (by decide) _ _ _ rfl (ho1.alloc _) ⟨w1.heap.size, 0, none⟩ 1 1 [.string ⟨#[111, 102]⟩] rfl rfl (cell_one_new _ _ _) (fun x hx => by simp at hx; subst hx; rfl) (by unfold maxLen; omega) (by omega) (by simp only [size_al]; omega) ?_; intro v' w3 hown' hgrow3 hnil3))
        go_roundw
        case rel =>
          obtain ⟨g3, cap3, hv3⟩ : ∃ g3 cap3, v' = .slice (some ⟨g3, 0, none⟩) ((wlK g 2).length + 1) cap3 := by
            rcases hown'.2 with ⟨_, h⟩ | ⟨g3, cap3, _, h, _⟩
            · omega
            · exact ⟨g3, cap3, h⟩
          exact ⟨3, 3, some ⟨g3, 0, none⟩, cap3, by omega, rfl, by first | rfl | simp, by rw [hv3, hpk]; simp, by rw [hpk, List.map_append, List.length_append]; exact hown', (hB1.alloc hs1 _).grown hgrow3 (by simp only [size_al]; omega) (fun q hq => by have := (ho1.lt q hq).1; omega)⟩
        case measure => simp [intOf]
    · obtain rfl : j = 3 := hj
      have hix := ixw3
      have hpl := wlK_len g 3
      have hpk : wlK g 4 = wlK g 3 ++ (if g.testBit 1 = true then [⟨#[117, 102]⟩] else []) := rfl
      have hm := fl_bit g hg 3 (by decide)
      rw [show (16 : Int) / 2 ^ 3 = 2 from rfl, show 4 - 3 = 1 from rfl] at hm
      obtain ⟨m, em⟩ : ∃ m, bits .and .u8 ((g : Nat) : Int) 2 = m := ⟨_, rfl⟩
      rw [em] at hm
      cases q : g.testBit 1
      · rw [q] at hm hpk
        rw [if_neg (by decide), List.append_nil] at hpk
        go_wp2_with fail
        refine (KF3.out _).mono ?_
        rintro r w1 ⟨rfl, b1⟩
        have hB1 := btr hB b1
        have ho1 := own_mo hown b1
        go_wp2
        go_roundw
        case rel => exact ⟨4, 4, ao, cv, by omega, rfl, by first | rfl | simp, by rw [hpk], by rw [hpk]; exact ho1, hB1⟩
        case measure => simp [intOf]
      · rw [q] at hm hpk
        rw [if_pos rfl] at hpk
        go_wp2_with fail
        refine (KF3.out _).mono ?_
        rintro r w1 ⟨rfl, b1⟩
        have hB1 := btr hB b1
        have ho1 := own_mo hown b1
        have hs1 := hB1.size
        go_wp2_with (first
          | (at_builtin; refine wpList_append_own _ rfl _ _ 61 rfl w.heap.size 9 i0 (.string ⟨#[]⟩) 1 16 Tryd.underlying61 hi hz0 hz1 hz2 rfl (by decide) _ _ _ rfl (ho1.alloc _) ⟨w1.heap.size, 0, none⟩ 1 1 [.string ⟨#[117, 102]⟩] rfl rfl (cell_one_new _ _ _) (fun x hx => by simp at hx; subst hx; rfl) (by unfold maxLen; omega) (by omega) (by simp only [size_al]; omega) ?_; intro v' w3 hown' hgrow3 hnil3))
        go_roundw
        case rel =>
          obtain ⟨g3, cap3, hv3⟩ : ∃ g3 cap3, v' = .slice (some ⟨g3, 0, none⟩) ((wlK g 3).length + 1) cap3 := by
            rcases hown'.2 with ⟨_, h⟩ | ⟨g3, cap3, _, h, _⟩
            · omega
            · exact ⟨g3, cap3, h⟩
          exact ⟨4, 4, some ⟨g3, 0, none⟩, cap3, by omega, rfl, by first | rfl | simp, by rw [hv3, hpk]; simp, by rw [hpk, List.map_append, List.length_append]; exact hown', (hB1.alloc hs1 _).grown hgrow3 (by simp only [size_al]; omega) (fun q hq => by have := (ho1.lt q hq).1; omega)⟩
        case measure => simp [intOf]
    · obtain rfl : j = 4 := hj
      have hix := ixw4
      have hpl := wlK_len g 4
      have hpk : wlK g 5 = wlK g 4 ++ (if g.testBit 0 = true then [⟨#[110, 120]⟩] else []) := rfl
      have hm := fl_bit g hg 4 (by decide)
      rw [show (16 : Int) / 2 ^ 4 = 1 from rfl, show 4 - 4 = 0 from rfl] at hm
      obtain ⟨m, em⟩ : ∃ m, bits .and .u8 ((g : Nat) : Int) 1 = m := ⟨_, rfl⟩
      rw [em] at hm
      cases q : g.testBit 0
      · rw [q] at hm hpk
        rw [if_neg (by decide), List.append_nil] at hpk
        go_wp2_with fail
        refine (KF4.out _).mono ?_
        rintro r w1 ⟨rfl, b1⟩
        have hB1 := btr hB b1
        have ho1 := own_mo hown b1
        go_wp2
        go_roundw
        case rel => exact ⟨5, 5, ao, cv, by omega, rfl, by first | rfl | simp, by rw [hpk], by rw [hpk]; exact ho1, hB1⟩
        case measure => simp [intOf]
      · rw [q] at hm hpk
        rw [if_pos rfl] at hpk
        go_wp2_with fail
        refine (KF4.out _).mono ?_
        rintro r w1 ⟨rfl, b1⟩
        have hB1 := btr hB b1
        have ho1 := own_mo hown b1
        have hs1 := hB1.size
        go_wp2_with (first
          | (at_builtin; refine wpList_append_own _ rfl _ _ 61 rfl w.heap.size 9 i0 (.string ⟨#[]⟩) 1 16 Tryd.underlying61 hi hz0 hz1 hz2 rfl (by decide) _ _ _ rfl (ho1.alloc _) ⟨w1.heap.size, 0, none⟩ 1 1 [.string ⟨#[110, 120]⟩] rfl rfl (cell_one_new _ _ _) (fun x hx => by simp at hx; subst hx; rfl) (by unfold maxLen; omega) (by omega) (by simp only [size_al]; omega) ?_; intro v' w3 hown' hgrow3 hnil3))
        go_roundw
        case rel =>
          obtain ⟨g3, cap3, hv3⟩ : ∃ g3 cap3, v' = .slice (some ⟨g3, 0, none⟩) ((wlK g 4).length + 1) cap3 := by
            rcases hown'.2 with ⟨_, h⟩ | ⟨g3, cap3, _, h, _⟩
            · omega
            · exact ⟨g3, cap3, h⟩
          exact ⟨5, 5, some ⟨g3, 0, none⟩, cap3, by omega, rfl, by first | rfl | simp, by rw [hv3, hpk]; simp, by rw [hpk, List.map_append, List.length_append]; exact hown', (hB1.alloc hs1 _).grown hgrow3 (by simp only [size_al]; omega) (fun q hq => by have := (ho1.lt q hq).1; omega)⟩
        case measure => simp [intOf]
    · obtain rfl : j = 5 := hj
      go_wp2_with fail
      refine (KJ.out _ _ _ _ hown).mono ?_
      rintro r w1 ⟨rfl, b1⟩
      go_wp2
      go_ret
      exact ⟨rfl, btr hB b1⟩
end Go.Proofs.YtinagedilgihjaaDoor
namespace Go.Proofs.YtinagedilgihjaaDoor
set_option maxRecDepth 100000
set_option maxHeartbeats 40000000
set_option maxRecDepth 100000
open Go.RowKit WMath
set_option linter.unusedSimpArgs false
set_option linter.unusedVariables false
set_option maxRecDepth 100000 in
set_option maxHeartbeats 8000000 in
theorem pc_text_e (g : Int) (h : decide (31 < g) = true) (w : World) : Calls Tryd.prog 26 #[.int .u8 g] w fun r w' => r = .returned (.tuple #[.string ⟨#[]⟩, .int .i64 2]) ∧ Below w.heap.size w w' := by
  have B0 : Below w.heap.size w w := (Below.refl _ _)
  go_enter Tryd.func26, Tryd.ntmps26
  go_wp2
  go_ret2
  exact ⟨rfl, B0⟩
theorem pc_text (g : Int) (t : ByteArray) (h : decide (31 < g) = false) (KJ : Box (∀ w, FAt w → Calls Tryd.prog 35 #[.int .u8 g] w fun r w' => r = .returned (.string t) ∧ Below w.heap.size w w')) (w : World) (hT : FAt w) : Calls Tryd.prog 26 #[.int .u8 g] w fun r w' => r = .returned (.tuple #[.string t, .int .i64 0]) ∧ Below w.heap.size w w' := by
  have FF := box hT
  clear hT
  have B0 : Below w.heap.size w w := (Below.refl _ _)
  go_enter Tryd.func26, Tryd.ntmps26
  go_wp2_with fail
  refine (KJ.out _ (fatB FF.out B0)).mono ?_
  rintro r w1 ⟨rfl, b1⟩
  have B1 : Below w.heap.size w w1 := btr B0 b1
  clear b1 B0 
  go_wp2
  go_ret2
  exact ⟨rfl, B1⟩
end Go.Proofs.YtinagedilgihjaaDoor
namespace Go.Proofs
open Go.Shelf
def Tryd.laysJoin_ren : Go.Shelf.Ren := ⟨fun | 156 => 38 | 165 => 40 | 166 => 41 | 169 => 42 | 240 => 44 | 241 => 45 | 276 => 50 | 277 => 51 | n => n, fun | 31 => 61 | 9 => 9 | 3 => 3 | 4 => 4 | 0 => 0 | 20 => 20 | 72 => 73 | 76 => 77 | 70 => 70 | 37 => 71 | 75 => 76 | 127 => 80 | 164 => 83 | 5 => 5 | 80 => 79 | n => n, fun | n => n⟩
theorem Tryd.laysJoin : Go.Proofs.Lays.n156 Tryd.prog Tryd.laysJoin_ren := {
  mixed := by kernel_rfl
  f156 := Tryd.func38.trans (congrArg some (by kernel_rfl))
  f165 := Tryd.func40.trans (congrArg some (by kernel_rfl))
  f166 := Tryd.func41.trans (congrArg some (by kernel_rfl))
  f169 := Tryd.func42.trans (congrArg some (by kernel_rfl))
  f240 := Tryd.func44.trans (congrArg some (by kernel_rfl))
  f241 := Tryd.func45.trans (congrArg some (by kernel_rfl))
  f276 := Tryd.func50.trans (congrArg some (by kernel_rfl))
  f277 := Tryd.func51.trans (congrArg some (by kernel_rfl))
  t0 := Tryd.underlying0
  a0 := Tryd.isAgg0
  z0 := Tryd.sizeOf0
  v0 := Tryd.zeroValue0
  t3 := Tryd.underlying3
  a3 := Tryd.isAgg3
  z3 := Tryd.sizeOf3
  v3 := Tryd.zeroValue3
  t4 := Tryd.underlying4
  a4 := Tryd.isAgg4
  z4 := Tryd.sizeOf4
  v4 := Tryd.zeroValue4
  t9 := Tryd.underlying9
  a9 := Tryd.isAgg9
  z9 := Tryd.sizeOf9
  v9 := Tryd.zeroValue9
  t20 := Tryd.underlying20
  a20 := Tryd.isAgg20
  z20 := Tryd.sizeOf20
  v20 := Tryd.zeroValue20
  t31 := Tryd.underlying61
  a31 := Tryd.isAgg61
  z31 := Tryd.sizeOf61
  v31 := Tryd.zeroValue61
  t37 := Tryd.underlying71
  a37 := Tryd.isAgg71
  z37 := Tryd.sizeOf71
  v37 := Tryd.zeroValue71
  t70 := Tryd.underlying70
  a70 := Tryd.isAgg70
  z70 := Tryd.sizeOf70
  v70 := Tryd.zeroValue70
  t72 := Tryd.underlying73
  a72 := Tryd.isAgg73
  z72 := Tryd.sizeOf73
  v72 := Tryd.zeroValue73
  t75 := Tryd.underlying76
  a75 := Tryd.isAgg76
  z75 := Tryd.sizeOf76
  v75 := Tryd.zeroValue76
  t76 := Tryd.underlying77
  a76 := Tryd.isAgg77
  z76 := Tryd.sizeOf77
  v76 := Tryd.zeroValue77
  t127 := Tryd.underlying80
  a127 := Tryd.isAgg80
  z127 := Tryd.sizeOf80
  v127 := Tryd.zeroValue80
  t164 := Tryd.underlying83
  a164 := Tryd.isAgg83
  z164 := Tryd.sizeOf83
  v164 := Tryd.zeroValue83 }
theorem Tryd.joinExtra : Builder.Extra Tryd.prog Tryd.laysJoin_ren := {
  sizeBuilder := by kernel_rfl
  liesBuilder := by kernel_rfl
  t5 := Tryd.underlying5
  a5 := Tryd.isAgg5
  z5 := Tryd.sizeOf5
  v5 := Tryd.zeroValue5
  infoByte := by kernel_rfl
  cellsByte := by kernel_rfl
  sizeByte := by kernel_rfl
  neB5 := by decide }
end Go.Proofs
