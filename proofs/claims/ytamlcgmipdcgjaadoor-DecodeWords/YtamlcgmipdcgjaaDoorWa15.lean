/-
  What the functions that the statement reaches return: part 15 (ZD, SL25).
-/
import Derived.Laws.AppendOwn
import Derived.Test.YtamlcgmipdcgjaaDoorRows
import Derived.OpenShut
import Derived.LaidMore
import Derived.Lib.LaidTab
import Derived.Stop.Joined
import Derived.Stop.LaidErr
import Derived.Test.YtamlcgmipdcgjaaDoorWa14
namespace Go.Proofs.YtamlcgmipdcgjaaDoor
set_option maxRecDepth 100000
set_option maxHeartbeats 40000000
set_option maxRecDepth 100000
open Go.RowKit Go.Shelf WMath
set_option linter.unusedSimpArgs false
set_option linter.unusedVariables false
theorem hE25 : ∀ args w, (callFunc 60 args).run Tryd.prog w = .ok (.enter 60 args) w := enters_of Tryd.func60 (by kernel_rfl) rfl
theorem fb25 : Box (∀ {w w' : World}, T24 w → Below w.heap.size w w' → T24 w') := box (fun h b => t24B h b)
theorem cF25 (x : Nat) (hx : x < 4294967296) : Box (∀ w, T24 w → Calls Tryd.prog 23 #[.int .u32 (x : Nat)] w fun r w' => r = .returned (.tuple #[.agg (rwC (ndO (fdL x)).1), .bool (fdL x).isSome]) ∧ Below w.heap.size w w') := box (fun w hT => t_find x hx hE25 _ _ rfl w hT)
theorem csr_le {x : Nat} {p : Nm} (h : fdL x = some p) (hl : p.1.lay = 8 ∨ p.1.lay = 9) : fld x 20 12 ≤ 3 := by
  obtain ⟨hm, hf⟩ := fd_mem h
  unfold fitsL at hf
  simp only [Bool.and_eq_true, Bool.not_eq_true', Bool.or_eq_true, decide_eq_true_eq, Bool.and_eq_false_iff, decide_eq_false_iff_not] at hf
  obtain ⟨⟨_, hr⟩, hc⟩ := hf
  have a6 : fld x 20 12 = x / 1048576 % 4096 := rfl
  omega
set_option maxRecDepth 100000 in
set_option maxHeartbeats 8000000 in
theorem k_dec1 (x : Nat) (hx : x < 4294967296) (p : Nm) (h : fdL x = some p) (hl : p.1.lay = 1) (KF : Box (∀ w, T24 w → Calls Tryd.prog 23 #[.int .u32 (x : Nat)] w fun r w' => r = .returned (.tuple #[.agg (rwC p.1), .bool true]) ∧ Below w.heap.size w w')) (w : World) (hT : T24 w) : Calls Tryd.prog 9 #[.int .u32 (x : Nat)] w fun r w' => r = .returned (.tuple #[.agg (inC (dcI p.1 x)), .int .i64 0]) ∧ Below w.heap.size w w' := by
  refine t_dec_y x p.1 41 _ (fun w => by rw [hl]; rfl) (box (fun b w hb => ?_)) (enters_of Tryd.func41 (by kernel_rfl) rfl) KF w hT
  have q := t_rd1 x hx _ b 28 w hb
  unfold dcI
  simp only [hl]
  simpa using q
set_option maxRecDepth 100000 in
set_option maxHeartbeats 8000000 in
theorem k_dec2 (x : Nat) (hx : x < 4294967296) (p : Nm) (h : fdL x = some p) (hl : p.1.lay = 2) (KF : Box (∀ w, T24 w → Calls Tryd.prog 23 #[.int .u32 (x : Nat)] w fun r w' => r = .returned (.tuple #[.agg (rwC p.1), .bool true]) ∧ Below w.heap.size w w')) (w : World) (hT : T24 w) : Calls Tryd.prog 9 #[.int .u32 (x : Nat)] w fun r w' => r = .returned (.tuple #[.agg (inC (dcI p.1 x)), .int .i64 0]) ∧ Below w.heap.size w w' := by
  refine t_dec_y x p.1 44 _ (fun w => by rw [hl]; rfl) (box (fun b w hb => ?_)) (enters_of Tryd.func44 (by kernel_rfl) rfl) KF w hT
  have q := t_rd2 x hx _ b 28 w hb
  unfold dcI
  simp only [hl]
  simpa using q
set_option maxRecDepth 100000 in
set_option maxHeartbeats 8000000 in
theorem k_dec3 (x : Nat) (hx : x < 4294967296) (p : Nm) (h : fdL x = some p) (hl : p.1.lay = 3) (KF : Box (∀ w, T24 w → Calls Tryd.prog 23 #[.int .u32 (x : Nat)] w fun r w' => r = .returned (.tuple #[.agg (rwC p.1), .bool true]) ∧ Below w.heap.size w w')) (w : World) (hT : T24 w) : Calls Tryd.prog 9 #[.int .u32 (x : Nat)] w fun r w' => r = .returned (.tuple #[.agg (inC (dcI p.1 x)), .int .i64 0]) ∧ Below w.heap.size w w' := by
  refine t_dec_y x p.1 45 _ (fun w => by rw [hl]; rfl) (box (fun b w hb => ?_)) (enters_of Tryd.func45 (by kernel_rfl) rfl) KF w hT
  have q := t_rd3 x hx _ b 28 w hb
  unfold dcI
  simp only [hl]
  simpa using q
set_option maxRecDepth 100000 in
set_option maxHeartbeats 8000000 in
theorem k_dec4 (x : Nat) (hx : x < 4294967296) (p : Nm) (h : fdL x = some p) (hl : p.1.lay = 4) (KF : Box (∀ w, T24 w → Calls Tryd.prog 23 #[.int .u32 (x : Nat)] w fun r w' => r = .returned (.tuple #[.agg (rwC p.1), .bool true]) ∧ Below w.heap.size w w')) (w : World) (hT : T24 w) : Calls Tryd.prog 9 #[.int .u32 (x : Nat)] w fun r w' => r = .returned (.tuple #[.agg (inC (dcI p.1 x)), .int .i64 0]) ∧ Below w.heap.size w w' := by
  refine t_dec_y x p.1 47 _ (fun w => by rw [hl]; rfl) (box (fun b w hb => ?_)) (enters_of Tryd.func47 (by kernel_rfl) rfl) KF w hT
  have q := t_rd4 x hx _ b 28 w hb
  unfold dcI
  simp only [hl]
  simpa using q
set_option maxRecDepth 100000 in
set_option maxHeartbeats 8000000 in
theorem k_dec5 (x : Nat) (hx : x < 4294967296) (p : Nm) (h : fdL x = some p) (hl : p.1.lay = 5) (KF : Box (∀ w, T24 w → Calls Tryd.prog 23 #[.int .u32 (x : Nat)] w fun r w' => r = .returned (.tuple #[.agg (rwC p.1), .bool true]) ∧ Below w.heap.size w w')) (w : World) (hT : T24 w) : Calls Tryd.prog 9 #[.int .u32 (x : Nat)] w fun r w' => r = .returned (.tuple #[.agg (inC (dcI p.1 x)), .int .i64 0]) ∧ Below w.heap.size w w' := by
  refine t_dec_y x p.1 48 _ (fun w => by rw [hl]; rfl) (box (fun b w hb => ?_)) (enters_of Tryd.func48 (by kernel_rfl) rfl) KF w hT
  have q := t_rd5 x hx _ b 28 w hb
  unfold dcI
  simp only [hl]
  simpa using q
set_option maxRecDepth 100000 in
set_option maxHeartbeats 8000000 in
theorem k_dec6 (x : Nat) (hx : x < 4294967296) (p : Nm) (h : fdL x = some p) (hl : p.1.lay = 6) (KF : Box (∀ w, T24 w → Calls Tryd.prog 23 #[.int .u32 (x : Nat)] w fun r w' => r = .returned (.tuple #[.agg (rwC p.1), .bool true]) ∧ Below w.heap.size w w')) (w : World) (hT : T24 w) : Calls Tryd.prog 9 #[.int .u32 (x : Nat)] w fun r w' => r = .returned (.tuple #[.agg (inC (dcI p.1 x)), .int .i64 0]) ∧ Below w.heap.size w w' := by
  refine t_dec_y x p.1 49 _ (fun w => by rw [hl]; rfl) (box (fun b w hb => ?_)) (enters_of Tryd.func49 (by kernel_rfl) rfl) KF w hT
  have q := t_rd6 x hx _ b 28 w hb
  unfold dcI
  simp only [hl]
  simpa using q
set_option maxRecDepth 100000 in
set_option maxHeartbeats 8000000 in
theorem k_dec7 (x : Nat) (hx : x < 4294967296) (p : Nm) (h : fdL x = some p) (hl : p.1.lay = 7) (KF : Box (∀ w, T24 w → Calls Tryd.prog 23 #[.int .u32 (x : Nat)] w fun r w' => r = .returned (.tuple #[.agg (rwC p.1), .bool true]) ∧ Below w.heap.size w w')) (w : World) (hT : T24 w) : Calls Tryd.prog 9 #[.int .u32 (x : Nat)] w fun r w' => r = .returned (.tuple #[.agg (inC (dcI p.1 x)), .int .i64 0]) ∧ Below w.heap.size w w' := by
  refine t_dec_y x p.1 50 _ (fun w => by rw [hl]; rfl) (box (fun b w hb => ?_)) (enters_of Tryd.func50 (by kernel_rfl) rfl) KF w hT
  have q := t_rd7 x hx _ b 28 w hb
  unfold dcI
  simp only [hl]
  simpa using q
set_option maxRecDepth 100000 in
set_option maxHeartbeats 8000000 in
theorem k_dec8 (x : Nat) (hx : x < 4294967296) (p : Nm) (h : fdL x = some p) (hl : p.1.lay = 8) (KF : Box (∀ w, T24 w → Calls Tryd.prog 23 #[.int .u32 (x : Nat)] w fun r w' => r = .returned (.tuple #[.agg (rwC p.1), .bool true]) ∧ Below w.heap.size w w')) (w : World) (hT : T24 w) : Calls Tryd.prog 9 #[.int .u32 (x : Nat)] w fun r w' => r = .returned (.tuple #[.agg (inC (dcI p.1 x)), .int .i64 0]) ∧ Below w.heap.size w w' := by
  refine t_dec_y x p.1 51 _ (fun w => by rw [hl]; rfl) (box (fun b w hb => ?_)) (enters_of Tryd.func51 (by kernel_rfl) rfl) KF w hT
  have hc := csr_le h (by omega)
  have e : fld x 20 12 % 256 = fld x 20 12 := Nat.mod_eq_of_lt (by omega)
  have q := t_rd8 x hx hc _ b 28 w hb
  unfold dcI
  simp only [hl]
  simpa [e] using q
set_option maxRecDepth 100000 in
set_option maxHeartbeats 8000000 in
theorem k_dec9 (x : Nat) (hx : x < 4294967296) (p : Nm) (h : fdL x = some p) (hl : p.1.lay = 9) (KF : Box (∀ w, T24 w → Calls Tryd.prog 23 #[.int .u32 (x : Nat)] w fun r w' => r = .returned (.tuple #[.agg (rwC p.1), .bool true]) ∧ Below w.heap.size w w')) (w : World) (hT : T24 w) : Calls Tryd.prog 9 #[.int .u32 (x : Nat)] w fun r w' => r = .returned (.tuple #[.agg (inC (dcI p.1 x)), .int .i64 0]) ∧ Below w.heap.size w w' := by
  refine t_dec_y x p.1 51 _ (fun w => by rw [hl]; rfl) (box (fun b w hb => ?_)) (enters_of Tryd.func51 (by kernel_rfl) rfl) KF w hT
  have hc := csr_le h (by omega)
  have e : fld x 20 12 % 256 = fld x 20 12 := Nat.mod_eq_of_lt (by omega)
  have q := t_rd8 x hx hc _ b 28 w hb
  unfold dcI
  simp only [hl]
  simpa [e] using q
set_option maxRecDepth 100000 in
set_option maxHeartbeats 8000000 in
theorem kDec (x : Nat) (hx : x < 4294967296) : Box (∀ w, T24 w → Calls Tryd.prog 9 #[.int .u32 (x : Nat)] w fun r w' => r = .returned (.tuple #[.agg (inC (dcR x).1), .int .i64 (dcR x).2]) ∧ Below w.heap.size w w') := box (fun w hT => by
  have F := cF25 x hx
  cases h : fdL x with
  | none =>
    rw [h] at F
    rw [dcR_none h]
    exact t_dec_no x _ F w hT
  | some p =>
    rw [h] at F
    rw [dcR_some h]
    obtain ⟨l1, l9, _⟩ := lay24 (fd_mem h).1
    rcases (by omega : p.1.lay = 1 ∨ p.1.lay = 2 ∨ p.1.lay = 3 ∨ p.1.lay = 4 ∨ p.1.lay = 5 ∨ p.1.lay = 6 ∨ p.1.lay = 7 ∨ p.1.lay = 8 ∨ p.1.lay = 9) with hl | hl | hl | hl | hl | hl | hl | hl | hl
    · exact k_dec1 x hx p h hl F w hT
    · exact k_dec2 x hx p h hl F w hT
    · exact k_dec3 x hx p h hl F w hT
    · exact k_dec4 x hx p h hl F w hT
    · exact k_dec5 x hx p h hl F w hT
    · exact k_dec6 x hx p h hl F w hT
    · exact k_dec7 x hx p h hl F w hT
    · exact k_dec8 x hx p h hl F w hT
    · exact k_dec9 x hx p h hl F w hT)
theorem kLegal (x : Nat) (hx : x < 4294967296) : Box (∀ w, T24 w → Calls Tryd.prog 12 #[.int .u32 (x : Nat)] w fun r w' => r = .returned (.bool (fdL x).isSome) ∧ Below w.heap.size w w') := box (fun w hT => t_legal x _ _ (cF25 x hx) w hT)
theorem kUseOf (i : In) (h1 : 1 ≤ i.op) (h31 : i.op ≤ 31) (a1 : i.rd < 32) (a2 : i.rs1 < 32) (a3 : i.rs2 < 32) (a4 : i.rs3 < 32) (w : World) : Calls Tryd.prog 27 #[.agg (inC i)] w fun r w' => r = .returned (.agg (usC (usI i))) ∧ Below w.heap.size w w' := by
  obtain ⟨op, fo, fr, kd, rd, rs1, rs2, rs3, rm, im, cs⟩ := i
  simp only at h1 h31 a1 a2 a3 a4
  obtain ⟨pd, ld⟩ := two32 rd a1
  obtain ⟨pa, la⟩ := two32 rs1 a2
  obtain ⟨pb, lb⟩ := two32 rs2 a3
  obtain ⟨pc, lc⟩ := two32 rs3 a4
  have ob := or32u _ _ la lb
  have lab : 2 ^ rs1 ||| 2 ^ rs2 < 4294967296 := Nat.or_lt_two_pow (n := 32) la lb
  have oc := or32u _ _ lab lc
  unfold usI
  simp only
  by_cases c1 : op = 1 ∨ op = 22 ∨ op = 25
  · rw [if_pos c1]
    exact t_uses1 op c1 fo fr kd rd rs1 rs2 rs3 rm im cs _ _ _ _ _ _ pa pb pc pd ob oc w
  rw [if_neg c1]
  by_cases c2 : op = 2
  · rw [if_pos c2]
    exact t_uses2 op c2 fo fr kd rd rs1 rs2 rs3 rm im cs _ _ _ _ _ _ pa pb pc pd ob oc w
  rw [if_neg c2]
  by_cases c3 : op = 3 ∨ op = 4 ∨ op = 5 ∨ op = 6
  · rw [if_pos c3]
    exact t_uses3 op c3 fo fr kd rd rs1 rs2 rs3 rm im cs _ _ _ _ _ _ pa pb pc pd ob oc w
  rw [if_neg c3]
  by_cases c4 : op = 11 ∨ op = 17
  · rw [if_pos c4]
    exact t_uses11 op c4 fo fr kd rd rs1 rs2 rs3 rm im cs _ _ _ _ _ _ pa pb pc pd ob oc w
  rw [if_neg c4]
  by_cases c5 : op = 18 ∨ op = 19 ∨ op = 20
  · rw [if_pos c5]
    exact t_uses18 op c5 fo fr kd rd rs1 rs2 rs3 rm im cs _ _ _ _ _ _ pa pb pc pd ob oc w
  rw [if_neg c5]
  by_cases c6 : op = 21 ∨ op = 23 ∨ op = 24
  · rw [if_pos c6]
    exact t_uses21 op c6 fo fr kd rd rs1 rs2 rs3 rm im cs _ _ _ _ _ _ pa pb pc pd ob oc w
  rw [if_neg c6]
  by_cases c7 : op = 26 ∨ op = 27 ∨ op = 28
  · rw [if_pos c7]
    exact t_uses26 op c7 fo fr kd rd rs1 rs2 rs3 rm im cs _ _ _ _ _ _ pa pb pc pd ob oc w
  rw [if_neg c7]
  by_cases c8 : op = 29 ∨ op = 30 ∨ op = 31
  · rw [if_pos c8]
    exact t_uses29 op c8 fo fr kd rd rs1 rs2 rs3 rm im cs _ _ _ _ _ _ pa pb pc pd ob oc w
  rw [if_neg c8]
  exact t_uses7 op (by omega) fo fr kd rd rs1 rs2 rs3 rm im cs _ _ _ _ _ _ pa pb pc pd ob oc w
theorem kUses (x : Nat) (hx : x < 4294967296) : Box (∀ w, T24 w → Calls Tryd.prog 11 #[.int .u32 (x : Nat)] w fun r w' => r = .returned (.tuple #[.agg (usC (usR x)), .int .i64 (dcR x).2]) ∧ Below w.heap.size w w') := box (fun w hT => by
  have F := kDec x hx
  cases h : fdL x with
  | none =>
    rw [dcR_none h] at F
    rw [usR_none h, dcR_none h]
    exact t_Uses_no x _ _ rfl F w hT
  | some p =>
    obtain ⟨i, hi, o1, o31, _, _, _, a1, a2, a3, a4, _⟩ := in_bnd hx h
    rw [dcR_some h, hi] at F
    rw [usR_some h, dcR_some h, hi]
    exact t_Uses_y x i _ F (box (fun w => kUseOf i o1 o31 a1 a2 a3 a4 w)) w hT)
theorem live25 : Box (∀ w, T24 w → Calls Tryd.prog 13 #[] w fun r w' => r = .returned (.bool true) ∧ Below w.heap.size w w') := box (fun w hT => lives25 fb25 kDec kUses w hT)
theorem words_fin25 (x : Nat) (hx : x < 4294967296) (w : World) (hT : T24 w) : Calls Tryd.prog 3 #[.int .u32 (x : Nat)] w fun r w' => r = .returned (.bool true) ∧ Below w.heap.size w w' := words25 fb25 kDec kUses kLegal live25 x hx w hT
end Go.Proofs.YtamlcgmipdcgjaaDoor
set_option linter.unusedSimpArgs false
namespace Go.Proofs.YtamlcgmipdcgjaaDoor
set_option maxRecDepth 100000
set_option maxHeartbeats 40000000
set_option maxRecDepth 100000
open WMath
open Go.ChangeShapes Go.WideShapes Go.ChangeAt Go.RowKit
set_option linter.unusedVariables false
theorem list1y {α : Type} (l : List α) (h : l.length = 1) : ∃ a, l = [a] := by
  match l, h with
  | [a], _ => exact ⟨a, rfl⟩
theorem list5y {α : Type} (l : List α) (h : l.length = 5) : ∃ a b c d e, l = [a, b, c, d, e] := by
  match l, h with
  | [a, b, c, d, e], _ => exact ⟨a, b, c, d, e, rfl⟩
theorem int_read24 {w : World} {fuel : Nat} {enc : TypeId × Value → Unit} {base : Nat} {spare : Nat → Bool} {held : Bool} {l : List Value} {t : TypeId} {q : IntKind} {a : Int} {x : DataW Unit × List MemPlace} (ht : Tryd.prog.underlying t = some (.int q))
    (h : DataW.trod enc Tryd.prog w base spare held fuel t l = some x) (hx : x.1 = .lit (.int q a)) (hl : l.length = 1) : l = [.int q a] := by
  obtain ⟨c0, rfl⟩ := list1y l hl
  obtain ⟨x0, e0, k0, w0⟩ := DataW.trod_int ht h
  simp at e0
  subst e0
  rw [k0] at hx
  simp at hx
  rw [hx]
theorem str_read24 {w : World} {fuel : Nat} {enc : TypeId × Value → Unit} {base : Nat} {spare : Nat → Bool} {held : Bool} {l : List Value} {s : List UInt8} {x : DataW Unit × List MemPlace}
    (h : DataW.trod enc Tryd.prog w base spare held fuel 9 l = some x) (hx : x.1 = .lit (.string s)) (hl : l.length = 1) : l = [.string ⟨s.toArray⟩] := by
  obtain ⟨c0, rfl⟩ := list1y l hl
  obtain ⟨x0, e0, k0, w0⟩ := DataW.trod_string Tryd.underlying9 h
  simp at e0
  subst e0
  rw [k0] at hx
  simp at hx
  rw [← hx]
def laid25L : List (String × DataW Unit) := [("abacus/table.fixed", Rows.laid_abacus_table_fixed), ("abacus/table.plans", Rows.laid_abacus_table_plans), ("abacus/table.widths", Rows.laid_abacus_table_widths)]
theorem arr_read24 {W : World} {g : Nat} {t e : TypeId} {n : Nat} {nm : String} {D : List (DataW Unit)} {rest : List (String × DataW Unit)} (V : Nat → Value) (hg : Tryd.prog.globalNamed nm = some g) (ht : (Tryd.prog.globals[g]?).map (·.type) = some t) (hu : Tryd.prog.underlying t = some (.array n e)) (hc : Tryd.prog.cellsOf e = 1) (hct : Tryd.prog.cellsOf t = n)
    (hV : ∀ (i : Nat) (w : World) (fuel : Nat) (base : Nat) (spare : Nat → Bool) (enc : TypeId × Value → Unit) (l : List Value) (x : DataW Unit × List MemPlace), i < n → l.length = 1 → D[i]? = some x.1 → DataW.trod enc Tryd.prog w base spare false fuel e l = some x → l = [V i])
    (hD : D.length = n) (h : laidMet Tryd.prog ((nm, .agg D) :: rest) W) : ∀ i, i < n → W.cell? ⟨g, i, none⟩ = some (V i) := by
  obtain ⟨ps, ⟨g', t', cs, fuel, p, q, hg', ht', hvar, hd, _, _⟩, _⟩ := h
  obtain rfl := Option.some.inj (hg.symm.trans hg')
  obtain rfl := Option.some.inj (ht.symm.trans ht')
  obtain ⟨xs, m, rfl, hx, hl, hxl, hel⟩ := DataW.trod_array hu hd
  rw [hc] at hel
  rw [hct] at hl
  intro i hi
  have hx1 := congrArg Prod.fst hx
  simp at hx1
  have he := hel i hi
  have hix : i < xs.length := by omega
  rw [List.getElem?_eq_getElem hix] at he
  have hdi : D[i]? = some (xs[i]).1 := by rw [hx1, List.getElem?_map, List.getElem?_eq_getElem hix]; rfl
  have hv := hV i _ _ _ _ _ _ _ hi (by rw [List.length_take, List.length_drop]; omega) hdi he
  rw [World.var?_cell hg hvar i]
  have e1 : cs.toList[i]? = ((cs.toList.drop (i * 1)).take 1)[0]? := by rw [List.getElem?_take, if_pos (by decide), List.getElem?_drop]; congr 1; omega
  rw [hv] at e1
  simpa using e1
theorem of_fixed24 {W : World} {rest : List (String × DataW Unit)} (h : laidMet Tryd.prog (("abacus/table.fixed", Rows.laid_abacus_table_fixed) :: rest) W) : ∀ i, i < 10 → W.cell? ⟨1, i, none⟩ = some (.int .u32 (fxN i : Nat)) :=
  arr_read24 (t := 97) (e := 22) (fun i => .int .u32 (fxN i : Nat)) (by kernel_rfl) (by kernel_rfl) Tryd.underlying97 (by kernel_rfl) (by kernel_rfl) (fun i w fuel base spare enc l x hi hl hd hx => by
    refine int_read24 Tryd.underlying22 hx ?_ hl
    rcases (show i = 0 ∨ i = 1 ∨ i = 2 ∨ i = 3 ∨ i = 4 ∨ i = 5 ∨ i = 6 ∨ i = 7 ∨ i = 8 ∨ i = 9 by omega) with rfl | rfl | rfl | rfl | rfl | rfl | rfl | rfl | rfl | rfl <;> exact (Option.some.inj hd).symm) rfl h
theorem of_widths24 {W : World} {rest : List (String × DataW Unit)} (h : laidMet Tryd.prog (("abacus/table.widths", Rows.laid_abacus_table_widths) :: rest) W) : ∀ i, i < 4 → W.cell? ⟨2, i, none⟩ = some (.int .u8 (wdN i : Nat)) :=
  arr_read24 (t := 79) (e := 5) (fun i => .int .u8 (wdN i : Nat)) (by kernel_rfl) (by kernel_rfl) Tryd.underlying79 (by kernel_rfl) (by kernel_rfl) (fun i w fuel base spare enc l x hi hl hd hx => by
    refine int_read24 Tryd.underlying5 hx ?_ hl
    rcases (show i = 0 ∨ i = 1 ∨ i = 2 ∨ i = 3 by omega) with rfl | rfl | rfl | rfl <;> exact (Option.some.inj hd).symm) rfl h
def plD (p : Pl) : DataW Unit := .agg [.lit (.string p.nm), .lit (.int .u8 (p.opc : Nat)), .lit (.int .u8 (p.rs3 : Nat)), .lit (.int .u8 (p.rm : Nat)), .lit (.int .u8 (p.lay : Nat))]
theorem plans_D : Rows.laid_abacus_table_plans = .slice (plL.map plD) [] := rfl
theorem plan_read24 {w : World} {fuel : Nat} {enc : TypeId × Value → Unit} {base : Nat} {spare : Nat → Bool} {held : Bool} {l : List Value} {p : Pl} {x : DataW Unit × List MemPlace}
    (h : DataW.trod enc Tryd.prog w base spare held fuel 91 l = some x) (hx : x.1 = plD p) : l = (plV (plB p)).toList := by
  have hc5 : Tryd.prog.cellsOf 5 = 1 := by kernel_rfl
  have hc9 : Tryd.prog.cellsOf 9 = 1 := by kernel_rfl
  have hcl : Tryd.prog.cellsOf 50 = 1 := by kernel_rfl
  have hcp : Tryd.prog.cellsOf 91 = 5 := by kernel_rfl
  obtain ⟨xs, n, rfl, rfl, hl, hlen, hf⟩ := DataW.trod_struct Tryd.underlying91 h
  rw [hcp] at hl
  obtain ⟨c0, c1, c2, c3, c4, rfl⟩ := list5y l hl
  match xs, hlen with
  | [y0, y1, y2, y3, y4], _ =>
    have g0 : DataW.trod enc Tryd.prog w base spare held n 9 (([c0, c1, c2, c3, c4].drop 0).take (Tryd.prog.cellsOf 9)) = some y0 := hf 0 _ rfl
    have g1 : DataW.trod enc Tryd.prog w base spare held n 5 (([c0, c1, c2, c3, c4].drop 1).take (Tryd.prog.cellsOf 5)) = some y1 := hf 1 _ rfl
    have g2 : DataW.trod enc Tryd.prog w base spare held n 5 (([c0, c1, c2, c3, c4].drop 2).take (Tryd.prog.cellsOf 5)) = some y2 := hf 2 _ rfl
    have g3 : DataW.trod enc Tryd.prog w base spare held n 5 (([c0, c1, c2, c3, c4].drop 3).take (Tryd.prog.cellsOf 5)) = some y3 := hf 3 _ rfl
    have g4 : DataW.trod enc Tryd.prog w base spare held n 50 (([c0, c1, c2, c3, c4].drop 4).take (Tryd.prog.cellsOf 50)) = some y4 := hf 4 _ rfl
    rw [hc9] at g0
    rw [hc5] at g1 g2 g3
    rw [hcl] at g4
    simp only [plD, List.map_cons, List.map_nil, DataW.agg.injEq, List.cons.injEq, and_true] at hx
    obtain ⟨h0, h1, h2, h3, h4⟩ := hx
    simp only [List.drop_zero, List.drop_succ_cons, List.take_succ_cons, List.take_zero] at g0 g1 g2 g3 g4
    have z0 := str_read24 g0 h0 rfl
    have z1 := int_read24 Tryd.underlying5 g1 h1 rfl
    have z2 := int_read24 Tryd.underlying5 g2 h2 rfl
    have z3 := int_read24 Tryd.underlying5 g3 h3 rfl
    have z4 := int_read24 Tryd.underlying50 g4 h4 rfl
    simp only [List.cons.injEq, and_true] at z0 z1 z2 z3 z4
    rw [z0, z1, z2, z3, z4]
    rfl
theorem cells5y {w : World} {base : Nat} {a : Addr} {l : List Value} (h : w.cells? base a 5 = some l) : ∃ c0 c1 c2 c3 c4, l = [c0, c1, c2, c3, c4] ∧ w.cell? (a.add 0) = some c0 ∧ w.cell? (a.add 1) = some c1 ∧ w.cell? (a.add 2) = some c2 ∧ w.cell? (a.add 3) = some c3 ∧ w.cell? (a.add 4) = some c4 := by
  unfold World.cells? at h
  split at h
  · simp only [show List.range 5 = [0, 1, 2, 3, 4] from rfl, List.mapM_cons, List.mapM_nil, Option.bind_eq_bind, Option.bind_eq_some_iff, Option.pure_def, Option.some.injEq] at h
    obtain ⟨a1, d0, _, ⟨a3, d1, _, ⟨a5, d2, _, ⟨a7, d3, _, ⟨a9, d4, _, rfl, rfl⟩, rfl⟩, rfl⟩, rfl⟩, rfl⟩ := h
    exact ⟨a1, a3, a5, a7, a9, rfl, d0, d1, d2, d3, d4⟩
  · cases h
theorem of_plans24 {W : World} {rest : List (String × DataW Unit)} (h : laidMet Tryd.prog (("abacus/table.plans", Rows.laid_abacus_table_plans) :: rest) W) : ∃ b o cap : Nat, W.cell? ⟨0, 0, none⟩ = some (.slice (some ⟨b, o, none⟩) 32 cap) ∧ ∀ i, i < 32 → PlAt W b (o + i * 5) (plB (plN i)) := by
  have hg0 : Tryd.prog.globalNamed "abacus/table.plans" = some 0 := by kernel_rfl
  have ht0 : (Tryd.prog.globals[0]?).map (·.type) = some 89 := by kernel_rfl
  have hcp : Tryd.prog.cellsOf 91 = 5 := by kernel_rfl
  obtain ⟨ps, ⟨g', t', cs, fuel, p, q, hg', ht', hvar, hd, _, _⟩, _⟩ := h
  obtain rfl := Option.some.inj (hg0.symm.trans hg')
  obtain rfl := Option.some.inj (ht0.symm.trans ht')
  rw [plans_D] at hd
  rcases DataW.trod_slice Tryd.underlying89 hd with ⟨_, hx⟩ | ⟨a, len, cap, elems, rs, n, _, hcs, hx, _, hl, _, hlen, hel, _⟩
  · simp at hx
  · simp only [Prod.mk.injEq, DataW.slice.injEq] at hx
    obtain ⟨⟨hx1, _⟩, _⟩ := hx
    have h32 : len = 32 := by
      rw [← hlen]
      have := congrArg List.length hx1
      exact (by simpa using this.symm : elems.length = plL.length).trans rfl
    subst h32
    have main : ∀ i, i < 32 → ∃ c0 c1 c2 c3 c4, [c0, c1, c2, c3, c4] = (plV (plB (plN i))).toList ∧ W.cell? ((a.add (i * 5)).add 0) = some c0 ∧ W.cell? ((a.add (i * 5)).add 1) = some c1 ∧ W.cell? ((a.add (i * 5)).add 2) = some c2 ∧ W.cell? ((a.add (i * 5)).add 3) = some c3 ∧ W.cell? ((a.add (i * 5)).add 4) = some c4 := by
      intro i hi
      have hE := hel i hi
      rw [hcp] at hE
      have hix : i < elems.length := by omega
      rw [List.getElem?_eq_getElem hix, Option.bind_eq_some_iff] at hE
      obtain ⟨l, h1, h2⟩ := hE
      obtain ⟨c0, c1, c2, c3, c4, rfl, d0, d1, d2, d3, d4⟩ := cells5y h1
      have hp : (elems[i]).1 = plD (plN i) := by
        have q1 : (plL.map plD)[i]? = (elems.map (·.1))[i]? := by rw [hx1]
        rw [List.getElem?_map, List.getElem?_map, List.getElem?_eq_getElem hix, List.getElem?_eq_getElem (show i < plL.length from hi)] at q1
        have q2 : plD (plL[i]'(show i < plL.length from hi)) = (elems[i]).1 := Option.some.inj q1
        rw [← q2]
        unfold plN
        rw [List.getElem?_eq_getElem (show i < plL.length from hi)]
        rfl
      exact ⟨c0, c1, c2, c3, c4, plan_read24 h2 hp, d0, d1, d2, d3, d4⟩
    obtain ⟨_, _, _, _, _, _, s0, _⟩ := main 0 (by decide)
    have hsp : a.spot = none := by
      have := World.cell?_spot s0
      simpa [Addr.add] using this
    obtain ⟨b, o, sp⟩ := a
    simp only at hsp
    subst hsp
    refine ⟨b, o, cap, ?_, fun i hi => ?_⟩
    · rw [World.var?_cell hg0 hvar 0, ← Array.getElem?_toList, hcs]
      rfl
    · obtain ⟨c0, c1, c2, c3, c4, e, d0, d1, d2, d3, d4⟩ := main i hi
      have ad : ∀ j, ((⟨b, o, none⟩ : Addr).add (i * 5)).add j = ⟨b, o + i * 5 + j, none⟩ := fun j => by
        unfold Addr.add
        by_cases h1 : i * 5 = 0 <;> by_cases h2 : j = 0 <;> simp [h1, h2]
      rw [ad] at d0 d1 d2 d3 d4
      simp only [plV, List.cons.injEq, and_true] at e
      obtain ⟨rfl, rfl, rfl, rfl, rfl⟩ := e
      exact ⟨d0, d1, d2, d3, d4⟩
theorem of_laid25 {W : World} (h : laidMetH Tryd.prog laid25L W) : T24 W := by
  rw [MakeChecks.laidMetH_plain _ _ _ (by kernel_rfl)] at h
  have h1 := laidMet.tail h
  have h2 := laidMet.tail h1
  exact ⟨of_fixed24 h, trivial, of_widths24 h2, of_plans24 h1⟩
theorem door_met25 (os : Os) (args : Array Value) : laidMetH Tryd.prog laid25L ((World.doorLaid Tryd.prog 400 os).forCall (fun _ _ => 0) ⟨#[], args, []⟩).memory :=
  laidMetH_of_parts3 (fuel := 8) (laidMet_of_run' 8 (by kernel_rfl) (by kernel_rfl)) (by kernel_rfl) (by kernel_rfl)
end Go.Proofs.YtamlcgmipdcgjaaDoor
