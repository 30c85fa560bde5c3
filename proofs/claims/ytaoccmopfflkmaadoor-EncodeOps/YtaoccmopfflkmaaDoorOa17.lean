/-
  What the functions that the statement reaches return: part 17 (SL25).
-/
import Derived.Test.YtaoccmopfflkmaaDoorRows
import Derived.OpenShut
import Derived.LaidMore
import Derived.Lib.LaidTab
import Derived.Stop.Joined
import Derived.Stop.LaidErr
import Derived.Test.YtaoccmopfflkmaaDoorOa16
set_option linter.unusedSimpArgs false
namespace Go.Proofs.YtaoccmopfflkmaaDoor
set_option maxRecDepth 100000
set_option maxHeartbeats 40000000
set_option maxRecDepth 100000
open WMath
open Go.ChangeShapes Go.WideShapes Go.ChangeAt Go.RowKit
set_option linter.unusedVariables false
theorem list1y {α : Type} (l : List α) (h : l.length = 1) : ∃ a, l = [a] := by
  match l, h with
  | [a], _ => exact ⟨a, rfl⟩
theorem list5y {α : Type} (l : List α) (h : l.length = 5) : ∃ a b c d e, l = [a, b, c, d, e] := by
  match l, h with
  | [a, b, c, d, e], _ => exact ⟨a, b, c, d, e, rfl⟩
theorem int_read24 {w : World} {fuel : Nat} {enc : TypeId × Value → Unit} {base : Nat} {spare : Nat → Bool} {held : Bool} {l : List Value} {t : TypeId} {q : IntKind} {a : Int} {x : DataW Unit × List MemPlace} (ht : Tryd.prog.underlying t = some (.int q))
    (h : DataW.trod enc Tryd.prog w base spare held fuel t l = some x) (hx : x.1 = .lit (.int q a)) (hl : l.length = 1) : l = [.int q a] := by
  obtain ⟨c0, rfl⟩ := list1y l hl
  obtain ⟨x0, e0, k0, w0⟩ := DataW.trod_int ht h
  simp at e0
  subst e0
  rw [k0] at hx
  simp at hx
  rw [hx]
theorem str_read24 {w : World} {fuel : Nat} {enc : TypeId × Value → Unit} {base : Nat} {spare : Nat → Bool} {held : Bool} {l : List Value} {s : List UInt8} {x : DataW Unit × List MemPlace}
    (h : DataW.trod enc Tryd.prog w base spare held fuel 9 l = some x) (hx : x.1 = .lit (.string s)) (hl : l.length = 1) : l = [.string ⟨s.toArray⟩] := by
  obtain ⟨c0, rfl⟩ := list1y l hl
  obtain ⟨x0, e0, k0, w0⟩ := DataW.trod_string Tryd.underlying9 h
  simp at e0
  subst e0
  rw [k0] at hx
  simp at hx
  rw [← hx]
def laid25L : List (String × DataW Unit) := [("abacus/table.fixed", Rows.laid_abacus_table_fixed), ("abacus/table.plans", Rows.laid_abacus_table_plans), ("abacus/table.widths", Rows.laid_abacus_table_widths)]
theorem arr_read24 {W : World} {g : Nat} {t e : TypeId} {n : Nat} {nm : String} {D : List (DataW Unit)} {rest : List (String × DataW Unit)} (V : Nat → Value) (hg : Tryd.prog.globalNamed nm = some g) (ht : (Tryd.prog.globals[g]?).map (·.type) = some t) (hu : Tryd.prog.underlying t = some (.array n e)) (hc : Tryd.prog.cellsOf e = 1) (hct : Tryd.prog.cellsOf t = n)
    (hV : ∀ (i : Nat) (w : World) (fuel : Nat) (base : Nat) (spare : Nat → Bool) (enc : TypeId × Value → Unit) (l : List Value) (x : DataW Unit × List MemPlace), i < n → l.length = 1 → D[i]? = some x.1 → DataW.trod enc Tryd.prog w base spare false fuel e l = some x → l = [V i])
    (hD : D.length = n) (h : laidMet Tryd.prog ((nm, .agg D) :: rest) W) : ∀ i, i < n → W.cell? ⟨g, i, none⟩ = some (V i) := by
  obtain ⟨ps, ⟨g', t', cs, fuel, p, q, hg', ht', hvar, hd, _, _⟩, _⟩ := h
  obtain rfl := Option.some.inj (hg.symm.trans hg')
  obtain rfl := Option.some.inj (ht.symm.trans ht')
  obtain ⟨xs, m, rfl, hx, hl, hxl, hel⟩ := DataW.trod_array hu hd
  rw [hc] at hel
  rw [hct] at hl
  intro i hi
  have hx1 := congrArg Prod.fst hx
  simp at hx1
  have he := hel i hi
  have hix : i < xs.length := by omega
  rw [List.getElem?_eq_getElem hix] at he
  have hdi : D[i]? = some (xs[i]).1 := by rw [hx1, List.getElem?_map, List.getElem?_eq_getElem hix]; rfl
  have hv := hV i _ _ _ _ _ _ _ hi (by rw [List.length_take, List.length_drop]; omega) hdi he
  rw [World.var?_cell hg hvar i]
  have e1 : cs.toList[i]? = ((cs.toList.drop (i * 1)).take 1)[0]? := by rw [List.getElem?_take, if_pos (by decide), List.getElem?_drop]; congr 1; omega
  rw [hv] at e1
  simpa using e1
theorem of_fixed24 {W : World} {rest : List (String × DataW Unit)} (h : laidMet Tryd.prog (("abacus/table.fixed", Rows.laid_abacus_table_fixed) :: rest) W) : ∀ i, i < 10 → W.cell? ⟨1, i, none⟩ = some (.int .u32 (fxN i : Nat)) :=
  arr_read24 (t := 105) (e := 28) (fun i => .int .u32 (fxN i : Nat)) (by kernel_rfl) (by kernel_rfl) Tryd.underlying105 (by kernel_rfl) (by kernel_rfl) (fun i w fuel base spare enc l x hi hl hd hx => by
    refine int_read24 Tryd.underlying28 hx ?_ hl
    rcases (show i = 0 ∨ i = 1 ∨ i = 2 ∨ i = 3 ∨ i = 4 ∨ i = 5 ∨ i = 6 ∨ i = 7 ∨ i = 8 ∨ i = 9 by omega) with rfl | rfl | rfl | rfl | rfl | rfl | rfl | rfl | rfl | rfl <;> exact (Option.some.inj hd).symm) rfl h
theorem of_widths24 {W : World} {rest : List (String × DataW Unit)} (h : laidMet Tryd.prog (("abacus/table.widths", Rows.laid_abacus_table_widths) :: rest) W) : ∀ i, i < 4 → W.cell? ⟨2, i, none⟩ = some (.int .u8 (wdN i : Nat)) :=
  arr_read24 (t := 123) (e := 5) (fun i => .int .u8 (wdN i : Nat)) (by kernel_rfl) (by kernel_rfl) Tryd.underlying123 (by kernel_rfl) (by kernel_rfl) (fun i w fuel base spare enc l x hi hl hd hx => by
    refine int_read24 Tryd.underlying5 hx ?_ hl
    rcases (show i = 0 ∨ i = 1 ∨ i = 2 ∨ i = 3 by omega) with rfl | rfl | rfl | rfl <;> exact (Option.some.inj hd).symm) rfl h
def plD (p : Pl) : DataW Unit := .agg [.lit (.string p.nm), .lit (.int .u8 (p.opc : Nat)), .lit (.int .u8 (p.rs3 : Nat)), .lit (.int .u8 (p.rm : Nat)), .lit (.int .u8 (p.lay : Nat))]
theorem plans_D : Rows.laid_abacus_table_plans = .slice (plL.map plD) [] := rfl
theorem plan_read24 {w : World} {fuel : Nat} {enc : TypeId × Value → Unit} {base : Nat} {spare : Nat → Bool} {held : Bool} {l : List Value} {p : Pl} {x : DataW Unit × List MemPlace}
    (h : DataW.trod enc Tryd.prog w base spare held fuel 101 l = some x) (hx : x.1 = plD p) : l = (plV (plB p)).toList := by
  have hc5 : Tryd.prog.cellsOf 5 = 1 := by kernel_rfl
  have hc9 : Tryd.prog.cellsOf 9 = 1 := by kernel_rfl
  have hcl : Tryd.prog.cellsOf 43 = 1 := by kernel_rfl
  have hcp : Tryd.prog.cellsOf 101 = 5 := by kernel_rfl
  obtain ⟨xs, n, rfl, rfl, hl, hlen, hf⟩ := DataW.trod_struct Tryd.underlying101 h
  rw [hcp] at hl
  obtain ⟨c0, c1, c2, c3, c4, rfl⟩ := list5y l hl
  match xs, hlen with
  | [y0, y1, y2, y3, y4], _ =>
    have g0 : DataW.trod enc Tryd.prog w base spare held n 9 (([c0, c1, c2, c3, c4].drop 0).take (Tryd.prog.cellsOf 9)) = some y0 := hf 0 _ rfl
    have g1 : DataW.trod enc Tryd.prog w base spare held n 5 (([c0, c1, c2, c3, c4].drop 1).take (Tryd.prog.cellsOf 5)) = some y1 := hf 1 _ rfl
    have g2 : DataW.trod enc Tryd.prog w base spare held n 5 (([c0, c1, c2, c3, c4].drop 2).take (Tryd.prog.cellsOf 5)) = some y2 := hf 2 _ rfl
    have g3 : DataW.trod enc Tryd.prog w base spare held n 5 (([c0, c1, c2, c3, c4].drop 3).take (Tryd.prog.cellsOf 5)) = some y3 := hf 3 _ rfl
    have g4 : DataW.trod enc Tryd.prog w base spare held n 43 (([c0, c1, c2, c3, c4].drop 4).take (Tryd.prog.cellsOf 43)) = some y4 := hf 4 _ rfl
    rw [hc9] at g0
    rw [hc5] at g1 g2 g3
    rw [hcl] at g4
    simp only [plD, List.map_cons, List.map_nil, DataW.agg.injEq, List.cons.injEq, and_true] at hx
    obtain ⟨h0, h1, h2, h3, h4⟩ := hx
    simp only [List.drop_zero, List.drop_succ_cons, List.take_succ_cons, List.take_zero] at g0 g1 g2 g3 g4
    have z0 := str_read24 g0 h0 rfl
    have z1 := int_read24 Tryd.underlying5 g1 h1 rfl
    have z2 := int_read24 Tryd.underlying5 g2 h2 rfl
    have z3 := int_read24 Tryd.underlying5 g3 h3 rfl
    have z4 := int_read24 Tryd.underlying43 g4 h4 rfl
    simp only [List.cons.injEq, and_true] at z0 z1 z2 z3 z4
    rw [z0, z1, z2, z3, z4]
    rfl
theorem cells5y {w : World} {base : Nat} {a : Addr} {l : List Value} (h : w.cells? base a 5 = some l) : ∃ c0 c1 c2 c3 c4, l = [c0, c1, c2, c3, c4] ∧ w.cell? (a.add 0) = some c0 ∧ w.cell? (a.add 1) = some c1 ∧ w.cell? (a.add 2) = some c2 ∧ w.cell? (a.add 3) = some c3 ∧ w.cell? (a.add 4) = some c4 := by
  unfold World.cells? at h
  split at h
  · simp only [show List.range 5 = [0, 1, 2, 3, 4] from rfl, List.mapM_cons, List.mapM_nil, Option.bind_eq_bind, Option.bind_eq_some_iff, Option.pure_def, Option.some.injEq] at h
    obtain ⟨a1, d0, _, ⟨a3, d1, _, ⟨a5, d2, _, ⟨a7, d3, _, ⟨a9, d4, _, rfl, rfl⟩, rfl⟩, rfl⟩, rfl⟩, rfl⟩ := h
    exact ⟨a1, a3, a5, a7, a9, rfl, d0, d1, d2, d3, d4⟩
  · cases h
theorem of_plans24 {W : World} {rest : List (String × DataW Unit)} (h : laidMet Tryd.prog (("abacus/table.plans", Rows.laid_abacus_table_plans) :: rest) W) : ∃ b o cap : Nat, W.cell? ⟨0, 0, none⟩ = some (.slice (some ⟨b, o, none⟩) 32 cap) ∧ ∀ i, i < 32 → PlAt W b (o + i * 5) (plB (plN i)) := by
  have hg0 : Tryd.prog.globalNamed "abacus/table.plans" = some 0 := by kernel_rfl
  have ht0 : (Tryd.prog.globals[0]?).map (·.type) = some 89 := by kernel_rfl
  have hcp : Tryd.prog.cellsOf 101 = 5 := by kernel_rfl
  obtain ⟨ps, ⟨g', t', cs, fuel, p, q, hg', ht', hvar, hd, _, _⟩, _⟩ := h
  obtain rfl := Option.some.inj (hg0.symm.trans hg')
  obtain rfl := Option.some.inj (ht0.symm.trans ht')
  rw [plans_D] at hd
  rcases DataW.trod_slice Tryd.underlying89 hd with ⟨_, hx⟩ | ⟨a, len, cap, elems, rs, n, _, hcs, hx, _, hl, _, hlen, hel, _⟩
  · simp at hx
  · simp only [Prod.mk.injEq, DataW.slice.injEq] at hx
    obtain ⟨⟨hx1, _⟩, _⟩ := hx
    have h32 : len = 32 := by
      rw [← hlen]
      have := congrArg List.length hx1
      exact (by simpa using this.symm : elems.length = plL.length).trans rfl
    subst h32
    have main : ∀ i, i < 32 → ∃ c0 c1 c2 c3 c4, [c0, c1, c2, c3, c4] = (plV (plB (plN i))).toList ∧ W.cell? ((a.add (i * 5)).add 0) = some c0 ∧ W.cell? ((a.add (i * 5)).add 1) = some c1 ∧ W.cell? ((a.add (i * 5)).add 2) = some c2 ∧ W.cell? ((a.add (i * 5)).add 3) = some c3 ∧ W.cell? ((a.add (i * 5)).add 4) = some c4 := by
      intro i hi
      have hE := hel i hi
      rw [hcp] at hE
      have hix : i < elems.length := by omega
      rw [List.getElem?_eq_getElem hix, Option.bind_eq_some_iff] at hE
      obtain ⟨l, h1, h2⟩ := hE
      obtain ⟨c0, c1, c2, c3, c4, rfl, d0, d1, d2, d3, d4⟩ := cells5y h1
      have hp : (elems[i]).1 = plD (plN i) := by
        have q1 : (plL.map plD)[i]? = (elems.map (·.1))[i]? := by rw [hx1]
        rw [List.getElem?_map, List.getElem?_map, List.getElem?_eq_getElem hix, List.getElem?_eq_getElem (show i < plL.length from hi)] at q1
        have q2 : plD (plL[i]'(show i < plL.length from hi)) = (elems[i]).1 := Option.some.inj q1
        rw [← q2]
        unfold plN
        rw [List.getElem?_eq_getElem (show i < plL.length from hi)]
        rfl
      exact ⟨c0, c1, c2, c3, c4, plan_read24 h2 hp, d0, d1, d2, d3, d4⟩
    obtain ⟨_, _, _, _, _, _, s0, _⟩ := main 0 (by decide)
    have hsp : a.spot = none := by
      have := World.cell?_spot s0
      simpa [Addr.add] using this
    obtain ⟨b, o, sp⟩ := a
    simp only at hsp
    subst hsp
    refine ⟨b, o, cap, ?_, fun i hi => ?_⟩
    · rw [World.var?_cell hg0 hvar 0, ← Array.getElem?_toList, hcs]
      rfl
    · obtain ⟨c0, c1, c2, c3, c4, e, d0, d1, d2, d3, d4⟩ := main i hi
      have ad : ∀ j, ((⟨b, o, none⟩ : Addr).add (i * 5)).add j = ⟨b, o + i * 5 + j, none⟩ := fun j => by
        unfold Addr.add
        by_cases h1 : i * 5 = 0 <;> by_cases h2 : j = 0 <;> simp [h1, h2]
      rw [ad] at d0 d1 d2 d3 d4
      simp only [plV, List.cons.injEq, and_true] at e
      obtain ⟨rfl, rfl, rfl, rfl, rfl⟩ := e
      exact ⟨d0, d1, d2, d3, d4⟩
theorem of_laid25 {W : World} (h : laidMetH Tryd.prog laid25L W) : T24 W := by
  rw [MakeChecks.laidMetH_plain _ _ _ (by kernel_rfl)] at h
  have h1 := laidMet.tail h
  have h2 := laidMet.tail h1
  exact ⟨of_fixed24 h, trivial, of_widths24 h2, of_plans24 h1⟩
theorem door_met25 (os : Os) (args : Array Value) : laidMetH Tryd.prog laid25L ((World.doorLaid Tryd.prog 400 os).forCall (fun _ _ => 0) ⟨#[], args, []⟩).memory :=
  laidMetH_of_parts3 (fuel := 8) (laidMet_of_run' 8 (by kernel_rfl) (by kernel_rfl)) (by kernel_rfl) (by kernel_rfl)
end Go.Proofs.YtaoccmopfflkmaaDoor
