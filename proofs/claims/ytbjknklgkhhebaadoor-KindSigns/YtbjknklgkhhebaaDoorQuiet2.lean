/-
  A region that draws its order and whose operations read what lay there before, or call functions that make memory of their own alone: one walk serves every order.
-/
import Derived.Test.YtbjknklgkhhebaaDoorWide0
import Derived.Deep.QuietTactic
import Derived.BigQuiet
import Derived.ChangeKeysEq
namespace Go.Proofs.YtbjknklgkhhebaaDoor
open Go.RowKit WMath

/-- All worlds that have grown out of W, as the values of one function. -/
theorem below_fun (W : World) : ∃ F : World → World, (∀ u, Below W.heap.size W (F u)) ∧ (∀ u, Below W.heap.size W u → F u = u) := by
  classical
  refine ⟨fun u => if Below W.heap.size W u then u else W, fun u => ?_, fun u h => if_pos h⟩
  by_cases h : Below W.heap.size W u
  · simp only [h, if_true]
  · simp only [h, if_false]; exact Below.refl _ _

theorem wp_region_below {P : Program} {id : Nat} {Q : Exit → Act → World → Prop} {a : Act} {W : World} {l : List Oper} (F : World → World) (hF : ∀ u, Below W.heap.size W u → F u = u)
    (hm : P.follows .mixedOrders = true) (hB : Region.lexB .any l.toArray = true)
    (h : wpQuiet P l.toArray (fun w' => ∃ u, w' = F u) (fun a' => ∀ w', (∃ u, w' = F u) → Q .normal a' w') l a) : (Code.region id l.toArray true).wp P Q a W :=
  wp_region_quiet (C := fun w' => ∃ u, w' = F u) hm hB ⟨W.drew, (hF _ ((Below.refl _ _).drew)).symm⟩ (by simpa using h)

theorem quietF {P : Program} {f : Nat} {args : Array Value} {v : Value} {W : World} {F : World → World} (h1 : ∀ u, Below W.heap.size W (F u)) (h2 : ∀ u, Below W.heap.size W u → F u = u) {u : World}
    (h : Calls P f args (F u) fun e w' => e = .returned v ∧ Below (F u).heap.size (F u) w') : Calls P f args (F u) fun e w'' => e = .returned v ∧ ∃ u', w'' = F u' :=
  h.mono fun _ w' ⟨he, hm⟩ => ⟨he, w', (h2 _ ((h1 u).trans (hm.mono (h1 u).size))).symm⟩
theorem quietF0 {P : Program} {f : Nat} {args : Array Value} {v : Value} {F : World → World} {u : World}
    (h : Calls P f args (F u) fun e w' => e = .returned v ∧ w' = F u) : Calls P f args (F u) fun e w'' => e = .returned v ∧ ∃ u', w'' = F u' :=
  h.mono fun _ _ ⟨he, hm⟩ => ⟨he, u, hm⟩

theorem bcell {W w1 : World} (hb : Below W.heap.size W w1) : (∀ b o, b < W.heap.size → w1.cell? ⟨b, o, none⟩ = W.cell? ⟨b, o, none⟩) ∧ (∀ b o, b < W.heap.size → w1.frozen? ⟨b, o, none⟩ = W.frozen? ⟨b, o, none⟩) :=
  ⟨fun b o h => hb.cell (p := ⟨b, o, none⟩) h, fun b o h => hb.frozen (p := ⟨b, o, none⟩) h⟩

theorem heap_of {W w1 : World} (hb : Below W.heap.size W w1) (b : Nat) (c : Array Value) (t : TypeId) (h : W.heap[b]? = some (.cells c t)) : w1.heap[b]? = some (.cells c t) := by
  rw [hb.block b (Array.getElem?_eq_some_iff.1 h).1, h]

theorem row_cell {w : World} {b n : Nat} (h : w.heap[b]? = some (.cells (cw 6 n) 28)) (o : Nat) (ho : o < 6) : w.cell? ⟨b, o, none⟩ = some (.int .u64 (wd n o : Nat)) := by
  rw [cell_of_row w b o _ _ _ h, cw_at 6 n o ho]
theorem setRow_row {w : World} {b : Nat} {c c' : Array Value} {t : TypeId} (h : w.heap[b]? = some (.cells c t)) : (w.setRow b c').heap[b]? = some (.cells c' t) := by
  simp [World.setRow, Array.getElem?_modify, h]
theorem setRow_other {w : World} {b b' : Nat} {c' : Array Value} (h : b ≠ b') : (w.setRow b c').heap[b']? = w.heap[b']? := by
  simp [World.setRow, Array.getElem?_modify, h]
theorem setRow_size {w : World} {b : Nat} {c' : Array Value} : (w.setRow b c').heap.size = w.heap.size := by
  simp [World.setRow]
theorem Below.setRow {B : Nat} {w w1 : World} {b : Nat} {c : Array Value} (h : Below B w w1) (hb : B ≤ b) : Below B w (w1.setRow b c) :=
  ⟨h.os, h.tape, h.output, by rw [setRow_size]; exact h.size, fun k hk => by rw [setRow_other (by omega)]; exact h.block k hk⟩

theorem st_same (w : World) (b x : Nat) (h : w.heap[b]? = some (.cells (cw 6 x) 28)) :
    (storeCells ⟨b, 0, none⟩ (cw 6 x).toList 0).run Tryd.prog w = .ok () w := by
  rw [st_any w b x x h, setRow_self w b _ _ _ h]

theorem eqItems6 (d x y : Nat) (w : World) : ∀ is : List Nat, (∀ i ∈ is, i < 6) → (Op.eqItems (d + 1) 23 1 (cw 6 x) (cw 6 y) is).run Tryd.prog w = .ok (is.all fun i => wd x i == wd y i) w
  | [], _ => rfl
  | i :: is, h => by
    have hi := h i (by simp)
    have ih := eqItems6 d x y w is (fun j hj => h j (by simp [hj]))
    have p1 : ∀ z : Nat, (part 23 (cw 6 z) (i * 1)).run Tryd.prog w = .ok (.int .u64 (wd z i : Nat)) w := fun z => by
      simp [part, cw_at 6 z i hi, go_sem]
    have e : ((wd x i : Int) == (wd y i : Int)) = (wd x i == wd y i) := by rw [Bool.eq_iff_iff]; simp only [beq_iff_eq]; omega
    simp only [Op.eqItems, Sem.run_bind, p1, Result.andThen_ok, run_equalIn_int _ d 23 .u64 .u64 _ _ Tryd.underlying23, e]
    cases he : wd x i == wd y i
    · simp [he]
    · simp [he, ih]

theorem eq6 (x y : Nat) (hx : x < Q) (hy : y < Q) (w : World) : (Op.equalIn 10000 28 (.agg (cw 6 x)) (.agg (cw 6 y))).run Tryd.prog w = .ok (decide (x = y)) w := by
  obtain ⟨i, hi⟩ : ∃ i, Tryd.prog.info? 23 = some i := by
    have : (Tryd.prog.info? 23).isSome = true := by kernel_rfl
    exact Option.isSome_iff_exists.1 this
  have hc : Tryd.prog.cellsOf 23 = 1 := by kernel_rfl
  rw [run_equalIn_array w 9999 (cw 6 x) (cw 6 y) Tryd.underlying28 hi, hc, eqItems6 9998 x y w (List.range 6) (fun i h => by simpa using h)]
  congr 1
  rw [Bool.eq_iff_iff, List.all_eq_true, decide_eq_true_iff]
  constructor
  · intro h
    obtain ⟨L, hL, hQ⟩ := Q_of
    rw [hQ] at hx hy
    exact wd_ext hx hy (fun k hk => by simpa using h k (by rw [hL] at hk; simpa using hk))
  · rintro rfl i _
    simp
theorem eqg6 : Tryd.prog.eqGuardType Tryd.prog.depth 28 = false := by kernel_rfl
end Go.Proofs.YtbjknklgkhhebaaDoor
