/-
  What the functions that the statement reaches return: part 2 (Quiet2, Wide4, Wide5, Wide6, Wide7, Wide8, Wide9, Rwide2, Wide12, Frame6, FrameB, Quot1).
-/
import Derived.Deep.QuietTactic
import Derived.BigQuiet
import Derived.ChangeKeysEq
import Derived.Deep.RegionLaw
import Derived.Laws.CopyOwn
import Derived.Deep.OwnRows
import Derived.Laws.BytesString
import Derived.RegionTactic
import Derived.Test.YtapikkbifdldfaaGreatDoorRows
import Derived.WalkKit
import Derived.ProofKit
import Derived.OpenShut
import Derived.Laws.IdiomArrays
import Derived.Below
import Derived.Carry
import Derived.Test.YtapikkbifdldfaaGreatDoorFi01
namespace Go.Proofs.YtapikkbifdldfaaGreatDoor
set_option maxRecDepth 100000
set_option maxHeartbeats 40000000
set_option maxRecDepth 100000
open Go.RowKit WMath
theorem below_fun (W : World) : ∃ F : World → World, (∀ u, Below W.heap.size W (F u)) ∧ (∀ u, Below W.heap.size W u → F u = u) := by
  classical
  refine ⟨fun u => if Below W.heap.size W u then u else W, fun u => ?_, fun u h => if_pos h⟩
  by_cases h : Below W.heap.size W u
  · simp only [h, if_true]
  · simp only [h, if_false]; exact Below.refl _ _

theorem wp_region_below {P : Program} {id : Nat} {Q : Exit → Act → World → Prop} {a : Act} {W : World} {l : List Oper} (F : World → World) (hF : ∀ u, Below W.heap.size W u → F u = u)
    (hm : P.follows .mixedOrders = true) (hB : Region.lexB .any l.toArray = true)
    (h : wpQuiet P l.toArray (fun w' => ∃ u, w' = F u) (fun a' => ∀ w', (∃ u, w' = F u) → Q .normal a' w') l a) : (Code.region id l.toArray true).wp P Q a W :=
  wp_region_quiet (C := fun w' => ∃ u, w' = F u) hm hB ⟨W.drew, (hF _ ((Below.refl _ _).drew)).symm⟩ (by simpa using h)

theorem quietF {P : Program} {f : Nat} {args : Array Value} {v : Value} {W : World} {F : World → World} (h1 : ∀ u, Below W.heap.size W (F u)) (h2 : ∀ u, Below W.heap.size W u → F u = u) {u : World}
    (h : Calls P f args (F u) fun e w' => e = .returned v ∧ Below (F u).heap.size (F u) w') : Calls P f args (F u) fun e w'' => e = .returned v ∧ ∃ u', w'' = F u' :=
  h.mono fun _ w' ⟨he, hm⟩ => ⟨he, w', (h2 _ ((h1 u).trans (hm.mono (h1 u).size))).symm⟩
theorem quietF0 {P : Program} {f : Nat} {args : Array Value} {v : Value} {F : World → World} {u : World}
    (h : Calls P f args (F u) fun e w' => e = .returned v ∧ w' = F u) : Calls P f args (F u) fun e w'' => e = .returned v ∧ ∃ u', w'' = F u' :=
  h.mono fun _ _ ⟨he, hm⟩ => ⟨he, u, hm⟩

theorem heap_of {W w1 : World} (hb : Below W.heap.size W w1) (b : Nat) (c : Array Value) (t : TypeId) (h : W.heap[b]? = some (.cells c t)) : w1.heap[b]? = some (.cells c t) := by
  rw [hb.block b (Array.getElem?_eq_some_iff.1 h).1, h]

theorem row_cell {w : World} {b n : Nat} (h : w.heap[b]? = some (.cells (cw 6 n) 52)) (o : Nat) (ho : o < 6) : w.cell? ⟨b, o, none⟩ = some (.int .u64 (wd n o : Nat)) := by
  rw [cell_of_row w b o _ _ _ h, cw_at 6 n o ho]
theorem setRow_row {w : World} {b : Nat} {c c' : Array Value} {t : TypeId} (h : w.heap[b]? = some (.cells c t)) : (w.setRow b c').heap[b]? = some (.cells c' t) := by
  simp [World.setRow, Array.getElem?_modify, h]
theorem setRow_other {w : World} {b b' : Nat} {c' : Array Value} (h : b ≠ b') : (w.setRow b c').heap[b']? = w.heap[b']? := by
  simp [World.setRow, Array.getElem?_modify, h]
theorem setRow_size {w : World} {b : Nat} {c' : Array Value} : (w.setRow b c').heap.size = w.heap.size := by
  simp [World.setRow]
theorem Below.setRow {B : Nat} {w w1 : World} {b : Nat} {c : Array Value} (h : Below B w w1) (hb : B ≤ b) : Below B w (w1.setRow b c) :=
  ⟨h.os, h.tape, h.output, by rw [setRow_size]; exact h.size, fun k hk => by rw [setRow_other (by omega)]; exact h.block k hk⟩

theorem st_same (w : World) (b x : Nat) (h : w.heap[b]? = some (.cells (cw 6 x) 52)) :
    (storeCells ⟨b, 0, none⟩ (cw 6 x).toList 0).run Tryz.prog w = .ok () w := by
  rw [st_any w b x x h, setRow_self w b _ _ _ h]

theorem eqItems6 (d x y : Nat) (w : World) : ∀ is : List Nat, (∀ i ∈ is, i < 6) → (Op.eqItems (d + 1) 24 1 (cw 6 x) (cw 6 y) is).run Tryz.prog w = .ok (is.all fun i => wd x i == wd y i) w
  | [], _ => rfl
  | i :: is, h => by
    have hi := h i (by simp)
    have ih := eqItems6 d x y w is (fun j hj => h j (by simp [hj]))
    have p1 : ∀ z : Nat, (part 24 (cw 6 z) (i * 1)).run Tryz.prog w = .ok (.int .u64 (wd z i : Nat)) w := fun z => by
      simp [part, cw_at 6 z i hi, go_sem]
    have e : ((wd x i : Int) == (wd y i : Int)) = (wd x i == wd y i) := by rw [Bool.eq_iff_iff]; simp only [beq_iff_eq]; omega
    simp only [Op.eqItems, Sem.run_bind, p1, Result.andThen_ok, run_equalIn_int _ d 24 .u64 .u64 _ _ Tryz.underlying24, e]
    cases he : wd x i == wd y i
    · simp [he]
    · simp [he, ih]

theorem eq6 (x y : Nat) (hx : x < Q) (hy : y < Q) (w : World) : (Op.equalIn 10000 52 (.agg (cw 6 x)) (.agg (cw 6 y))).run Tryz.prog w = .ok (decide (x = y)) w := by
  obtain ⟨i, hi⟩ : ∃ i, Tryz.prog.info? 24 = some i := by
    have : (Tryz.prog.info? 24).isSome = true := by kernel_rfl
    exact Option.isSome_iff_exists.1 this
  have hc : Tryz.prog.cellsOf 24 = 1 := by kernel_rfl
  rw [run_equalIn_array w 9999 (cw 6 x) (cw 6 y) Tryz.underlying52 hi, hc, eqItems6 9998 x y w (List.range 6) (fun i h => by simpa using h)]
  congr 1
  rw [Bool.eq_iff_iff, List.all_eq_true, decide_eq_true_iff]
  constructor
  · intro h
    obtain ⟨L, hL, hQ⟩ := Q_of
    rw [hQ] at hx hy
    exact wd_ext hx hy (fun k hk => by simpa using h k (by rw [hL] at hk; simpa using hk))
  · rintro rfl i _
    simp
theorem eqg6 : Tryz.prog.eqGuardType Tryz.prog.depth 52 = false := by kernel_rfl
theorem left_lost (n c x : Nat) (hx : x = n * 2 ^ c % Q) : (!decide (x / 2 ^ c = n)) = decide (Q ≤ n * 2 ^ c) := by
  by_cases h : n * 2 ^ c < Q
  · rw [hx, Nat.mod_eq_of_lt h, Nat.mul_div_cancel _ (Nat.two_pow_pos c), decide_eq_false (show ¬ Q ≤ n * 2 ^ c by omega)]
    simp
  · have h1 : x < Q := by rw [hx]; exact Nat.mod_lt _ Q_pos
    have h2 : x / 2 ^ c ≠ n := by
      intro e
      have := Nat.div_mul_le_self x (2 ^ c)
      rw [e] at this
      omega
    rw [decide_eq_true (show Q ≤ n * 2 ^ c by omega), decide_eq_false h2]
    rfl
theorem right_lost (n c : Nat) (hn : n < Q) : (!decide (n / 2 ^ c * 2 ^ c % Q = n)) = decide (n % 2 ^ c ≠ 0) := by
  have h1 := Nat.div_add_mod' n (2 ^ c)
  rw [Nat.mod_eq_of_lt (by omega)]
  by_cases h : n % 2 ^ c = 0
  · rw [decide_eq_true (show n / 2 ^ c * 2 ^ c = n by omega), decide_eq_false (by omega)]; rfl
  · rw [decide_eq_false (show ¬ n / 2 ^ c * 2 ^ c = n by omega), decide_eq_true h]; rfl

theorem wleft_any (n : Nat) (s : Int) (hn : n < Q) (w : World) :
    Calls Tryz.prog 126 #[W n, .int .i64 s] w fun e w' => e = .returned (.tuple #[W (n * 2 ^ cnt6 s % Q), .bool (decide (Q ≤ n * 2 ^ cnt6 s))]) ∧ Below w.heap.size w w' := by
  have hs6 : cnt6 s ≤ 384 := by unfold cnt6; omega
  obtain ⟨x, hx⟩ : ∃ x, x = n * 2 ^ cnt6 s % Q := ⟨_, rfl⟩
  have hxQ : x < Q := by rw [hx]; exact Nat.mod_lt _ Q_pos
  unfold W
  have hat := cw_at 6
  have hz := cw6z
  have hf := cw6f
  have hW : ∀ x, W x = .agg (cw 6 x) := fun _ => rfl
  have heq := eq6
  have hg := eqg6
  have hdQ : x / 2 ^ cnt6 s < Q := Nat.lt_of_le_of_lt (Nat.div_le_self _ _) hxQ
  rw [← hx]
  have HX := box hx
  clear hx
  go_enter Tryz.func126, Tryz.ntmps126
  go_wp2_with (first | (go_at_call 129; refine (wcount_any _ _).mono ?_; rintro e w' ⟨rfl, rfl⟩))
  refine (wup_any n (cnt6 s) hn hs6 _).mono ?_
  rintro e w1 ⟨rfl, hb1⟩
  rw [← HX.out]
  unfold W
  have hr0 : w1.heap[w.heap.size]? = some (.cells (cw 6 n) 52) := heap_of hb1 _ _ _ (by rw [heap_below _ _ _ (by simp)]; exact heap_alloc_last w _)
  have hr1 : w1.heap[w.heap.size + 1]? = some (.cells (cw 6 0) 52) := heap_of hb1 _ _ _ (by rw [← size_al]; exact heap_alloc_last _ _)
  obtain ⟨w2, hw2⟩ : ∃ w2, w2 = w1.setRow (w.heap.size + 1) (cw 6 x) := ⟨_, rfl⟩
  have hst : (storeCells ⟨w.heap.size + 1, 0, none⟩ (cw 6 x).toList 0).run Tryz.prog w1 = .ok () w2 := by rw [hw2]; exact st_any w1 _ x 0 hr1
  have hq0 : w2.heap[w.heap.size]? = some (.cells (cw 6 n) 52) := by rw [hw2, setRow_other (by omega)]; exact hr0
  have hq1 : w2.heap[w.heap.size + 1]? = some (.cells (cw 6 x) 52) := by rw [hw2]; exact setRow_row hr1
  have hbw : Below w.heap.size w w2 := by
    rw [hw2]
    exact Below.setRow ((((Below.refl _ _).alloc (Nat.le_refl _) _).alloc (by simp) _).trans (hb1.mono (by simp <;> omega))) (by omega)
  have hs2 : w.heap.size + 1 < w2.heap.size := (Array.getElem?_eq_some_iff.1 hq1).1
  clear hb1 hr0 hr1 hw2
  obtain ⟨F, hF1, hF2⟩ := below_fun w2
  have hFn : ∀ u o, o < 6 → (F u).cell? ⟨w.heap.size, o, none⟩ = some (.int .u64 (wd n o : Nat)) := fun u => row_cell (heap_of (hF1 u) _ _ _ hq0)
  have hFx : ∀ u o, o < 6 → (F u).cell? ⟨w.heap.size + 1, o, none⟩ = some (.int .u64 (wd x o : Nat)) := fun u => row_cell (heap_of (hF1 u) _ _ _ hq1)
  have hFs : ∀ u, (storeCells ⟨w.heap.size + 1, 0, none⟩ (cw 6 x).toList 0).run Tryz.prog (F u) = .ok () (F u) := fun u => st_same _ _ _ (heap_of (hF1 u) _ _ _ hq1)
  go_wp2
  refine wp_region_below F hF2 (by kernel_rfl) (by kernel_rfl) ?_
  repeat quiet_step ((go_at_call 130; exact quietF hF1 hF2 (wdown_any x (cnt6 s) hxQ hs6 _)))
  refine wpQuiet_nil ?_
  rintro _ ⟨u, rfl⟩
  go_wp2
  exact bodyPost_ret (v := .tuple #[.agg (cw 6 x), .bool (!decide (x / 2 ^ cnt6 s = n))]) (by simp [results, Tryz.results126, go_sem, hFx, hf]) rfl ⟨by rw [left_lost n _ x HX.out], hbw.trans ((hF1 u).mono (by omega))⟩
theorem wright_any (n : Nat) (s : Int) (hn : n < Q) (w : World) :
    Calls Tryz.prog 73 #[W n, .int .i64 s] w fun e w' => e = .returned (.tuple #[W (n / 2 ^ cnt6 s), .bool (decide (n % 2 ^ cnt6 s ≠ 0))]) ∧ Below w.heap.size w w' := by
  have hs6 : cnt6 s ≤ 384 := by unfold cnt6; omega
  obtain ⟨x, hx⟩ : ∃ x, x = n / 2 ^ cnt6 s := ⟨_, rfl⟩
  have hxQ : x < Q := by rw [hx]; exact Nat.lt_of_le_of_lt (Nat.div_le_self _ _) hn
  unfold W
  have hat := cw_at 6
  have hz := cw6z
  have hf := cw6f
  have hW : ∀ x, W x = .agg (cw 6 x) := fun _ => rfl
  have heq := eq6
  have hg := eqg6
  have hdQ : x * 2 ^ cnt6 s % Q < Q := Nat.mod_lt _ Q_pos
  rw [← hx]
  have HX := box hx
  clear hx
  go_enter Tryz.func73, Tryz.ntmps73
  go_wp2_with (first | (go_at_call 129; refine (wcount_any _ _).mono ?_; rintro e w' ⟨rfl, rfl⟩))
  refine (wdown_any n (cnt6 s) hn hs6 _).mono ?_
  rintro e w1 ⟨rfl, hb1⟩
  rw [← HX.out]
  unfold W
  have hr0 : w1.heap[w.heap.size]? = some (.cells (cw 6 n) 52) := heap_of hb1 _ _ _ (by rw [heap_below _ _ _ (by simp)]; exact heap_alloc_last w _)
  have hr1 : w1.heap[w.heap.size + 1]? = some (.cells (cw 6 0) 52) := heap_of hb1 _ _ _ (by rw [← size_al]; exact heap_alloc_last _ _)
  obtain ⟨w2, hw2⟩ : ∃ w2, w2 = w1.setRow (w.heap.size + 1) (cw 6 x) := ⟨_, rfl⟩
  have hst : (storeCells ⟨w.heap.size + 1, 0, none⟩ (cw 6 x).toList 0).run Tryz.prog w1 = .ok () w2 := by rw [hw2]; exact st_any w1 _ x 0 hr1
  have hq0 : w2.heap[w.heap.size]? = some (.cells (cw 6 n) 52) := by rw [hw2, setRow_other (by omega)]; exact hr0
  have hq1 : w2.heap[w.heap.size + 1]? = some (.cells (cw 6 x) 52) := by rw [hw2]; exact setRow_row hr1
  have hbw : Below w.heap.size w w2 := by
    rw [hw2]
    exact Below.setRow ((((Below.refl _ _).alloc (Nat.le_refl _) _).alloc (by simp) _).trans (hb1.mono (by simp <;> omega))) (by omega)
  have hs2 : w.heap.size + 1 < w2.heap.size := (Array.getElem?_eq_some_iff.1 hq1).1
  clear hb1 hr0 hr1 hw2
  obtain ⟨F, hF1, hF2⟩ := below_fun w2
  have hFn : ∀ u o, o < 6 → (F u).cell? ⟨w.heap.size, o, none⟩ = some (.int .u64 (wd n o : Nat)) := fun u => row_cell (heap_of (hF1 u) _ _ _ hq0)
  have hFx : ∀ u o, o < 6 → (F u).cell? ⟨w.heap.size + 1, o, none⟩ = some (.int .u64 (wd x o : Nat)) := fun u => row_cell (heap_of (hF1 u) _ _ _ hq1)
  have hFs : ∀ u, (storeCells ⟨w.heap.size + 1, 0, none⟩ (cw 6 x).toList 0).run Tryz.prog (F u) = .ok () (F u) := fun u => st_same _ _ _ (heap_of (hF1 u) _ _ _ hq1)
  go_wp2
  refine wp_region_below F hF2 (by kernel_rfl) (by kernel_rfl) ?_
  repeat quiet_step ((go_at_call 131; exact quietF hF1 hF2 (wup_any x (cnt6 s) hxQ hs6 _)))
  refine wpQuiet_nil ?_
  rintro _ ⟨u, rfl⟩
  go_wp2
  exact bodyPost_ret (v := .tuple #[.agg (cw 6 x), .bool (!decide (x * 2 ^ cnt6 s % Q = n))]) (by simp [results, Tryz.results73, go_sem, hFx, hf]) rfl ⟨by rw [HX.out, right_lost n _ hn], hbw.trans ((hF1 u).mono (by omega))⟩
theorem wleft_is (n v : Nat) (s : Int) (o : Bool) (hn : n < Q) (hv : n * 2 ^ cnt6 s % Q = v) (ho : decide (Q ≤ n * 2 ^ cnt6 s) = o) (w : World) :
    Calls Tryz.prog 126 #[.agg (cw 6 n), .int .i64 s] w fun e w' => e = .returned (.tuple #[.agg (cw 6 v), .bool o]) ∧ Below w.heap.size w w' := by
  subst hv; subst ho; exact wleft_any n s hn w
theorem wright_is (n v : Nat) (s : Int) (o : Bool) (hn : n < Q) (hv : n / 2 ^ cnt6 s = v) (ho : decide (n % 2 ^ cnt6 s ≠ 0) = o) (w : World) :
    Calls Tryz.prog 73 #[.agg (cw 6 n), .int .i64 s] w fun e w' => e = .returned (.tuple #[.agg (cw 6 v), .bool o]) ∧ Below w.heap.size w w' := by
  subst hv; subst ho; exact wright_any n s hn w
theorem add_is (a b : Nat) (c : Bool) (s : Nat) (o : Bool) (ha : a < 18446744073709551616) (hb : b < 18446744073709551616) (hs : (a + b + c.toNat) % 18446744073709551616 = s) (ho : decide (18446744073709551616 ≤ a + b + c.toNat) = o) (w : World) :
    Calls Tryz.prog 187 #[.int .u64 a, .int .u64 b, .bool c] w fun e w' => e = .returned (.tuple #[.int .u64 (s : Nat), .bool o]) ∧ w' = w := by
  subst hs; subst ho; exact add_any a b c ha hb w
theorem mul_is (x y h l : Nat) (hx : x < 18446744073709551616) (hy : y < 18446744073709551616) (hh : x * y / 18446744073709551616 = h) (hl : x * y % 18446744073709551616 = l) (w : World) :
    Calls Tryz.prog 216 #[.int .u64 x, .int .u64 y] w fun e w' => e = .returned (.tuple #[.int .u64 (h : Nat), .int .u64 (l : Nat)]) ∧ w' = w := by
  subst hh; subst hl; exact mul_any x y hx hy w

theorem mulAdd_any (x y u v : Nat) (hx : x < 18446744073709551616) (hy : y < 18446744073709551616) (hu : u < 18446744073709551616) (hv : v < 18446744073709551616) (w : World) :
    Calls Tryz.prog 208 #[.int .u64 x, .int .u64 y, .int .u64 u, .int .u64 v] w fun e w' => e = .returned (.tuple #[.int .u64 ((x * y + u + v) % 18446744073709551616 : Nat), .int .u64 ((x * y + u + v) / 18446744073709551616 : Nat)]) ∧ w' = w := by
  obtain ⟨H, hH⟩ : ∃ H, x * y / 18446744073709551616 = H := ⟨_, rfl⟩
  obtain ⟨L, hL⟩ : ∃ L, x * y % 18446744073709551616 = L := ⟨_, rfl⟩
  obtain ⟨l1, hl1⟩ : ∃ l1, (L + u + false.toNat) % 18446744073709551616 = l1 := ⟨_, rfl⟩
  obtain ⟨c1, hc1⟩ : ∃ c1, decide (18446744073709551616 ≤ L + u + false.toNat) = c1 := ⟨_, rfl⟩
  obtain ⟨h1, hh1⟩ : ∃ h1, (H + 0 + c1.toNat) % 18446744073709551616 = h1 := ⟨_, rfl⟩
  obtain ⟨d1, hd1⟩ : ∃ d1, decide (18446744073709551616 ≤ H + 0 + c1.toNat) = d1 := ⟨_, rfl⟩
  obtain ⟨l2, hl2⟩ : ∃ l2, (l1 + v + false.toNat) % 18446744073709551616 = l2 := ⟨_, rfl⟩
  obtain ⟨c2, hc2⟩ : ∃ c2, decide (18446744073709551616 ≤ l1 + v + false.toNat) = c2 := ⟨_, rfl⟩
  obtain ⟨h2, hh2⟩ : ∃ h2, (h1 + 0 + c2.toNat) % 18446744073709551616 = h2 := ⟨_, rfl⟩
  obtain ⟨d2, hd2⟩ : ∃ d2, decide (18446744073709551616 ≤ h1 + 0 + c2.toNat) = d2 := ⟨_, rfl⟩
  have bL : L < 18446744073709551616 := by rw [← hL]; exact Nat.mod_lt _ (by decide)
  have bH : H < 18446744073709551616 := by rw [← hH]; exact Nat.lt_of_le_of_lt (Nat.div_le_div_right (Nat.mul_le_mul (Nat.le_of_lt hx) (Nat.le_of_lt_succ (show y < 18446744073709551615 + 1 by omega)))) (by decide)
  have e1 := carry_num L u l1 false c1 bL hu hl1 hc1
  have e2 := carry_num l1 v l2 false c2 e1.2 hv hl2 hc2
  have b1 : h1 < 18446744073709551616 := by rw [← hh1]; exact Nat.mod_lt _ (by decide)
  have fin := mulAdd_num x y u v H L l1 c1.toNat h1 l2 c2.toNat h2 hx hy hu hv hH.symm hL.symm (by simpa using e1.1) (by rw [← hh1]; simp) (by simpa using e2.1) (by rw [← hh2]; simp) e1.2 e2.2
  have F1 := box fin
  have A1 := box hH
  have A2 := box hL
  have A3 := box hl1
  have A4 := box hc1
  have A5 := box hh1
  have A6 := box hd1
  have A7 := box hl2
  have A8 := box hc2
  have A9 := box hh2
  have A10 := box hd2
  have E1 := box e1
  clear fin hH hL hl1 hc1 hh1 hd1 hl2 hc2 hh2 hd2 e1 e2
  go_enter Tryz.func208, Tryz.ntmps208
  go_wp2_with fail
  refine (mul_is x y H L hx hy A1.out A2.out _).mono ?_
  rintro e w' ⟨rfl, rfl⟩
  go_wp2_with fail
  refine (add_is L u false l1 c1 bL hu A3.out A4.out _).mono ?_
  rintro e w' ⟨rfl, rfl⟩
  go_wp2_with fail
  refine (add_is H 0 c1 h1 d1 bH (by decide) A5.out A6.out _).mono ?_
  rintro e w' ⟨rfl, rfl⟩
  go_wp2_with fail
  refine (add_is l1 v false l2 c2 E1.out.2 hv A7.out A8.out _).mono ?_
  rintro e w' ⟨rfl, rfl⟩
  go_wp2_with fail
  refine (add_is h1 0 c2 h2 d2 b1 (by decide) A9.out A10.out _).mono ?_
  rintro e w' ⟨rfl, rfl⟩
  go_wp2
  go_ret2
  exact ⟨ret_ii (by rw [F1.out.1]) (by rw [F1.out.2]), rfl⟩

theorem cw12z : #[Value.int .u64 0, .int .u64 0, .int .u64 0, .int .u64 0, .int .u64 0, .int .u64 0, .int .u64 0, .int .u64 0, .int .u64 0, .int .u64 0, .int .u64 0, .int .u64 0] = cw 12 0 := by
  show _ = #[_, _, _, _, _, _, _, _, _, _, _, _]
  simp [wd_zero]

theorem mul_over (n m P x2 : Nat) (hP : P = n * m) (h2 : x2 = P / Q) : (!decide (x2 = 0)) = decide (Q ≤ n * m) := by
  have := Q_pos
  by_cases h : Q ≤ n * m
  · have : 0 < P / Q := Nat.div_pos (by omega) Q_pos
    rw [decide_eq_true h, decide_eq_false (by omega)]; rfl
  · rw [h2, hP, Nat.div_eq_of_lt (by omega), decide_eq_false h]; rfl

theorem cw_take (S L o x : Nat) (hf : o + 6 ≤ S) (hx : ∀ j, j < 6 → wd x j = wd L (o + j)) (j : Nat) (v : Value) (hv : (cw 6 x).toList[j]? = some v) : (cw S L)[o + j]? = some v := by
  have hj : j < 6 := by
    have := (List.getElem?_eq_some_iff.1 hv).1
    simpa [cw_size] using this
  rw [cw_at S L (o + j) (by omega), ← hx j hj, ← cw_at 6 x j hj, ← hv]
  simp

theorem step_copy6 {P : Program} {ops : Array Oper} {o : Oper} {a : Act} {w : World} {K : Act → World → Prop} {Q : Exit → Act → World → Prop} {E : Prop} (hgd : o.guard = none) (d s : Operand) (dT sT : TypeId)
    (ho : o.op = .call { callee := .builtin .copy, args := #[d, s], argTypes := #[dT, sT] }) (elem : TypeId) (hu : P.underlying dT = some (.slice elem)) (hsz : (P.info? elem).map (·.size) = some 1)
    (g gs offs sCap : Nat) (hd : a.eval d = .slice (some ⟨g, 0, none⟩) 6 6) (hs : a.eval s = .slice (some ⟨gs, offs, none⟩) 6 sCap)
    (y L x S : Nat) (t t' : TypeId) (hg : w.heap[g]? = some (.cells (cw 6 y) t)) (hsrc : w.heap[gs]? = some (.cells (cw S L) t')) (fit : offs + 6 ≤ S) (hx : ∀ j, j < 6 → wd x j = wd L (offs + j))
    (h : ∀ w', w' = w.setRow g (cw 6 x) → K (a.put o.dst (goInt 6)) w') :
    if Region.wanted o (yielded ops a.tmps) = true then Oper.wp P o a w K Q else E := by
  have hw : Region.wanted o (yielded ops a.tmps) = true := by simp [Region.wanted, hgd]
  rw [if_pos hw]
  have hlen : (cw 6 x).toList.length = 6 := by simp [cw_size]
  have hadd : ∀ j, (⟨gs, offs, none⟩ : Addr).add j = ⟨gs, offs + j, none⟩ := fun j => by unfold Addr.add; split <;> simp_all
  have hrun := run_copy_row (P := P) w dT sT o.type elem g 0 6 6 ⟨gs, offs, none⟩ 6 sCap (cw 6 y) t (cw 6 x).toList hu hsz hg (by rw [hlen]; rfl)
    (fun j v hv => by rw [hadd, cell_of_row w gs (offs + j) _ _ _ hsrc]; exact cw_take S L offs x fit hx j v hv) (by rw [hlen, cw_size]; decide)
    (fun v hv => (Array.all_eq_true_iff_forall_mem.1 (cw_oneCell 6 x)) v (by simpa using hv))
  rw [hlen] at hrun
  have e0 : (cw 6 y).toList.drop (0 + 6) = [] := List.drop_eq_nil_of_le (by simp [cw_size])
  rw [e0, List.take_zero, List.nil_append, List.append_nil, Array.toArray_toList] at hrun
  unfold Oper.wp
  simp [execOp, ho, resolve, invoke, builtin, hd, hs, hrun, Result.andThen]
  exact h _ rfl

set_option maxRecDepth 100000 in
set_option maxHeartbeats 1000000 in
theorem wmul_any (n m : Nat) (hn : n < Q) (hm : m < Q) (w : World) :
    Calls Tryz.prog 169 #[W n, W m] w fun e w' => e = .returned (.tuple #[W (n * m % Q), .bool (decide (Q ≤ n * m))]) ∧ Below w.heap.size w w' := by
  unfold W
  have hat := cw_at 6
  have hat12 := cw_at 12
  have hz := cw6z
  have hz12 := cw12z
  have hf := cw6f
  have hx := ix6
  have hs0 := st0
  go_enter Tryz.func169, Tryz.ntmps169
  go_wp2
  go_loopw [14] (fun i wr => ∃ (k L : Nat), k ≤ 6 ∧ i = .int .i64 k ∧ wr = (((w.alloc (.cells (cw 6 n) 52)).alloc (.cells (cw 6 m) 52)).alloc (.cells (cw 6 0) 52)).alloc (.cells (cw 12 L) 193) ∧ Box (L = (n % 2 ^ (64 * k)) * m)) (fun i _ => 6 - (intOf i).toNat)
  case atStart => exact ⟨0, 0, by omega, rfl, rfl, box (by simp [Nat.mod_one])⟩
  case round =>
    obtain ⟨k, L0, hk, rfl, rfl, HE⟩ := hrel
    by_cases hlt : k < 6
    · have hL0 : Box (L0 < 2 ^ (64 * (k + 6))) := box (by rw [HE.out]; exact mul_bd n m k hm)
      have hdk : decide ((k : Int) < 6) = true := by simp; omega
      go_wp2
      go_loopw [9, 19] (fun cv i wr => ∃ (j L c : Nat), j ≤ 6 ∧ i = .int .i64 j ∧ cv = .int .u64 c ∧ c < 18446744073709551616 ∧ wr = (((w.alloc (.cells (cw 6 n) 52)).alloc (.cells (cw 6 m) 52)).alloc (.cells (cw 6 0) 52)).alloc (.cells (cw 12 L) 193) ∧ Box (L < 2 ^ (64 * (k + 6))) ∧ Box (L + 2 ^ (64 * (k + j)) * c = (n % 2 ^ (64 * k)) * m + wd n k * 2 ^ (64 * k) * (m % 2 ^ (64 * j)))) (fun _ i _ => 6 - (intOf i).toNat)
      case atStart => exact ⟨0, L0, 0, by omega, rfl, rfl, by decide, rfl, hL0, box (by rw [HE.out]; simp [Nat.mod_one])⟩
      case round =>
        obtain ⟨j, L, c, hj, rfl, rfl, hc, rfl, hL, HI⟩ := hrel
        by_cases hlj : j < 6
        · obtain ⟨p, hp⟩ : ∃ p, p = k + j := ⟨_, rfl⟩
          have hp1 : (k : Int) + (j : Int) = (p : Int) := by omega
          have hp2 : p < 12 := by omega
          have hp3 : p < k + 6 := by omega
          have HP := box hp
          obtain ⟨lo, hlo⟩ : ∃ lo, (wd n k * wd m j + wd L p + c) % 18446744073709551616 = lo := ⟨_, rfl⟩
          obtain ⟨hi, hhi⟩ : ∃ hi, (wd n k * wd m j + wd L p + c) / 18446744073709551616 = hi := ⟨_, rfl⟩
          have hsum : lo + 18446744073709551616 * hi = wd n k * wd m j + wd L p + c := by rw [← hlo, ← hhi]; omega
          have blo : lo < 18446744073709551616 := by rw [← hlo]; exact Nat.mod_lt _ (by decide)
          have bhi : hi < 18446744073709551616 := by rw [← hhi]; exact mul_lt128 _ _ _ _ (wd_lt _ _) (wd_lt _ _) (wd_lt _ _) hc
          have hset := cw_set 12 L p lo hp2 blo
          have ST := box (mul_in_step n m L _ k j p c lo hi hp (by rw [hp]; exact HI.out) rfl hsum)
          have BD := box (setw_lt L p lo (k + 6) hL.out hp3 blo)
          have HLO := box hlo
          have HHI := box hhi
          clear hp hlo hhi hsum
          go_wp2_with fail
          refine ((mulAdd_any (wd n k) (wd m j) (wd L p) c (wd_lt _ _) (wd_lt _ _) (wd_lt _ _) hc _).mono ?_)
          rw [HLO.out, HHI.out]
          rintro e w' ⟨rfl, rfl⟩
          go_wp2
          go_roundw
          case rel => exact ⟨j + 1, setw L p lo, hi, by omega, by go_num, rfl, bhi, rfl, BD, box (by rw [← ST.out, HP.out]; rfl)⟩
          case measure => simp [intOf]; omega
        · have hk6 : k + 6 < 12 := by omega
          have hset := cw_set 12 L (k + 6) c hk6 hc
          go_wp2
          go_roundw
          case rel =>
            have := mul_out n m L k c j (by omega) hm hL.out HI.out
            exact ⟨k + 1, _, by omega, by go_num, rfl, box this⟩
          case measure => simp [intOf]; omega
    · obtain ⟨P, hP⟩ : ∃ P, P = n * m := ⟨_, rfl⟩
      obtain rfl : L0 = P := by rw [HE.out, wlow n k hn (by omega), hP]
      have HP := box hP
      clear hP
      obtain ⟨x1, hx1⟩ : ∃ x, x = L0 % Q := ⟨_, rfl⟩
      obtain ⟨x2, hx2⟩ : ∃ x, x = L0 / Q := ⟨_, rfl⟩
      have q1 : ∀ j, j < 6 → wd x1 j = wd L0 (0 + j) := fun j hj => by
        obtain ⟨S, hS, hQ⟩ := Q_of
        rw [hx1, hQ, wd_mod _ _ _ (by omega), Nat.zero_add]
      have q2 : ∀ j, j < 6 → wd x2 j = wd L0 (6 + j) := fun j hj => by
        obtain ⟨S, hS, hQ⟩ := Q_of
        rw [hx2, hQ, wd_div, hS]
      have l1 : x1 < Q := by rw [hx1]; exact Nat.mod_lt _ Q_pos
      have l2 : x2 < Q := by rw [hx2, HP.out]; exact Nat.div_lt_of_lt_mul (Nat.mul_lt_mul'' hn hm)
      have Q1 := box q1
      have Q2 := box q2
      have HX1 := box hx1
      have HX2 := box hx2
      clear q1 q2 hx1 hx2
      go_wp2
      obtain ⟨W0, hW0⟩ : ∃ W0, W0 = ((((w.alloc (.cells (cw 6 n) 52)).alloc (.cells (cw 6 m) 52)).alloc (.cells (cw 6 0) 52)).alloc (.cells (cw 12 L0) 193)).alloc (.cells (cw 6 0) 52) := ⟨_, rfl⟩
      rw [← hW0]
      have g2 : W0.heap[w.heap.size + 1 + 1]? = some (.cells (cw 6 0) 52) := by
        rw [hW0, heap_below _ _ _ (by simp only [size_al]; omega), heap_below _ _ _ (by simp only [size_al]; omega)]
        have := heap_alloc_last ((w.alloc (.cells (cw 6 n) 52)).alloc (.cells (cw 6 m) 52)) (.cells (cw 6 0) 52)
        simpa only [size_al] using this
      have g3 : W0.heap[w.heap.size + 1 + 1 + 1]? = some (.cells (cw 12 L0) 193) := by
        rw [hW0, heap_below _ _ _ (by simp only [size_al]; omega)]
        have := heap_alloc_last (((w.alloc (.cells (cw 6 n) 52)).alloc (.cells (cw 6 m) 52)).alloc (.cells (cw 6 0) 52)) (.cells (cw 12 L0) 193)
        simpa only [size_al] using this
      have g4 : W0.heap[w.heap.size + 1 + 1 + 1 + 1]? = some (.cells (cw 6 0) 52) := by
        rw [hW0]
        have := heap_alloc_last ((((w.alloc (.cells (cw 6 n) 52)).alloc (.cells (cw 6 m) 52)).alloc (.cells (cw 6 0) 52)).alloc (.cells (cw 12 L0) 193)) (.cells (cw 6 0) 52)
        simpa only [size_al] using this
      have b0 : Below w.heap.size w W0 := by
        rw [hW0]
        exact (((((Below.refl _ _).alloc (Nat.le_refl _) _).alloc (by simp only [size_al]; omega) _).alloc (by simp only [size_al]; omega) _).alloc (by simp only [size_al]; omega) _).alloc (by simp only [size_al]; omega) _
      clear hW0
      go_region_law ((refine step_copy6 rfl (.tmp 45) (.tmp 46) 196 196 rfl 24 Tryz.underlying196 (by kernel_rfl) (w.heap.size + 1 + 1) (w.heap.size + 1 + 1 + 1) 0 12 (by simp [Act.eval, Act.put]) (by simp [Act.eval, Act.put]) 0 L0 x1 12 52 193 g2 g3 (by omega) Q1.out ?_; intro w1 hw1))
      all_goals
        obtain ⟨w1, hw1⟩ : ∃ w1, w1 = W0.drew.setRow (w.heap.size + 1 + 1) (cw 6 x1) := ⟨_, rfl⟩
        rw [← hw1]
        have b1 : Below w.heap.size w w1 := by rw [hw1]; exact Below.setRow b0.drew (by omega)
        have k2 : w1.heap[w.heap.size + 1 + 1]? = some (.cells (cw 6 x1) 52) := by rw [hw1]; exact setRow_row (w := W0.drew) g2
        have k3 : w1.heap[w.heap.size + 1 + 1 + 1]? = some (.cells (cw 12 L0) 193) := by rw [hw1, setRow_other (by omega)]; exact g3
        have k4 : w1.heap[w.heap.size + 1 + 1 + 1 + 1]? = some (.cells (cw 6 0) 52) := by rw [hw1, setRow_other (by omega)]; exact g4
        clear hw1 g2 g3 g4 b0
        go_wp2
        go_region_law ((refine step_copy6 rfl (.tmp 48) (.tmp 49) 196 196 rfl 24 Tryz.underlying196 (by kernel_rfl) (w.heap.size + 1 + 1 + 1 + 1) (w.heap.size + 1 + 1 + 1) 6 6 (by simp [Act.eval, Act.put]) (by simp [Act.eval, Act.put]) 0 L0 x2 12 52 193 k4 k3 (by omega) Q2.out ?_; intro w2 hw2))
        all_goals
          obtain ⟨w2, hw2⟩ : ∃ w2, w2 = w1.drew.setRow (w.heap.size + 1 + 1 + 1 + 1) (cw 6 x2) := ⟨_, rfl⟩
          rw [← hw2]
          have b2 : Below w.heap.size w w2 := by rw [hw2]; exact Below.setRow b1.drew (by omega)
          have j2 : w2.heap[w.heap.size + 1 + 1]? = some (.cells (cw 6 x1) 52) := by rw [hw2, setRow_other (by omega)]; exact k2
          have j4 : w2.heap[w.heap.size + 1 + 1 + 1 + 1]? = some (.cells (cw 6 x2) 52) := by rw [hw2]; exact setRow_row (w := w1.drew) k4
          have hsz : w.heap.size ≤ w2.heap.size := b2.size
          clear hw2 k2 k3 k4 b1
          obtain ⟨F, hF1, hF2⟩ := below_fun w2
          have hFx : ∀ u o, o < 6 → (F u).cell? ⟨w.heap.size + 1 + 1, o, none⟩ = some (.int .u64 (wd x1 o : Nat)) := fun u => row_cell (heap_of (hF1 u) _ _ _ j2)
          have hFy : ∀ u o, o < 6 → (F u).cell? ⟨w.heap.size + 1 + 1 + 1 + 1, o, none⟩ = some (.int .u64 (wd x2 o : Nat)) := fun u => row_cell (heap_of (hF1 u) _ _ _ j4)
          have hFs : ∀ u, (storeCells ⟨w.heap.size + 1 + 1, 0, none⟩ (cw 6 x1).toList 0).run Tryz.prog (F u) = .ok () (F u) := fun u => st_same _ _ _ (heap_of (hF1 u) _ _ _ j2)
          have heq := eq6
          have hg := eqg6
          have hQ0 := Q_pos
          have hcs := cw_size 6
          go_wp2
          refine wp_region_below F hF2 (by kernel_rfl) (by kernel_rfl) ?_
          repeat quiet_step (fail)
          refine wpQuiet_nil ?_
          rintro _ ⟨u, rfl⟩
          go_wp2
          exact bodyPost_ret (v := .tuple #[.agg (cw 6 x1), .bool (!decide (x2 = 0))]) (by simp [results, Tryz.results169, go_sem, hFx, hf]) rfl ⟨by rw [mul_over n m L0 x2 HP.out HX2.out, HX1.out, HP.out], b2.trans ((hF1 u).mono hsz)⟩
theorem len_is (x l : Nat) (hx : x < 18446744073709551616) (hl : blen x = l) (w : World) :
    Calls Tryz.prog 137 #[.int .u64 x] w fun e w' => e = .returned (.int .i64 (l : Nat)) ∧ w' = w := by
  subst hl; rw [← bitLen_blen x hx]; exact len_any x hx w

theorem wlen_any (n : Nat) (hn : n < Q) (w : World) :
    Calls Tryz.prog 86 #[W n] w fun e w' => e = .returned (.int .i64 (blen n : Nat)) ∧ Below w.heap.size w w' := by
  unfold W
  have hat := cw_at 6
  have hf := cw6f
  have hx := ix6
  go_enter Tryz.func86, Tryz.ntmps86
  go_wp2
  go_loop [3, 7] (fun r i => ∃ (k l : Nat), k ≤ 6 ∧ i = .int .i64 k ∧ r = .int .i64 l ∧ Box (l = blen (n % 2 ^ (64 * k)))) (fun _ i => 6 - (intOf i).toNat)
  case atStart => exact ⟨0, 0, by omega, rfl, rfl, box (by rw [Nat.mul_zero, Nat.pow_zero, Nat.mod_one, blen_zero])⟩
  case round =>
    obtain ⟨k, l, hk, rfl, rfl, HE⟩ := hrel
    by_cases hlt : k < 6
    · have ST := box (blen_step n k)
      obtain ⟨x, hxe⟩ : ∃ x, wd n k = x := ⟨_, rfl⟩
      have hx2 : x < 18446744073709551616 := by rw [← hxe]; exact wd_lt n k
      have hbl : blen x ≤ 64 := blen_le_of x 64 (by rw [← two64]; exact hx2)
      obtain ⟨b, hb⟩ : ∃ b, blen x = b := ⟨_, rfl⟩
      rw [hb] at hbl
      have HB := box hb
      have HX := box hxe
      clear hb
      by_cases h0 : x = 0
      · subst h0
        go_wp2
        go_round
        case rel => exact ⟨k + 1, l, by omega, by go_num, rfl, box (by rw [ST.out, HX.out, if_pos rfl]; exact HE.out)⟩
        case measure => simp [intOf]; omega
      · go_wp2_with (go_at_call 137; refine (len_is x b hx2 HB.out _).mono ?_; rintro e w' ⟨rfl, rfl⟩)
        go_round
        case rel => exact ⟨k + 1, 64 * k + b, by omega, by go_num, by go_num, box (by rw [ST.out, HX.out, if_neg h0, HB.out])⟩
        case measure => simp [intOf]; omega
    · go_wp2
      go_ret
      exact ⟨ret_int (by rw [HE.out, wlow n k hn (by omega)]), (Below.refl _ _).alloc (Nat.le_refl _) _⟩

theorem wfield_any (n low c : Nat) (hl : low < 384) (hc : low % 64 + c ≤ 64) (w : World) :
    Calls Tryz.prog 186 #[W n, .int .i64 low, .int .i64 c] w fun e w' => e = .returned (.int .u64 (n / 2 ^ low % 2 ^ c : Nat)) ∧ Below w.heap.size w w' := by
  unfold W
  have hat := cw_at 6
  obtain ⟨q, hq⟩ : ∃ q, q = low / 64 := ⟨_, rfl⟩
  obtain ⟨r, hr⟩ : ∃ r, r = low % 64 := ⟨_, rfl⟩
  have hq1 : (low : Int) / 64 = (q : Int) := by omega
  have hq2 : q < 6 := by omega
  have HR : Box ((low : Int) % 64 = (r : Int)) := box (by omega)
  have hr2 : r < 64 := by omega
  have hrc : r + c ≤ 64 := by omega
  have HF := box (field_num n q r c low (by omega) hrc)
  clear hq hr hc
  go_enter Tryz.func186, Tryz.ntmps186
  go_wp2_with (go_at_call 213; refine (field_any (wd n q) _ _ (wd_lt _ _) _).mono ?_; rintro e w' ⟨rfl, rfl⟩)
  go_ret
  refine ⟨ret_int ?_, (Below.refl _ _).alloc (Nat.le_refl _) _⟩
  rw [← HF.out]
  have e1 : cnt ((low : Int) % 64) = r := by rw [HR.out]; exact cnt_small r hr2
  have e2 : cnt (c : Int) = c := by unfold cnt; omega
  rw [e1, e2]
  simp
theorem fz {w : World} {b k : Nat} {c : Array Value} {t : TypeId} (h : w.heap[b]? = some (.cells c t)) : w.frozen? ⟨b, k, none⟩ = false := by simp [World.frozen?, h]
theorem setCell_row {w : World} {b k : Nat} {c : Array Value} {t : TypeId} {v : Value} (h : w.heap[b]? = some (.cells c t)) : (w.setCell ⟨b, k, none⟩ v).heap[b]? = some (.cells (c.setIfInBounds k v) t) := by
  simp [World.setCell, Array.getElem?_modify, h]
theorem setCell_other {w : World} {b b' k : Nat} {v : Value} (h : b ≠ b') : (w.setCell ⟨b, k, none⟩ v).heap[b']? = w.heap[b']? := by
  simp [World.setCell, Array.getElem?_modify, h]
theorem wadd_is (n m v : Nat) (o : Bool) (hn : n < Q) (hm : m < Q) (hv : (n + m) % Q = v) (ho : decide (Q ≤ n + m) = o) (w : World) :
    Calls Tryz.prog 136 #[.agg (cw 6 n), .agg (cw 6 m)] w fun e w' => e = .returned (.tuple #[.agg (cw 6 v), .bool o]) ∧ Below w.heap.size w w' := by
  subst hv; subst ho; exact wadd_any n m hn hm w
theorem wsub_is (n m v : Nat) (o : Bool) (hn : n < Q) (hm : m < Q) (hv : (n + Q - m) % Q = v) (ho : decide (n < m) = o) (w : World) :
    Calls Tryz.prog 168 #[.agg (cw 6 n), .agg (cw 6 m)] w fun e w' => e = .returned (.tuple #[.agg (cw 6 v), .bool o]) ∧ Below w.heap.size w w' := by
  subst hv; subst ho; exact wsub_any n m hn hm w
theorem wmul_is (n m v : Nat) (o : Bool) (hn : n < Q) (hm : m < Q) (hv : n * m % Q = v) (ho : decide (Q ≤ n * m) = o) (w : World) :
    Calls Tryz.prog 169 #[.agg (cw 6 n), .agg (cw 6 m)] w fun e w' => e = .returned (.tuple #[.agg (cw 6 v), .bool o]) ∧ Below w.heap.size w w' := by
  subst hv; subst ho; exact wmul_any n m hn hm w

theorem Q_big : 1000000 < Q := by
  obtain ⟨L, hL, hQ⟩ := Q_of
  rw [hQ]
  have : 2 ^ 20 ≤ 2 ^ (64 * L) := Nat.pow_le_pow_right (by decide) (by omega)
  have e : (2 : Nat) ^ 20 = 1048576 := by decide
  omega
theorem wof_al (n : Nat) (hn : n < 18446744073709551616) (w : World) : Calls Tryz.prog 127 #[.int .u64 n] w fun e w' => e = .returned (.agg (cw 6 n)) ∧ Below w.heap.size w w' := wof_any n hn w
def bitsV (b : Nat × Nat) : Value := .agg #[.int .u64 (b.1 : Nat), .int .u64 (b.2 : Nat)]

theorem set0 (x : Nat) (hx : x < 18446744073709551616) : (cw 6 0).setIfInBounds 0 (.int .u64 (x : Nat)) = cw 6 x := by
  rw [cw_set 6 0 0 x (by omega) hx, setw_low 0 0 x (by decide)]; simp
theorem set1 (x y : Nat) (hx : x < 18446744073709551616) (hy : y < 18446744073709551616) : (cw 6 x).setIfInBounds 1 (.int .u64 (y : Nat)) = cw 6 (x + 18446744073709551616 * y) := by
  rw [cw_set 6 x 1 y (by omega) hy, setw_low x 1 y (by rw [show 2 ^ (64 * 1) = 18446744073709551616 by decide]; exact hx)]
theorem bits_ltQ (x y : Nat) (hx : x < 18446744073709551616) (hy : y < 18446744073709551616) : x + 18446744073709551616 * y < Q := by
  obtain ⟨L, hL, hQ⟩ := Q_of
  rw [hQ]
  have h := push_lt x 1 y (by rw [show 2 ^ (64 * 1) = 18446744073709551616 by decide]; exact hx) hy
  have h2 : 2 ^ (64 * (1 + 1)) ≤ 2 ^ (64 * L) := Nat.pow_le_pow_right (by decide) (by omega)
  rw [show 2 ^ (64 * 1) = 18446744073709551616 by decide] at h
  omega

theorem wofbits_any (hi lo : Nat) (hh : hi < 18446744073709551616) (hl : lo < 18446744073709551616) (w : World) :
    Calls Tryz.prog 72 #[.agg #[.int .u64 hi, .int .u64 lo]] w fun e w' => e = .returned (.agg (cw 6 (lo + 18446744073709551616 * hi))) ∧ Below w.heap.size w w' := by
  have hat := cw_at 6
  have hz := cw6z
  have hf := cw6f
  have hs0 := st0
  obtain ⟨v, hv⟩ : ∃ v, v = lo + 18446744073709551616 * hi := ⟨_, rfl⟩
  have h1 := set0 lo hl
  have h2 := set1 lo hi hl hh
  rw [← hv] at h2 ⊢
  have h3 : (cw 6 0).toList.set 0 (.int .u64 lo) = (cw 6 lo).toList := by rw [← h1]; simp
  have h4 : (cw 6 lo).toList.set 1 (.int .u64 hi) = (cw 6 v).toList := by rw [← h2]; simp
  clear hv
  go_enter Tryz.func72, Tryz.ntmps72
  go_wp2
  exact bodyPost_ret (v := .agg (cw 6 v)) (by simp [results, Tryz.results72, go_sem, hat, hf]) rfl ⟨rfl, ((Below.refl _ _).alloc (Nat.le_refl _) _).alloc (by simp <;> omega) _⟩

theorem rwofbits_any (hi lo : Nat) (hh : hi < 18446744073709551616) (hl : lo < 18446744073709551616) (w : World) :
    Calls Tryz.prog 141 #[.agg #[.int .u64 hi, .int .u64 lo]] w fun e w' => e = .returned (.agg (cw 6 (lo + 18446744073709551616 * hi))) ∧ Below w.heap.size w w' := by
  have hat := cw_at 6
  have hz := cw6z
  have hf := cw6f
  have hs1 := st1
  obtain ⟨v, hv⟩ : ∃ v, v = lo + 18446744073709551616 * hi := ⟨_, rfl⟩
  have h1 := set0 lo hl
  have h2 := set1 lo hi hl hh
  rw [← hv] at h2 ⊢
  clear hv
  go_enter Tryz.func141, Tryz.ntmps141
  go_wp2
  exact bodyPost_ret (v := .agg (cw 6 v)) (by simp [results, Tryz.results141, go_sem, hat, hf]) rfl ⟨rfl, (((Below.refl _ _).alloc (Nat.le_refl _) _).alloc (by simp <;> omega) _).alloc (by simp <;> omega) _⟩

def cmpv (n m : Nat) : Int := if n = m then 0 else if n < m then -1 else 1

theorem wcmp_any (n m : Nat) (hn : n < Q) (hm : m < Q) (w : World) :
    Calls Tryz.prog 118 #[.agg (cw 6 n), .agg (cw 6 m)] w fun e w' => e = .returned (.int .i64 (cmpv n m)) ∧ Below w.heap.size w w' := by
  have hat := cw_at 6
  have hz := cw6z
  have hf := cw6f
  have hs0 := st0
  have heq := eq6
  have hg := eqg6
  by_cases h : n = m
  · subst h
    go_enter Tryz.func118, Tryz.ntmps118
    go_wp2
    go_ret
    exact ⟨ret_int (by unfold cmpv; simp), ((Below.refl _ _).alloc (Nat.le_refl _) _).alloc (by simp <;> omega) _⟩
  · obtain ⟨d, hd⟩ : ∃ d, (n + Q - m) % Q = d := ⟨_, rfl⟩
    have HD := box hd
    have hne : decide (n = m) = false := decide_eq_false h
    clear hd
    by_cases h2 : n < m
    · have h3 : decide (n < m) = true := decide_eq_true h2
      have H3 := box h3
      clear h3
      go_enter Tryz.func118, Tryz.ntmps118
      go_wp2_with fail
      refine (wsub_is n m d true hn hm HD.out H3.out _).mono ?_
      rintro e w1 ⟨rfl, hb⟩
      go_wp2
      go_ret
      exact ⟨ret_int (by unfold cmpv; rw [if_neg h, if_pos h2]), ((((Below.refl _ _).alloc (Nat.le_refl _) _).alloc (by simp) _).trans (hb.mono (by simp <;> omega))).alloc (by have := hb.size; simp at this; omega) _⟩
    · have h3 : decide (n < m) = false := decide_eq_false h2
      have H3 := box h3
      clear h3
      go_enter Tryz.func118, Tryz.ntmps118
      go_wp2_with fail
      refine (wsub_is n m d false hn hm HD.out H3.out _).mono ?_
      rintro e w1 ⟨rfl, hb⟩
      go_wp2
      go_ret
      exact ⟨ret_int (by unfold cmpv; rw [if_neg h, if_neg h2]), ((((Below.refl _ _).alloc (Nat.le_refl _) _).alloc (by simp) _).trans (hb.mono (by simp <;> omega))).alloc (by have := hb.size; simp at this; omega) _⟩

theorem wofbits_is (hi lo v : Nat) (hh : hi < 18446744073709551616) (hl : lo < 18446744073709551616) (hv : lo + 18446744073709551616 * hi = v) (w : World) :
    Calls Tryz.prog 72 #[.agg #[.int .u64 hi, .int .u64 lo]] w fun e w' => e = .returned (.agg (cw 6 v)) ∧ Below w.heap.size w w' := by
  subst hv; exact wofbits_any hi lo hh hl w

theorem wtobits_yes (n : Nat) (hn : n < Q) (hv : wd n 0 + 18446744073709551616 * wd n 1 = n) (w : World) :
    Calls Tryz.prog 74 #[.agg (cw 6 n)] w fun e w' => e = .returned (.tuple #[.agg #[.int .u64 (wd n 1 : Nat), .int .u64 (wd n 0 : Nat)], .bool true]) ∧ Below w.heap.size w w' := by
  have hat := cw_at 6
  have hf := cw6f
  have heq := eq6
  have hg := eqg6
  have HV := box hv
  clear hv
  obtain ⟨W, hW⟩ : ∃ W, W = (w.alloc (.cells (cw 6 n) 52)).alloc (.cells #[.int .u64 (wd n 1 : Nat), .int .u64 (wd n 0 : Nat)] 26) := ⟨_, rfl⟩
  have r0 : W.heap[w.heap.size]? = some (.cells (cw 6 n) 52) := by rw [hW, heap_below _ _ _ (by simp only [size_al]; omega)]; exact heap_alloc_last _ _
  have r1 : W.heap[w.heap.size + 1]? = some (.cells #[.int .u64 (wd n 1 : Nat), .int .u64 (wd n 0 : Nat)] 26) := by
    rw [hW]
    have := heap_alloc_last (w.alloc (.cells (cw 6 n) 52)) (.cells #[.int .u64 (wd n 1 : Nat), .int .u64 (wd n 0 : Nat)] 26)
    simpa only [size_al] using this
  have bW : Below w.heap.size w W := by rw [hW]; exact ((Below.refl _ _).alloc (Nat.le_refl _) _).alloc (by simp only [size_al]; omega) _
  obtain ⟨F, hF1, hF2⟩ := below_fun W
  have hFn : ∀ u o, o < 6 → (F u).cell? ⟨w.heap.size, o, none⟩ = some (.int .u64 (wd n o : Nat)) := fun u => row_cell (heap_of (hF1 u) _ _ _ r0)
  have hF3 : ∀ u, (F u).cell? ⟨w.heap.size + 1, 0, none⟩ = some (.int .u64 (wd n 1 : Nat)) := fun u => by rw [cell_of_row _ _ _ _ _ _ (heap_of (hF1 u) _ _ _ r1)]; rfl
  have hF4 : ∀ u, (F u).cell? ⟨w.heap.size + 1, 1, none⟩ = some (.int .u64 (wd n 0 : Nat)) := fun u => by rw [cell_of_row _ _ _ _ _ _ (heap_of (hF1 u) _ _ _ r1)]; rfl
  go_enter Tryz.func74, Tryz.ntmps74
  go_wp2
  rw [← hW]
  clear hW
  refine wp_region_below F hF2 (by kernel_rfl) (by kernel_rfl) ?_
  repeat quiet_step ((go_at_call 72; exact quietF hF1 hF2 (wofbits_is (wd n 1) (wd n 0) n (wd_lt _ _) (wd_lt _ _) HV.out _)))
  refine wpQuiet_nil ?_
  rintro _ ⟨u, rfl⟩
  have hz3 := hF3 u
  have hz4 := hF4 u
  have hz5 : ∀ o, (F u).frozen? ⟨w.heap.size + 1, o, none⟩ = false := fun o => fz (heap_of (hF1 u) _ _ _ r1)
  go_wp2
  exact bodyPost_ret (v := .tuple #[.agg #[.int .u64 (wd n 1 : Nat), .int .u64 (wd n 0 : Nat)], .bool true]) (by simp [results, Tryz.results74, go_sem, hz3, hz4]) rfl ⟨rfl, ((bW.trans ((hF1 u).mono bW.size)).setCell (by show w.heap.size ≤ w.heap.size + 1; omega) _).setCell (by show w.heap.size ≤ w.heap.size + 1; omega) _⟩
theorem wtobits_no (n : Nat) (hn : n < Q) (hv : ¬ wd n 0 + 18446744073709551616 * wd n 1 = n) (w : World) :
    Calls Tryz.prog 74 #[.agg (cw 6 n)] w fun e w' => e = .returned (.tuple #[.agg #[.int .u64 0, .int .u64 0], .bool false]) ∧ Below w.heap.size w w' := by
  have hat := cw_at 6
  have hf := cw6f
  have heq := eq6
  have hg := eqg6
  obtain ⟨v, hx⟩ : ∃ v, wd n 0 + 18446744073709551616 * wd n 1 = v := ⟨_, rfl⟩
  rw [hx] at hv
  have hvQ : v < Q := by rw [← hx]; exact bits_ltQ _ _ (wd_lt _ _) (wd_lt _ _)
  have HV := box hx
  clear hx
  obtain ⟨W, hW⟩ : ∃ W, W = (w.alloc (.cells (cw 6 n) 52)).alloc (.cells #[.int .u64 (wd n 1 : Nat), .int .u64 (wd n 0 : Nat)] 26) := ⟨_, rfl⟩
  have r0 : W.heap[w.heap.size]? = some (.cells (cw 6 n) 52) := by rw [hW, heap_below _ _ _ (by simp only [size_al]; omega)]; exact heap_alloc_last _ _
  have r1 : W.heap[w.heap.size + 1]? = some (.cells #[.int .u64 (wd n 1 : Nat), .int .u64 (wd n 0 : Nat)] 26) := by
    rw [hW]
    have := heap_alloc_last (w.alloc (.cells (cw 6 n) 52)) (.cells #[.int .u64 (wd n 1 : Nat), .int .u64 (wd n 0 : Nat)] 26)
    simpa only [size_al] using this
  have bW : Below w.heap.size w W := by rw [hW]; exact ((Below.refl _ _).alloc (Nat.le_refl _) _).alloc (by simp only [size_al]; omega) _
  obtain ⟨F, hF1, hF2⟩ := below_fun W
  have hFn : ∀ u o, o < 6 → (F u).cell? ⟨w.heap.size, o, none⟩ = some (.int .u64 (wd n o : Nat)) := fun u => row_cell (heap_of (hF1 u) _ _ _ r0)
  have hF3 : ∀ u, (F u).cell? ⟨w.heap.size + 1, 0, none⟩ = some (.int .u64 (wd n 1 : Nat)) := fun u => by rw [cell_of_row _ _ _ _ _ _ (heap_of (hF1 u) _ _ _ r1)]; rfl
  have hF4 : ∀ u, (F u).cell? ⟨w.heap.size + 1, 1, none⟩ = some (.int .u64 (wd n 0 : Nat)) := fun u => by rw [cell_of_row _ _ _ _ _ _ (heap_of (hF1 u) _ _ _ r1)]; rfl
  go_enter Tryz.func74, Tryz.ntmps74
  go_wp2
  rw [← hW]
  clear hW
  refine wp_region_below F hF2 (by kernel_rfl) (by kernel_rfl) ?_
  repeat quiet_step ((go_at_call 72; exact quietF hF1 hF2 (wofbits_is (wd n 1) (wd n 0) v (wd_lt _ _) (wd_lt _ _) HV.out _)))
  refine wpQuiet_nil ?_
  rintro _ ⟨u, rfl⟩
  have hz3 := hF3 u
  have hz4 := hF4 u
  have hz5 : ∀ o, (F u).frozen? ⟨w.heap.size + 1, o, none⟩ = false := fun o => fz (heap_of (hF1 u) _ _ _ r1)
  go_wp2
  exact bodyPost_ret (v := .tuple #[.agg #[.int .u64 0, .int .u64 0], .bool false]) (by simp [results, Tryz.results74, go_sem, hz3, hz4]) rfl ⟨rfl, ((bW.trans ((hF1 u).mono bW.size)).setCell (by show w.heap.size ≤ w.heap.size + 1; omega) _).setCell (by show w.heap.size ≤ w.heap.size + 1; omega) _⟩

theorem rwofbits_is (hi lo v : Nat) (hh : hi < 18446744073709551616) (hl : lo < 18446744073709551616) (hv : lo + 18446744073709551616 * hi = v) (w : World) :
    Calls Tryz.prog 141 #[.agg #[.int .u64 hi, .int .u64 lo]] w fun e w' => e = .returned (.agg (cw 6 v)) ∧ Below w.heap.size w w' := by
  subst hv; exact rwofbits_any hi lo hh hl w
theorem wcmp_is (n m : Nat) (c : Int) (hn : n < Q) (hm : m < Q) (hc : cmpv n m = c) (w : World) :
    Calls Tryz.prog 118 #[.agg (cw 6 n), .agg (cw 6 m)] w fun e w' => e = .returned (.int .i64 c) ∧ Below w.heap.size w w' := by
  subst hc; exact wcmp_any n m hn hm w
theorem rwcount_any (n : Int) (w : World) :
    Calls Tryz.prog 146 #[.int .i64 n] w fun e w' => e = .returned (.int .i64 (cnt6 n : Nat)) ∧ w' = w := by
  go_enter Tryz.func146, Tryz.ntmps146
  go_wp2
  all_goals go_ret
  all_goals
    refine ⟨ret_int ?_, rfl⟩
    unfold cnt6
    omega

theorem rwbit_any (n i : Nat) (hi : i < 384) (w : World) :
    Calls Tryz.prog 122 #[.agg (cw 6 n), .int .i64 i] w fun e w' => e = .returned (.bool (n.testBit i)) ∧ Below w.heap.size w w' := by
  have hat := cw_at 6
  obtain ⟨q, hq⟩ : ∃ q, q = i / 64 := ⟨_, rfl⟩
  obtain ⟨r, hr⟩ : ∃ r, r = i % 64 := ⟨_, rfl⟩
  have hq1 : (i : Int) / 64 = (q : Int) := by omega
  have hr1 : (i : Int) % 64 = (r : Int) := by omega
  have hq2 : q < 6 := by omega
  have hr2 : r < 64 := by omega
  have hi1 : decide ((i : Int) < 384) = true := by simp; omega
  have hi0 : decide ((0 : Int) ≤ (i : Int)) = true := by simp
  have HB := box (bit_of_wd n i)
  rw [← hq, ← hr] at HB
  clear hq hr
  go_enter Tryz.func122, Tryz.ntmps122
  go_wp2_with (go_at_call 177; refine (bit_any (wd n q) r (wd_lt _ _) hr2 _).mono ?_; rintro e w' ⟨rfl, rfl⟩)
  go_ret
  exact ⟨by rw [HB.out]; rfl, (Below.refl _ _).alloc (Nat.le_refl _) _⟩

set_option maxRecDepth 100000 in
set_option maxHeartbeats 1000000 in
theorem rwright_is (n v : Nat) (s : Int) (o : Bool) (hn : n < Q) (hv : n / 2 ^ cnt6 s = v) (ho : decide (n % 2 ^ cnt6 s ≠ 0) = o) (w : World) :
    Calls Tryz.prog 145 #[.agg (cw 6 n), .int .i64 s] w fun e w' => e = .returned (.tuple #[.agg (cw 6 v), .bool o]) ∧ Below w.heap.size w w' := by
  obtain ⟨c, hc⟩ : ∃ c, c = cnt6 s := ⟨_, rfl⟩
  have hc6 : c ≤ 384 := by rw [hc]; unfold cnt6; omega
  rw [← hc] at hv ho
  have HV := box hv
  have HW := box ho
  have HC := box hc
  clear hv ho hc
  have hat := cw_at 6
  have hz := cw6z
  have hf := cw6f
  go_enter Tryz.func145, Tryz.ntmps145
  go_wp2_with fail
  refine (rwcount_any _ _).mono ?_
  rw [← HC.out]
  rintro e w' ⟨rfl, rfl⟩
  go_wp2
  go_loopw [7, 8] (fun lv iv wr => ∃ (i B : Nat) (l : Bool), i ≤ 384 ∧ iv = .int .i64 i ∧ lv = .bool l ∧ wr.heap[w.heap.size]? = some (.cells (cw 6 n) 52) ∧ wr.heap[w.heap.size + 1]? = some (.cells (cw 6 0) 52) ∧ wr.heap[w.heap.size + 1 + 1]? = some (.cells (cw 6 B) 52) ∧ Below w.heap.size w wr ∧ Box (B = (n % 2 ^ i) / 2 ^ c) ∧ Box (l = decide ((n % 2 ^ i) % 2 ^ c ≠ 0))) (fun _ i _ => 384 - (intOf i).toNat)
  case atStart =>
    refine ⟨0, 0, false, by omega, rfl, rfl, ?_, ?_, ?_, ?_, box (by simp [Nat.mod_one]), box ?_⟩
    · rw [heap_below _ _ _ (by simp only [size_al]; omega), heap_below _ _ _ (by simp only [size_al]; omega)]
      exact heap_alloc_last _ _
    · rw [heap_below _ _ _ (by simp only [size_al]; omega)]
      have := heap_alloc_last (w.alloc (.cells (cw 6 n) 52)) (.cells (cw 6 0) 52)
      simpa only [size_al] using this
    · have := heap_alloc_last ((w.alloc (.cells (cw 6 n) 52)).alloc (.cells (cw 6 0) 52)) (.cells (cw 6 0) 52)
      simpa only [size_al] using this
    · exact (((Below.refl _ _).alloc (Nat.le_refl _) _).alloc (by simp only [size_al]; omega) _).alloc (by simp only [size_al]; omega) _
    · have := Q_pos
      symm
      rw [decide_eq_false_iff_not]
      simp [Nat.mod_one]
  case round =>
    obtain ⟨i, B, l, hi, rfl, rfl, r0, r1, r2, hbw, HB, HL⟩ := hrel
    by_cases hlt : i < 384
    · have c0 := row_cell r0
      go_wp2_with fail
      refine (rwbit_any n i hlt _).mono ?_
      cases hbit : n.testBit i
      · rintro e w2 ⟨rfl, hb2⟩
        have HB0 := box (left_bit0 n i hbit)
        go_wp2
        go_roundw
        case rel => exact ⟨i + 1, B, l, by omega, by go_num, rfl, heap_of hb2 _ _ _ r0, heap_of hb2 _ _ _ r1, heap_of hb2 _ _ _ r2, hbw.trans (hb2.mono hbw.size), box (by rw [HB0.out]; exact HB.out), box (by rw [HB0.out]; exact HL.out)⟩
        case measure => simp [intOf] <;> omega
      · rintro e w2 ⟨rfl, hb2⟩
        have q0 := heap_of hb2 _ _ _ r0
        have q1 := heap_of hb2 _ _ _ r1
        have q2 := heap_of hb2 _ _ _ r2
        have bw2 := hbw.trans (hb2.mono hbw.size)
        have sz : w.heap.size + 1 + 1 < w2.heap.size := (Array.getElem?_eq_some_iff.1 q2).1
        clear hb2 r0 r1 r2 hbw c0
        by_cases hin : c ≤ i
        · obtain ⟨t, ht⟩ : ∃ t, i = t + c := ⟨i - c, by omega⟩
          obtain ⟨q, hq⟩ : ∃ q, q = t / 64 := ⟨_, rfl⟩
          obtain ⟨r, hr⟩ : ∃ r, r = t % 64 := ⟨_, rfl⟩
          have t1 : (i : Int) - (c : Int) = (t : Int) := by omega
          have t2 : (t : Int) / 64 = (q : Int) := by omega
          have t3 : (t : Int) % 64 = (r : Int) := by omega
          have t4 : q < 6 := by omega
          have t5 : r < 64 := by omega
          have ST := box (right_in n i c t q r B hbit ht (by omega) HB.out)
          obtain ⟨x, hx⟩ : ∃ x, x = 2 ^ r := ⟨_, rfl⟩
          have x1 : x < 18446744073709551616 := by rw [hx]; exact v_word r t5
          have x2 : IntKind.u64.wrap ((2 : Int) ^ r) = (x : Int) := by rw [pow_cast, wrap_nat _ (v_word r t5), hx]
          have x3 := bor B q x x1
          have HX := box hx
          have C2 := row_cell q2 q t4
          have F2 := fz (k := q) q2
          have HT := box ht
          clear hx ht hq hr
          go_wp2
          go_roundw
          case rel => exact ⟨i + 1, B ||| x * 2 ^ (64 * q), l, by omega, by go_num, rfl, by rw [setCell_other (by omega)]; exact q0, by rw [setCell_other (by omega)]; exact q1, by rw [setCell_row q2, cw_or 6 B q x _ t4 x1 rfl], bw2.setCell (by show w.heap.size ≤ w.heap.size + 1 + 1; omega) _, box (by rw [ST.out.1, HX.out]), box (by rw [HL.out]; rw [ST.out.2])⟩
          case measure => simp [intOf] <;> omega
        · have ST := box (right_out n i c B hbit (by omega) HB.out)
          go_wp2
          go_roundw
          case rel => exact ⟨i + 1, B, true, by omega, by go_num, rfl, q0, q1, q2, bw2, box ST.out.1.symm, box (by rw [decide_eq_true ST.out.2])⟩
          case measure => simp [intOf] <;> omega
    · have c2 := row_cell r2
      have hs : (storeCells ⟨w.heap.size + 1, 0, none⟩ (cw 6 B).toList 0).run Tryz.prog wr = .ok () (wr.setRow (w.heap.size + 1) (cw 6 B)) := st_any wr _ B 0 r1
      have e1 := HB.out
      have e2 := HL.out
      rw [mod384 n i hn (by omega)] at e1 e2
      rw [HV.out] at e1
      rw [HW.out] at e2
      subst e1
      subst e2
      have z1 : (wr.setRow (w.heap.size + 1) (cw 6 B)).heap[w.heap.size + 1]? = some (.cells (cw 6 B) 52) := setRow_row r1
      have c3 := row_cell z1
      have bz : Below w.heap.size w (wr.setRow (w.heap.size + 1) (cw 6 B)) := Below.setRow hbw (by omega)
      go_wp2
      exact bodyPost_ret (v := .tuple #[.agg (cw 6 B), .bool l]) (by simp [results, Tryz.results145, go_sem, c3, hf]) rfl ⟨rfl, bz⟩
theorem wand_any (n m : Nat) (hn : n < Q) (w : World) :
    Calls Tryz.prog 211 #[.agg (cw 6 n), .agg (cw 6 m)] w fun e w' => e = .returned (.agg (cw 6 (n &&& m))) ∧ Below w.heap.size w w' := by
  obtain ⟨v, hv⟩ : ∃ v, n &&& m = v := ⟨_, rfl⟩
  have HV := box hv
  rw [hv]
  clear hv
  have hat := cw_at 6
  have hz := cw6z
  have hf := cw6f
  have hx := ix6
  have hs0 := st0
  go_enter Tryz.func211, Tryz.ntmps211
  go_wp2
  go_loopw [8] (fun i wr => ∃ (k X : Nat), k ≤ 6 ∧ i = .int .i64 k ∧ wr = ((w.alloc (.cells (cw 6 X) 52)).alloc (.cells (cw 6 m) 52)).alloc (.cells (cw 6 0) 52) ∧ Box (Part X n k fun j => wd n j &&& wd m j)) (fun i _ => 6 - (intOf i).toNat)
  case atStart => exact ⟨0, n, by omega, rfl, rfl, box (part_start n _ hn)⟩
  case round =>
    obtain ⟨k, X, hk, rfl, rfl, HE⟩ := hrel
    by_cases hlt : k < 6
    · have hw := part_wd HE.out hlt
      have ho := bits_and_u64_nat (wd n k) (wd m k) (wd_lt _ _) (wd_lt _ _)
      have hb : wd n k &&& wd m k < 18446744073709551616 := Nat.lt_of_le_of_lt Nat.and_le_left (wd_lt n k)
      go_wp2
      go_roundw
      case rel =>
        exact ⟨k + 1, _, by omega, by go_num, by rw [cw_seti 6 X k _ _ hlt hb rfl], box (part_step HE.out hlt _ hb rfl)⟩
      case measure => simp [intOf]; omega
    · go_wp2
      have e := part_end HE.out (by omega) (n &&& m) (and_ltQ n m hn) (fun j hj => wd_and n m j)
      rw [HV.out] at e
      subst e
      exact bodyPost_ret (v := .agg (cw 6 X)) (by simp [results, Tryz.results211, go_sem, hat, hf]) rfl ⟨rfl, (((Below.refl _ _).alloc (Nat.le_refl _) _).alloc (by simp <;> omega) _).alloc (by simp <;> omega) _⟩

set_option maxHeartbeats 1000000 in
theorem rwand_is (n m v : Nat) (hn : n < Q) (hv : n &&& m = v) (w : World) :
    Calls Tryz.prog 143 #[.agg (cw 6 n), .agg (cw 6 m)] w fun e w' => e = .returned (.agg (cw 6 v)) ∧ Below w.heap.size w w' := by
  have HV := box hv
  clear hv
  have hat := cw_at 6
  have hz := cw6z
  have hf := cw6f
  go_enter Tryz.func143, Tryz.ntmps143
  go_wp2
  go_loopw [5] (fun i wr => ∃ (k X : Nat), k ≤ 6 ∧ i = .int .i64 k ∧ wr.heap[w.heap.size]? = some (.cells (cw 6 X) 52) ∧ wr.heap[w.heap.size + 1]? = some (.cells (cw 6 m) 52) ∧ wr.heap[w.heap.size + 1 + 1]? = some (.cells (cw 6 0) 52) ∧ Below w.heap.size w wr ∧ Box (Part X n k fun j => wd n j &&& wd m j)) (fun i _ => 6 - (intOf i).toNat)
  case atStart =>
    refine ⟨0, n, by omega, rfl, ?_, ?_, ?_, ?_, box (part_start n _ hn)⟩
    · rw [heap_below _ _ _ (by simp only [size_al]; omega), heap_below _ _ _ (by simp only [size_al]; omega)]
      exact heap_alloc_last _ _
    · rw [heap_below _ _ _ (by simp only [size_al]; omega)]
      have := heap_alloc_last (w.alloc (.cells (cw 6 n) 52)) (.cells (cw 6 m) 52)
      simpa only [size_al] using this
    · have := heap_alloc_last ((w.alloc (.cells (cw 6 n) 52)).alloc (.cells (cw 6 m) 52)) (.cells (cw 6 0) 52)
      simpa only [size_al] using this
    · exact (((Below.refl _ _).alloc (Nat.le_refl _) _).alloc (by simp only [size_al]; omega) _).alloc (by simp only [size_al]; omega) _
  case round =>
    obtain ⟨k, X, hk, rfl, r0, r1, r2, hbw, HE⟩ := hrel
    by_cases hlt : k < 6
    · have hki : (k : Int) < 6 := by omega
      have hw := part_wd HE.out hlt
      have ho := bits_and_u64_nat (wd n k) (wd m k) (wd_lt _ _) (wd_lt _ _)
      have hb : wd n k &&& wd m k < 18446744073709551616 := Nat.lt_of_le_of_lt Nat.and_le_left (wd_lt n k)
      have c0 := row_cell r0 k hlt
      rw [hw] at c0
      have c1 := row_cell r1 k hlt
      have f0 := fz (k := k) r0
      have PS := box (part_step HE.out hlt _ hb rfl)
      have RS : Box ((wr.setCell ⟨w.heap.size, k, none⟩ (.int .u64 ((wd n k &&& wd m k : Nat) : Int))).heap[w.heap.size]? = some (.cells (cw 6 (setw X k (wd n k &&& wd m k))) 52)) := box (by rw [setCell_row r0, cw_seti 6 X k _ _ hlt hb rfl])
      clear hw
      go_wp2
      go_region
      all_goals go_wp2
      all_goals go_roundw
      all_goals first | (show (_ : Nat) < _; simp [intOf]; omega) | exact ⟨k + 1, _, by omega, by go_num, RS.out, (setCell_other (w := wr) (by omega)).trans r1, (setCell_other (w := wr) (by omega)).trans r2, (hbw.setCell (by show w.heap.size ≤ w.heap.size; omega) _).drew, PS⟩
    · have e := part_end HE.out (by omega) (n &&& m) (and_ltQ n m hn) (fun j hj => wd_and n m j)
      rw [HV.out] at e
      subst e
      have c0 := row_cell r0
      have hst := st_any wr _ X 0 r2
      have z2 : (wr.setRow (w.heap.size + 1 + 1) (cw 6 X)).heap[w.heap.size + 1 + 1]? = some (.cells (cw 6 X) 52) := setRow_row r2
      have c3 := row_cell z2
      go_wp2
      exact bodyPost_ret (v := .agg (cw 6 X)) (by simp [results, Tryz.results143, go_sem, c3, hf]) rfl ⟨rfl, Below.setRow hbw (by omega)⟩
theorem mask_is (n : Int) (v : Nat) (hv : 2 ^ cnt n - 1 = v) (w : World) :
    Calls Tryz.prog 217 #[.int .i64 n] w fun e w' => e = .returned (.int .u64 (v : Nat)) ∧ w' = w := by
  subst hv; exact mask_any n w

set_option maxHeartbeats 1000000 in
theorem wmask_is (s : Int) (v : Nat) (hv : 2 ^ cnt6 s - 1 = v) (w : World) :
    Calls Tryz.prog 212 #[.int .i64 s] w fun e w' => e = .returned (.agg (cw 6 v)) ∧ Below w.heap.size w w' := by
  obtain ⟨c, hc⟩ : ∃ c, c = cnt6 s := ⟨_, rfl⟩
  have hc6 : c ≤ 384 := by rw [hc]; unfold cnt6; omega
  have hci : (c : Int) ≤ 384 := by omega
  rw [← hc] at hv
  have HV := box hv
  have HC := box hc
  clear hv hc
  have hat := cw_at 6
  have hz := cw6z
  have hf := cw6f
  have hs1 := st1
  go_enter Tryz.func212, Tryz.ntmps212
  go_wp2_with fail
  refine (wcount_any _ _).mono ?_
  rw [← HC.out]
  rintro e w' ⟨rfl, rfl⟩
  go_wp2
  go_loopw [7] (fun i wr => ∃ (k X : Nat), k ≤ 6 ∧ i = .int .i64 k ∧ wr = (w.alloc (.cells (cw 6 0) 52)).alloc (.cells (cw 6 X) 52) ∧ Box (Part X 0 k fun j => 2 ^ min (c - 64 * j) 64 - 1)) (fun i _ => 6 - (intOf i).toNat)
  case atStart => exact ⟨0, 0, by omega, rfl, rfl, box (part_start 0 _ Q_pos)⟩
  case round =>
    obtain ⟨k, X, hk, rfl, rfl, HE⟩ := hrel
    by_cases hlt : k < 6
    · obtain ⟨x, hx⟩ : ∃ x, 2 ^ min (c - 64 * k) 64 - 1 = x := ⟨_, rfl⟩
      have bx : x < 18446744073709551616 := by rw [← hx]; exact mask_lt64 _ (by omega)
      have hcn : cnt ((c : Int) - (k : Int) * 64) = min (c - 64 * k) 64 := by unfold cnt; omega
      have HX : Box (2 ^ cnt ((c : Int) - (k : Int) * 64) - 1 = x) := box (by rw [hcn, hx])
      have PS := box (part_step HE.out hlt x bx hx)
      clear hx hcn
      go_wp2_with fail
      refine (mask_is _ x HX.out _).mono ?_
      rintro e w2 ⟨rfl, rfl⟩
      go_wp2
      go_roundw
      case rel => exact ⟨k + 1, _, by omega, by go_num, by rw [cw_seti 6 X k x _ hlt bx rfl], PS⟩
      case measure => simp [intOf]; omega
    · go_wp2
      have e := part_end HE.out (by omega) (2 ^ c - 1) (mask_ltQ c hc6) (fun j hj => mask_wd c j _ rfl)
      rw [HV.out] at e
      subst e
      exact bodyPost_ret (v := .agg (cw 6 X)) (by simp [results, Tryz.results212, go_sem, hat, hf]) rfl ⟨rfl, ((Below.refl _ _).alloc (Nat.le_refl _) _).alloc (by simp <;> omega) _⟩

set_option maxRecDepth 100000 in
set_option maxHeartbeats 1000000 in
theorem rwmask_is (s : Int) (v : Nat) (hv : 2 ^ cnt6 s - 1 = v) (w : World) :
    Calls Tryz.prog 144 #[.int .i64 s] w fun e w' => e = .returned (.agg (cw 6 v)) ∧ Below w.heap.size w w' := by
  obtain ⟨c, hc⟩ : ∃ c, c = cnt6 s := ⟨_, rfl⟩
  have hc6 : c ≤ 384 := by rw [hc]; unfold cnt6; omega
  rw [← hc] at hv
  have HV := box hv
  have HC := box hc
  clear hv hc
  have hat := cw_at 6
  have hz := cw6z
  have hf := cw6f
  have hs1 := st1
  go_enter Tryz.func144, Tryz.ntmps144
  go_wp2_with fail
  refine (rwcount_any _ _).mono ?_
  rw [← HC.out]
  rintro e w' ⟨rfl, rfl⟩
  go_wp2
  go_loopw [4] (fun iv wr => ∃ (i X : Nat), i ≤ c ∧ iv = .int .i64 i ∧ wr = (w.alloc (.cells (cw 6 0) 52)).alloc (.cells (cw 6 X) 52) ∧ Box (X = 2 ^ i - 1)) (fun iv _ => c - (intOf iv).toNat)
  case atStart => exact ⟨0, 0, by omega, rfl, rfl, box rfl⟩
  case round =>
    obtain ⟨i, X, hi, rfl, rfl, HE⟩ := hrel
    by_cases hlt : i < c
    · obtain ⟨q, hq⟩ : ∃ q, q = i / 64 := ⟨_, rfl⟩
      obtain ⟨r, hr⟩ : ∃ r, r = i % 64 := ⟨_, rfl⟩
      have t2 : (i : Int) / 64 = (q : Int) := by omega
      have t3 : (i : Int) % 64 = (r : Int) := by omega
      have t4 : q < 6 := by omega
      have t5 : r < 64 := by omega
      obtain ⟨x, hx⟩ : ∃ x, x = 2 ^ r := ⟨_, rfl⟩
      have x1 : x < 18446744073709551616 := by rw [hx]; exact v_word r t5
      have x2 : IntKind.u64.wrap ((2 : Int) ^ r) = (x : Int) := by rw [pow_cast, wrap_nat _ (v_word r t5), hx]
      have x3 := bor X q x x1
      obtain ⟨X2, hX2⟩ : ∃ X2, X2 = X ||| x * 2 ^ (64 * q) := ⟨_, rfl⟩
      have x4 := cw_or 6 X q x X2 t4 x1 hX2
      have EX : Box (X2 = 2 ^ (i + 1) - 1) := box (by rw [hX2, hx, HE.out]; exact mask_or i q r (by omega))
      clear hX2 hx hq hr
      go_wp2
      go_roundw
      case rel => exact ⟨i + 1, X2, by omega, by go_num, rfl, EX⟩
      case measure => simp [intOf] <;> omega
    · have e := HE.out
      rw [show i = c by omega, HV.out] at e
      subst e
      go_wp2
      exact bodyPost_ret (v := .agg (cw 6 X)) (by simp [results, Tryz.results144, go_sem, hat, hf]) rfl ⟨rfl, ((Below.refl _ _).alloc (Nat.le_refl _) _).alloc (by simp <;> omega) _⟩
end Go.Proofs.YtapikkbifdldfaaGreatDoor
namespace Go.Proofs.YtapikkbifdldfaaGreatDoor
set_option maxRecDepth 100000
set_option maxHeartbeats 40000000
set_option maxRecDepth 100000
open WMath
open Go.ChangeShapes Go.WideShapes Go.ChangeAt Go.RowKit
theorem nat_u64 {x : Int} (h : (Lit.int .u64 x).wf = true) : ∃ n : Nat, n < 18446744073709551616 ∧ x = (n : Int) := by
  have hb := bounds_u64 h
  obtain ⟨n, rfl⟩ := Int.eq_ofNat_of_zero_le hb.1
  exact ⟨n, by omega, rfl⟩
theorem u64_nat (n : Nat) (h : n < 18446744073709551616) : (Lit.int .u64 (n : Int)).wf = true := by
  first
    | exact WalkArith.wf_u64 (by omega)
    | exact WalkArith.wf_u64 (by omega) (by omega)

theorem post_plain {H : Type} {enc : TypeId × Value → H} {P : Program} {f : Func} {s : ChangeSpec} {apart fresh handsOn again : Bool} {W W' : World} {args : Array Value} {v : Value} {ds gs : List (DataW H)}
    (hW : DataW.Whole enc P f.params.toList s.vars apart W args.toList ds gs [])
    (hres : ∀ (b : Nat) (sp : Nat → Bool) (hd : Bool), DataW.TrodAll enc P W' b sp hd f.resultTypes.toList (v.resultList f.resultTypes.size) (s.fn H (ds ++ gs)).results [])
    (hargs : ∀ sp : Nat → Bool, DataW.TrodAll enc P W' 0 sp true f.params.toList args.toList (s.fn H (ds ++ gs)).args [])
    (hvars : ∀ sp : Nat → Bool, DataW.TrodVars enc P W' sp s.vars (s.fn H (ds ++ gs)).vars [])
    (hk : Below W.heap.size W W')
    (hok : ∀ (j : Nat) (t : TypeId) (r : Value), f.resultTypes[j]? = some t → (v.resultList f.resultTypes.size)[j]? = some r → Value.okWide P W' .any 0 t r) :
    s.post enc P f apart fresh handsOn again W args v W' := by
  refine ⟨ds, gs, [], [], [], [], hW, hres _ _ _, hargs _, hvars _, hk.frame _, fun _ => ⟨hok, _, _, [], ⟨[], [], trodAll_append (hargs _) (hres _ _ _), hvars _, rfl, ?_, ?_⟩, ?_⟩⟩
  · intro _ _ hp
    cases hp
  · intro _
    exact List.Pairwise.nil
  · intro _ hp
    cases hp
def dB (H : Type) (b : Nat × Nat) : DataW H := .agg [.lit (.int .u64 (b.1 : Nat)), .lit (.int .u64 (b.2 : Nat))]

theorem list2 {α : Type} (l : List α) (h : (⟨l⟩ : Array α).size = 2) : ∃ a b, l = [a, b] := by
  match l, h with
  | [a, b], _ => exact ⟨a, b, rfl⟩

theorem open_bits {H : Type} {enc : TypeId × Value → H} {w : World} {base b : Nat} {spare : Nat → Bool} {held : Bool} {v : Value} {d : DataW H} {p : List MemPlace}
    (hok : Value.okWide Tryz.prog w .any base 26 v) (h : DataW.Trod enc Tryz.prog w b spare held 26 v d p) : ∃ a : Nat × Nat, (a.1 < 18446744073709551616 ∧ a.2 < 18446744073709551616) ∧ v = bitsV a ∧ d = dB H a ∧ p = [] := by
  have hc : Tryz.prog.cellsOf 26 = 2 := by kernel_rfl
  have hce : Tryz.prog.cellsOf 24 = 1 := by kernel_rfl
  obtain ⟨cs, rfl, hsz⟩ := okWide_struct Tryz.underlying26 hok
  rw [hc] at hsz
  obtain ⟨l⟩ := cs
  obtain ⟨c0, c1, rfl⟩ := list2 l hsz
  obtain ⟨fuel, hf⟩ := h
  obtain ⟨y0, y1, n, hx, _, h0, h1⟩ := trod_struct2 Tryz.underlying26 hf
  simp only [hce] at h0 h1
  obtain ⟨x0, e0, g0, w0⟩ := DataW.trod_int Tryz.underlying24 h0
  obtain ⟨x1, e1, g1, w1⟩ := DataW.trod_int Tryz.underlying24 h1
  simp [Value.cells] at e0 e1
  subst e0 e1
  obtain ⟨a0, b0, rfl⟩ := nat_u64 w0
  obtain ⟨a1, b1, rfl⟩ := nat_u64 w1
  simp only [Prod.mk.injEq] at hx
  refine ⟨(a0, a1), ⟨b0, b1⟩, rfl, ?_, ?_⟩
  · rw [hx.1, g0, g1]; rfl
  · rw [hx.2, g0, g1]; rfl

theorem shut_bits {H : Type} {enc : TypeId × Value → H} {w : World} {b : Nat} {spare : Nat → Bool} {held : Bool} (a : Nat × Nat) (h : a.1 < 18446744073709551616 ∧ a.2 < 18446744073709551616) : DataW.Trod enc Tryz.prog w b spare held 26 (bitsV a) (dB H a) [] := by
  have hc : Tryz.prog.cellsOf 26 = 2 := by kernel_rfl
  have hce : Tryz.prog.cellsOf 24 = 1 := by kernel_rfl
  have k0 := u64_nat _ h.1
  have k1 := u64_nat _ h.2
  refine ⟨2, ?_⟩
  simp [DataW.trod, Value.cells, bitsV, Tryz.underlying26, Tryz.underlying24, hc, hce, k0, k1, dB]

end Go.Proofs.YtapikkbifdldfaaGreatDoor
namespace Go.Proofs.YtapikkbifdldfaaGreatDoor
set_option maxRecDepth 100000
set_option maxHeartbeats 40000000
set_option maxRecDepth 100000
open Go.RowKit WMath
theorem wor_is (n m v : Nat) (hn : n < Q) (hm : m < Q) (hv : n ||| m = v) (w : World) :
    Calls Tryz.prog 75 #[.agg (cw 6 n), .agg (cw 6 m)] w fun e w' => e = .returned (.agg (cw 6 v)) ∧ Below w.heap.size w w' := by
  subst hv; exact wor_any n m hn hm w
theorem wlen_is (n l : Nat) (hn : n < Q) (hl : blen n = l) (w : World) :
    Calls Tryz.prog 86 #[.agg (cw 6 n)] w fun e w' => e = .returned (.int .i64 (l : Nat)) ∧ Below w.heap.size w w' := by
  subst hl; exact wlen_any n hn w

theorem rows_two {w w1 : World} {n : Nat} (hb : Below ((w.alloc (.cells (cw 6 n) 52)).alloc (.cells (cw 6 0) 52)).heap.size ((w.alloc (.cells (cw 6 n) 52)).alloc (.cells (cw 6 0) 52)) w1) :
    w1.heap[w.heap.size]? = some (.cells (cw 6 n) 52) ∧ w1.heap[w.heap.size + 1]? = some (.cells (cw 6 0) 52) ∧ Below w.heap.size w w1 ∧ w.heap.size + 1 < w1.heap.size := by
  have h1 : w1.heap[w.heap.size + 1]? = some (.cells (cw 6 0) 52) := heap_of hb _ _ _ (by rw [← size_al]; exact heap_alloc_last _ _)
  exact ⟨heap_of hb _ _ _ (by rw [heap_below _ _ _ (by simp only [size_al]; omega)]; exact heap_alloc_last w _), h1,
    (((Below.refl _ _).alloc (Nat.le_refl _) _).alloc (by simp only [size_al]; omega) _).trans (hb.mono (by simp only [size_al]; omega)), (Array.getElem?_eq_some_iff.1 h1).1⟩

end Go.Proofs.YtapikkbifdldfaaGreatDoor
