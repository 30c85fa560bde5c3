/-
  What the functions that the statement reaches return: part 3 (Quot2, Rquot1, Jmath, Jam1, Jam2, List0, List2, List6, Dmath, List16, Xmath, X1, S1, S2, S3).
-/
import Derived.Deep.RegionWith
import Derived.Lib.BitFns
import Derived.Laws.Cover1
import Derived.Lib.MinMax
import Derived.Test.YtapikkbifdldfaaGreatDoorFi02
namespace Go.Proofs.YtapikkbifdldfaaGreatDoor
set_option maxRecDepth 100000
set_option maxHeartbeats 40000000
set_option maxRecDepth 100000
open Go.RowKit WMath
def RowsL (w wr : World) (l : List Nat) : Prop := (∀ i x, l[i]? = some x → wr.heap[w.heap.size + i]? = some (.cells (cw 6 x) 52)) ∧ Below w.heap.size w wr
theorem rowsL_nil (w : World) : RowsL w w [] := ⟨fun i x h => by simp at h, Below.refl _ _⟩
theorem rowsL_new {w wr : World} {l : List Nat} (h : RowsL w wr l) (hs : wr.heap.size = w.heap.size + l.length) (x : Nat) : RowsL w (wr.alloc (.cells (cw 6 x) 52)) (l ++ [x]) := by
  refine ⟨fun i y hy => ?_, h.2.alloc (by omega) _⟩
  rw [List.getElem?_append] at hy
  split at hy
  · rw [heap_below _ _ _ (by omega)]; exact h.1 i y hy
  · have e : i = l.length := by
      have := (List.getElem?_eq_some_iff.1 hy).1
      simp at this; omega
    subst e
    simp at hy
    subst hy
    rw [← hs]
    exact heap_alloc_last _ _
theorem rowsL_below {w wr w2 : World} {l : List Nat} (h : RowsL w wr l) (hb : Below wr.heap.size wr w2) : RowsL w w2 l :=
  ⟨fun i x hx => heap_of hb _ _ _ (h.1 i x hx), h.2.trans (hb.mono h.2.size)⟩
theorem rowsL_alloc {w wr : World} {l : List Nat} (h : RowsL w wr l) (o : Obj) : RowsL w (wr.alloc o) l :=
  rowsL_below h ((Below.refl _ _).alloc (Nat.le_refl _) _)
theorem rowsL_drew {w wr : World} {l : List Nat} (h : RowsL w wr l) (d : Nat) : RowsL w (wr.drewN d) l := ⟨h.1, below_drewN h.2 d⟩
theorem rowsL_set {w wr : World} {l l2 : List Nat} (h : RowsL w wr l) (i x b : Nat) (hi : i < l.length) (hb : b = w.heap.size + i) (hl : l2 = l.set i x) : RowsL w (wr.setRow b (cw 6 x)) l2 := by
  subst hb
  subst hl
  refine ⟨fun j y hy => ?_, Below.setRow h.2 (by omega)⟩
  by_cases e : i = j
  · subst e
    rw [List.getElem?_set_self hi] at hy
    cases hy
    exact setRow_row (h.1 i _ (List.getElem?_eq_getElem hi))
  · rw [List.getElem?_set_ne e] at hy
    rw [setRow_other (by omega)]
    exact h.1 j y hy

theorem rows0 {w wr : World} {x : Nat} {l : List Nat} (h : RowsL w wr (x :: l)) : wr.heap[w.heap.size]? = some (.cells (cw 6 x) 52) := h.1 0 _ rfl
theorem rows1 {w wr : World} {x y : Nat} {l : List Nat} (h : RowsL w wr (x :: y :: l)) : wr.heap[w.heap.size + 1]? = some (.cells (cw 6 y) 52) := h.1 1 _ rfl
theorem wrap_i64_is (n : Int) (h1 : -9223372036854775808 ≤ n) (h2 : n ≤ 9223372036854775807) : IntKind.i64.wrap n = n := by
  simp [IntKind.wrap, IntKind.bits, IntKind.signed]; omega

theorem rowsL_size {w wr : World} {l : List Nat} (h : RowsL w wr l) (i x : Nat) (hi : l[i]? = some x) : w.heap.size + i < wr.heap.size :=
  (Array.getElem?_eq_some_iff.1 (h.1 i x hi)).1
def cnt5 (s : Int) : Nat := min s.toNat 385
theorem cnt65 (s : Int) : cnt6 ((cnt5 s : Nat) : Int) = cnt6 s := by unfold cnt6 cnt5; omega

def jr (a c : Nat) : Nat := if a % 2 ^ c = 0 then a / 2 ^ c else a / 2 ^ c ||| 1

theorem jor1 (x : Nat) : x ||| 1 = x / 2 * 2 + 1 := by
  rcases Nat.mod_two_eq_zero_or_one x with h | h
  · rw [or_one x h]; omega
  · obtain ⟨y, rfl⟩ : ∃ y, x = y + 1 := ⟨x - 1, by omega⟩
    rw [← or_one y (by omega), Nat.or_assoc, Nat.or_self, or_one y (by omega)]
    omega

theorem jand_mask (a c : Nat) : a &&& (2 ^ c - 1) = a % 2 ^ c := Nat.and_two_pow_sub_one_eq_mod a c

theorem jr_even (a c : Nat) (h : a % 2 ^ c = 0) : jr a c = a / 2 ^ c := by unfold jr; rw [if_pos h]
theorem mod_pow_zero (a n k : Nat) : a % 2 ^ (n + k) = 0 ↔ a % 2 ^ n = 0 ∧ a / 2 ^ n % 2 ^ k = 0 := by
  rw [Nat.pow_add, Nat.mod_mul]
  have hp := Nat.two_pow_pos n
  constructor
  · intro h
    have h1 : a % 2 ^ n = 0 := by omega
    have h2 : 2 ^ n * (a / 2 ^ n % 2 ^ k) = 0 := by omega
    rcases Nat.mul_eq_zero.1 h2 with h3 | h3
    · omega
    · exact ⟨h1, h3⟩
  · rintro ⟨h1, h2⟩
    rw [h1, h2, Nat.mul_zero]

theorem jr_cnt6 (a : Nat) (s : Int) (ha : a < Q) : jr a (cnt6 s) = jr a s.toNat := by
  by_cases h : s.toNat ≤ 384
  · rw [show cnt6 s = s.toNat by unfold cnt6; omega]
  · have e : cnt6 s = 384 := by unfold cnt6; omega
    have e1 : ∀ c, 384 ≤ c → a % 2 ^ c = a ∧ a / 2 ^ c = 0 := fun c hc => ⟨mod384 a c ha hc, Nat.div_eq_of_lt (Nat.lt_of_lt_of_le ha (Q384'' c hc))⟩
    unfold jr
    rw [(e1 (cnt6 s) (by omega)).1, (e1 (cnt6 s) (by omega)).2, (e1 s.toNat (by omega)).1, (e1 s.toNat (by omega)).2]

def halfv (a c : Nat) : Int := if c = 0 ∨ 384 < c then -1 else cmpv (a % 2 ^ c) (2 ^ (c - 1))

theorem halfv_bit (a k : Nat) (hk : k < 384) : halfv a (k + 1) = if a.testBit k then (if a % 2 ^ k = 0 then 0 else 1) else -1 := by
  unfold halfv
  rw [if_neg (by omega), Nat.add_sub_cancel, mod_succ]
  have h := Nat.mod_lt a (Nat.two_pow_pos k)
  unfold cmpv
  cases a.testBit k
  · simp only [Bool.toNat_false, Nat.mul_zero, Nat.add_zero]
    rw [if_neg (by omega), if_pos h]
    rfl
  · simp only [Bool.toNat_true, Nat.mul_one]
    by_cases h0 : a % 2 ^ k = 0
    · simp [h0]
    · rw [if_neg (by omega), if_neg (by omega)]
      simp [h0]

theorem jcount_any (n : Int) (w : World) :
    Calls Tryz.prog 181 #[.int .i64 n] w fun e w' => e = .returned (.int .i64 (cnt5 n : Nat)) ∧ w' = w := by
  go_enter Tryz.func181, Tryz.ntmps181
  go_wp2
  all_goals go_ret
  all_goals
    refine ⟨ret_int ?_, rfl⟩
    unfold cnt5
    omega

theorem jzero_is (n : Nat) (o : Bool) (hn : n < Q) (ho : decide (n = 0) = o) (w : World) :
    Calls Tryz.prog 185 #[.agg (cw 6 n)] w fun e w' => e = .returned (.bool o) ∧ Below w.heap.size w w' := by
  have hat := cw_at 6
  have hz := cw6z
  have hf := cw6f
  have heq := eq6
  have hg := eqg6
  have hQ := Q_pos
  have HO := box ho
  clear ho
  go_enter Tryz.func185, Tryz.ntmps185
  go_wp2
  go_ret
  exact ⟨by rw [HO.out]; rfl, (Below.refl _ _).alloc (Nat.le_refl _) _⟩

theorem wand_is (n m v : Nat) (hn : n < Q) (hv : n &&& m = v) (w : World) :
    Calls Tryz.prog 211 #[.agg (cw 6 n), .agg (cw 6 m)] w fun e w' => e = .returned (.agg (cw 6 v)) ∧ Below w.heap.size w w' := by
  subst hv; exact wand_any n m hn w

theorem jwhole_is (n v : Nat) (s : Int) (hn : n < Q) (hv : n / 2 ^ cnt6 s = v) (w : World) :
    Calls Tryz.prog 183 #[.agg (cw 6 n), .int .i64 s] w fun e w' => e = .returned (.agg (cw 6 v)) ∧ Below w.heap.size w w' := by
  have hat := cw_at 6
  have hz := cw6z
  have hf := cw6f
  have hs0 := st0
  have hcs : ∀ x, ((cw 6 x).size = 6) = True := fun x => eq_true (cw_size 6 x)
  have HV := box hv
  clear hv
  go_enter Tryz.func183, Tryz.ntmps183
  go_wp2_with fail
  refine (wright_is n v s _ hn HV.out rfl _).mono ?_
  rintro e w1 ⟨rfl, hb1⟩
  obtain ⟨r0, r1, b1, s1⟩ := rows_two hb1
  clear hb1
  have q1 : (w1.alloc (.cells (cw 6 v) 52)).heap[w.heap.size + 1]? = some (.cells (cw 6 0) 52) := by rw [heap_below _ _ _ s1]; exact r1
  have hst := st_any (w1.alloc (.cells (cw 6 v) 52)) (w.heap.size + 1) v 0 q1
  have q2 := row_cell (setRow_row (c' := cw 6 v) q1)
  have bz : Below w.heap.size w ((w1.alloc (.cells (cw 6 v) 52)).setRow (w.heap.size + 1) (cw 6 v)) := Below.setRow (b1.alloc b1.size _) (by omega)
  go_wp2
  exact bodyPost_ret (v := .agg (cw 6 v)) (by simp [results, Tryz.results183, go_sem, q2, hf]) rfl ⟨rfl, bz⟩

theorem jrows2 (w : World) (n : Nat) : RowsL w ((w.alloc (.cells (cw 6 n) 52)).alloc (.cells (cw 6 0) 52)) [n, 0] := rowsL_new (rowsL_new (rowsL_nil w) rfl n) (by simp) 0

theorem jleft_is (n v : Nat) (s : Int) (hn : n < Q) (hv : n % 2 ^ cnt6 s = v) (w : World) :
    Calls Tryz.prog 182 #[.agg (cw 6 n), .int .i64 s] w fun e w' => e = .returned (.agg (cw 6 v)) ∧ Below w.heap.size w w' := by
  have hat := cw_at 6
  have hz := cw6z
  have hf := cw6f
  have hs0 := st0
  have hcs : ∀ x, ((cw 6 x).size = 6) = True := fun x => eq_true (cw_size 6 x)
  obtain ⟨m, hm⟩ : ∃ m, 2 ^ cnt6 s - 1 = m := ⟨_, rfl⟩
  have HV : Box (n &&& m = v) := box (by rw [← hm, jand_mask, hv])
  have HM := box hm
  have R := jrows2 w n
  obtain ⟨W0, hW0⟩ : ∃ W0, (w.alloc (.cells (cw 6 n) 52)).alloc (.cells (cw 6 0) 52) = W0 := ⟨_, rfl⟩
  rw [hW0] at R
  have c0 := row_cell (rows0 R)
  clear hv hm
  go_enter Tryz.func182, Tryz.ntmps182
  go_wp2
  clear hW0
  go_region_with (first
    | (go_at_call 212; refine (wmask_is s m HM.out _).mono ?_; rintro e w1 ⟨rfl, hb1⟩; have R1 := rowsL_below (rowsL_drew R _) hb1; have c1 := row_cell (rows0 R1))
    | (go_at_call 211; refine (wand_is n m v hn HV.out _).mono ?_; rintro e w2 ⟨rfl, hb2⟩; have R2 := rowsL_below R1 hb2; have hst := st_any w2 (w.heap.size + 1) v 0 (rows1 R2)))
  all_goals
    have R3 : RowsL w (w2.setRow (w.heap.size + 1) (cw 6 v)) [n, v] := rowsL_set R2 1 v _ (by simp) rfl rfl
    have d := row_cell (rows1 R3)
    go_wp2
    exact bodyPost_ret (v := .agg (cw 6 v)) (by simp [results, Tryz.results182, go_sem, d, hf]) rfl ⟨rfl, R3.2⟩

set_option maxRecDepth 100000 in
theorem jhalf_out (r c : Nat) (hc : c = 0 ∨ 384 < c) (w : World) :
    Calls Tryz.prog 184 #[.agg (cw 6 r), .int .i64 (c : Nat)] w fun e w' => e = .returned (.int .i64 (-1)) ∧ Below w.heap.size w w' := by
  have hat := cw_at 6
  have hz := cw6z
  have hf := cw6f
  have hh : ((c : Int) == 0) = true ∨ (((c : Int) == 0) = false ∧ decide ((384 : Int) < (c : Int)) = true) := by
    simp only [decide_eq_true_eq, beq_iff_eq, beq_eq_false_iff_ne]
    omega
  clear hc
  rcases hh with h0 | ⟨h0, h1⟩
  all_goals
    go_enter Tryz.func184, Tryz.ntmps184
    go_wp2
    go_ret
    exact ⟨rfl, (Below.refl _ _).alloc (Nat.le_refl _) _⟩

set_option maxRecDepth 100000 in
theorem jhalf_in (r k : Nat) (h : Int) (hr : r < Q) (hk : k < 384) (hh : cmpv r (2 ^ k) = h) (w : World) :
    Calls Tryz.prog 184 #[.agg (cw 6 r), .int .i64 ((k + 1 : Nat) : Int)] w fun e w' => e = .returned (.int .i64 h) ∧ Below w.heap.size w w' := by
  have hat := cw_at 6
  have hz := cw6z
  have hf := cw6f
  have hs0 := st0
  have hcs : ∀ x, ((cw 6 x).size = 6) = True := fun x => eq_true (cw_size 6 x)
  obtain ⟨c, hc⟩ : ∃ c : Int, ((k + 1 : Nat) : Int) = c := ⟨_, rfl⟩
  obtain ⟨p, hp⟩ : ∃ p, 2 ^ k = p := ⟨_, rfl⟩
  have d0 : (c == 0) = false := by simp only [beq_eq_false_iff_ne]; omega
  have d1 : decide ((384 : Int) < c) = false := by rw [decide_eq_false_iff_not]; omega
  have n1 : IntKind.i64.wrap (c - 1) = (k : Int) := by rw [wrap_i64_is _ (by omega) (by omega)]; omega
  have pQ : p < Q := by rw [← hp]; exact pow_ltQ k hk
  have q1 : 1 < Q := by have := Q_big; omega
  have HP : Box (1 * 2 ^ cnt6 (k : Int) % Q = p) := box (by rw [show cnt6 (k : Int) = k by unfold cnt6; omega, Nat.one_mul, hp, Nat.mod_eq_of_lt pQ])
  rw [hp] at hh
  have HH := box hh
  rw [hc]
  clear hh hp hc
  go_enter Tryz.func184, Tryz.ntmps184
  go_wp2_with fail
  refine (wof_al 1 (by decide) _).mono ?_
  rintro e w1 ⟨rfl, hb1⟩
  have r1 : w1.heap[w.heap.size]? = some (.cells (cw 6 r) 52) := heap_of hb1 _ _ _ (heap_alloc_last w _)
  have b1 : Below w.heap.size w w1 := ((Below.refl _ _).alloc (Nat.le_refl _) _).trans (hb1.mono (by simp))
  clear hb1
  go_wp2_with fail
  refine (wleft_is 1 p (k : Int) _ q1 HP.out rfl _).mono ?_
  rintro e w2 ⟨rfl, hb2⟩
  have r2 : w2.heap[w.heap.size]? = some (.cells (cw 6 r) 52) := heap_of hb2 _ _ _ r1
  have b2 : Below w.heap.size w w2 := b1.trans (hb2.mono b1.size)
  clear hb2 b1 r1
  have z2 : w.heap.size < w2.heap.size := (Array.getElem?_eq_some_iff.1 r2).1
  have c2 := row_cell (show (w2.alloc (.cells (cw 6 p) 52)).heap[w.heap.size]? = some (.cells (cw 6 r) 52) by rw [heap_below _ _ _ z2]; exact r2)
  go_wp2_with fail
  refine (wcmp_is r p h hr pQ HH.out _).mono ?_
  rintro e w3 ⟨rfl, hb3⟩
  have b3 : Below w.heap.size w w3 := (b2.alloc b2.size _).trans (hb3.mono (by have := b2.size; simp; omega))
  clear hb3
  go_wp2
  go_ret
  exact ⟨rfl, b3⟩

theorem jhalf_is (a c r : Nat) (h : Int) (hr : r < Q) (hc : c ≤ 385) (e : a % 2 ^ cnt6 (c : Int) = r) (hh : halfv a c = h) (w : World) :
    Calls Tryz.prog 184 #[.agg (cw 6 r), .int .i64 (c : Nat)] w fun e w' => e = .returned (.int .i64 h) ∧ Below w.heap.size w w' := by
  by_cases ho : c = 0 ∨ 384 < c
  · have : h = -1 := by rw [← hh]; unfold halfv; rw [if_pos ho]
    subst this
    exact jhalf_out r c ho w
  · obtain ⟨k, rfl⟩ : ∃ k, c = k + 1 := ⟨c - 1, by omega⟩
    refine jhalf_in r k h hr (by omega) ?_ w
    rw [← hh, ← e]
    unfold halfv
    rw [if_neg ho, Nat.add_sub_cancel, show cnt6 ((k + 1 : Nat) : Int) = k + 1 by unfold cnt6; omega]

set_option maxHeartbeats 2000000 in
theorem jalign_is (n v : Nat) (s : Int) (o : Bool) (hn : n < Q) (hv : n / 2 ^ cnt6 s = v) (ho : decide (n % 2 ^ cnt6 s ≠ 0) = o) (w : World) :
    Calls Tryz.prog 209 #[.agg (cw 6 n), .int .i64 s] w fun e w' => e = .returned (.tuple #[.agg (cw 6 v), .bool o]) ∧ Below w.heap.size w w' := by
  have hat := cw_at 6
  have hz := cw6z
  have hf := cw6f
  have hs0 := st0
  have hcs : ∀ x, ((cw 6 x).size = 6) = True := fun x => eq_true (cw_size 6 x)
  obtain ⟨c, hc⟩ : ∃ c, cnt5 s = c := ⟨_, rfl⟩
  have h65 : cnt6 (c : Int) = cnt6 s := by rw [← hc]; exact cnt65 s
  obtain ⟨r, hr⟩ : ∃ r, n % 2 ^ cnt6 (c : Int) = r := ⟨_, rfl⟩
  have rQ : r < Q := by rw [← hr]; exact Nat.lt_of_le_of_lt (Nat.mod_le _ _) hn
  rw [← h65] at hv ho
  rw [hr] at ho
  have HV := box hv
  have HR := box hr
  have HC := box hc
  have HO : Box (decide (r = 0) = !o) := box (by rw [← ho]; by_cases e : r = 0 <;> simp [e])
  have hoo : (!!o) = o := by cases o <;> rfl
  have R := jrows2 w n
  obtain ⟨W0, hW0⟩ : ∃ W0, (w.alloc (.cells (cw 6 n) 52)).alloc (.cells (cw 6 0) 52) = W0 := ⟨_, rfl⟩
  rw [hW0] at R
  have c0 := row_cell (rows0 R)
  clear hv ho hc hr h65
  go_enter Tryz.func209, Tryz.ntmps209
  go_wp2_with fail
  refine (jcount_any s _).mono ?_
  rw [HC.out]
  rintro e w' ⟨rfl, rfl⟩
  go_wp2
  clear hW0
  go_region_with (first
    | (go_at_call 183; refine (jwhole_is n v (c : Int) hn HV.out _).mono ?_; rintro e w1 ⟨rfl, hb1⟩; have R1 := rowsL_below (rowsL_drew R _) hb1; have c1 := row_cell (rows0 R1))
    | (go_at_call 182; refine (jleft_is n r (c : Int) hn HR.out _).mono ?_; rintro e w2 ⟨rfl, hb2⟩; have R2 := rowsL_below R1 hb2)
    | (go_at_call 185; refine (jzero_is r (!o) rQ HO.out _).mono ?_; rintro e w3 ⟨rfl, hb3⟩; have R3 := rowsL_below R2 hb3; have hst := st_any w3 (w.heap.size + 1) v 0 (rows1 R3)))
  all_goals
    have R4 : RowsL w (w3.setRow (w.heap.size + 1) (cw 6 v)) [n, v] := rowsL_set R3 1 v _ (by simp) rfl rfl
    have d := row_cell (rows1 R4)
    go_wp2
    exact bodyPost_ret (v := .tuple #[.agg (cw 6 v), .bool o]) (by simp [results, Tryz.results209, go_sem, d, hf]) rfl ⟨rfl, R4.2⟩

theorem jright_is (n v : Nat) (s : Int) (hn : n < Q) (hv : jr n (cnt6 s) = v) (w : World) :
    Calls Tryz.prog 176 #[.agg (cw 6 n), .int .i64 s] w fun e w' => e = .returned (.agg (cw 6 v)) ∧ Below w.heap.size w w' := by
  have hat := cw_at 6
  have hz := cw6z
  have hf := cw6f
  have hs0 := st0
  have hcs : ∀ x, ((cw 6 x).size = 6) = True := fun x => eq_true (cw_size 6 x)
  obtain ⟨x, hx⟩ : ∃ x, n / 2 ^ cnt6 s = x := ⟨_, rfl⟩
  obtain ⟨o, ho⟩ : ∃ o, decide (n % 2 ^ cnt6 s ≠ 0) = o := ⟨_, rfl⟩
  have hvo : v = if o then x ||| 1 else x := by
    rw [← hv, ← ho, ← hx]; unfold jr
    by_cases e : n % 2 ^ cnt6 s = 0 <;> simp [e]
  have HX := box hx
  have HO := box ho
  clear hv hx ho
  have x3 : bits .or .u64 (wd x 0 : Nat) 1 = ((wd x 0 ||| 1 : Nat) : Int) := bor x 0 1 (by decide)
  cases o
  · rw [if_neg (by decide)] at hvo
    subst hvo
    go_enter Tryz.func176, Tryz.ntmps176
    go_wp2_with fail
    refine (jalign_is n v s _ hn HX.out HO.out _).mono ?_
    rintro e w1 ⟨rfl, hb1⟩
    obtain ⟨r0, r1, b1, s1⟩ := rows_two hb1
    clear hb1
    have q1 : (w1.alloc (.cells (cw 6 v) 52)).heap[w.heap.size + 1]? = some (.cells (cw 6 0) 52) := by rw [heap_below _ _ _ s1]; exact r1
    have hst := st_any (w1.alloc (.cells (cw 6 v) 52)) (w.heap.size + 1) v 0 q1
    have q2 := row_cell (setRow_row (c' := cw 6 v) q1)
    have bz : Below w.heap.size w ((w1.alloc (.cells (cw 6 v) 52)).setRow (w.heap.size + 1) (cw 6 v)) := Below.setRow (b1.alloc b1.size _) (by omega)
    go_wp2
    exact bodyPost_ret (v := .agg (cw 6 v)) (by simp [results, Tryz.results176, go_sem, q2, hf]) rfl ⟨rfl, bz⟩
  · rw [if_pos rfl] at hvo
    have x4 : (cw 6 x).setIfInBounds 0 (.int .u64 ((wd x 0 ||| 1 : Nat) : Int)) = cw 6 v := cw_or 6 x 0 1 v (by omega) (by decide) (by rw [hvo])
    clear hvo
    go_enter Tryz.func176, Tryz.ntmps176
    go_wp2_with fail
    refine (jalign_is n x s _ hn HX.out HO.out _).mono ?_
    rintro e w1 ⟨rfl, hb1⟩
    obtain ⟨r0, r1, b1, s1⟩ := rows_two hb1
    clear hb1
    have q1 : (w1.alloc (.cells (cw 6 v) 52)).heap[w.heap.size + 1]? = some (.cells (cw 6 0) 52) := by rw [heap_below _ _ _ s1]; exact r1
    have hst := st_any (w1.alloc (.cells (cw 6 v) 52)) (w.heap.size + 1) v 0 q1
    have q2 := row_cell (setRow_row (c' := cw 6 v) q1)
    have bz : Below w.heap.size w ((w1.alloc (.cells (cw 6 v) 52)).setRow (w.heap.size + 1) (cw 6 v)) := Below.setRow (b1.alloc b1.size _) (by omega)
    go_wp2
    exact bodyPost_ret (v := .agg (cw 6 v)) (by simp [results, Tryz.results176, go_sem, q2, hf]) rfl ⟨rfl, bz⟩
end Go.Proofs.YtapikkbifdldfaaGreatDoor
namespace Go.Proofs.YtapikkbifdldfaaGreatDoor
set_option maxRecDepth 100000
set_option maxHeartbeats 40000000
set_option maxRecDepth 100000
open Go.RowKit WMath
set_option maxHeartbeats 2000000 in
theorem jcut_is (n v : Nat) (s h : Int) (o : Bool) (hn : n < Q) (hv : n / 2 ^ cnt6 s = v) (hh : halfv n (cnt5 s) = h) (ho : decide (n % 2 ^ cnt6 s = 0) = o) (w : World) :
    Calls Tryz.prog 134 #[.agg (cw 6 n), .int .i64 s] w fun e w' => e = .returned (.tuple #[.agg (cw 6 v), .int .i64 h, .bool o]) ∧ Below w.heap.size w w' := by
  have hat := cw_at 6
  have hz := cw6z
  have hf := cw6f
  have hs0 := st0
  have hcs : ∀ x, ((cw 6 x).size = 6) = True := fun x => eq_true (cw_size 6 x)
  obtain ⟨c, hc⟩ : ∃ c, cnt5 s = c := ⟨_, rfl⟩
  have c385 : c ≤ 385 := by rw [← hc]; unfold cnt5; omega
  have h65 : cnt6 (c : Int) = cnt6 s := by rw [← hc]; exact cnt65 s
  obtain ⟨r, hr⟩ : ∃ r, n % 2 ^ cnt6 (c : Int) = r := ⟨_, rfl⟩
  have rQ : r < Q := by rw [← hr]; exact Nat.lt_of_le_of_lt (Nat.mod_le _ _) hn
  rw [← h65] at hv ho
  rw [hr] at ho
  rw [hc] at hh
  have HV := box hv
  have HR := box hr
  have HC := box hc
  have HO := box ho
  have HH := box hh
  have C385 := box c385
  clear hv ho hc hr h65 hh c385
  go_enter Tryz.func134, Tryz.ntmps134
  go_wp2_with fail
  refine (jcount_any s _).mono ?_
  rw [HC.out]
  rintro e w' ⟨rfl, rfl⟩
  go_wp2_with fail
  refine (jleft_is n r (c : Int) hn HR.out _).mono ?_
  rintro e w1 ⟨rfl, hb1⟩
  have R1 : RowsL w w1 [n, 0] := rowsL_below (jrows2 w n) hb1
  clear hb1
  have z1 := rowsL_size R1 1 _ rfl
  have R := rowsL_alloc R1 (.cells (cw 6 r) 52)
  have S : (w1.alloc (.cells (cw 6 r) 52)).heap[w1.heap.size]? = some (.cells (cw 6 r) 52) := heap_alloc_last w1 _
  obtain ⟨W0, hW0⟩ : ∃ W0, w1.alloc (.cells (cw 6 r) 52) = W0 := ⟨_, rfl⟩
  rw [hW0] at R S
  have c0 := row_cell (rows0 R)
  have s0 := row_cell S
  clear R1
  go_wp2
  clear hW0
  go_region_with (first
    | (go_at_call 183; refine (jwhole_is n v (c : Int) hn HV.out _).mono ?_; rintro e w2 ⟨rfl, hb2⟩; have R2 := rowsL_below (rowsL_drew R _) hb2; have S2 := heap_of hb2 _ _ _ S; have s2 := row_cell S2)
    | (go_at_call 184; refine (jhalf_is n c r h rQ C385.out HR.out HH.out _).mono ?_; rintro e w3 ⟨rfl, hb3⟩; have R3 := rowsL_below R2 hb3; have s3 := row_cell (heap_of hb3 _ _ _ S2))
    | (go_at_call 185; refine (jzero_is r o rQ HO.out _).mono ?_; rintro e w4 ⟨rfl, hb4⟩; have R4 := rowsL_below R3 hb4; have hst := st_any w4 (w.heap.size + 1) v 0 (rows1 R4)))
  all_goals
    have R5 : RowsL w (w4.setRow (w.heap.size + 1) (cw 6 v)) [n, v] := rowsL_set R4 1 v _ (by simp) rfl rfl
    have d := row_cell (rows1 R5)
    go_wp2
    exact bodyPost_ret (v := .tuple #[.agg (cw 6 v), .int .i64 h, .bool o]) (by simp [results, Tryz.results134, go_sem, d, hf]) rfl ⟨rfl, R5.2⟩

end Go.Proofs.YtapikkbifdldfaaGreatDoor
namespace Go.Proofs.YtapikkbifdldfaaGreatDoor
set_option maxRecDepth 100000
set_option maxHeartbeats 40000000
set_option maxRecDepth 100000
open Go.RowKit WMath
def SL (B : Nat) (w : World) (p : Option Addr) (L c n : Nat) : Prop := n < 2 ^ (64 * L) ∧ L ≤ c ∧ (0 < L → ∃ b o, p = some ⟨b, o, none⟩ ∧ b < B ∧ ∀ k, k < L → w.cell? ⟨b, o + k, none⟩ = some (.int .u64 (wd n k : Nat)))
theorem SL.mono {B B' : Nat} {w : World} {p : Option Addr} {L c n : Nat} (h : SL B w p L c n) (hB : B ≤ B') : SL B' w p L c n :=
  ⟨h.1, h.2.1, fun hL => by
    obtain ⟨b, o, hp, hlt, hc⟩ := h.2.2 hL
    exact ⟨b, o, hp, Nat.lt_of_lt_of_le hlt hB, hc⟩⟩
theorem cell_size {w : World} {b o : Nat} {v : Value} (h : w.cell? ⟨b, o, none⟩ = some v) : b < w.heap.size := by
  by_cases e : b < w.heap.size
  · exact e
  · exfalso
    have : w.heap[b]? = none := Array.getElem?_eq_none (by omega)
    simp [World.cell?, this] at h
def Only (g : Nat) (w w' : World) : Prop := w'.os = w.os ∧ w'.tape = w.tape ∧ w'.output = w.output ∧ w.heap.size ≤ w'.heap.size ∧ ∀ k, k < w.heap.size → k ≠ g → w'.heap[k]? = w.heap[k]?
theorem Only.refl (g : Nat) (w : World) : Only g w w := ⟨rfl, rfl, rfl, Nat.le_refl _, fun _ _ _ => rfl⟩
theorem Only.trans {g : Nat} {a b c : World} (h : Only g a b) (k : Only g b c) : Only g a c :=
  ⟨k.1.trans h.1, k.2.1.trans h.2.1, k.2.2.1.trans h.2.2.1, Nat.le_trans h.2.2.2.1 k.2.2.2.1, fun i hi hg => (k.2.2.2.2 i (Nat.lt_of_lt_of_le hi h.2.2.2.1) hg).trans (h.2.2.2.2 i hi hg)⟩
theorem Only.size {g : Nat} {a b : World} (h : Only g a b) : a.heap.size ≤ b.heap.size := h.2.2.2.1
theorem Only.setCell {g o : Nat} {a w : World} (h : Only g a w) (u : Value) : Only g a (w.setCell ⟨g, o, none⟩ u) :=
  h.trans ⟨rfl, rfl, rfl, by simp [World.setCell], fun k _ hg => Below.heap_setCell _ _ _ _ hg⟩
theorem Only.drew {g : Nat} {a w : World} (h : Only g a w) : Only g a w.drew := h.trans ⟨rfl, rfl, rfl, Nat.le_refl _, fun _ _ _ => rfl⟩
theorem Only.row {g b : Nat} {w w' : World} {c : Array Value} {t : TypeId} (k : Only g w w') (hb : b ≠ g) (h : w.heap[b]? = some (.cells c t)) : w'.heap[b]? = some (.cells c t) := by
  rw [k.2.2.2.2 b (Array.getElem?_eq_some_iff.1 h).1 hb, h]
theorem SL.only {B g : Nat} {w w' : World} {p : Option Addr} {L c n : Nat} (h : SL B w p L c n) (k : Only g w w') (hB : B ≤ g) : SL B w' p L c n := by
  refine ⟨h.1, h.2.1, fun hL => ?_⟩
  obtain ⟨b, o, hp, hlt, hc⟩ := h.2.2 hL
  refine ⟨b, o, hp, hlt, fun i hi => ?_⟩
  have h1 := hc i hi
  rw [World.cell?_of_block (w := w) (k.2.2.2.2 b (cell_size h1) (by omega))]
  exact h1

theorem SL.cell {B : Nat} {w : World} {b o L c n : Nat} (h : SL B w (some ⟨b, o, none⟩) L c n) (k x : Nat) (hk : k < L) (hx : wd n k = x) : w.cell? ⟨b, o + k, none⟩ = some (.int .u64 (x : Nat)) := by
  obtain ⟨b', o', e, _, hc⟩ := h.2.2 (by omega)
  simp only [Option.some.injEq, Addr.mk.injEq] at e
  obtain ⟨rfl, rfl, _⟩ := e
  rw [hc k hk, hx]
theorem SL.row {w : World} {b N X c : Nat} {T : TypeId} (r : w.heap[b]? = some (.cells (cw N X) T)) (B : Nat) (hB : b < B) (hX : X < 2 ^ (64 * N)) (hc : N ≤ c) : SL B w (some ⟨b, 0, none⟩) N c X :=
  ⟨hX, hc, fun _ => ⟨b, 0, rfl, hB, fun k hk => by rw [Nat.zero_add, cell_of_row w b k _ _ _ r, cw_at N X k hk]⟩⟩

theorem bal (w : World) (o : Obj) : Below w.heap.size w (w.alloc o) := (Below.refl _ _).alloc (Nat.le_refl _) _
theorem btr {a b c : World} (h : Below a.heap.size a b) (k : Below b.heap.size b c) : Below a.heap.size a c := h.trans (k.mono h.size)

end Go.Proofs.YtapikkbifdldfaaGreatDoor
namespace Go.Proofs.YtapikkbifdldfaaGreatDoor.WMath
set_option maxRecDepth 100000
set_option maxHeartbeats 40000000
set_option maxRecDepth 100000
def gs (hi lo top : Nat) : Nat := if hi < top then (hi * 18446744073709551616 + lo) / top else 18446744073709551615
end Go.Proofs.YtapikkbifdldfaaGreatDoor.WMath
namespace Go.Proofs.YtapikkbifdldfaaGreatDoor
set_option maxRecDepth 100000
set_option maxHeartbeats 40000000
set_option maxRecDepth 100000
open Go.RowKit WMath
def tn (r A B : Nat) : Value := .agg #[.int .u64 (r : Nat), .int .u64 (A : Nat), .int .u64 (B : Nat)]

end Go.Proofs.YtapikkbifdldfaaGreatDoor
namespace Go.Proofs.YtapikkbifdldfaaGreatDoor.XMath
set_option maxRecDepth 100000
set_option maxHeartbeats 40000000
set_option maxRecDepth 100000
open WMath
def tz (n : Nat) : Nat := if h : n = 0 ∨ n % 2 = 1 then 0 else tz (n / 2) + 1
termination_by n
decreasing_by omega
theorem tz_odd (n : Nat) (h : n % 2 = 1) : tz n = 0 := by rw [tz, dif_pos (Or.inr h)]
theorem tz_even (n : Nat) (h0 : n ≠ 0) (h : n % 2 = 0) : tz n = tz (n / 2) + 1 := by rw [tz, dif_neg (by omega)]
theorem tz_is (n : Nat) (h : n ≠ 0) : ∃ m, n = m * 2 ^ tz n ∧ m % 2 = 1 := by
  induction n using Nat.strongRecOn with
  | _ n ih =>
    by_cases h1 : n % 2 = 1
    · exact ⟨n, by rw [tz_odd n h1, Nat.pow_zero, Nat.mul_one], h1⟩
    · obtain ⟨m, hm, ho⟩ := ih (n / 2) (by omega) (by omega)
      refine ⟨m, ?_, ho⟩
      rw [tz_even n h (by omega), Nat.pow_succ, ← Nat.mul_assoc, ← hm]
      omega
def od (n : Nat) : Nat := n / 2 ^ tz n
theorem od_is (n : Nat) (h : n ≠ 0) : n = od n * 2 ^ tz n ∧ od n % 2 = 1 := by
  obtain ⟨m, hm, ho⟩ := tz_is n h
  have e : od n = m := by
    unfold od
    generalize tz n = k at hm ⊢
    rw [hm]
    exact Nat.mul_div_cancel _ (Nat.two_pow_pos _)
  rw [e]
  exact ⟨hm, ho⟩
theorem od_odd (n : Nat) (h : n % 2 = 1) : od n = n := by unfold od; rw [tz_odd n h, Nat.pow_zero, Nat.div_one]
theorem tz_blen (n : Nat) : tz n ≤ blen n := by
  by_cases h : n = 0
  · rw [h, tz, dif_pos (Or.inl rfl)]; omega
  · obtain ⟨h1, h2⟩ := od_is n h
    have h3 : 2 ^ tz n ≤ n := by
      generalize tz n = k at h1 ⊢
      rw [h1]
      exact Nat.le_mul_of_pos_left _ (by omega)
    have h4 := blen_lt n
    exact Nat.le_of_lt ((Nat.pow_lt_pow_iff_right (by decide : 1 < 2)).1 (Nat.lt_of_le_of_lt h3 h4))

structure XN where
  b : Bool
  n : Nat
  d : Nat
  e : Int
def XN.can (x : XN) : Prop := nl x.n ≤ 16384 ∧ nl x.d ≤ 16384 ∧ -1048576 ≤ x.e ∧ x.e ≤ 1048576 ∧ ((x.b = false ∧ x.n = 0 ∧ x.d = 1 ∧ x.e = 0) ∨ (x.n % 2 = 1 ∧ x.d % 2 = 1 ∧ Nat.gcd x.n x.d = 1))
def sgn (b : Bool) : Rat := if b then -1 else 1
def XN.val (x : XN) : Rat := sgn x.b * ((x.n : Rat) / (x.d : Rat)) * (2 : Rat) ^ x.e
def X0 : XN := ⟨false, 0, 1, 0⟩
def XZ : XN := ⟨false, 0, 0, 0⟩
theorem XN.can.d {x : XN} (h : x.can) : x.d % 2 = 1 := by rcases h.2.2.2.2 with h | h <;> omega
theorem XN.can.d0 {x : XN} (h : x.can) : x.d ≠ 0 := by have := h.d; omega
theorem XN.can.odd {x : XN} (h : x.can) (h0 : x.n ≠ 0) : x.n % 2 = 1 ∧ x.d % 2 = 1 ∧ Nat.gcd x.n x.d = 1 := by
  rcases h.2.2.2.2 with h | h
  · exact absurd h.2.1 h0
  · exact h
def mk (neg : Bool) (n d : Nat) (e : Int) : XN × Int :=
  if n = 0 then (X0, 0)
  else if -1048576 ≤ e + (tz n : Int) - (tz d : Int) ∧ e + (tz n : Int) - (tz d : Int) ≤ 1048576 then (⟨neg, od n / Nat.gcd (od n) (od d), od d / Nat.gcd (od n) (od d), e + (tz n : Int) - (tz d : Int)⟩, 0)
  else (XZ, 4)
theorem p2 (e : Int) : (0 : Rat) < (2 : Rat) ^ e := Rat.zpow_pos (by decide)
def sA (x y : XN) : Nat := x.n * y.d * 2 ^ (x.e - min x.e y.e).toNat
def sS (x y : XN) : Nat := if x.b = y.b then sA x y + sA y x else if sA x y < sA y x then sA y x - sA x y else sA x y - sA y x
def sg (x : XN) : Int := if x.n = 0 then 0 else if x.b then -1 else 1
end Go.Proofs.YtapikkbifdldfaaGreatDoor.XMath
namespace Go.Proofs.YtapikkbifdldfaaGreatDoor
set_option maxRecDepth 100000
set_option maxHeartbeats 40000000
set_option maxRecDepth 100000
open Go.RowKit WMath XMath
theorem cells4 {w : World} {g : Nat} {T : TypeId} {c : Array Value} (row : w.heap[g]? = some (.cells c T)) (k : Nat) (v : Value) (h : c[k]? = some v) : w.cell? ⟨g, k, none⟩ = some v := by
  rw [cell_of_row w g k _ _ _ row]
  exact h

theorem cells2s {w : World} {g : Nat} {T : TypeId} {a b : Value} (R : w.heap[g]? = some (.cells #[a, b] T)) : w.cell? ⟨g, 0, none⟩ = some a ∧ w.cell? ⟨g, 1, none⟩ = some b := ⟨cells4 R 0 _ rfl, cells4 R 1 _ rfl⟩
theorem opn1 (w : World) (o : Obj) : (w.alloc o).heap[w.heap.size]? = some o ∧ Below w.heap.size w (w.alloc o) := ⟨heap_alloc_last _ _, (Below.refl _ _).alloc (Nat.le_refl _) _⟩
theorem opn2 (w : World) (o1 o2 : Obj) : ((w.alloc o1).alloc o2).heap[w.heap.size]? = some o1 ∧ ((w.alloc o1).alloc o2).heap[w.heap.size + 1]? = some o2 ∧ Below w.heap.size w ((w.alloc o1).alloc o2) := by
  obtain ⟨r0, b⟩ := opn1 w o1
  have z : (w.alloc o1).heap.size = w.heap.size + 1 := by simp only [size_al]
  exact ⟨by rw [heap_below _ _ _ (by omega)]; exact r0, by rw [← z]; exact heap_alloc_last _ _, b.alloc (by omega) _⟩
theorem opn3 (w : World) (o1 o2 o3 : Obj) : (((w.alloc o1).alloc o2).alloc o3).heap[w.heap.size]? = some o1 ∧ (((w.alloc o1).alloc o2).alloc o3).heap[w.heap.size + 1]? = some o2 ∧ (((w.alloc o1).alloc o2).alloc o3).heap[w.heap.size + 1 + 1]? = some o3 ∧ Below w.heap.size w (((w.alloc o1).alloc o2).alloc o3) := by
  obtain ⟨r0, r1, b⟩ := opn2 w o1 o2
  have z : ((w.alloc o1).alloc o2).heap.size = w.heap.size + 1 + 1 := by simp only [size_al]
  exact ⟨by rw [heap_below _ _ _ (by omega)]; exact r0, by rw [heap_below _ _ _ (by omega)]; exact r1, by rw [← z]; exact heap_alloc_last _ _, b.alloc (by omega) _⟩
theorem opn4 (w : World) (o1 o2 o3 o4 : Obj) : ((((w.alloc o1).alloc o2).alloc o3).alloc o4).heap[w.heap.size]? = some o1 ∧ ((((w.alloc o1).alloc o2).alloc o3).alloc o4).heap[w.heap.size + 1]? = some o2 ∧ ((((w.alloc o1).alloc o2).alloc o3).alloc o4).heap[w.heap.size + 1 + 1]? = some o3 ∧ ((((w.alloc o1).alloc o2).alloc o3).alloc o4).heap[w.heap.size + 1 + 1 + 1]? = some o4 ∧ Below w.heap.size w ((((w.alloc o1).alloc o2).alloc o3).alloc o4) := by
  obtain ⟨r0, r1, r2, b⟩ := opn3 w o1 o2 o3
  have z : (((w.alloc o1).alloc o2).alloc o3).heap.size = w.heap.size + 1 + 1 + 1 := by simp only [size_al]
  exact ⟨by rw [heap_below _ _ _ (by omega)]; exact r0, by rw [heap_below _ _ _ (by omega)]; exact r1, by rw [heap_below _ _ _ (by omega)]; exact r2, by rw [← z]; exact heap_alloc_last _ _, b.alloc (by omega) _⟩

end Go.Proofs.YtapikkbifdldfaaGreatDoor
namespace Go.Proofs.YtapikkbifdldfaaGreatDoor
set_option maxRecDepth 100000
set_option maxHeartbeats 40000000
set_option maxRecDepth 100000
open Go.RowKit WMath
theorem bal7 (w : World) (o : Obj) : Below w.heap.size w (w.alloc o) := (Below.refl _ _).alloc (Nat.le_refl _) _
theorem btr7 {a b c : World} (h : Below a.heap.size a b) (k : Below b.heap.size b c) : Below a.heap.size a c := h.trans (k.mono h.size)

def fcells : Array Value := #[.int .i64 32, .int .i64 24, .int .i64 127, .string ⟨#[115]⟩, .int .i64 64, .int .i64 53, .int .i64 1023, .string ⟨#[100]⟩, .int .i64 16, .int .i64 11, .int .i64 15, .string ⟨#[104]⟩, .int .i64 128, .int .i64 113, .int .i64 16383, .string ⟨#[113]⟩]
def FAt (w : World) : Prop := ∀ i, i < 16 → w.cell? ⟨0, i, none⟩ = fcells[i]?
theorem fc_some (i : Nat) (h : i < 16) : ∃ v, fcells[i]? = some v := ⟨_, Array.getElem?_eq_getElem (show i < fcells.size from h)⟩
theorem fatB {w w' : World} (h : FAt w) (hb : Below w.heap.size w w') : FAt w' := fun i hi => by
  obtain ⟨v, hv⟩ := fc_some i hi
  rw [hb.cell (p := ⟨0, i, none⟩) (World.block_lt_of_cell? w _ ((h i hi).trans hv))]
  exact h i hi
theorem fat_at {w : World} (h : FAt w) (i : Nat) (v : Value) (hi : i < 16) (hv : fcells[i]? = some v) : w.cell? ⟨0, i, none⟩ = some v := (h i hi).trans hv

theorem fat_al {w : World} (h : FAt w) (o : Obj) : FAt (w.alloc o) := fatB h (bal7 w o)
theorem fat_dr {w : World} (h : FAt w) : FAt w.drew := h

def fW (f : Int) : Int := if f = 0 then 32 else if f = 1 then 64 else if f = 2 then 16 else if f = 3 then 128 else 0
def fP (f : Int) : Int := if f = 0 then 24 else if f = 1 then 53 else if f = 2 then 11 else if f = 3 then 113 else 0
def fE (f : Int) : Int := if f = 0 then 127 else if f = 1 then 1023 else if f = 2 then 15 else if f = 3 then 16383 else 0
def fN (f : Int) : ByteArray := if f = 0 then ⟨#[115]⟩ else if f = 1 then ⟨#[100]⟩ else if f = 2 then ⟨#[104]⟩ else if f = 3 then ⟨#[113]⟩ else ⟨#[]⟩
def fR (f : Int) : Array Value := #[.int .i64 (fW f), .int .i64 (fP f), .int .i64 (fE f), .string (fN f)]
def fC (f : Int) : Int := if f = 0 ∨ f = 1 ∨ f = 2 ∨ f = 3 then 0 else 2

theorem f_cases (f : Int) (h0 : 0 ≤ f) : f = 0 ∨ f = 1 ∨ f = 2 ∨ f = 3 ∨ 4 ≤ f := by omega

theorem s_check (f : Int) (h0 : 0 ≤ f) (h1 : f ≤ 255) (w : World) :
    Calls Tryz.prog 27 #[.int .u8 f] w fun e w' => e = .returned (.int .i64 (fC f)) ∧ w' = w := by
  by_cases h : 4 ≤ f
  · have e : fC f = 2 := by unfold fC; rw [if_neg (by omega)]
    rw [e]
    have hd : decide ((4 : Int) ≤ f) = true := by simp [h]
    go_enter Tryz.func27, Tryz.ntmps27
    go_wp2
    go_ret
    exact ⟨rfl, rfl⟩
  · have e : fC f = 0 := by unfold fC; rw [if_pos (by omega)]
    rw [e]
    have hd : decide ((4 : Int) ≤ f) = false := by simp; omega
    go_enter Tryz.func27, Tryz.ntmps27
    go_wp2
    go_ret
    exact ⟨rfl, rfl⟩

theorem s_check_is (f c : Int) (h0 : 0 ≤ f) (h1 : f ≤ 255) (hc : fC f = c) (w : World) :
    Calls Tryz.prog 27 #[.int .u8 f] w fun e w' => e = .returned (.int .i64 c) ∧ w' = w := by
  subst hc; exact s_check f h0 h1 w

theorem s_checkMode (f : Int) (w : World) :
    Calls Tryz.prog 28 #[.int .u8 f] w fun e w' => e = .returned (.int .i64 (if f ≤ 4 then 0 else 2)) ∧ w' = w := by
  by_cases h : 4 < f
  · rw [if_neg (by omega)]
    go_enter Tryz.func28, Tryz.ntmps28
    go_wp2
    go_ret
    exact ⟨rfl, rfl⟩
  · rw [if_pos (by omega)]
    go_enter Tryz.func28, Tryz.ntmps28
    go_wp2
    go_ret
    exact ⟨rfl, rfl⟩

theorem s_of (f : Int) (h0 : 0 ≤ f) (h1 : f ≤ 255) (w : World) (hT : FAt w) :
    Calls Tryz.prog 117 #[.int .u8 f] w fun e w' => e = .returned (.agg #[.int .i64 (fW f), .int .i64 (fP f), .int .i64 (fE f), .string (fN f)]) ∧ w' = w.alloc (.cells (fR f) 134) := by
  have hB := bal7 w (.cells #[.int .i64 0, .int .i64 0, .int .i64 0, .string ⟨#[]⟩] 134)
  have T2 := fatB hT hB
  rcases f_cases f h0 with rfl | rfl | rfl | rfl | h
  · have c0 := fat_at T2 0 (.int .i64 32) (by decide) rfl
    have c1 := fat_at T2 1 (.int .i64 24) (by decide) rfl
    have c2 := fat_at T2 2 (.int .i64 127) (by decide) rfl
    have c3 := fat_at T2 3 (.string ⟨#[115]⟩) (by decide) rfl
    clear T2 hT
    go_enter Tryz.func117, Tryz.ntmps117
    go_wp2_with fail
    refine (s_check_is 0 0 (by omega) (by omega) rfl _).mono ?_
    rintro r w' ⟨rfl, rfl⟩
    go_wp2
    exact bodyPost_ret (v := .agg #[.int .i64 32, .int .i64 24, .int .i64 127, .string ⟨#[115]⟩]) (by simp [results, Tryz.results117, go_sem]) rfl ⟨rfl, rfl⟩
  · have c0 := fat_at T2 4 (.int .i64 64) (by decide) rfl
    have c1 := fat_at T2 5 (.int .i64 53) (by decide) rfl
    have c2 := fat_at T2 6 (.int .i64 1023) (by decide) rfl
    have c3 := fat_at T2 7 (.string ⟨#[100]⟩) (by decide) rfl
    clear T2 hT
    go_enter Tryz.func117, Tryz.ntmps117
    go_wp2_with fail
    refine (s_check_is 1 0 (by omega) (by omega) rfl _).mono ?_
    rintro r w' ⟨rfl, rfl⟩
    go_wp2
    exact bodyPost_ret (v := .agg #[.int .i64 64, .int .i64 53, .int .i64 1023, .string ⟨#[100]⟩]) (by simp [results, Tryz.results117, go_sem]) rfl ⟨rfl, rfl⟩
  · have c0 := fat_at T2 8 (.int .i64 16) (by decide) rfl
    have c1 := fat_at T2 9 (.int .i64 11) (by decide) rfl
    have c2 := fat_at T2 10 (.int .i64 15) (by decide) rfl
    have c3 := fat_at T2 11 (.string ⟨#[104]⟩) (by decide) rfl
    clear T2 hT
    go_enter Tryz.func117, Tryz.ntmps117
    go_wp2_with fail
    refine (s_check_is 2 0 (by omega) (by omega) rfl _).mono ?_
    rintro r w' ⟨rfl, rfl⟩
    go_wp2
    exact bodyPost_ret (v := .agg #[.int .i64 16, .int .i64 11, .int .i64 15, .string ⟨#[104]⟩]) (by simp [results, Tryz.results117, go_sem]) rfl ⟨rfl, rfl⟩
  · have c0 := fat_at T2 12 (.int .i64 128) (by decide) rfl
    have c1 := fat_at T2 13 (.int .i64 113) (by decide) rfl
    have c2 := fat_at T2 14 (.int .i64 16383) (by decide) rfl
    have c3 := fat_at T2 15 (.string ⟨#[113]⟩) (by decide) rfl
    clear T2 hT
    go_enter Tryz.func117, Tryz.ntmps117
    go_wp2_with fail
    refine (s_check_is 3 0 (by omega) (by omega) rfl _).mono ?_
    rintro r w' ⟨rfl, rfl⟩
    go_wp2
    exact bodyPost_ret (v := .agg #[.int .i64 128, .int .i64 113, .int .i64 16383, .string ⟨#[113]⟩]) (by simp [results, Tryz.results117, go_sem]) rfl ⟨rfl, rfl⟩
  · have hd : decide ((4 : Int) ≤ f) = true := by simp [h]
    have e0 : fW f = 0 := by unfold fW; rw [if_neg (by omega), if_neg (by omega), if_neg (by omega), if_neg (by omega)]
    have e1 : fP f = 0 := by unfold fP; rw [if_neg (by omega), if_neg (by omega), if_neg (by omega), if_neg (by omega)]
    have e2 : fE f = 0 := by unfold fE; rw [if_neg (by omega), if_neg (by omega), if_neg (by omega), if_neg (by omega)]
    have e3 : fN f = ⟨#[]⟩ := by unfold fN; rw [if_neg (by omega), if_neg (by omega), if_neg (by omega), if_neg (by omega)]
    have e4 : fC f = 2 := by unfold fC; rw [if_neg (by omega)]
    have e5 : fR f = #[.int .i64 0, .int .i64 0, .int .i64 0, .string ⟨#[]⟩] := by unfold fR; rw [e0, e1, e2, e3]
    rw [e0, e1, e2, e3, e5]
    clear T2 hT e0 e1 e2 e3 e5
    go_enter Tryz.func117, Tryz.ntmps117
    go_wp2_with fail
    refine (s_check_is f 2 (by omega) (by omega) e4 _).mono ?_
    rintro r w' ⟨rfl, rfl⟩
    go_wp2
    exact bodyPost_ret (v := .agg #[.int .i64 0, .int .i64 0, .int .i64 0, .string ⟨#[]⟩]) (by simp [results, Tryz.results117, go_sem]) rfl ⟨rfl, rfl⟩

theorem s_of_is (f w0 p0 m0 : Int) (n0 : ByteArray) (h0 : 0 ≤ f) (h1 : f ≤ 255) (hw : fW f = w0) (hp : fP f = p0) (he : fE f = m0) (hn : fN f = n0) (w : World) (hT : FAt w) :
    Calls Tryz.prog 117 #[.int .u8 f] w fun e w' => e = .returned (.agg #[.int .i64 w0, .int .i64 p0, .int .i64 m0, .string n0]) ∧ w' = w.alloc (.cells (fR f) 134) := by
  subst hw hp he hn
  exact s_of f h0 h1 w hT

theorem fld0 (a b c d : Value) (w : World) : (Instr.field 134 (.agg #[a, b, c, d]) 0).run Tryz.prog w = .ok a w := by kernel_rfl
theorem fld1 (a b c d : Value) (w : World) : (Instr.field 134 (.agg #[a, b, c, d]) 1).run Tryz.prog w = .ok b w := by kernel_rfl
theorem fld2 (a b c d : Value) (w : World) : (Instr.field 134 (.agg #[a, b, c, d]) 2).run Tryz.prog w = .ok c w := by kernel_rfl
theorem s_width (f v : Int) (h0 : 0 ≤ f) (h1 : f ≤ 255) (hv : fW f = v) (w : World) (hT : FAt w) :
    Calls Tryz.prog 64 #[.int .u8 f] w fun e w' => e = .returned (.int .i64 v) ∧ w' = w.alloc (.cells (fR f) 134) := by
  have hl := fld0
  go_enter Tryz.func64, Tryz.ntmps64
  go_wp2_with fail
  refine (s_of_is f v _ _ _ h0 h1 hv rfl rfl rfl _ hT).mono ?_
  rintro r w2 ⟨rfl, rfl⟩
  go_wp2
  go_ret
  exact ⟨rfl, rfl⟩
theorem s_precision (f v : Int) (h0 : 0 ≤ f) (h1 : f ≤ 255) (hv : fP f = v) (w : World) (hT : FAt w) :
    Calls Tryz.prog 121 #[.int .u8 f] w fun e w' => e = .returned (.int .i64 v) ∧ w' = w.alloc (.cells (fR f) 134) := by
  have hl := fld1
  go_enter Tryz.func121, Tryz.ntmps121
  go_wp2_with fail
  refine (s_of_is f _ v _ _ h0 h1 rfl hv rfl rfl _ hT).mono ?_
  rintro r w2 ⟨rfl, rfl⟩
  go_wp2
  go_ret
  exact ⟨rfl, rfl⟩
theorem s_emax (f v : Int) (h0 : 0 ≤ f) (h1 : f ≤ 255) (hv : fE f = v) (w : World) (hT : FAt w) :
    Calls Tryz.prog 60 #[.int .u8 f] w fun e w' => e = .returned (.int .i64 v) ∧ w' = w.alloc (.cells (fR f) 134) := by
  have hl := fld2
  go_enter Tryz.func60, Tryz.ntmps60
  go_wp2_with fail
  refine (s_of_is f _ _ v _ h0 h1 rfl rfl hv rfl _ hT).mono ?_
  rintro r w2 ⟨rfl, rfl⟩
  go_wp2
  go_ret
  exact ⟨rfl, rfl⟩

theorem s_emin (f m v : Int) (h0 : 0 ≤ f) (h1 : f ≤ 255) (hm : fE f = m) (hv : (if fC f = 0 then 1 - m else 0) = v) (w : World) (hT : FAt w) :
    Calls Tryz.prog 83 #[.int .u8 f] w fun e w' => e = .returned (.int .i64 v) ∧ Below w.heap.size w w' := by
  obtain ⟨c, hc⟩ : ∃ c, fC f = c := ⟨_, rfl⟩
  rw [hc] at hv
  have hm2 : 0 ≤ m ∧ m ≤ 16383 := by rw [← hm]; unfold fE; split <;> (try split) <;> (try split) <;> (try split) <;> omega
  by_cases h : c = 0
  · rw [if_pos h] at hv
    subst h hv
    have hw : IntKind.i64.wrap (1 - m) = 1 - m := by rw [IntKind.wrap_i64]; omega
    go_enter Tryz.func83, Tryz.ntmps83
    go_wp2_with fail
    refine (s_check_is f 0 h0 h1 hc _).mono ?_
    rintro r w' ⟨rfl, rfl⟩
    go_wp2_with fail
    refine (s_emax f m h0 h1 hm _ hT).mono ?_
    rintro r w2 ⟨rfl, rfl⟩
    go_wp2
    go_ret
    exact ⟨rfl, bal7 _ _⟩
  · have hd : (c != 0) = true := by simp [h]
    rw [if_neg h] at hv
    subst hv
    go_enter Tryz.func83, Tryz.ntmps83
    go_wp2_with fail
    refine (s_check_is f c h0 h1 hc _).mono ?_
    rintro r w' ⟨rfl, rfl⟩
    go_wp2
    go_ret
    exact ⟨rfl, Below.refl _ _⟩

def rHi (x n : Int) : Int := bits .or .u64 (IntKind.u64.wrap (x * 2 ^ min (IntKind.u64.wrap (n - 64)).toNat 64)) (x / 2 ^ min (IntKind.u64.wrap (64 - n)).toNat 64)
def rLo (x n : Int) : Int := IntKind.u64.wrap (x * 2 ^ min n.toNat 64)

theorem cell7 {w : World} {g : Nat} {T : TypeId} {c : Array Value} (row : w.heap[g]? = some (.cells c T)) (k : Nat) (v : Value) (h : c[k]? = some v) : w.cell? ⟨g, k, none⟩ = some v := by
  simp [World.cell?, row, h]
theorem set2_below {n : Nat} {w wr : World} {b : Nat} (h : Below n w wr) (hb : n ≤ b) (v0 v1 : Value) : Below n w ((wr.setCell ⟨b, 0, none⟩ v0).setCell ⟨b, 1, none⟩ v1) := (h.setCell (by exact hb) _).setCell (by exact hb) _
theorem set2_row {w : World} {b : Nat} {c0 c1 : Value} {T : TypeId} (h : w.heap[b]? = some (.cells #[c0, c1] T)) (v0 v1 : Value) :
    ((w.setCell ⟨b, 0, none⟩ v0).setCell ⟨b, 1, none⟩ v1).heap[b]? = some (.cells #[v0, v1] T) := by
  rw [setCell_row (setCell_row h)]; rfl
theorem set2_cells {w : World} {b : Nat} {c0 c1 : Value} {T : TypeId} (h : w.heap[b]? = some (.cells #[c0, c1] T)) (v0 v1 : Value) :
    ((w.setCell ⟨b, 0, none⟩ v0).setCell ⟨b, 1, none⟩ v1).cell? ⟨b, 0, none⟩ = some v0 ∧ ((w.setCell ⟨b, 0, none⟩ v0).setCell ⟨b, 1, none⟩ v1).cell? ⟨b, 1, none⟩ = some v1 := by
  have r := set2_row h v0 v1
  exact ⟨cell7 r 0 _ rfl, cell7 r 1 _ rfl⟩
theorem last7 (w : World) (o : Obj) : (w.alloc o).heap[w.heap.size]? = some o := heap_alloc_last w o

def b2 (a b : Int) : Array Value := #[.int .u64 a, .int .u64 b]

theorem s_raised (x n H L : Int) (h0 : 0 ≤ n) (h1 : n ≤ 18446744073709551615) (hH : rHi x n = H) (hL : rLo x n = L) (w : World) :
    Calls Tryz.prog 65 #[.int .u64 x, .int .u64 n] w fun e w' => e = .returned (.agg #[.int .u64 H, .int .u64 L]) ∧ w' = w.alloc (.cells #[.int .u64 H, .int .u64 L] 26) := by
  obtain ⟨m, rfl⟩ := Int.eq_ofNat_of_zero_le h0
  subst hH hL
  go_enter Tryz.func65, Tryz.ntmps65
  go_wp2
  exact bodyPost_ret (v := .agg #[.int .u64 (rHi x m), .int .u64 (rLo x m)]) (by simp [results, Tryz.results65, go_sem, rHi, rLo]) rfl ⟨rfl, by simp [rHi, rLo]⟩

theorem s_join (a b c d H L : Int) (hH : bits .or .u64 a c = H) (hL : bits .or .u64 b d = L) (w : World) :
    Calls Tryz.prog 113 #[.agg #[.int .u64 a, .int .u64 b], .agg #[.int .u64 c, .int .u64 d]] w fun e w' => e = .returned (.agg #[.int .u64 H, .int .u64 L]) ∧ w' = ((w.alloc (.cells #[.int .u64 a, .int .u64 b] 26)).alloc (.cells #[.int .u64 c, .int .u64 d] 26)).alloc (.cells #[.int .u64 H, .int .u64 L] 26) := by
  go_enter Tryz.func113, Tryz.ntmps113
  go_wp2
  exact bodyPost_ret (v := .agg #[.int .u64 H, .int .u64 L]) (by simp [results, Tryz.results113, go_sem]) rfl ⟨rfl, rfl⟩

theorem s_ones (n H L : Int) (h0 : 0 ≤ n) (h1 : n ≤ 18446744073709551615) (hH : rHi 1 n = H) (hL : rLo 1 n = L) (K M : Int) (hK : (if L = 0 then IntKind.u64.wrap (H - 1) else H) = K) (hM : IntKind.u64.wrap (L - 1) = M) (w : World) :
    Calls Tryz.prog 63 #[.int .u64 n] w fun e w' => e = .returned (.agg #[.int .u64 K, .int .u64 M]) ∧ Below w.heap.size w w' := by
  by_cases hz : L = 0
  · have hd : (L == 0) = true := by simp [hz]
    rw [if_pos hz] at hK
    subst hz
    rw [show (0 : Int) - 1 = -1 by decide] at hM
    go_enter Tryz.func63, Tryz.ntmps63
    go_wp2_with fail
    refine (s_raised 1 n H _ h0 h1 hH hL _).mono ?_
    rintro r w2 ⟨rfl, rfl⟩
    go_wp2
    exact bodyPost_ret (v := .agg #[.int .u64 K, .int .u64 M]) (by simp [results, Tryz.results63, go_sem]) rfl ⟨rfl, (((Below.refl _ _).alloc (Nat.le_refl _) _).alloc (by simp only [size_al]; omega) _).alloc (by simp only [size_al]; omega) _⟩
  · have hd : (L == 0) = false := by simp [hz]
    rw [if_neg hz] at hK
    subst hK
    go_enter Tryz.func63, Tryz.ntmps63
    go_wp2_with fail
    refine (s_raised 1 n H _ h0 h1 hH hL _).mono ?_
    rintro r w2 ⟨rfl, rfl⟩
    go_wp2
    exact bodyPost_ret (v := .agg #[.int .u64 H, .int .u64 M]) (by simp [results, Tryz.results63, go_sem]) rfl ⟨rfl, (((Below.refl _ _).alloc (Nat.le_refl _) _).alloc (by simp only [size_al]; omega) _).alloc (by simp only [size_al]; omega) _⟩

theorem s_fraction (f p v : Int) (h0 : 0 ≤ f) (h1 : f ≤ 255) (hp : fP f = p) (hv : IntKind.u64.wrap (p - 1) = v) (w : World) (hT : FAt w) :
    Calls Tryz.prog 66 #[.int .u8 f] w fun e w' => e = .returned (.int .u64 v) ∧ w' = w.alloc (.cells (fR f) 134) := by
  have hm2 : 0 ≤ p ∧ p ≤ 113 := by rw [← hp]; unfold fP; split <;> (try split) <;> (try split) <;> (try split) <;> omega
  have hw : IntKind.i64.wrap (p - 1) = p - 1 := by rw [IntKind.wrap_i64]; omega
  go_enter Tryz.func66, Tryz.ntmps66
  go_wp2_with fail
  refine (s_precision f p h0 h1 hp _ hT).mono ?_
  rintro r w2 ⟨rfl, rfl⟩
  go_wp2
  go_ret
  exact ⟨rfl, rfl⟩

theorem s_top (f q p d v : Int) (h0 : 0 ≤ f) (h1 : f ≤ 255) (hq : fW f = q) (hp : fP f = p) (hd : q - p = d) (h2 : 0 ≤ d) (hv : IntKind.u64.wrap (IntKind.u64.wrap (2 ^ min d.toNat 64) - 1) = v) (w : World) (hT : FAt w) :
    Calls Tryz.prog 62 #[.int .u8 f] w fun e w' => e = .returned (.int .u64 v) ∧ Below w.heap.size w w' := by
  have hm1 : 0 ≤ q ∧ q ≤ 128 := by rw [← hq]; unfold fW; split <;> (try split) <;> (try split) <;> (try split) <;> omega
  have hm2 : 0 ≤ p ∧ p ≤ 113 := by rw [← hp]; unfold fP; split <;> (try split) <;> (try split) <;> (try split) <;> omega
  go_enter Tryz.func62, Tryz.ntmps62
  go_wp2_with fail
  refine (s_width f q h0 h1 hq _ hT).mono ?_
  rintro r w2 ⟨rfl, rfl⟩
  go_wp2_with fail
  refine (s_precision f p h0 h1 hp _ (fatB hT (bal7 _ _))).mono ?_
  rintro r w3 ⟨rfl, rfl⟩
  go_wp2
  go_ret
  exact ⟨rfl, btr7 (bal7 _ _) (bal7 _ _)⟩

theorem s_pack_no (f : Int) (neg : Bool) (x a b : Int) (h0 : 0 ≤ f) (h1 : f ≤ 255) (hc : fC f = 2) (w : World) :
    Calls Tryz.prog 57 #[.int .u8 f, .bool neg, .int .u64 x, .agg #[.int .u64 a, .int .u64 b]] w fun e w' => e = .returned (.agg #[.int .u64 0, .int .u64 0]) ∧ Below w.heap.size w w' := by
  go_enter Tryz.func57, Tryz.ntmps57
  go_wp2_with fail
  refine (s_check_is f 2 h0 h1 hc _).mono ?_
  rintro r w' ⟨rfl, rfl⟩
  go_wp2
  exact bodyPost_ret (v := .agg #[.int .u64 0, .int .u64 0]) (by simp [results, Tryz.results57, go_sem]) rfl ⟨rfl, btr7 (bal7 _ _) (bal7 _ _)⟩


def pV (f : Int) : Nat := (fP f).toNat - 1
def wV (f : Int) : Nat := (fW f).toNat - 1
def oV (f : Int) : Nat := 2 * (fE f).toNat + 1
def enc7 (f : Int) (neg : Bool) (e t : Nat) : Nat := e * 2 ^ pV f + t + (if neg then 2 ^ wV f else 0)
def bv7 (v : Nat) : Nat × Nat := (v / 18446744073709551616, v % 18446744073709551616)
def eNaN (f : Int) : Nat := enc7 f false (oV f) (2 ^ (pV f - 1))
def eInf (f : Int) (neg : Bool) : Nat := enc7 f neg (oV f) 0
def eZero (f : Int) (neg : Bool) : Nat := enc7 f neg 0 0
def eGreatest (f : Int) (neg : Bool) : Nat := enc7 f neg (oV f - 1) (2 ^ pV f - 1)
def Is4 (f : Int) : Prop := f = 0 ∨ f = 1 ∨ f = 2 ∨ f = 3
theorem is4_ok {f : Int} (h : Is4 f) : 0 ≤ f ∧ f ≤ 255 ∧ fC f = 0 ∧ 0 ≤ fW f - fP f := by
  rcases h with rfl | rfl | rfl | rfl <;> decide +kernel

def R7 (w : World) (I J : Int) (w5 : World) (g : Nat) : Prop := Below w.heap.size w w5 ∧ w5.heap[g]? = some (.cells #[.int .u64 I, .int .u64 J] 26) ∧ w5.heap[w.heap.size + 1]? = some (.cells #[.int .u64 0, .int .u64 0] 26) ∧ w.heap.size + 1 < g
theorem cut7 {G C : Prop} (h : G → C) (k : G) : C := h k
theorem bel_al {w W : World} (h : Below w.heap.size w W) (o : Obj) : Below w.heap.size w (W.alloc o) := btr7 h (bal7 _ _)
theorem bel_dr {w W : World} (h : Below w.heap.size w W) : Below w.heap.size w W.drew := h.drew
theorem row_al {W : World} {b : Nat} {o : Obj} (h : W.heap[b]? = some o) (o' : Obj) : (W.alloc o').heap[b]? = some o := by
  rw [heap_below W b o' (Array.getElem?_eq_some_iff.1 h).1]; exact h
theorem row_dr {W : World} {b : Nat} {o : Obj} (h : W.heap[b]? = some o) : W.drew.heap[b]? = some o := h
theorem row_last {W : World} {b : Nat} {o : Obj} (h : b = W.heap.size) : (W.alloc o).heap[b]? = some o := by subst h; exact heap_alloc_last W o
theorem gen7 {X : Act → World → Prop} {t0 t1 t2 t3 t4 t5 t6 t7 t8 t10 t11 t12 t13 t14 t15 t16 t17 t18 t19 t20 t21 t22 t23 t24 t25 t26 t27 t28 : Value} {d : List Deferred} {w W : World} {I J : Int} {G : Nat}
    (key : ∀ w5 g, R7 w I J w5 g → X ⟨#[t0, t1, t2, t3, t4, t5, t6, t7, t8, .pointer (some ⟨g, 0, none⟩), t10, t11, t12, t13, t14, t15, t16, t17, t18, t19, t20, t21, t22, t23, t24, t25, t26, t27, t28], d⟩ w5) (r : R7 w I J W G) :
    X ⟨#[t0, t1, t2, t3, t4, t5, t6, t7, t8, .pointer (some ⟨G, 0, none⟩), t10, t11, t12, t13, t14, t15, t16, t17, t18, t19, t20, t21, t22, t23, t24, t25, t26, t27, t28], d⟩ W := key W G r

set_option maxHeartbeats 40000000 in
theorem s_pack_any (f x a b p n H L I J q m M N I' J' : Int) (neg : Bool) (h0 : 0 ≤ f) (h1 : f ≤ 255) (hc : fC f = 0) (hp : fP f = p) (hn : IntKind.u64.wrap (p - 1) = n) (n0 : 0 ≤ n) (n1 : n ≤ 18446744073709551615)
    (hH : rHi x n = H) (hL : rLo x n = L) (hI : bits .or .u64 H a = I) (hJ : bits .or .u64 L b = J) (hq : fW f = q) (hm : q - 1 = m) (m0 : 0 ≤ m) (m1 : m ≤ 127) (hM : rHi 1 m = M) (hN : rLo 1 m = N) (hI' : bits .or .u64 I M = I') (hJ' : bits .or .u64 J N = J') (w : World) (hT : FAt w) :
    Calls Tryz.prog 57 #[.int .u8 f, .bool neg, .int .u64 x, .agg #[.int .u64 a, .int .u64 b]] w fun e w' => e = .returned (.agg #[.int .u64 (if neg then I' else I), .int .u64 (if neg then J' else J)]) ∧ Below w.heap.size w w' := by
  have k1 : Box (∀ w : World, FAt w → Calls Tryz.prog 66 #[.int .u8 f] w fun e w' => e = .returned (.int .u64 n) ∧ w' = w.alloc (.cells (fR f) 134)) := box (fun w hw => s_fraction f p n h0 h1 hp hn w hw)
  have k2 := box (s_raised x n H L n0 n1 hH hL)
  have k3 := box (s_join H L a b I J hI hJ)
  have k0 := box (s_check_is f 0 h0 h1 hc)
  have k4 : Box (∀ w : World, FAt w → Calls Tryz.prog 64 #[.int .u8 f] w fun e w' => e = .returned (.int .i64 q) ∧ w' = w.alloc (.cells (fR f) 134)) := box (fun w hw => s_width f q h0 h1 hq w hw)
  have k5 := box (s_raised 1 m M N m0 (by omega) hM hN)
  have k6 := box (s_join I J M N I' J' hI' hJ')
  have T0 := box hT
  have TT := box (fatB hT (btr7 (bal7 w (.cells #[.int .u64 a, .int .u64 b] 26)) (bal7 _ (.cells #[.int .u64 0, .int .u64 0] 26))))
  have e1 : IntKind.i64.wrap (q - 1) = m := by rw [hm, IntKind.wrap_i64]; omega
  have e2 : IntKind.u64.wrap m = m := by rw [IntKind.wrap_u64]; omega
  have e3 : IntKind.i64.wrap m = m := by rw [IntKind.wrap_i64]; omega
  clear hT hp hn hH hL hI hJ hc h0 h1 n0 n1 hq hM hN hI' hJ' m0 m1 hm
  go_enter Tryz.func57, Tryz.ntmps57
  go_wp2_with fail
  refine (k0.out _).mono ?_
  rintro r w' ⟨rfl, rfl⟩
  go_wp2_with fail
  apply cut7
  · intro key
    go_region_with (first
      | (go_at_call 66; refine (k1.out _ (by repeat (first | exact TT.out | refine fat_al ?_ _ | refine fat_dr ?_))).mono ?_; rintro r w2 ⟨rfl, rfl⟩)
      | (go_at_call 65; refine (k2.out _).mono ?_; rintro r w2 ⟨rfl, rfl⟩)
      | (go_at_call 113; refine (k3.out _).mono ?_; rintro r w2 ⟨rfl, rfl⟩))
    all_goals
      refine gen7 (w := w) (I := I) (J := J) key ⟨?_, ?_, ?_, ?_⟩
      · repeat (first | exact Below.refl _ _ | refine bel_dr ?_ | refine bel_al ?_ _)
      · repeat (first | refine row_dr ?_ | (refine row_last ?_; simp only [size_al]; done) | refine row_al ?_ _)
      · repeat (first | refine row_dr ?_ | (refine row_last ?_; simp only [size_al]; done) | refine row_al ?_ _)
      · omega
  rintro w5 g ⟨B5, R5, S5, hg⟩
  have F5 := box (fatB T0.out B5)
  have c50 := cell7 R5 0 _ rfl
  have c51 := cell7 R5 1 _ rfl
  cases neg
  · have q0 := fz (k := 0) S5
    have q1 := fz (k := 1) S5
    have d0 := cell7 S5 0 _ rfl
    have d1 := cell7 S5 1 _ rfl
    obtain ⟨E0, E1⟩ := set2_cells S5 (.int .u64 I) (.int .u64 J)
    go_wp2
    exact bodyPost_ret (v := .agg #[.int .u64 I, .int .u64 J]) (by simp [results, Tryz.results57, go_sem, E0, E1]) rfl ⟨rfl, set2_below B5 (by omega) _ _⟩
  · have r1 := row_al R5 (.cells (fR f) 134)
    have r2 := row_al r1 (.cells #[.int .u64 M, .int .u64 N] 26)
    have r5 := row_al (row_al (row_al r2 (.cells #[.int .u64 I, .int .u64 J] 26)) (.cells #[.int .u64 M, .int .u64 N] 26)) (.cells #[.int .u64 I', .int .u64 J'] 26)
    have s5 := row_al (row_al (row_al (row_al (row_al S5 (.cells (fR f) 134)) (.cells #[.int .u64 M, .int .u64 N] 26)) (.cells #[.int .u64 I, .int .u64 J] 26)) (.cells #[.int .u64 M, .int .u64 N] 26)) (.cells #[.int .u64 I', .int .u64 J'] 26)
    have Q5 : Box (R7 w I' J' _ g) := box ⟨set2_below (bel_al (bel_al (bel_al (bel_al (bel_al B5 _) _) _) _) _) (by omega) (.int .u64 I') (.int .u64 J'), set2_row r5 _ _, by rw [setCell_other (by omega), setCell_other (by omega)]; exact s5, hg⟩
    have c10 := cell7 r1 0 _ rfl
    have c11 := cell7 r1 1 _ rfl
    have c20 := cell7 r2 0 _ rfl
    have c21 := cell7 r2 1 _ rfl
    have q0 := fz (k := 0) r5
    have q1 := fz (k := 1) r5
    have e50 := cell7 r5 0 _ rfl
    have e51 := cell7 r5 1 _ rfl
    clear r1 r2 r5 s5
    go_wp2_with fail
    apply cut7
    · intro key
      go_region_with (first
        | (go_at_call 64; refine (k4.out _ (by repeat (first | exact F5.out | refine fat_al ?_ _ | refine fat_dr ?_))).mono ?_; rintro r w2 ⟨rfl, rfl⟩)
        | (go_at_call 65; refine (k5.out _).mono ?_; rintro r w2 ⟨rfl, rfl⟩)
        | (go_at_call 113; refine (k6.out _).mono ?_; rintro r w2 ⟨rfl, rfl⟩))
      all_goals
        refine gen7 (w := w) (I := I') (J := J') key ?_
        exact ⟨bel_dr Q5.out.1, row_dr Q5.out.2.1, row_dr Q5.out.2.2.1, hg⟩
    clear R5 S5 F5 c50 c51 c10 c11 c20 c21 q0 q1 e50 e51 B5
    rintro w6 g6 ⟨B6, R6, S6, hg6⟩
    have c60 := cell7 R6 0 _ rfl
    have c61 := cell7 R6 1 _ rfl
    have q0 := fz (k := 0) S6
    have q1 := fz (k := 1) S6
    have d0 := cell7 S6 0 _ rfl
    have d1 := cell7 S6 1 _ rfl
    obtain ⟨E0, E1⟩ := set2_cells S6 (.int .u64 I') (.int .u64 J')
    go_wp2
    exact bodyPost_ret (v := .agg #[.int .u64 I', .int .u64 J']) (by simp [results, Tryz.results57, go_sem, E0, E1]) rfl ⟨rfl, set2_below B6 (by omega) _ _⟩
def pkHi (f : Int) (neg : Bool) (x a : Int) : Int := if neg then bits .or .u64 (bits .or .u64 (rHi x (IntKind.u64.wrap (fP f - 1))) a) (rHi 1 (fW f - 1)) else bits .or .u64 (rHi x (IntKind.u64.wrap (fP f - 1))) a
def pkLo (f : Int) (neg : Bool) (x b : Int) : Int := if neg then bits .or .u64 (bits .or .u64 (rLo x (IntKind.u64.wrap (fP f - 1))) b) (rLo 1 (fW f - 1)) else bits .or .u64 (rLo x (IntKind.u64.wrap (fP f - 1))) b

theorem s_pack_is (f x a b I J : Int) (neg : Bool) (hf : Is4 f) (hI : pkHi f neg x a = I) (hJ : pkLo f neg x b = J) (w : World) (hT : FAt w) :
    Calls Tryz.prog 57 #[.int .u8 f, .bool neg, .int .u64 x, .agg #[.int .u64 a, .int .u64 b]] w fun e w' => e = .returned (.agg #[.int .u64 I, .int .u64 J]) ∧ Below w.heap.size w w' := by
  subst hI hJ
  have k : 0 ≤ IntKind.u64.wrap (fP f - 1) ∧ IntKind.u64.wrap (fP f - 1) ≤ 18446744073709551615 ∧ 0 ≤ fW f - 1 ∧ fW f - 1 ≤ 127 ∧ fC f = 0 ∧ 0 ≤ f ∧ f ≤ 255 := by
    rcases hf with rfl | rfl | rfl | rfl <;> decide +kernel
  have h := s_pack_any f x a b _ _ _ _ _ _ _ _ _ _ _ _ neg k.2.2.2.2.2.1 k.2.2.2.2.2.2 k.2.2.2.2.1 rfl rfl k.1 k.2.1 rfl rfl rfl rfl rfl rfl k.2.2.1 k.2.2.2.1 rfl rfl rfl rfl w hT
  refine h.mono ?_
  rintro r w' ⟨rfl, b⟩
  refine ⟨?_, b⟩
  cases neg <;> rfl

theorem top7 {f : Int} (h : Is4 f) : IntKind.u64.wrap (IntKind.u64.wrap (2 ^ min (fW f - fP f).toNat 64) - 1) = (oV f : Int) := by
  rcases h with rfl | rfl | rfl | rfl <;> decide +kernel

theorem s_top_is (f : Int) (hf : Is4 f) (w : World) (hT : FAt w) :
    Calls Tryz.prog 62 #[.int .u8 f] w fun e w' => e = .returned (.int .u64 (oV f : Nat)) ∧ Below w.heap.size w w' :=
  s_top f _ _ _ _ (is4_ok hf).1 (is4_ok hf).2.1 rfl rfl rfl (is4_ok hf).2.2.2 (top7 hf) w hT

theorem pk_Inf {f : Int} (h : Is4 f) (neg : Bool) : pkHi f neg ((oV f : Nat)) (0) = ((bv7 (eInf f neg)).1 : Nat) ∧ pkLo f neg ((oV f : Nat)) (0) = ((bv7 (eInf f neg)).2 : Nat) := by
  rcases h with rfl | rfl | rfl | rfl <;> cases neg <;> decide +kernel
theorem pk_Zero {f : Int} (h : Is4 f) (neg : Bool) : pkHi f neg (0) (0) = ((bv7 (eZero f neg)).1 : Nat) ∧ pkLo f neg (0) (0) = ((bv7 (eZero f neg)).2 : Nat) := by
  rcases h with rfl | rfl | rfl | rfl <;> cases neg <;> decide +kernel
theorem pk_NaN {f : Int} (h : Is4 f) : pkHi f false ((oV f : Nat)) (rHi 1 (fP f - 2)) = ((bv7 (eNaN f)).1 : Nat) ∧ pkLo f false ((oV f : Nat)) (rLo 1 (fP f - 2)) = ((bv7 (eNaN f)).2 : Nat) := by
  rcases h with rfl | rfl | rfl | rfl <;> decide +kernel
theorem pk_Greatest {f : Int} (h : Is4 f) (neg : Bool) : pkHi f neg (((oV f : Nat) : Int) - 1) ((if rLo 1 (fP f - 1) = 0 then IntKind.u64.wrap (rHi 1 (fP f - 1) - 1) else rHi 1 (fP f - 1))) = ((bv7 (eGreatest f neg)).1 : Nat) ∧ pkLo f neg (((oV f : Nat) : Int) - 1) (IntKind.u64.wrap (rLo 1 (fP f - 1) - 1)) = ((bv7 (eGreatest f neg)).2 : Nat) := by
  rcases h with rfl | rfl | rfl | rfl <;> cases neg <;> decide +kernel

set_option maxHeartbeats 1000000 in
theorem s_inf (f : Int) (neg : Bool) (hf : Is4 f) (v : Nat) (hv : eInf f neg = v) (w : World) (hT : FAt w) :
    Calls Tryz.prog 26 #[.int .u8 f, .bool neg] w fun e w' => e = .returned (bitsV (bv7 v)) ∧ Below w.heap.size w w' := by
  subst hv
  have TT := box hT
  have P := box (pk_Inf hf neg)
  obtain ⟨x, y, hxy⟩ : ∃ x y, bv7 (eInf f neg) = (x, y) := ⟨_, _, rfl⟩
  rw [hxy] at P ⊢
  have e0 : bitsV (x, y) = .agg #[.int .u64 (x : Nat), .int .u64 (y : Nat)] := rfl
  rw [e0]
  have f4 := is4_ok hf
  clear hxy hT e0
  have R0 : (w.alloc (.cells #[.int .u64 0, .int .u64 0] 26)).heap[w.heap.size]? = some (.cells #[.int .u64 0, .int .u64 0] 26) := last7 _ _
  have B0 := bal7 w (.cells #[.int .u64 0, .int .u64 0] 26)
  go_enter Tryz.func26, Tryz.ntmps26
  go_wp2_with fail
  refine (s_top_is f hf _ (fatB TT.out B0)).mono ?_
  rintro r w1 ⟨rfl, b1⟩
  have B1 := btr7 B0 b1
  have R1 := heap_of b1 _ _ _ R0
  clear B0 R0 b1
  go_wp2_with fail
  refine (s_pack_is f _ 0 0 _ _ neg hf P.out.1 P.out.2 _ (fatB TT.out B1)).mono ?_
  rintro r w2 ⟨rfl, b2⟩
  have B2 := btr7 B1 b2
  have R2 := heap_of b2 _ _ _ R1
  clear B1 R1 b2
  have q0 := fz (k := 0) R2
  have q1 := fz (k := 1) R2
  have d0 := cell7 R2 0 _ rfl
  have d1 := cell7 R2 1 _ rfl
  obtain ⟨E0, E1⟩ := set2_cells R2 (.int .u64 x) (.int .u64 y)
  go_wp2
  exact bodyPost_ret (v := .agg #[.int .u64 x, .int .u64 y]) (by simp [results, Tryz.results26, go_sem, E0, E1]) rfl ⟨rfl, set2_below B2 (by omega) _ _⟩

set_option maxHeartbeats 1000000 in
theorem s_zero (f : Int) (neg : Bool) (hf : Is4 f) (v : Nat) (hv : eZero f neg = v) (w : World) (hT : FAt w) :
    Calls Tryz.prog 21 #[.int .u8 f, .bool neg] w fun e w' => e = .returned (bitsV (bv7 v)) ∧ Below w.heap.size w w' := by
  subst hv
  have TT := box hT
  have P := box (pk_Zero hf neg)
  obtain ⟨x, y, hxy⟩ : ∃ x y, bv7 (eZero f neg) = (x, y) := ⟨_, _, rfl⟩
  rw [hxy] at P ⊢
  have e0 : bitsV (x, y) = .agg #[.int .u64 (x : Nat), .int .u64 (y : Nat)] := rfl
  rw [e0]
  have f4 := is4_ok hf
  clear hxy hT e0
  have R0 : (w.alloc (.cells #[.int .u64 0, .int .u64 0] 26)).heap[w.heap.size]? = some (.cells #[.int .u64 0, .int .u64 0] 26) := last7 _ _
  have B0 := bal7 w (.cells #[.int .u64 0, .int .u64 0] 26)
  go_enter Tryz.func21, Tryz.ntmps21
  go_wp2_with fail
  refine (s_pack_is f 0 0 0 _ _ neg hf P.out.1 P.out.2 _ (fatB TT.out B0)).mono ?_
  rintro r w1 ⟨rfl, b1⟩
  have B1 := btr7 B0 b1
  have R1 := heap_of b1 _ _ _ R0
  clear B0 R0 b1
  have q0 := fz (k := 0) R1
  have q1 := fz (k := 1) R1
  have d0 := cell7 R1 0 _ rfl
  have d1 := cell7 R1 1 _ rfl
  obtain ⟨E0, E1⟩ := set2_cells R1 (.int .u64 x) (.int .u64 y)
  go_wp2
  exact bodyPost_ret (v := .agg #[.int .u64 x, .int .u64 y]) (by simp [results, Tryz.results21, go_sem, E0, E1]) rfl ⟨rfl, set2_below B1 (by omega) _ _⟩

set_option maxHeartbeats 1000000 in
theorem s_greatest (f : Int) (neg : Bool) (hf : Is4 f) (v : Nat) (hv : eGreatest f neg = v) (w : World) (hT : FAt w) :
    Calls Tryz.prog 132 #[.int .u8 f, .bool neg] w fun e w' => e = .returned (bitsV (bv7 v)) ∧ Below w.heap.size w w' := by
  subst hv
  have TT := box hT
  have P := box (pk_Greatest hf neg)
  obtain ⟨x, y, hxy⟩ : ∃ x y, bv7 (eGreatest f neg) = (x, y) := ⟨_, _, rfl⟩
  rw [hxy] at P ⊢
  have e0 : bitsV (x, y) = .agg #[.int .u64 (x : Nat), .int .u64 (y : Nat)] := rfl
  rw [e0]
  have f4 := is4_ok hf
  clear hxy hT e0
  obtain ⟨p, hp⟩ : ∃ p : Int, fP f = p := ⟨_, rfl⟩
  obtain ⟨n, hn⟩ : ∃ n : Int, fP f - 1 = n := ⟨_, rfl⟩
  obtain ⟨H, hH⟩ : ∃ n : Int, rHi 1 (fP f - 1) = n := ⟨_, rfl⟩
  obtain ⟨L, hL⟩ : ∃ n : Int, rLo 1 (fP f - 1) = n := ⟨_, rfl⟩
  obtain ⟨K, hK⟩ : ∃ n : Int, (if L = 0 then IntKind.u64.wrap (H - 1) else H) = n := ⟨_, rfl⟩
  obtain ⟨M, hM⟩ : ∃ n : Int, IntKind.u64.wrap (L - 1) = n := ⟨_, rfl⟩
  obtain ⟨E, hE⟩ : ∃ n : Int, ((oV f : Nat) : Int) - 1 = n := ⟨_, rfl⟩
  have n0 : 0 ≤ n := by rw [← hn]; rcases hf with rfl | rfl | rfl | rfl <;> decide +kernel
  have n1 : n ≤ 18446744073709551615 := by rw [← hn]; rcases hf with rfl | rfl | rfl | rfl <;> decide +kernel
  have HN : Box (IntKind.u64.wrap (p - 1) = n) := box (by rw [← hn, ← hp]; rcases hf with rfl | rfl | rfl | rfl <;> decide +kernel)
  have w1 : IntKind.u64.wrap (((oV f : Nat) : Int) - 1) = E := by rw [← hE]; rcases hf with rfl | rfl | rfl | rfl <;> decide +kernel
  rw [hL, hH, hK, hM, hE] at P
  have HP := box hp
  have HH : Box (rHi 1 n = H) := box (by rw [← hn]; exact hH)
  have HL : Box (rLo 1 n = L) := box (by rw [← hn]; exact hL)
  have HK := box hK
  have HM := box hM
  clear hp hn hH hL hK hM hE
  have R0 : (w.alloc (.cells #[.int .u64 0, .int .u64 0] 26)).heap[w.heap.size]? = some (.cells #[.int .u64 0, .int .u64 0] 26) := last7 _ _
  have B0 := bal7 w (.cells #[.int .u64 0, .int .u64 0] 26)
  go_enter Tryz.func132, Tryz.ntmps132
  go_wp2_with fail
  refine (s_top_is f hf _ (fatB TT.out B0)).mono ?_
  rintro r w1 ⟨rfl, b1⟩
  have B1 := btr7 B0 b1
  have R1 := heap_of b1 _ _ _ R0
  clear B0 R0 b1
  go_wp2_with fail
  refine (s_fraction f p n f4.1 f4.2.1 HP.out HN.out _ (fatB TT.out B1)).mono ?_
  rintro r w' ⟨rfl, rfl⟩
  have B2 := bel_al B1 (.cells (fR f) 134)
  have R2 := row_al R1 (.cells (fR f) 134)
  clear B1 R1
  go_wp2_with fail
  refine (s_ones n H L n0 n1 HH.out HL.out K M HK.out HM.out _).mono ?_
  rintro r w3 ⟨rfl, b3⟩
  have B3 := btr7 B2 b3
  have R3 := heap_of b3 _ _ _ R2
  clear B2 R2 b3
  go_wp2_with fail
  refine (s_pack_is f E K M _ _ neg hf P.out.1 P.out.2 _ (fatB TT.out B3)).mono ?_
  rintro r w4 ⟨rfl, b4⟩
  have B4 := btr7 B3 b4
  have R4 := heap_of b4 _ _ _ R3
  clear B3 R3 b4
  have q0 := fz (k := 0) R4
  have q1 := fz (k := 1) R4
  have d0 := cell7 R4 0 _ rfl
  have d1 := cell7 R4 1 _ rfl
  obtain ⟨E0, E1⟩ := set2_cells R4 (.int .u64 x) (.int .u64 y)
  go_wp2
  exact bodyPost_ret (v := .agg #[.int .u64 x, .int .u64 y]) (by simp [results, Tryz.results132, go_sem, E0, E1]) rfl ⟨rfl, set2_below B4 (by omega) _ _⟩

set_option maxHeartbeats 1000000 in
theorem s_nan (f : Int) (hf : Is4 f) (v : Nat) (hv : eNaN f = v) (w : World) (hT : FAt w) :
    Calls Tryz.prog 30 #[.int .u8 f] w fun e w' => e = .returned (bitsV (bv7 v)) ∧ Below w.heap.size w w' := by
  subst hv
  have TT := box hT
  have P := box (pk_NaN hf)
  obtain ⟨x, y, hxy⟩ : ∃ x y, bv7 (eNaN f) = (x, y) := ⟨_, _, rfl⟩
  rw [hxy] at P ⊢
  have e0 : bitsV (x, y) = .agg #[.int .u64 (x : Nat), .int .u64 (y : Nat)] := rfl
  rw [e0]
  have f4 := is4_ok hf
  clear hxy hT e0
  obtain ⟨p, hp⟩ : ∃ p : Int, fP f = p := ⟨_, rfl⟩
  obtain ⟨n, hn⟩ : ∃ n : Int, fP f - 1 = n := ⟨_, rfl⟩
  obtain ⟨m, hm⟩ : ∃ n : Int, fP f - 2 = n := ⟨_, rfl⟩
  obtain ⟨H, hH⟩ : ∃ n : Int, rHi 1 (fP f - 2) = n := ⟨_, rfl⟩
  obtain ⟨L, hL⟩ : ∃ n : Int, rLo 1 (fP f - 2) = n := ⟨_, rfl⟩
  have n0 : 0 ≤ m := by rw [← hm]; rcases hf with rfl | rfl | rfl | rfl <;> decide +kernel
  have n1 : m ≤ 18446744073709551615 := by rw [← hm]; rcases hf with rfl | rfl | rfl | rfl <;> decide +kernel
  have HN : Box (IntKind.u64.wrap (p - 1) = n) := box (by rw [← hn, ← hp]; rcases hf with rfl | rfl | rfl | rfl <;> decide +kernel)
  have w1 : IntKind.u64.wrap (n - 1) = m := by rw [← hm, ← hn]; rcases hf with rfl | rfl | rfl | rfl <;> decide +kernel
  rw [hL, hH] at P
  have HP := box hp
  have HH : Box (rHi 1 m = H) := box (by rw [← hm]; exact hH)
  have HL : Box (rLo 1 m = L) := box (by rw [← hm]; exact hL)
  clear hp hn hH hL hm
  have R0 : (w.alloc (.cells #[.int .u64 0, .int .u64 0] 26)).heap[w.heap.size]? = some (.cells #[.int .u64 0, .int .u64 0] 26) := last7 _ _
  have B0 := bal7 w (.cells #[.int .u64 0, .int .u64 0] 26)
  go_enter Tryz.func30, Tryz.ntmps30
  go_wp2_with fail
  refine (s_top_is f hf _ (fatB TT.out B0)).mono ?_
  rintro r w1 ⟨rfl, b1⟩
  have B1 := btr7 B0 b1
  have R1 := heap_of b1 _ _ _ R0
  clear B0 R0 b1
  go_wp2_with fail
  refine (s_fraction f p n f4.1 f4.2.1 HP.out HN.out _ (fatB TT.out B1)).mono ?_
  rintro r w' ⟨rfl, rfl⟩
  have B2 := bel_al B1 (.cells (fR f) 134)
  have R2 := row_al R1 (.cells (fR f) 134)
  clear B1 R1
  go_wp2_with fail
  refine (s_raised 1 m H L n0 n1 HH.out HL.out _).mono ?_
  rintro r w' ⟨rfl, rfl⟩
  have B3 := bel_al B2 (.cells #[.int .u64 H, .int .u64 L] 26)
  have R3 := row_al R2 (.cells #[.int .u64 H, .int .u64 L] 26)
  clear B2 R2
  go_wp2_with fail
  refine (s_pack_is f _ H L _ _ false hf P.out.1 P.out.2 _ (fatB TT.out B3)).mono ?_
  rintro r w4 ⟨rfl, b4⟩
  have B4 := btr7 B3 b4
  have R4 := heap_of b4 _ _ _ R3
  clear B3 R3 b4
  have q0 := fz (k := 0) R4
  have q1 := fz (k := 1) R4
  have d0 := cell7 R4 0 _ rfl
  have d1 := cell7 R4 1 _ rfl
  obtain ⟨E0, E1⟩ := set2_cells R4 (.int .u64 x) (.int .u64 y)
  go_wp2
  exact bodyPost_ret (v := .agg #[.int .u64 x, .int .u64 y]) (by simp [results, Tryz.results30, go_sem, E0, E1]) rfl ⟨rfl, set2_below B4 (by omega) _ _⟩
end Go.Proofs.YtapikkbifdldfaaGreatDoor
