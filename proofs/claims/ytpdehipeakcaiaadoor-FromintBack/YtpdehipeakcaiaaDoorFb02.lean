/-
  What the functions that the statement reaches return: part 2 (Wide4, Wide6, Wide7, Wide8, Wide9, Wide12, Frame6, Quot1, Quot2, Rquot1, Jmath, Jam1, Jam2, Nat3, List0, List2, List6, Door1, Dmath, List16).
-/
import Derived.Deep.RegionLaw
import Derived.Laws.CopyOwn
import Derived.Deep.OwnRows
import Derived.Laws.BytesString
import Derived.RegionTactic
import Derived.Test.YtpdehipeakcaiaaDoorRows
import Derived.WalkKit
import Derived.ProofKit
import Derived.OpenShut
import Derived.Laws.IdiomArrays
import Derived.Below
import Derived.Carry
import Derived.Deep.RegionWith
import Derived.Lib.BitFns
import Derived.Laws.Cover1
import Derived.Test.YtpdehipeakcaiaaDoorFb01
namespace Go.Proofs.YtpdehipeakcaiaaDoor
set_option maxRecDepth 100000
set_option maxHeartbeats 40000000
set_option maxRecDepth 100000
open Go.RowKit WMath
theorem left_lost (n c x : Nat) (hx : x = n * 2 ^ c % Q) : (!decide (x / 2 ^ c = n)) = decide (Q ≤ n * 2 ^ c) := by
  by_cases h : n * 2 ^ c < Q
  · rw [hx, Nat.mod_eq_of_lt h, Nat.mul_div_cancel _ (Nat.two_pow_pos c), decide_eq_false (show ¬ Q ≤ n * 2 ^ c by omega)]
    simp
  · have h1 : x < Q := by rw [hx]; exact Nat.mod_lt _ Q_pos
    have h2 : x / 2 ^ c ≠ n := by
      intro e
      have := Nat.div_mul_le_self x (2 ^ c)
      rw [e] at this
      omega
    rw [decide_eq_true (show Q ≤ n * 2 ^ c by omega), decide_eq_false h2]
    rfl
theorem right_lost (n c : Nat) (hn : n < Q) : (!decide (n / 2 ^ c * 2 ^ c % Q = n)) = decide (n % 2 ^ c ≠ 0) := by
  have h1 := Nat.div_add_mod' n (2 ^ c)
  rw [Nat.mod_eq_of_lt (by omega)]
  by_cases h : n % 2 ^ c = 0
  · rw [decide_eq_true (show n / 2 ^ c * 2 ^ c = n by omega), decide_eq_false (by omega)]; rfl
  · rw [decide_eq_false (show ¬ n / 2 ^ c * 2 ^ c = n by omega), decide_eq_true h]; rfl

theorem wleft_any (n : Nat) (s : Int) (hn : n < Q) (w : World) :
    Calls Tryd.prog 35 #[W n, .int .i64 s] w fun e w' => e = .returned (.tuple #[W (n * 2 ^ cnt6 s % Q), .bool (decide (Q ≤ n * 2 ^ cnt6 s))]) ∧ Below w.heap.size w w' := by
  have hs6 : cnt6 s ≤ 384 := by unfold cnt6; omega
  obtain ⟨x, hx⟩ : ∃ x, x = n * 2 ^ cnt6 s % Q := ⟨_, rfl⟩
  have hxQ : x < Q := by rw [hx]; exact Nat.mod_lt _ Q_pos
  unfold W
  have hat := cw_at 6
  have hz := cw6z
  have hf := cw6f
  have hW : ∀ x, W x = .agg (cw 6 x) := fun _ => rfl
  have heq := eq6
  have hg := eqg6
  have hdQ : x / 2 ^ cnt6 s < Q := Nat.lt_of_le_of_lt (Nat.div_le_self _ _) hxQ
  rw [← hx]
  have HX := box hx
  clear hx
  go_enter Tryd.func35, Tryd.ntmps35
  go_wp2_with (first | (go_at_call 60; refine (wcount_any _ _).mono ?_; rintro e w' ⟨rfl, rfl⟩))
  refine (wup_any n (cnt6 s) hn hs6 _).mono ?_
  rintro e w1 ⟨rfl, hb1⟩
  rw [← HX.out]
  unfold W
  have hr0 : w1.heap[w.heap.size]? = some (.cells (cw 6 n) 42) := heap_of hb1 _ _ _ (by rw [heap_below _ _ _ (by simp)]; exact heap_alloc_last w _)
  have hr1 : w1.heap[w.heap.size + 1]? = some (.cells (cw 6 0) 42) := heap_of hb1 _ _ _ (by rw [← size_al]; exact heap_alloc_last _ _)
  obtain ⟨w2, hw2⟩ : ∃ w2, w2 = w1.setRow (w.heap.size + 1) (cw 6 x) := ⟨_, rfl⟩
  have hst : (storeCells ⟨w.heap.size + 1, 0, none⟩ (cw 6 x).toList 0).run Tryd.prog w1 = .ok () w2 := by rw [hw2]; exact st_any w1 _ x 0 hr1
  have hq0 : w2.heap[w.heap.size]? = some (.cells (cw 6 n) 42) := by rw [hw2, setRow_other (by omega)]; exact hr0
  have hq1 : w2.heap[w.heap.size + 1]? = some (.cells (cw 6 x) 42) := by rw [hw2]; exact setRow_row hr1
  have hbw : Below w.heap.size w w2 := by
    rw [hw2]
    exact Below.setRow ((((Below.refl _ _).alloc (Nat.le_refl _) _).alloc (by simp) _).trans (hb1.mono (by simp <;> omega))) (by omega)
  have hs2 : w.heap.size + 1 < w2.heap.size := (Array.getElem?_eq_some_iff.1 hq1).1
  clear hb1 hr0 hr1 hw2
  obtain ⟨F, hF1, hF2⟩ := below_fun w2
  have hFn : ∀ u o, o < 6 → (F u).cell? ⟨w.heap.size, o, none⟩ = some (.int .u64 (wd n o : Nat)) := fun u => row_cell (heap_of (hF1 u) _ _ _ hq0)
  have hFx : ∀ u o, o < 6 → (F u).cell? ⟨w.heap.size + 1, o, none⟩ = some (.int .u64 (wd x o : Nat)) := fun u => row_cell (heap_of (hF1 u) _ _ _ hq1)
  have hFs : ∀ u, (storeCells ⟨w.heap.size + 1, 0, none⟩ (cw 6 x).toList 0).run Tryd.prog (F u) = .ok () (F u) := fun u => st_same _ _ _ (heap_of (hF1 u) _ _ _ hq1)
  go_wp2
  refine wp_region_below F hF2 (by kernel_rfl) (by kernel_rfl) ?_
  repeat quiet_step ((go_at_call 62; exact quietF hF1 hF2 (wdown_any x (cnt6 s) hxQ hs6 _)))
  refine wpQuiet_nil ?_
  rintro _ ⟨u, rfl⟩
  go_wp2
  exact bodyPost_ret (v := .tuple #[.agg (cw 6 x), .bool (!decide (x / 2 ^ cnt6 s = n))]) (by simp [results, Tryd.results35, go_sem, hFx, hf]) rfl ⟨by rw [left_lost n _ x HX.out], hbw.trans ((hF1 u).mono (by omega))⟩
theorem wright_any (n : Nat) (s : Int) (hn : n < Q) (w : World) :
    Calls Tryd.prog 88 #[W n, .int .i64 s] w fun e w' => e = .returned (.tuple #[W (n / 2 ^ cnt6 s), .bool (decide (n % 2 ^ cnt6 s ≠ 0))]) ∧ Below w.heap.size w w' := by
  have hs6 : cnt6 s ≤ 384 := by unfold cnt6; omega
  obtain ⟨x, hx⟩ : ∃ x, x = n / 2 ^ cnt6 s := ⟨_, rfl⟩
  have hxQ : x < Q := by rw [hx]; exact Nat.lt_of_le_of_lt (Nat.div_le_self _ _) hn
  unfold W
  have hat := cw_at 6
  have hz := cw6z
  have hf := cw6f
  have hW : ∀ x, W x = .agg (cw 6 x) := fun _ => rfl
  have heq := eq6
  have hg := eqg6
  have hdQ : x * 2 ^ cnt6 s % Q < Q := Nat.mod_lt _ Q_pos
  rw [← hx]
  have HX := box hx
  clear hx
  go_enter Tryd.func88, Tryd.ntmps88
  go_wp2_with (first | (go_at_call 60; refine (wcount_any _ _).mono ?_; rintro e w' ⟨rfl, rfl⟩))
  refine (wdown_any n (cnt6 s) hn hs6 _).mono ?_
  rintro e w1 ⟨rfl, hb1⟩
  rw [← HX.out]
  unfold W
  have hr0 : w1.heap[w.heap.size]? = some (.cells (cw 6 n) 42) := heap_of hb1 _ _ _ (by rw [heap_below _ _ _ (by simp)]; exact heap_alloc_last w _)
  have hr1 : w1.heap[w.heap.size + 1]? = some (.cells (cw 6 0) 42) := heap_of hb1 _ _ _ (by rw [← size_al]; exact heap_alloc_last _ _)
  obtain ⟨w2, hw2⟩ : ∃ w2, w2 = w1.setRow (w.heap.size + 1) (cw 6 x) := ⟨_, rfl⟩
  have hst : (storeCells ⟨w.heap.size + 1, 0, none⟩ (cw 6 x).toList 0).run Tryd.prog w1 = .ok () w2 := by rw [hw2]; exact st_any w1 _ x 0 hr1
  have hq0 : w2.heap[w.heap.size]? = some (.cells (cw 6 n) 42) := by rw [hw2, setRow_other (by omega)]; exact hr0
  have hq1 : w2.heap[w.heap.size + 1]? = some (.cells (cw 6 x) 42) := by rw [hw2]; exact setRow_row hr1
  have hbw : Below w.heap.size w w2 := by
    rw [hw2]
    exact Below.setRow ((((Below.refl _ _).alloc (Nat.le_refl _) _).alloc (by simp) _).trans (hb1.mono (by simp <;> omega))) (by omega)
  have hs2 : w.heap.size + 1 < w2.heap.size := (Array.getElem?_eq_some_iff.1 hq1).1
  clear hb1 hr0 hr1 hw2
  obtain ⟨F, hF1, hF2⟩ := below_fun w2
  have hFn : ∀ u o, o < 6 → (F u).cell? ⟨w.heap.size, o, none⟩ = some (.int .u64 (wd n o : Nat)) := fun u => row_cell (heap_of (hF1 u) _ _ _ hq0)
  have hFx : ∀ u o, o < 6 → (F u).cell? ⟨w.heap.size + 1, o, none⟩ = some (.int .u64 (wd x o : Nat)) := fun u => row_cell (heap_of (hF1 u) _ _ _ hq1)
  have hFs : ∀ u, (storeCells ⟨w.heap.size + 1, 0, none⟩ (cw 6 x).toList 0).run Tryd.prog (F u) = .ok () (F u) := fun u => st_same _ _ _ (heap_of (hF1 u) _ _ _ hq1)
  go_wp2
  refine wp_region_below F hF2 (by kernel_rfl) (by kernel_rfl) ?_
  repeat quiet_step ((go_at_call 61; exact quietF hF1 hF2 (wup_any x (cnt6 s) hxQ hs6 _)))
  refine wpQuiet_nil ?_
  rintro _ ⟨u, rfl⟩
  go_wp2
  exact bodyPost_ret (v := .tuple #[.agg (cw 6 x), .bool (!decide (x * 2 ^ cnt6 s % Q = n))]) (by simp [results, Tryd.results88, go_sem, hFx, hf]) rfl ⟨by rw [HX.out, right_lost n _ hn], hbw.trans ((hF1 u).mono (by omega))⟩
theorem wleft_is (n v : Nat) (s : Int) (o : Bool) (hn : n < Q) (hv : n * 2 ^ cnt6 s % Q = v) (ho : decide (Q ≤ n * 2 ^ cnt6 s) = o) (w : World) :
    Calls Tryd.prog 35 #[.agg (cw 6 n), .int .i64 s] w fun e w' => e = .returned (.tuple #[.agg (cw 6 v), .bool o]) ∧ Below w.heap.size w w' := by
  subst hv; subst ho; exact wleft_any n s hn w
theorem wright_is (n v : Nat) (s : Int) (o : Bool) (hn : n < Q) (hv : n / 2 ^ cnt6 s = v) (ho : decide (n % 2 ^ cnt6 s ≠ 0) = o) (w : World) :
    Calls Tryd.prog 88 #[.agg (cw 6 n), .int .i64 s] w fun e w' => e = .returned (.tuple #[.agg (cw 6 v), .bool o]) ∧ Below w.heap.size w w' := by
  subst hv; subst ho; exact wright_any n s hn w
theorem len_is (x l : Nat) (hx : x < 18446744073709551616) (hl : blen x = l) (w : World) :
    Calls Tryd.prog 73 #[.int .u64 x] w fun e w' => e = .returned (.int .i64 (l : Nat)) ∧ w' = w := by
  subst hl; rw [← bitLen_blen x hx]; exact len_any x hx w

theorem wlen_any (n : Nat) (hn : n < Q) (w : World) :
    Calls Tryd.prog 49 #[W n] w fun e w' => e = .returned (.int .i64 (blen n : Nat)) ∧ Below w.heap.size w w' := by
  unfold W
  have hat := cw_at 6
  have hf := cw6f
  have hx := ix6
  go_enter Tryd.func49, Tryd.ntmps49
  go_wp2
  go_loop [3, 7] (fun r i => ∃ (k l : Nat), k ≤ 6 ∧ i = .int .i64 k ∧ r = .int .i64 l ∧ Box (l = blen (n % 2 ^ (64 * k)))) (fun _ i => 6 - (intOf i).toNat)
  case atStart => exact ⟨0, 0, by omega, rfl, rfl, box (by rw [Nat.mul_zero, Nat.pow_zero, Nat.mod_one, blen_zero])⟩
  case round =>
    obtain ⟨k, l, hk, rfl, rfl, HE⟩ := hrel
    by_cases hlt : k < 6
    · have ST := box (blen_step n k)
      obtain ⟨x, hxe⟩ : ∃ x, wd n k = x := ⟨_, rfl⟩
      have hx2 : x < 18446744073709551616 := by rw [← hxe]; exact wd_lt n k
      have hbl : blen x ≤ 64 := blen_le_of x 64 (by rw [← two64]; exact hx2)
      obtain ⟨b, hb⟩ : ∃ b, blen x = b := ⟨_, rfl⟩
      rw [hb] at hbl
      have HB := box hb
      have HX := box hxe
      clear hb
      by_cases h0 : x = 0
      · subst h0
        go_wp2
        go_round
        case rel => exact ⟨k + 1, l, by omega, by go_num, rfl, box (by rw [ST.out, HX.out, if_pos rfl]; exact HE.out)⟩
        case measure => simp [intOf]; omega
      · go_wp2_with (go_at_call 73; refine (len_is x b hx2 HB.out _).mono ?_; rintro e w' ⟨rfl, rfl⟩)
        go_round
        case rel => exact ⟨k + 1, 64 * k + b, by omega, by go_num, by go_num, box (by rw [ST.out, HX.out, if_neg h0, HB.out])⟩
        case measure => simp [intOf]; omega
    · go_wp2
      go_ret
      exact ⟨ret_int (by rw [HE.out, wlow n k hn (by omega)]), (Below.refl _ _).alloc (Nat.le_refl _) _⟩

theorem wfield_any (n low c : Nat) (hl : low < 384) (hc : low % 64 + c ≤ 64) (w : World) :
    Calls Tryd.prog 69 #[W n, .int .i64 low, .int .i64 c] w fun e w' => e = .returned (.int .u64 (n / 2 ^ low % 2 ^ c : Nat)) ∧ Below w.heap.size w w' := by
  unfold W
  have hat := cw_at 6
  obtain ⟨q, hq⟩ : ∃ q, q = low / 64 := ⟨_, rfl⟩
  obtain ⟨r, hr⟩ : ∃ r, r = low % 64 := ⟨_, rfl⟩
  have hq1 : (low : Int) / 64 = (q : Int) := by omega
  have hq2 : q < 6 := by omega
  have HR : Box ((low : Int) % 64 = (r : Int)) := box (by omega)
  have hr2 : r < 64 := by omega
  have hrc : r + c ≤ 64 := by omega
  have HF := box (field_num n q r c low (by omega) hrc)
  clear hq hr hc
  go_enter Tryd.func69, Tryd.ntmps69
  go_wp2_with (go_at_call 89; refine (field_any (wd n q) _ _ (wd_lt _ _) _).mono ?_; rintro e w' ⟨rfl, rfl⟩)
  go_ret
  refine ⟨ret_int ?_, (Below.refl _ _).alloc (Nat.le_refl _) _⟩
  rw [← HF.out]
  have e1 : cnt ((low : Int) % 64) = r := by rw [HR.out]; exact cnt_small r hr2
  have e2 : cnt (c : Int) = c := by unfold cnt; omega
  rw [e1, e2]
  simp
theorem fz {w : World} {b k : Nat} {c : Array Value} {t : TypeId} (h : w.heap[b]? = some (.cells c t)) : w.frozen? ⟨b, k, none⟩ = false := by simp [World.frozen?, h]
theorem setCell_row {w : World} {b k : Nat} {c : Array Value} {t : TypeId} {v : Value} (h : w.heap[b]? = some (.cells c t)) : (w.setCell ⟨b, k, none⟩ v).heap[b]? = some (.cells (c.setIfInBounds k v) t) := by
  simp [World.setCell, Array.getElem?_modify, h]
theorem setCell_other {w : World} {b b' k : Nat} {v : Value} (h : b ≠ b') : (w.setCell ⟨b, k, none⟩ v).heap[b']? = w.heap[b']? := by
  simp [World.setCell, Array.getElem?_modify, h]
theorem wadd_is (n m v : Nat) (o : Bool) (hn : n < Q) (hm : m < Q) (hv : (n + m) % Q = v) (ho : decide (Q ≤ n + m) = o) (w : World) :
    Calls Tryd.prog 40 #[.agg (cw 6 n), .agg (cw 6 m)] w fun e w' => e = .returned (.tuple #[.agg (cw 6 v), .bool o]) ∧ Below w.heap.size w w' := by
  subst hv; subst ho; exact wadd_any n m hn hm w
theorem wsub_is (n m v : Nat) (o : Bool) (hn : n < Q) (hm : m < Q) (hv : (n + Q - m) % Q = v) (ho : decide (n < m) = o) (w : World) :
    Calls Tryd.prog 41 #[.agg (cw 6 n), .agg (cw 6 m)] w fun e w' => e = .returned (.tuple #[.agg (cw 6 v), .bool o]) ∧ Below w.heap.size w w' := by
  subst hv; subst ho; exact wsub_any n m hn hm w
theorem Q_big : 1000000 < Q := by
  obtain ⟨L, hL, hQ⟩ := Q_of
  rw [hQ]
  have : 2 ^ 20 ≤ 2 ^ (64 * L) := Nat.pow_le_pow_right (by decide) (by omega)
  have e : (2 : Nat) ^ 20 = 1048576 := by decide
  omega
theorem wof_al (n : Nat) (hn : n < 18446744073709551616) (w : World) : Calls Tryd.prog 10 #[.int .u64 n] w fun e w' => e = .returned (.agg (cw 6 n)) ∧ Below w.heap.size w w' := wof_any n hn w
def bitsV (b : Nat × Nat) : Value := .agg #[.int .u64 (b.1 : Nat), .int .u64 (b.2 : Nat)]

theorem set0 (x : Nat) (hx : x < 18446744073709551616) : (cw 6 0).setIfInBounds 0 (.int .u64 (x : Nat)) = cw 6 x := by
  rw [cw_set 6 0 0 x (by omega) hx, setw_low 0 0 x (by decide)]; simp
theorem set1 (x y : Nat) (hx : x < 18446744073709551616) (hy : y < 18446744073709551616) : (cw 6 x).setIfInBounds 1 (.int .u64 (y : Nat)) = cw 6 (x + 18446744073709551616 * y) := by
  rw [cw_set 6 x 1 y (by omega) hy, setw_low x 1 y (by rw [show 2 ^ (64 * 1) = 18446744073709551616 by decide]; exact hx)]
theorem bits_ltQ (x y : Nat) (hx : x < 18446744073709551616) (hy : y < 18446744073709551616) : x + 18446744073709551616 * y < Q := by
  obtain ⟨L, hL, hQ⟩ := Q_of
  rw [hQ]
  have h := push_lt x 1 y (by rw [show 2 ^ (64 * 1) = 18446744073709551616 by decide]; exact hx) hy
  have h2 : 2 ^ (64 * (1 + 1)) ≤ 2 ^ (64 * L) := Nat.pow_le_pow_right (by decide) (by omega)
  rw [show 2 ^ (64 * 1) = 18446744073709551616 by decide] at h
  omega

theorem wofbits_any (hi lo : Nat) (hh : hi < 18446744073709551616) (hl : lo < 18446744073709551616) (w : World) :
    Calls Tryd.prog 57 #[.agg #[.int .u64 hi, .int .u64 lo]] w fun e w' => e = .returned (.agg (cw 6 (lo + 18446744073709551616 * hi))) ∧ Below w.heap.size w w' := by
  have hat := cw_at 6
  have hz := cw6z
  have hf := cw6f
  have hs0 := st0
  obtain ⟨v, hv⟩ : ∃ v, v = lo + 18446744073709551616 * hi := ⟨_, rfl⟩
  have h1 := set0 lo hl
  have h2 := set1 lo hi hl hh
  rw [← hv] at h2 ⊢
  have h3 : (cw 6 0).toList.set 0 (.int .u64 lo) = (cw 6 lo).toList := by rw [← h1]; simp
  have h4 : (cw 6 lo).toList.set 1 (.int .u64 hi) = (cw 6 v).toList := by rw [← h2]; simp
  clear hv
  go_enter Tryd.func57, Tryd.ntmps57
  go_wp2
  exact bodyPost_ret (v := .agg (cw 6 v)) (by simp [results, Tryd.results57, go_sem, hat, hf]) rfl ⟨rfl, ((Below.refl _ _).alloc (Nat.le_refl _) _).alloc (by simp <;> omega) _⟩

def cmpv (n m : Nat) : Int := if n = m then 0 else if n < m then -1 else 1

theorem wcmp_any (n m : Nat) (hn : n < Q) (hm : m < Q) (w : World) :
    Calls Tryd.prog 13 #[.agg (cw 6 n), .agg (cw 6 m)] w fun e w' => e = .returned (.int .i64 (cmpv n m)) ∧ Below w.heap.size w w' := by
  have hat := cw_at 6
  have hz := cw6z
  have hf := cw6f
  have hs0 := st0
  have heq := eq6
  have hg := eqg6
  by_cases h : n = m
  · subst h
    go_enter Tryd.func13, Tryd.ntmps13
    go_wp2
    go_ret
    exact ⟨ret_int (by unfold cmpv; simp), ((Below.refl _ _).alloc (Nat.le_refl _) _).alloc (by simp <;> omega) _⟩
  · obtain ⟨d, hd⟩ : ∃ d, (n + Q - m) % Q = d := ⟨_, rfl⟩
    have HD := box hd
    have hne : decide (n = m) = false := decide_eq_false h
    clear hd
    by_cases h2 : n < m
    · have h3 : decide (n < m) = true := decide_eq_true h2
      have H3 := box h3
      clear h3
      go_enter Tryd.func13, Tryd.ntmps13
      go_wp2_with fail
      refine (wsub_is n m d true hn hm HD.out H3.out _).mono ?_
      rintro e w1 ⟨rfl, hb⟩
      go_wp2
      go_ret
      exact ⟨ret_int (by unfold cmpv; rw [if_neg h, if_pos h2]), ((((Below.refl _ _).alloc (Nat.le_refl _) _).alloc (by simp) _).trans (hb.mono (by simp <;> omega))).alloc (by have := hb.size; simp at this; omega) _⟩
    · have h3 : decide (n < m) = false := decide_eq_false h2
      have H3 := box h3
      clear h3
      go_enter Tryd.func13, Tryd.ntmps13
      go_wp2_with fail
      refine (wsub_is n m d false hn hm HD.out H3.out _).mono ?_
      rintro e w1 ⟨rfl, hb⟩
      go_wp2
      go_ret
      exact ⟨ret_int (by unfold cmpv; rw [if_neg h, if_neg h2]), ((((Below.refl _ _).alloc (Nat.le_refl _) _).alloc (by simp) _).trans (hb.mono (by simp <;> omega))).alloc (by have := hb.size; simp at this; omega) _⟩

theorem wofbits_is (hi lo v : Nat) (hh : hi < 18446744073709551616) (hl : lo < 18446744073709551616) (hv : lo + 18446744073709551616 * hi = v) (w : World) :
    Calls Tryd.prog 57 #[.agg #[.int .u64 hi, .int .u64 lo]] w fun e w' => e = .returned (.agg (cw 6 v)) ∧ Below w.heap.size w w' := by
  subst hv; exact wofbits_any hi lo hh hl w

theorem wtobits_yes (n : Nat) (hn : n < Q) (hv : wd n 0 + 18446744073709551616 * wd n 1 = n) (w : World) :
    Calls Tryd.prog 55 #[.agg (cw 6 n)] w fun e w' => e = .returned (.tuple #[.agg #[.int .u64 (wd n 1 : Nat), .int .u64 (wd n 0 : Nat)], .bool true]) ∧ Below w.heap.size w w' := by
  have hat := cw_at 6
  have hf := cw6f
  have heq := eq6
  have hg := eqg6
  have HV := box hv
  clear hv
  obtain ⟨W, hW⟩ : ∃ W, W = (w.alloc (.cells (cw 6 n) 42)).alloc (.cells #[.int .u64 (wd n 1 : Nat), .int .u64 (wd n 0 : Nat)] 27) := ⟨_, rfl⟩
  have r0 : W.heap[w.heap.size]? = some (.cells (cw 6 n) 42) := by rw [hW, heap_below _ _ _ (by simp only [size_al]; omega)]; exact heap_alloc_last _ _
  have r1 : W.heap[w.heap.size + 1]? = some (.cells #[.int .u64 (wd n 1 : Nat), .int .u64 (wd n 0 : Nat)] 27) := by
    rw [hW]
    have := heap_alloc_last (w.alloc (.cells (cw 6 n) 42)) (.cells #[.int .u64 (wd n 1 : Nat), .int .u64 (wd n 0 : Nat)] 27)
    simpa only [size_al] using this
  have bW : Below w.heap.size w W := by rw [hW]; exact ((Below.refl _ _).alloc (Nat.le_refl _) _).alloc (by simp only [size_al]; omega) _
  obtain ⟨F, hF1, hF2⟩ := below_fun W
  have hFn : ∀ u o, o < 6 → (F u).cell? ⟨w.heap.size, o, none⟩ = some (.int .u64 (wd n o : Nat)) := fun u => row_cell (heap_of (hF1 u) _ _ _ r0)
  have hF3 : ∀ u, (F u).cell? ⟨w.heap.size + 1, 0, none⟩ = some (.int .u64 (wd n 1 : Nat)) := fun u => by rw [cell_of_row _ _ _ _ _ _ (heap_of (hF1 u) _ _ _ r1)]; rfl
  have hF4 : ∀ u, (F u).cell? ⟨w.heap.size + 1, 1, none⟩ = some (.int .u64 (wd n 0 : Nat)) := fun u => by rw [cell_of_row _ _ _ _ _ _ (heap_of (hF1 u) _ _ _ r1)]; rfl
  go_enter Tryd.func55, Tryd.ntmps55
  go_wp2
  rw [← hW]
  clear hW
  refine wp_region_below F hF2 (by kernel_rfl) (by kernel_rfl) ?_
  repeat quiet_step ((go_at_call 57; exact quietF hF1 hF2 (wofbits_is (wd n 1) (wd n 0) n (wd_lt _ _) (wd_lt _ _) HV.out _)))
  refine wpQuiet_nil ?_
  rintro _ ⟨u, rfl⟩
  have hz3 := hF3 u
  have hz4 := hF4 u
  have hz5 : ∀ o, (F u).frozen? ⟨w.heap.size + 1, o, none⟩ = false := fun o => fz (heap_of (hF1 u) _ _ _ r1)
  go_wp2
  exact bodyPost_ret (v := .tuple #[.agg #[.int .u64 (wd n 1 : Nat), .int .u64 (wd n 0 : Nat)], .bool true]) (by simp [results, Tryd.results55, go_sem, hz3, hz4]) rfl ⟨rfl, ((bW.trans ((hF1 u).mono bW.size)).setCell (by show w.heap.size ≤ w.heap.size + 1; omega) _).setCell (by show w.heap.size ≤ w.heap.size + 1; omega) _⟩
theorem wtobits_no (n : Nat) (hn : n < Q) (hv : ¬ wd n 0 + 18446744073709551616 * wd n 1 = n) (w : World) :
    Calls Tryd.prog 55 #[.agg (cw 6 n)] w fun e w' => e = .returned (.tuple #[.agg #[.int .u64 0, .int .u64 0], .bool false]) ∧ Below w.heap.size w w' := by
  have hat := cw_at 6
  have hf := cw6f
  have heq := eq6
  have hg := eqg6
  obtain ⟨v, hx⟩ : ∃ v, wd n 0 + 18446744073709551616 * wd n 1 = v := ⟨_, rfl⟩
  rw [hx] at hv
  have hvQ : v < Q := by rw [← hx]; exact bits_ltQ _ _ (wd_lt _ _) (wd_lt _ _)
  have HV := box hx
  clear hx
  obtain ⟨W, hW⟩ : ∃ W, W = (w.alloc (.cells (cw 6 n) 42)).alloc (.cells #[.int .u64 (wd n 1 : Nat), .int .u64 (wd n 0 : Nat)] 27) := ⟨_, rfl⟩
  have r0 : W.heap[w.heap.size]? = some (.cells (cw 6 n) 42) := by rw [hW, heap_below _ _ _ (by simp only [size_al]; omega)]; exact heap_alloc_last _ _
  have r1 : W.heap[w.heap.size + 1]? = some (.cells #[.int .u64 (wd n 1 : Nat), .int .u64 (wd n 0 : Nat)] 27) := by
    rw [hW]
    have := heap_alloc_last (w.alloc (.cells (cw 6 n) 42)) (.cells #[.int .u64 (wd n 1 : Nat), .int .u64 (wd n 0 : Nat)] 27)
    simpa only [size_al] using this
  have bW : Below w.heap.size w W := by rw [hW]; exact ((Below.refl _ _).alloc (Nat.le_refl _) _).alloc (by simp only [size_al]; omega) _
  obtain ⟨F, hF1, hF2⟩ := below_fun W
  have hFn : ∀ u o, o < 6 → (F u).cell? ⟨w.heap.size, o, none⟩ = some (.int .u64 (wd n o : Nat)) := fun u => row_cell (heap_of (hF1 u) _ _ _ r0)
  have hF3 : ∀ u, (F u).cell? ⟨w.heap.size + 1, 0, none⟩ = some (.int .u64 (wd n 1 : Nat)) := fun u => by rw [cell_of_row _ _ _ _ _ _ (heap_of (hF1 u) _ _ _ r1)]; rfl
  have hF4 : ∀ u, (F u).cell? ⟨w.heap.size + 1, 1, none⟩ = some (.int .u64 (wd n 0 : Nat)) := fun u => by rw [cell_of_row _ _ _ _ _ _ (heap_of (hF1 u) _ _ _ r1)]; rfl
  go_enter Tryd.func55, Tryd.ntmps55
  go_wp2
  rw [← hW]
  clear hW
  refine wp_region_below F hF2 (by kernel_rfl) (by kernel_rfl) ?_
  repeat quiet_step ((go_at_call 57; exact quietF hF1 hF2 (wofbits_is (wd n 1) (wd n 0) v (wd_lt _ _) (wd_lt _ _) HV.out _)))
  refine wpQuiet_nil ?_
  rintro _ ⟨u, rfl⟩
  have hz3 := hF3 u
  have hz4 := hF4 u
  have hz5 : ∀ o, (F u).frozen? ⟨w.heap.size + 1, o, none⟩ = false := fun o => fz (heap_of (hF1 u) _ _ _ r1)
  go_wp2
  exact bodyPost_ret (v := .tuple #[.agg #[.int .u64 0, .int .u64 0], .bool false]) (by simp [results, Tryd.results55, go_sem, hz3, hz4]) rfl ⟨rfl, ((bW.trans ((hF1 u).mono bW.size)).setCell (by show w.heap.size ≤ w.heap.size + 1; omega) _).setCell (by show w.heap.size ≤ w.heap.size + 1; omega) _⟩

theorem wcmp_is (n m : Nat) (c : Int) (hn : n < Q) (hm : m < Q) (hc : cmpv n m = c) (w : World) :
    Calls Tryd.prog 13 #[.agg (cw 6 n), .agg (cw 6 m)] w fun e w' => e = .returned (.int .i64 c) ∧ Below w.heap.size w w' := by
  subst hc; exact wcmp_any n m hn hm w
theorem wand_any (n m : Nat) (hn : n < Q) (w : World) :
    Calls Tryd.prog 86 #[.agg (cw 6 n), .agg (cw 6 m)] w fun e w' => e = .returned (.agg (cw 6 (n &&& m))) ∧ Below w.heap.size w w' := by
  obtain ⟨v, hv⟩ : ∃ v, n &&& m = v := ⟨_, rfl⟩
  have HV := box hv
  rw [hv]
  clear hv
  have hat := cw_at 6
  have hz := cw6z
  have hf := cw6f
  have hx := ix6
  have hs0 := st0
  go_enter Tryd.func86, Tryd.ntmps86
  go_wp2
  go_loopw [8] (fun i wr => ∃ (k X : Nat), k ≤ 6 ∧ i = .int .i64 k ∧ wr = ((w.alloc (.cells (cw 6 X) 42)).alloc (.cells (cw 6 m) 42)).alloc (.cells (cw 6 0) 42) ∧ Box (Part X n k fun j => wd n j &&& wd m j)) (fun i _ => 6 - (intOf i).toNat)
  case atStart => exact ⟨0, n, by omega, rfl, rfl, box (part_start n _ hn)⟩
  case round =>
    obtain ⟨k, X, hk, rfl, rfl, HE⟩ := hrel
    by_cases hlt : k < 6
    · have hw := part_wd HE.out hlt
      have ho := bits_and_u64_nat (wd n k) (wd m k) (wd_lt _ _) (wd_lt _ _)
      have hb : wd n k &&& wd m k < 18446744073709551616 := Nat.lt_of_le_of_lt Nat.and_le_left (wd_lt n k)
      go_wp2
      go_roundw
      case rel =>
        exact ⟨k + 1, _, by omega, by go_num, by rw [cw_seti 6 X k _ _ hlt hb rfl], box (part_step HE.out hlt _ hb rfl)⟩
      case measure => simp [intOf]; omega
    · go_wp2
      have e := part_end HE.out (by omega) (n &&& m) (and_ltQ n m hn) (fun j hj => wd_and n m j)
      rw [HV.out] at e
      subst e
      exact bodyPost_ret (v := .agg (cw 6 X)) (by simp [results, Tryd.results86, go_sem, hat, hf]) rfl ⟨rfl, (((Below.refl _ _).alloc (Nat.le_refl _) _).alloc (by simp <;> omega) _).alloc (by simp <;> omega) _⟩

theorem mask_is (n : Int) (v : Nat) (hv : 2 ^ cnt n - 1 = v) (w : World) :
    Calls Tryd.prog 94 #[.int .i64 n] w fun e w' => e = .returned (.int .u64 (v : Nat)) ∧ w' = w := by
  subst hv; exact mask_any n w

set_option maxHeartbeats 1000000 in
theorem wmask_is (s : Int) (v : Nat) (hv : 2 ^ cnt6 s - 1 = v) (w : World) :
    Calls Tryd.prog 87 #[.int .i64 s] w fun e w' => e = .returned (.agg (cw 6 v)) ∧ Below w.heap.size w w' := by
  obtain ⟨c, hc⟩ : ∃ c, c = cnt6 s := ⟨_, rfl⟩
  have hc6 : c ≤ 384 := by rw [hc]; unfold cnt6; omega
  have hci : (c : Int) ≤ 384 := by omega
  rw [← hc] at hv
  have HV := box hv
  have HC := box hc
  clear hv hc
  have hat := cw_at 6
  have hz := cw6z
  have hf := cw6f
  have hs1 := st1
  go_enter Tryd.func87, Tryd.ntmps87
  go_wp2_with fail
  refine (wcount_any _ _).mono ?_
  rw [← HC.out]
  rintro e w' ⟨rfl, rfl⟩
  go_wp2
  go_loopw [7] (fun i wr => ∃ (k X : Nat), k ≤ 6 ∧ i = .int .i64 k ∧ wr = (w.alloc (.cells (cw 6 0) 42)).alloc (.cells (cw 6 X) 42) ∧ Box (Part X 0 k fun j => 2 ^ min (c - 64 * j) 64 - 1)) (fun i _ => 6 - (intOf i).toNat)
  case atStart => exact ⟨0, 0, by omega, rfl, rfl, box (part_start 0 _ Q_pos)⟩
  case round =>
    obtain ⟨k, X, hk, rfl, rfl, HE⟩ := hrel
    by_cases hlt : k < 6
    · obtain ⟨x, hx⟩ : ∃ x, 2 ^ min (c - 64 * k) 64 - 1 = x := ⟨_, rfl⟩
      have bx : x < 18446744073709551616 := by rw [← hx]; exact mask_lt64 _ (by omega)
      have hcn : cnt ((c : Int) - (k : Int) * 64) = min (c - 64 * k) 64 := by unfold cnt; omega
      have HX : Box (2 ^ cnt ((c : Int) - (k : Int) * 64) - 1 = x) := box (by rw [hcn, hx])
      have PS := box (part_step HE.out hlt x bx hx)
      clear hx hcn
      go_wp2_with fail
      refine (mask_is _ x HX.out _).mono ?_
      rintro e w2 ⟨rfl, rfl⟩
      go_wp2
      go_roundw
      case rel => exact ⟨k + 1, _, by omega, by go_num, by rw [cw_seti 6 X k x _ hlt bx rfl], PS⟩
      case measure => simp [intOf]; omega
    · go_wp2
      have e := part_end HE.out (by omega) (2 ^ c - 1) (mask_ltQ c hc6) (fun j hj => mask_wd c j _ rfl)
      rw [HV.out] at e
      subst e
      exact bodyPost_ret (v := .agg (cw 6 X)) (by simp [results, Tryd.results87, go_sem, hat, hf]) rfl ⟨rfl, ((Below.refl _ _).alloc (Nat.le_refl _) _).alloc (by simp <;> omega) _⟩

end Go.Proofs.YtpdehipeakcaiaaDoor
namespace Go.Proofs.YtpdehipeakcaiaaDoor
set_option maxRecDepth 100000
set_option maxHeartbeats 40000000
set_option maxRecDepth 100000
open WMath
open Go.ChangeShapes Go.WideShapes Go.ChangeAt Go.RowKit
theorem nat_u64 {x : Int} (h : (Lit.int .u64 x).wf = true) : ∃ n : Nat, n < 18446744073709551616 ∧ x = (n : Int) := by
  have hb := bounds_u64 h
  obtain ⟨n, rfl⟩ := Int.eq_ofNat_of_zero_le hb.1
  exact ⟨n, by omega, rfl⟩
theorem post_plain {H : Type} {enc : TypeId × Value → H} {P : Program} {f : Func} {s : ChangeSpec} {apart fresh handsOn again : Bool} {W W' : World} {args : Array Value} {v : Value} {ds gs : List (DataW H)}
    (hW : DataW.Whole enc P f.params.toList s.vars apart W args.toList ds gs [])
    (hres : ∀ (b : Nat) (sp : Nat → Bool) (hd : Bool), DataW.TrodAll enc P W' b sp hd f.resultTypes.toList (v.resultList f.resultTypes.size) (s.fn H (ds ++ gs)).results [])
    (hargs : ∀ sp : Nat → Bool, DataW.TrodAll enc P W' 0 sp true f.params.toList args.toList (s.fn H (ds ++ gs)).args [])
    (hvars : ∀ sp : Nat → Bool, DataW.TrodVars enc P W' sp s.vars (s.fn H (ds ++ gs)).vars [])
    (hk : Below W.heap.size W W')
    (hok : ∀ (j : Nat) (t : TypeId) (r : Value), f.resultTypes[j]? = some t → (v.resultList f.resultTypes.size)[j]? = some r → Value.okWide P W' .any 0 t r) :
    s.post enc P f apart fresh handsOn again W args v W' := by
  refine ⟨ds, gs, [], [], [], [], hW, hres _ _ _, hargs _, hvars _, hk.frame _, fun _ => ⟨hok, _, _, [], ⟨[], [], trodAll_append (hargs _) (hres _ _ _), hvars _, rfl, ?_, ?_⟩, ?_⟩⟩
  · intro _ _ hp
    cases hp
  · intro _
    exact List.Pairwise.nil
  · intro _ hp
    cases hp
end Go.Proofs.YtpdehipeakcaiaaDoor
namespace Go.Proofs.YtpdehipeakcaiaaDoor
set_option maxRecDepth 100000
set_option maxHeartbeats 40000000
set_option maxRecDepth 100000
open Go.RowKit WMath
theorem wor_is (n m v : Nat) (hn : n < Q) (hm : m < Q) (hv : n ||| m = v) (w : World) :
    Calls Tryd.prog 56 #[.agg (cw 6 n), .agg (cw 6 m)] w fun e w' => e = .returned (.agg (cw 6 v)) ∧ Below w.heap.size w w' := by
  subst hv; exact wor_any n m hn hm w
theorem wlen_is (n l : Nat) (hn : n < Q) (hl : blen n = l) (w : World) :
    Calls Tryd.prog 49 #[.agg (cw 6 n)] w fun e w' => e = .returned (.int .i64 (l : Nat)) ∧ Below w.heap.size w w' := by
  subst hl; exact wlen_any n hn w

theorem rows_two {w w1 : World} {n : Nat} (hb : Below ((w.alloc (.cells (cw 6 n) 42)).alloc (.cells (cw 6 0) 42)).heap.size ((w.alloc (.cells (cw 6 n) 42)).alloc (.cells (cw 6 0) 42)) w1) :
    w1.heap[w.heap.size]? = some (.cells (cw 6 n) 42) ∧ w1.heap[w.heap.size + 1]? = some (.cells (cw 6 0) 42) ∧ Below w.heap.size w w1 ∧ w.heap.size + 1 < w1.heap.size := by
  have h1 : w1.heap[w.heap.size + 1]? = some (.cells (cw 6 0) 42) := heap_of hb _ _ _ (by rw [← size_al]; exact heap_alloc_last _ _)
  exact ⟨heap_of hb _ _ _ (by rw [heap_below _ _ _ (by simp only [size_al]; omega)]; exact heap_alloc_last w _), h1,
    (((Below.refl _ _).alloc (Nat.le_refl _) _).alloc (by simp only [size_al]; omega) _).trans (hb.mono (by simp only [size_al]; omega)), (Array.getElem?_eq_some_iff.1 h1).1⟩

def RowsL (w wr : World) (l : List Nat) : Prop := (∀ i x, l[i]? = some x → wr.heap[w.heap.size + i]? = some (.cells (cw 6 x) 42)) ∧ Below w.heap.size w wr
theorem rowsL_nil (w : World) : RowsL w w [] := ⟨fun i x h => by simp at h, Below.refl _ _⟩
theorem rowsL_new {w wr : World} {l : List Nat} (h : RowsL w wr l) (hs : wr.heap.size = w.heap.size + l.length) (x : Nat) : RowsL w (wr.alloc (.cells (cw 6 x) 42)) (l ++ [x]) := by
  refine ⟨fun i y hy => ?_, h.2.alloc (by omega) _⟩
  rw [List.getElem?_append] at hy
  split at hy
  · rw [heap_below _ _ _ (by omega)]; exact h.1 i y hy
  · have e : i = l.length := by
      have := (List.getElem?_eq_some_iff.1 hy).1
      simp at this; omega
    subst e
    simp at hy
    subst hy
    rw [← hs]
    exact heap_alloc_last _ _
theorem rowsL_below {w wr w2 : World} {l : List Nat} (h : RowsL w wr l) (hb : Below wr.heap.size wr w2) : RowsL w w2 l :=
  ⟨fun i x hx => heap_of hb _ _ _ (h.1 i x hx), h.2.trans (hb.mono h.2.size)⟩
theorem rowsL_alloc {w wr : World} {l : List Nat} (h : RowsL w wr l) (o : Obj) : RowsL w (wr.alloc o) l :=
  rowsL_below h ((Below.refl _ _).alloc (Nat.le_refl _) _)
theorem rowsL_drew {w wr : World} {l : List Nat} (h : RowsL w wr l) (d : Nat) : RowsL w (wr.drewN d) l := ⟨h.1, below_drewN h.2 d⟩
theorem rowsL_set {w wr : World} {l l2 : List Nat} (h : RowsL w wr l) (i x b : Nat) (hi : i < l.length) (hb : b = w.heap.size + i) (hl : l2 = l.set i x) : RowsL w (wr.setRow b (cw 6 x)) l2 := by
  subst hb
  subst hl
  refine ⟨fun j y hy => ?_, Below.setRow h.2 (by omega)⟩
  by_cases e : i = j
  · subst e
    rw [List.getElem?_set_self hi] at hy
    cases hy
    exact setRow_row (h.1 i _ (List.getElem?_eq_getElem hi))
  · rw [List.getElem?_set_ne e] at hy
    rw [setRow_other (by omega)]
    exact h.1 j y hy

theorem rows0 {w wr : World} {x : Nat} {l : List Nat} (h : RowsL w wr (x :: l)) : wr.heap[w.heap.size]? = some (.cells (cw 6 x) 42) := h.1 0 _ rfl
theorem rows1 {w wr : World} {x y : Nat} {l : List Nat} (h : RowsL w wr (x :: y :: l)) : wr.heap[w.heap.size + 1]? = some (.cells (cw 6 y) 42) := h.1 1 _ rfl
theorem wrap_i64_is (n : Int) (h1 : -9223372036854775808 ≤ n) (h2 : n ≤ 9223372036854775807) : IntKind.i64.wrap n = n := by
  simp [IntKind.wrap, IntKind.bits, IntKind.signed]; omega

theorem rowsL_size {w wr : World} {l : List Nat} (h : RowsL w wr l) (i x : Nat) (hi : l[i]? = some x) : w.heap.size + i < wr.heap.size :=
  (Array.getElem?_eq_some_iff.1 (h.1 i x hi)).1
def cnt5 (s : Int) : Nat := min s.toNat 385
theorem cnt65 (s : Int) : cnt6 ((cnt5 s : Nat) : Int) = cnt6 s := by unfold cnt6 cnt5; omega

theorem jor1 (x : Nat) : x ||| 1 = x / 2 * 2 + 1 := by
  rcases Nat.mod_two_eq_zero_or_one x with h | h
  · rw [or_one x h]; omega
  · obtain ⟨y, rfl⟩ : ∃ y, x = y + 1 := ⟨x - 1, by omega⟩
    rw [← or_one y (by omega), Nat.or_assoc, Nat.or_self, or_one y (by omega)]
    omega

theorem jand_mask (a c : Nat) : a &&& (2 ^ c - 1) = a % 2 ^ c := Nat.and_two_pow_sub_one_eq_mod a c

theorem mod_pow_zero (a n k : Nat) : a % 2 ^ (n + k) = 0 ↔ a % 2 ^ n = 0 ∧ a / 2 ^ n % 2 ^ k = 0 := by
  rw [Nat.pow_add, Nat.mod_mul]
  have hp := Nat.two_pow_pos n
  constructor
  · intro h
    have h1 : a % 2 ^ n = 0 := by omega
    have h2 : 2 ^ n * (a / 2 ^ n % 2 ^ k) = 0 := by omega
    rcases Nat.mul_eq_zero.1 h2 with h3 | h3
    · omega
    · exact ⟨h1, h3⟩
  · rintro ⟨h1, h2⟩
    rw [h1, h2, Nat.mul_zero]

def halfv (a c : Nat) : Int := if c = 0 ∨ 384 < c then -1 else cmpv (a % 2 ^ c) (2 ^ (c - 1))

theorem halfv_bit (a k : Nat) (hk : k < 384) : halfv a (k + 1) = if a.testBit k then (if a % 2 ^ k = 0 then 0 else 1) else -1 := by
  unfold halfv
  rw [if_neg (by omega), Nat.add_sub_cancel, mod_succ]
  have h := Nat.mod_lt a (Nat.two_pow_pos k)
  unfold cmpv
  cases a.testBit k
  · simp only [Bool.toNat_false, Nat.mul_zero, Nat.add_zero]
    rw [if_neg (by omega), if_pos h]
    rfl
  · simp only [Bool.toNat_true, Nat.mul_one]
    by_cases h0 : a % 2 ^ k = 0
    · simp [h0]
    · rw [if_neg (by omega), if_neg (by omega)]
      simp [h0]

theorem jcount_any (n : Int) (w : World) :
    Calls Tryd.prog 64 #[.int .i64 n] w fun e w' => e = .returned (.int .i64 (cnt5 n : Nat)) ∧ w' = w := by
  go_enter Tryd.func64, Tryd.ntmps64
  go_wp2
  all_goals go_ret
  all_goals
    refine ⟨ret_int ?_, rfl⟩
    unfold cnt5
    omega

theorem jzero_is (n : Nat) (o : Bool) (hn : n < Q) (ho : decide (n = 0) = o) (w : World) :
    Calls Tryd.prog 68 #[.agg (cw 6 n)] w fun e w' => e = .returned (.bool o) ∧ Below w.heap.size w w' := by
  have hat := cw_at 6
  have hz := cw6z
  have hf := cw6f
  have heq := eq6
  have hg := eqg6
  have hQ := Q_pos
  have HO := box ho
  clear ho
  go_enter Tryd.func68, Tryd.ntmps68
  go_wp2
  go_ret
  exact ⟨by rw [HO.out]; rfl, (Below.refl _ _).alloc (Nat.le_refl _) _⟩

theorem wand_is (n m v : Nat) (hn : n < Q) (hv : n &&& m = v) (w : World) :
    Calls Tryd.prog 86 #[.agg (cw 6 n), .agg (cw 6 m)] w fun e w' => e = .returned (.agg (cw 6 v)) ∧ Below w.heap.size w w' := by
  subst hv; exact wand_any n m hn w

theorem jwhole_is (n v : Nat) (s : Int) (hn : n < Q) (hv : n / 2 ^ cnt6 s = v) (w : World) :
    Calls Tryd.prog 66 #[.agg (cw 6 n), .int .i64 s] w fun e w' => e = .returned (.agg (cw 6 v)) ∧ Below w.heap.size w w' := by
  have hat := cw_at 6
  have hz := cw6z
  have hf := cw6f
  have hs0 := st0
  have hcs : ∀ x, ((cw 6 x).size = 6) = True := fun x => eq_true (cw_size 6 x)
  have HV := box hv
  clear hv
  go_enter Tryd.func66, Tryd.ntmps66
  go_wp2_with fail
  refine (wright_is n v s _ hn HV.out rfl _).mono ?_
  rintro e w1 ⟨rfl, hb1⟩
  obtain ⟨r0, r1, b1, s1⟩ := rows_two hb1
  clear hb1
  have q1 : (w1.alloc (.cells (cw 6 v) 42)).heap[w.heap.size + 1]? = some (.cells (cw 6 0) 42) := by rw [heap_below _ _ _ s1]; exact r1
  have hst := st_any (w1.alloc (.cells (cw 6 v) 42)) (w.heap.size + 1) v 0 q1
  have q2 := row_cell (setRow_row (c' := cw 6 v) q1)
  have bz : Below w.heap.size w ((w1.alloc (.cells (cw 6 v) 42)).setRow (w.heap.size + 1) (cw 6 v)) := Below.setRow (b1.alloc b1.size _) (by omega)
  go_wp2
  exact bodyPost_ret (v := .agg (cw 6 v)) (by simp [results, Tryd.results66, go_sem, q2, hf]) rfl ⟨rfl, bz⟩

theorem jrows2 (w : World) (n : Nat) : RowsL w ((w.alloc (.cells (cw 6 n) 42)).alloc (.cells (cw 6 0) 42)) [n, 0] := rowsL_new (rowsL_new (rowsL_nil w) rfl n) (by simp) 0

theorem jleft_is (n v : Nat) (s : Int) (hn : n < Q) (hv : n % 2 ^ cnt6 s = v) (w : World) :
    Calls Tryd.prog 65 #[.agg (cw 6 n), .int .i64 s] w fun e w' => e = .returned (.agg (cw 6 v)) ∧ Below w.heap.size w w' := by
  have hat := cw_at 6
  have hz := cw6z
  have hf := cw6f
  have hs0 := st0
  have hcs : ∀ x, ((cw 6 x).size = 6) = True := fun x => eq_true (cw_size 6 x)
  obtain ⟨m, hm⟩ : ∃ m, 2 ^ cnt6 s - 1 = m := ⟨_, rfl⟩
  have HV : Box (n &&& m = v) := box (by rw [← hm, jand_mask, hv])
  have HM := box hm
  have R := jrows2 w n
  obtain ⟨W0, hW0⟩ : ∃ W0, (w.alloc (.cells (cw 6 n) 42)).alloc (.cells (cw 6 0) 42) = W0 := ⟨_, rfl⟩
  rw [hW0] at R
  have c0 := row_cell (rows0 R)
  clear hv hm
  go_enter Tryd.func65, Tryd.ntmps65
  go_wp2
  clear hW0
  go_region_with (first
    | (go_at_call 87; refine (wmask_is s m HM.out _).mono ?_; rintro e w1 ⟨rfl, hb1⟩; have R1 := rowsL_below (rowsL_drew R _) hb1; have c1 := row_cell (rows0 R1))
    | (go_at_call 86; refine (wand_is n m v hn HV.out _).mono ?_; rintro e w2 ⟨rfl, hb2⟩; have R2 := rowsL_below R1 hb2; have hst := st_any w2 (w.heap.size + 1) v 0 (rows1 R2)))
  all_goals
    have R3 : RowsL w (w2.setRow (w.heap.size + 1) (cw 6 v)) [n, v] := rowsL_set R2 1 v _ (by simp) rfl rfl
    have d := row_cell (rows1 R3)
    go_wp2
    exact bodyPost_ret (v := .agg (cw 6 v)) (by simp [results, Tryd.results65, go_sem, d, hf]) rfl ⟨rfl, R3.2⟩

set_option maxRecDepth 100000 in
theorem jhalf_out (r c : Nat) (hc : c = 0 ∨ 384 < c) (w : World) :
    Calls Tryd.prog 67 #[.agg (cw 6 r), .int .i64 (c : Nat)] w fun e w' => e = .returned (.int .i64 (-1)) ∧ Below w.heap.size w w' := by
  have hat := cw_at 6
  have hz := cw6z
  have hf := cw6f
  have hh : ((c : Int) == 0) = true ∨ (((c : Int) == 0) = false ∧ decide ((384 : Int) < (c : Int)) = true) := by
    simp only [decide_eq_true_eq, beq_iff_eq, beq_eq_false_iff_ne]
    omega
  clear hc
  rcases hh with h0 | ⟨h0, h1⟩
  all_goals
    go_enter Tryd.func67, Tryd.ntmps67
    go_wp2
    go_ret
    exact ⟨rfl, (Below.refl _ _).alloc (Nat.le_refl _) _⟩

set_option maxRecDepth 100000 in
theorem jhalf_in (r k : Nat) (h : Int) (hr : r < Q) (hk : k < 384) (hh : cmpv r (2 ^ k) = h) (w : World) :
    Calls Tryd.prog 67 #[.agg (cw 6 r), .int .i64 ((k + 1 : Nat) : Int)] w fun e w' => e = .returned (.int .i64 h) ∧ Below w.heap.size w w' := by
  have hat := cw_at 6
  have hz := cw6z
  have hf := cw6f
  have hs0 := st0
  have hcs : ∀ x, ((cw 6 x).size = 6) = True := fun x => eq_true (cw_size 6 x)
  obtain ⟨c, hc⟩ : ∃ c : Int, ((k + 1 : Nat) : Int) = c := ⟨_, rfl⟩
  obtain ⟨p, hp⟩ : ∃ p, 2 ^ k = p := ⟨_, rfl⟩
  have d0 : (c == 0) = false := by simp only [beq_eq_false_iff_ne]; omega
  have d1 : decide ((384 : Int) < c) = false := by rw [decide_eq_false_iff_not]; omega
  have n1 : IntKind.i64.wrap (c - 1) = (k : Int) := by rw [wrap_i64_is _ (by omega) (by omega)]; omega
  have pQ : p < Q := by rw [← hp]; exact pow_ltQ k hk
  have q1 : 1 < Q := by have := Q_big; omega
  have HP : Box (1 * 2 ^ cnt6 (k : Int) % Q = p) := box (by rw [show cnt6 (k : Int) = k by unfold cnt6; omega, Nat.one_mul, hp, Nat.mod_eq_of_lt pQ])
  rw [hp] at hh
  have HH := box hh
  rw [hc]
  clear hh hp hc
  go_enter Tryd.func67, Tryd.ntmps67
  go_wp2_with fail
  refine (wof_al 1 (by decide) _).mono ?_
  rintro e w1 ⟨rfl, hb1⟩
  have r1 : w1.heap[w.heap.size]? = some (.cells (cw 6 r) 42) := heap_of hb1 _ _ _ (heap_alloc_last w _)
  have b1 : Below w.heap.size w w1 := ((Below.refl _ _).alloc (Nat.le_refl _) _).trans (hb1.mono (by simp))
  clear hb1
  go_wp2_with fail
  refine (wleft_is 1 p (k : Int) _ q1 HP.out rfl _).mono ?_
  rintro e w2 ⟨rfl, hb2⟩
  have r2 : w2.heap[w.heap.size]? = some (.cells (cw 6 r) 42) := heap_of hb2 _ _ _ r1
  have b2 : Below w.heap.size w w2 := b1.trans (hb2.mono b1.size)
  clear hb2 b1 r1
  have z2 : w.heap.size < w2.heap.size := (Array.getElem?_eq_some_iff.1 r2).1
  have c2 := row_cell (show (w2.alloc (.cells (cw 6 p) 42)).heap[w.heap.size]? = some (.cells (cw 6 r) 42) by rw [heap_below _ _ _ z2]; exact r2)
  go_wp2_with fail
  refine (wcmp_is r p h hr pQ HH.out _).mono ?_
  rintro e w3 ⟨rfl, hb3⟩
  have b3 : Below w.heap.size w w3 := (b2.alloc b2.size _).trans (hb3.mono (by have := b2.size; simp; omega))
  clear hb3
  go_wp2
  go_ret
  exact ⟨rfl, b3⟩

theorem jhalf_is (a c r : Nat) (h : Int) (hr : r < Q) (hc : c ≤ 385) (e : a % 2 ^ cnt6 (c : Int) = r) (hh : halfv a c = h) (w : World) :
    Calls Tryd.prog 67 #[.agg (cw 6 r), .int .i64 (c : Nat)] w fun e w' => e = .returned (.int .i64 h) ∧ Below w.heap.size w w' := by
  by_cases ho : c = 0 ∨ 384 < c
  · have : h = -1 := by rw [← hh]; unfold halfv; rw [if_pos ho]
    subst this
    exact jhalf_out r c ho w
  · obtain ⟨k, rfl⟩ : ∃ k, c = k + 1 := ⟨c - 1, by omega⟩
    refine jhalf_in r k h hr (by omega) ?_ w
    rw [← hh, ← e]
    unfold halfv
    rw [if_neg ho, Nat.add_sub_cancel, show cnt6 ((k + 1 : Nat) : Int) = k + 1 by unfold cnt6; omega]

end Go.Proofs.YtpdehipeakcaiaaDoor
namespace Go.Proofs.YtpdehipeakcaiaaDoor
set_option maxRecDepth 100000
set_option maxHeartbeats 40000000
set_option maxRecDepth 100000
open Go.RowKit WMath
set_option maxHeartbeats 2000000 in
theorem jcut_is (n v : Nat) (s h : Int) (o : Bool) (hn : n < Q) (hv : n / 2 ^ cnt6 s = v) (hh : halfv n (cnt5 s) = h) (ho : decide (n % 2 ^ cnt6 s = 0) = o) (w : World) :
    Calls Tryd.prog 37 #[.agg (cw 6 n), .int .i64 s] w fun e w' => e = .returned (.tuple #[.agg (cw 6 v), .int .i64 h, .bool o]) ∧ Below w.heap.size w w' := by
  have hat := cw_at 6
  have hz := cw6z
  have hf := cw6f
  have hs0 := st0
  have hcs : ∀ x, ((cw 6 x).size = 6) = True := fun x => eq_true (cw_size 6 x)
  obtain ⟨c, hc⟩ : ∃ c, cnt5 s = c := ⟨_, rfl⟩
  have c385 : c ≤ 385 := by rw [← hc]; unfold cnt5; omega
  have h65 : cnt6 (c : Int) = cnt6 s := by rw [← hc]; exact cnt65 s
  obtain ⟨r, hr⟩ : ∃ r, n % 2 ^ cnt6 (c : Int) = r := ⟨_, rfl⟩
  have rQ : r < Q := by rw [← hr]; exact Nat.lt_of_le_of_lt (Nat.mod_le _ _) hn
  rw [← h65] at hv ho
  rw [hr] at ho
  rw [hc] at hh
  have HV := box hv
  have HR := box hr
  have HC := box hc
  have HO := box ho
  have HH := box hh
  have C385 := box c385
  clear hv ho hc hr h65 hh c385
  go_enter Tryd.func37, Tryd.ntmps37
  go_wp2_with fail
  refine (jcount_any s _).mono ?_
  rw [HC.out]
  rintro e w' ⟨rfl, rfl⟩
  go_wp2_with fail
  refine (jleft_is n r (c : Int) hn HR.out _).mono ?_
  rintro e w1 ⟨rfl, hb1⟩
  have R1 : RowsL w w1 [n, 0] := rowsL_below (jrows2 w n) hb1
  clear hb1
  have z1 := rowsL_size R1 1 _ rfl
  have R := rowsL_alloc R1 (.cells (cw 6 r) 42)
  have S : (w1.alloc (.cells (cw 6 r) 42)).heap[w1.heap.size]? = some (.cells (cw 6 r) 42) := heap_alloc_last w1 _
  obtain ⟨W0, hW0⟩ : ∃ W0, w1.alloc (.cells (cw 6 r) 42) = W0 := ⟨_, rfl⟩
  rw [hW0] at R S
  have c0 := row_cell (rows0 R)
  have s0 := row_cell S
  clear R1
  go_wp2
  clear hW0
  go_region_with (first
    | (go_at_call 66; refine (jwhole_is n v (c : Int) hn HV.out _).mono ?_; rintro e w2 ⟨rfl, hb2⟩; have R2 := rowsL_below (rowsL_drew R _) hb2; have S2 := heap_of hb2 _ _ _ S; have s2 := row_cell S2)
    | (go_at_call 67; refine (jhalf_is n c r h rQ C385.out HR.out HH.out _).mono ?_; rintro e w3 ⟨rfl, hb3⟩; have R3 := rowsL_below R2 hb3; have s3 := row_cell (heap_of hb3 _ _ _ S2))
    | (go_at_call 68; refine (jzero_is r o rQ HO.out _).mono ?_; rintro e w4 ⟨rfl, hb4⟩; have R4 := rowsL_below R3 hb4; have hst := st_any w4 (w.heap.size + 1) v 0 (rows1 R4)))
  all_goals
    have R5 : RowsL w (w4.setRow (w.heap.size + 1) (cw 6 v)) [n, v] := rowsL_set R4 1 v _ (by simp) rfl rfl
    have d := row_cell (rows1 R5)
    go_wp2
    exact bodyPost_ret (v := .tuple #[.agg (cw 6 v), .int .i64 h, .bool o]) (by simp [results, Tryd.results37, go_sem, d, hf]) rfl ⟨rfl, R5.2⟩

end Go.Proofs.YtpdehipeakcaiaaDoor
namespace Go.Proofs.YtpdehipeakcaiaaDoor
set_option maxRecDepth 100000
set_option maxHeartbeats 40000000
set_option maxRecDepth 100000
open Go.RowKit WMath
def lg (x : Nat) : ByteArray × Int := if nl x ≤ 16384 then (nbA x, 0) else (⟨#[]⟩, 4)
def SL (B : Nat) (w : World) (p : Option Addr) (L c n : Nat) : Prop := n < 2 ^ (64 * L) ∧ L ≤ c ∧ (0 < L → ∃ b o, p = some ⟨b, o, none⟩ ∧ b < B ∧ ∀ k, k < L → w.cell? ⟨b, o + k, none⟩ = some (.int .u64 (wd n k : Nat)))
theorem SL.mono {B B' : Nat} {w : World} {p : Option Addr} {L c n : Nat} (h : SL B w p L c n) (hB : B ≤ B') : SL B' w p L c n :=
  ⟨h.1, h.2.1, fun hL => by
    obtain ⟨b, o, hp, hlt, hc⟩ := h.2.2 hL
    exact ⟨b, o, hp, Nat.lt_of_lt_of_le hlt hB, hc⟩⟩
theorem SL.below {w w' : World} {p : Option Addr} {L c n B B' : Nat} (h : SL B w p L c n) (hb : Below B' w w') (hB : B ≤ B') : SL B w' p L c n := by
  refine ⟨h.1, h.2.1, fun hL => ?_⟩
  obtain ⟨b, o, hp, hlt, hc⟩ := h.2.2 hL
  refine ⟨b, o, hp, hlt, fun k hk => ?_⟩
  rw [hb.cell (p := ⟨b, o + k, none⟩) (show b < B' by omega)]
  exact hc k hk
theorem cell_size {w : World} {b o : Nat} {v : Value} (h : w.cell? ⟨b, o, none⟩ = some v) : b < w.heap.size := by
  by_cases e : b < w.heap.size
  · exact e
  · exfalso
    have : w.heap[b]? = none := Array.getElem?_eq_none (by omega)
    simp [World.cell?, this] at h
def Only (g : Nat) (w w' : World) : Prop := w'.os = w.os ∧ w'.tape = w.tape ∧ w'.output = w.output ∧ w.heap.size ≤ w'.heap.size ∧ ∀ k, k < w.heap.size → k ≠ g → w'.heap[k]? = w.heap[k]?
theorem Only.refl (g : Nat) (w : World) : Only g w w := ⟨rfl, rfl, rfl, Nat.le_refl _, fun _ _ _ => rfl⟩
theorem Only.trans {g : Nat} {a b c : World} (h : Only g a b) (k : Only g b c) : Only g a c :=
  ⟨k.1.trans h.1, k.2.1.trans h.2.1, k.2.2.1.trans h.2.2.1, Nat.le_trans h.2.2.2.1 k.2.2.2.1, fun i hi hg => (k.2.2.2.2 i (Nat.lt_of_lt_of_le hi h.2.2.2.1) hg).trans (h.2.2.2.2 i hi hg)⟩
theorem Only.size {g : Nat} {a b : World} (h : Only g a b) : a.heap.size ≤ b.heap.size := h.2.2.2.1
theorem Only.setCell {g o : Nat} {a w : World} (h : Only g a w) (u : Value) : Only g a (w.setCell ⟨g, o, none⟩ u) :=
  h.trans ⟨rfl, rfl, rfl, by simp [World.setCell], fun k _ hg => Below.heap_setCell _ _ _ _ hg⟩
theorem Only.drew {g : Nat} {a w : World} (h : Only g a w) : Only g a w.drew := h.trans ⟨rfl, rfl, rfl, Nat.le_refl _, fun _ _ _ => rfl⟩
theorem Only.row {g b : Nat} {w w' : World} {c : Array Value} {t : TypeId} (k : Only g w w') (hb : b ≠ g) (h : w.heap[b]? = some (.cells c t)) : w'.heap[b]? = some (.cells c t) := by
  rw [k.2.2.2.2 b (Array.getElem?_eq_some_iff.1 h).1 hb, h]
theorem SL.only {B g : Nat} {w w' : World} {p : Option Addr} {L c n : Nat} (h : SL B w p L c n) (k : Only g w w') (hB : B ≤ g) : SL B w' p L c n := by
  refine ⟨h.1, h.2.1, fun hL => ?_⟩
  obtain ⟨b, o, hp, hlt, hc⟩ := h.2.2 hL
  refine ⟨b, o, hp, hlt, fun i hi => ?_⟩
  have h1 := hc i hi
  rw [World.cell?_of_block (w := w) (k.2.2.2.2 b (cell_size h1) (by omega))]
  exact h1

theorem SL.cell {B : Nat} {w : World} {b o L c n : Nat} (h : SL B w (some ⟨b, o, none⟩) L c n) (k x : Nat) (hk : k < L) (hx : wd n k = x) : w.cell? ⟨b, o + k, none⟩ = some (.int .u64 (x : Nat)) := by
  obtain ⟨b', o', e, _, hc⟩ := h.2.2 (by omega)
  simp only [Option.some.injEq, Addr.mk.injEq] at e
  obtain ⟨rfl, rfl, _⟩ := e
  rw [hc k hk, hx]
theorem SL.row {w : World} {b N X c : Nat} {T : TypeId} (r : w.heap[b]? = some (.cells (cw N X) T)) (B : Nat) (hB : b < B) (hX : X < 2 ^ (64 * N)) (hc : N ≤ c) : SL B w (some ⟨b, 0, none⟩) N c X :=
  ⟨hX, hc, fun _ => ⟨b, 0, rfl, hB, fun k hk => by rw [Nat.zero_add, cell_of_row w b k _ _ _ r, cw_at N X k hk]⟩⟩

theorem bal (w : World) (o : Obj) : Below w.heap.size w (w.alloc o) := (Below.refl _ _).alloc (Nat.le_refl _) _
theorem btr {a b c : World} (h : Below a.heap.size a b) (k : Below b.heap.size b c) : Below a.heap.size a c := h.trans (k.mono h.size)

theorem blen_shl (b n : Nat) (hb : b ≠ 0) : blen (b * 2 ^ n) = blen b + n := by
  have h1 := blen_le b hb
  have h2 := blen_lt b
  have h3 := blen_pos b hb
  have e : blen b + n = blen b - 1 + n + 1 := by omega
  rw [e]
  apply blen_of
  · rw [Nat.pow_add]; exact Nat.mul_le_mul_right _ h1
  · rw [show blen b - 1 + n + 1 = blen b + n by omega, Nat.pow_add]
    exact Nat.mul_lt_mul_of_pos_right h2 (Nat.two_pow_pos _)
end Go.Proofs.YtpdehipeakcaiaaDoor
namespace Go.Proofs.YtpdehipeakcaiaaDoor.WMath
set_option maxRecDepth 100000
set_option maxHeartbeats 40000000
set_option maxRecDepth 100000
def gs (hi lo top : Nat) : Nat := if hi < top then (hi * 18446744073709551616 + lo) / top else 18446744073709551615
end Go.Proofs.YtpdehipeakcaiaaDoor.WMath
namespace Go.Proofs.YtpdehipeakcaiaaDoor
set_option maxRecDepth 100000
set_option maxHeartbeats 40000000
set_option maxRecDepth 100000
open Go.RowKit WMath
def tn (r A B : Nat) : Value := .agg #[.int .u64 (r : Nat), .int .u64 (A : Nat), .int .u64 (B : Nat)]

end Go.Proofs.YtpdehipeakcaiaaDoor
