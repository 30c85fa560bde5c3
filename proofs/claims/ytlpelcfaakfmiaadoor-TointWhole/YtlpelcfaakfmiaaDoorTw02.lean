/-
  What the functions that the statement reaches return: part 2 (Wide4, Wide6, Wide7, Wide8, Wide9, Wide12, Frame6, FrameB, Quot1, Quot2, Rquot1, Jmath, Jam1, Jam2, Nat3, List0, List2, List6, Dmath, List16, Xmath, X1).
-/
import Derived.Deep.RegionLaw
import Derived.Laws.CopyOwn
import Derived.Deep.OwnRows
import Derived.Laws.BytesString
import Derived.RegionTactic
import Derived.Test.YtlpelcfaakfmiaaDoorRows
import Derived.WalkKit
import Derived.ProofKit
import Derived.OpenShut
import Derived.Laws.IdiomArrays
import Derived.Below
import Derived.Carry
import Derived.Deep.RegionWith
import Derived.Lib.BitFns
import Derived.Laws.Cover1
import Derived.Test.YtlpelcfaakfmiaaDoorTw01
namespace Go.Proofs.YtlpelcfaakfmiaaDoor
set_option maxRecDepth 100000
set_option maxHeartbeats 40000000
set_option maxRecDepth 100000
open Go.RowKit WMath
theorem left_lost (n c x : Nat) (hx : x = n * 2 ^ c % Q) : (!decide (x / 2 ^ c = n)) = decide (Q ≤ n * 2 ^ c) := by
  by_cases h : n * 2 ^ c < Q
  · rw [hx, Nat.mod_eq_of_lt h, Nat.mul_div_cancel _ (Nat.two_pow_pos c), decide_eq_false (show ¬ Q ≤ n * 2 ^ c by omega)]
    simp
  · have h1 : x < Q := by rw [hx]; exact Nat.mod_lt _ Q_pos
    have h2 : x / 2 ^ c ≠ n := by
      intro e
      have := Nat.div_mul_le_self x (2 ^ c)
      rw [e] at this
      omega
    rw [decide_eq_true (show Q ≤ n * 2 ^ c by omega), decide_eq_false h2]
    rfl
theorem right_lost (n c : Nat) (hn : n < Q) : (!decide (n / 2 ^ c * 2 ^ c % Q = n)) = decide (n % 2 ^ c ≠ 0) := by
  have h1 := Nat.div_add_mod' n (2 ^ c)
  rw [Nat.mod_eq_of_lt (by omega)]
  by_cases h : n % 2 ^ c = 0
  · rw [decide_eq_true (show n / 2 ^ c * 2 ^ c = n by omega), decide_eq_false (by omega)]; rfl
  · rw [decide_eq_false (show ¬ n / 2 ^ c * 2 ^ c = n by omega), decide_eq_true h]; rfl

theorem wleft_any (n : Nat) (s : Int) (hn : n < Q) (w : World) :
    Calls Tryd.prog 17 #[W n, .int .i64 s] w fun e w' => e = .returned (.tuple #[W (n * 2 ^ cnt6 s % Q), .bool (decide (Q ≤ n * 2 ^ cnt6 s))]) ∧ Below w.heap.size w w' := by
  have hs6 : cnt6 s ≤ 384 := by unfold cnt6; omega
  obtain ⟨x, hx⟩ : ∃ x, x = n * 2 ^ cnt6 s % Q := ⟨_, rfl⟩
  have hxQ : x < Q := by rw [hx]; exact Nat.mod_lt _ Q_pos
  unfold W
  have hat := cw_at 6
  have hz := cw6z
  have hf := cw6f
  have hW : ∀ x, W x = .agg (cw 6 x) := fun _ => rfl
  have heq := eq6
  have hg := eqg6
  have hdQ : x / 2 ^ cnt6 s < Q := Nat.lt_of_le_of_lt (Nat.div_le_self _ _) hxQ
  rw [← hx]
  have HX := box hx
  clear hx
  go_enter Tryd.func17, Tryd.ntmps17
  go_wp2_with (first | (go_at_call 29; refine (wcount_any _ _).mono ?_; rintro e w' ⟨rfl, rfl⟩))
  refine (wup_any n (cnt6 s) hn hs6 _).mono ?_
  rintro e w1 ⟨rfl, hb1⟩
  rw [← HX.out]
  unfold W
  have hr0 : w1.heap[w.heap.size]? = some (.cells (cw 6 n) 35) := heap_of hb1 _ _ _ (by rw [heap_below _ _ _ (by simp)]; exact heap_alloc_last w _)
  have hr1 : w1.heap[w.heap.size + 1]? = some (.cells (cw 6 0) 35) := heap_of hb1 _ _ _ (by rw [← size_al]; exact heap_alloc_last _ _)
  obtain ⟨w2, hw2⟩ : ∃ w2, w2 = w1.setRow (w.heap.size + 1) (cw 6 x) := ⟨_, rfl⟩
  have hst : (storeCells ⟨w.heap.size + 1, 0, none⟩ (cw 6 x).toList 0).run Tryd.prog w1 = .ok () w2 := by rw [hw2]; exact st_any w1 _ x 0 hr1
  have hq0 : w2.heap[w.heap.size]? = some (.cells (cw 6 n) 35) := by rw [hw2, setRow_other (by omega)]; exact hr0
  have hq1 : w2.heap[w.heap.size + 1]? = some (.cells (cw 6 x) 35) := by rw [hw2]; exact setRow_row hr1
  have hbw : Below w.heap.size w w2 := by
    rw [hw2]
    exact Below.setRow ((((Below.refl _ _).alloc (Nat.le_refl _) _).alloc (by simp) _).trans (hb1.mono (by simp <;> omega))) (by omega)
  have hs2 : w.heap.size + 1 < w2.heap.size := (Array.getElem?_eq_some_iff.1 hq1).1
  clear hb1 hr0 hr1 hw2
  obtain ⟨F, hF1, hF2⟩ := below_fun w2
  have hFn : ∀ u o, o < 6 → (F u).cell? ⟨w.heap.size, o, none⟩ = some (.int .u64 (wd n o : Nat)) := fun u => row_cell (heap_of (hF1 u) _ _ _ hq0)
  have hFx : ∀ u o, o < 6 → (F u).cell? ⟨w.heap.size + 1, o, none⟩ = some (.int .u64 (wd x o : Nat)) := fun u => row_cell (heap_of (hF1 u) _ _ _ hq1)
  have hFs : ∀ u, (storeCells ⟨w.heap.size + 1, 0, none⟩ (cw 6 x).toList 0).run Tryd.prog (F u) = .ok () (F u) := fun u => st_same _ _ _ (heap_of (hF1 u) _ _ _ hq1)
  go_wp2
  refine wp_region_below F hF2 (by kernel_rfl) (by kernel_rfl) ?_
  repeat quiet_step ((go_at_call 31; exact quietF hF1 hF2 (wdown_any x (cnt6 s) hxQ hs6 _)))
  refine wpQuiet_nil ?_
  rintro _ ⟨u, rfl⟩
  go_wp2
  exact bodyPost_ret (v := .tuple #[.agg (cw 6 x), .bool (!decide (x / 2 ^ cnt6 s = n))]) (by simp [results, Tryd.results17, go_sem, hFx, hf]) rfl ⟨by rw [left_lost n _ x HX.out], hbw.trans ((hF1 u).mono (by omega))⟩
theorem wright_any (n : Nat) (s : Int) (hn : n < Q) (w : World) :
    Calls Tryd.prog 68 #[W n, .int .i64 s] w fun e w' => e = .returned (.tuple #[W (n / 2 ^ cnt6 s), .bool (decide (n % 2 ^ cnt6 s ≠ 0))]) ∧ Below w.heap.size w w' := by
  have hs6 : cnt6 s ≤ 384 := by unfold cnt6; omega
  obtain ⟨x, hx⟩ : ∃ x, x = n / 2 ^ cnt6 s := ⟨_, rfl⟩
  have hxQ : x < Q := by rw [hx]; exact Nat.lt_of_le_of_lt (Nat.div_le_self _ _) hn
  unfold W
  have hat := cw_at 6
  have hz := cw6z
  have hf := cw6f
  have hW : ∀ x, W x = .agg (cw 6 x) := fun _ => rfl
  have heq := eq6
  have hg := eqg6
  have hdQ : x * 2 ^ cnt6 s % Q < Q := Nat.mod_lt _ Q_pos
  rw [← hx]
  have HX := box hx
  clear hx
  go_enter Tryd.func68, Tryd.ntmps68
  go_wp2_with (first | (go_at_call 29; refine (wcount_any _ _).mono ?_; rintro e w' ⟨rfl, rfl⟩))
  refine (wdown_any n (cnt6 s) hn hs6 _).mono ?_
  rintro e w1 ⟨rfl, hb1⟩
  rw [← HX.out]
  unfold W
  have hr0 : w1.heap[w.heap.size]? = some (.cells (cw 6 n) 35) := heap_of hb1 _ _ _ (by rw [heap_below _ _ _ (by simp)]; exact heap_alloc_last w _)
  have hr1 : w1.heap[w.heap.size + 1]? = some (.cells (cw 6 0) 35) := heap_of hb1 _ _ _ (by rw [← size_al]; exact heap_alloc_last _ _)
  obtain ⟨w2, hw2⟩ : ∃ w2, w2 = w1.setRow (w.heap.size + 1) (cw 6 x) := ⟨_, rfl⟩
  have hst : (storeCells ⟨w.heap.size + 1, 0, none⟩ (cw 6 x).toList 0).run Tryd.prog w1 = .ok () w2 := by rw [hw2]; exact st_any w1 _ x 0 hr1
  have hq0 : w2.heap[w.heap.size]? = some (.cells (cw 6 n) 35) := by rw [hw2, setRow_other (by omega)]; exact hr0
  have hq1 : w2.heap[w.heap.size + 1]? = some (.cells (cw 6 x) 35) := by rw [hw2]; exact setRow_row hr1
  have hbw : Below w.heap.size w w2 := by
    rw [hw2]
    exact Below.setRow ((((Below.refl _ _).alloc (Nat.le_refl _) _).alloc (by simp) _).trans (hb1.mono (by simp <;> omega))) (by omega)
  have hs2 : w.heap.size + 1 < w2.heap.size := (Array.getElem?_eq_some_iff.1 hq1).1
  clear hb1 hr0 hr1 hw2
  obtain ⟨F, hF1, hF2⟩ := below_fun w2
  have hFn : ∀ u o, o < 6 → (F u).cell? ⟨w.heap.size, o, none⟩ = some (.int .u64 (wd n o : Nat)) := fun u => row_cell (heap_of (hF1 u) _ _ _ hq0)
  have hFx : ∀ u o, o < 6 → (F u).cell? ⟨w.heap.size + 1, o, none⟩ = some (.int .u64 (wd x o : Nat)) := fun u => row_cell (heap_of (hF1 u) _ _ _ hq1)
  have hFs : ∀ u, (storeCells ⟨w.heap.size + 1, 0, none⟩ (cw 6 x).toList 0).run Tryd.prog (F u) = .ok () (F u) := fun u => st_same _ _ _ (heap_of (hF1 u) _ _ _ hq1)
  go_wp2
  refine wp_region_below F hF2 (by kernel_rfl) (by kernel_rfl) ?_
  repeat quiet_step ((go_at_call 30; exact quietF hF1 hF2 (wup_any x (cnt6 s) hxQ hs6 _)))
  refine wpQuiet_nil ?_
  rintro _ ⟨u, rfl⟩
  go_wp2
  exact bodyPost_ret (v := .tuple #[.agg (cw 6 x), .bool (!decide (x * 2 ^ cnt6 s % Q = n))]) (by simp [results, Tryd.results68, go_sem, hFx, hf]) rfl ⟨by rw [HX.out, right_lost n _ hn], hbw.trans ((hF1 u).mono (by omega))⟩
theorem wleft_is (n v : Nat) (s : Int) (o : Bool) (hn : n < Q) (hv : n * 2 ^ cnt6 s % Q = v) (ho : decide (Q ≤ n * 2 ^ cnt6 s) = o) (w : World) :
    Calls Tryd.prog 17 #[.agg (cw 6 n), .int .i64 s] w fun e w' => e = .returned (.tuple #[.agg (cw 6 v), .bool o]) ∧ Below w.heap.size w w' := by
  subst hv; subst ho; exact wleft_any n s hn w
theorem wright_is (n v : Nat) (s : Int) (o : Bool) (hn : n < Q) (hv : n / 2 ^ cnt6 s = v) (ho : decide (n % 2 ^ cnt6 s ≠ 0) = o) (w : World) :
    Calls Tryd.prog 68 #[.agg (cw 6 n), .int .i64 s] w fun e w' => e = .returned (.tuple #[.agg (cw 6 v), .bool o]) ∧ Below w.heap.size w w' := by
  subst hv; subst ho; exact wright_any n s hn w
theorem len_is (x l : Nat) (hx : x < 18446744073709551616) (hl : blen x = l) (w : World) :
    Calls Tryd.prog 82 #[.int .u64 x] w fun e w' => e = .returned (.int .i64 (l : Nat)) ∧ w' = w := by
  subst hl; rw [← bitLen_blen x hx]; exact len_any x hx w

theorem wlen_any (n : Nat) (hn : n < Q) (w : World) :
    Calls Tryd.prog 72 #[W n] w fun e w' => e = .returned (.int .i64 (blen n : Nat)) ∧ Below w.heap.size w w' := by
  unfold W
  have hat := cw_at 6
  have hf := cw6f
  have hx := ix6
  go_enter Tryd.func72, Tryd.ntmps72
  go_wp2
  go_loop [3, 7] (fun r i => ∃ (k l : Nat), k ≤ 6 ∧ i = .int .i64 k ∧ r = .int .i64 l ∧ Box (l = blen (n % 2 ^ (64 * k)))) (fun _ i => 6 - (intOf i).toNat)
  case atStart => exact ⟨0, 0, by omega, rfl, rfl, box (by rw [Nat.mul_zero, Nat.pow_zero, Nat.mod_one, blen_zero])⟩
  case round =>
    obtain ⟨k, l, hk, rfl, rfl, HE⟩ := hrel
    by_cases hlt : k < 6
    · have ST := box (blen_step n k)
      obtain ⟨x, hxe⟩ : ∃ x, wd n k = x := ⟨_, rfl⟩
      have hx2 : x < 18446744073709551616 := by rw [← hxe]; exact wd_lt n k
      have hbl : blen x ≤ 64 := blen_le_of x 64 (by rw [← two64]; exact hx2)
      obtain ⟨b, hb⟩ : ∃ b, blen x = b := ⟨_, rfl⟩
      rw [hb] at hbl
      have HB := box hb
      have HX := box hxe
      clear hb
      by_cases h0 : x = 0
      · subst h0
        go_wp2
        go_round
        case rel => exact ⟨k + 1, l, by omega, by go_num, rfl, box (by rw [ST.out, HX.out, if_pos rfl]; exact HE.out)⟩
        case measure => simp [intOf]; omega
      · go_wp2_with (go_at_call 82; refine (len_is x b hx2 HB.out _).mono ?_; rintro e w' ⟨rfl, rfl⟩)
        go_round
        case rel => exact ⟨k + 1, 64 * k + b, by omega, by go_num, by go_num, box (by rw [ST.out, HX.out, if_neg h0, HB.out])⟩
        case measure => simp [intOf]; omega
    · go_wp2
      go_ret
      exact ⟨ret_int (by rw [HE.out, wlow n k hn (by omega)]), (Below.refl _ _).alloc (Nat.le_refl _) _⟩

theorem wfield_any (n low c : Nat) (hl : low < 384) (hc : low % 64 + c ≤ 64) (w : World) :
    Calls Tryd.prog 38 #[W n, .int .i64 low, .int .i64 c] w fun e w' => e = .returned (.int .u64 (n / 2 ^ low % 2 ^ c : Nat)) ∧ Below w.heap.size w w' := by
  unfold W
  have hat := cw_at 6
  obtain ⟨q, hq⟩ : ∃ q, q = low / 64 := ⟨_, rfl⟩
  obtain ⟨r, hr⟩ : ∃ r, r = low % 64 := ⟨_, rfl⟩
  have hq1 : (low : Int) / 64 = (q : Int) := by omega
  have hq2 : q < 6 := by omega
  have HR : Box ((low : Int) % 64 = (r : Int)) := box (by omega)
  have hr2 : r < 64 := by omega
  have hrc : r + c ≤ 64 := by omega
  have HF := box (field_num n q r c low (by omega) hrc)
  clear hq hr hc
  go_enter Tryd.func38, Tryd.ntmps38
  go_wp2_with (go_at_call 69; refine (field_any (wd n q) _ _ (wd_lt _ _) _).mono ?_; rintro e w' ⟨rfl, rfl⟩)
  go_ret
  refine ⟨ret_int ?_, (Below.refl _ _).alloc (Nat.le_refl _) _⟩
  rw [← HF.out]
  have e1 : cnt ((low : Int) % 64) = r := by rw [HR.out]; exact cnt_small r hr2
  have e2 : cnt (c : Int) = c := by unfold cnt; omega
  rw [e1, e2]
  simp
theorem fz {w : World} {b k : Nat} {c : Array Value} {t : TypeId} (h : w.heap[b]? = some (.cells c t)) : w.frozen? ⟨b, k, none⟩ = false := by simp [World.frozen?, h]
theorem setCell_row {w : World} {b k : Nat} {c : Array Value} {t : TypeId} {v : Value} (h : w.heap[b]? = some (.cells c t)) : (w.setCell ⟨b, k, none⟩ v).heap[b]? = some (.cells (c.setIfInBounds k v) t) := by
  simp [World.setCell, Array.getElem?_modify, h]
theorem setCell_other {w : World} {b b' k : Nat} {v : Value} (h : b ≠ b') : (w.setCell ⟨b, k, none⟩ v).heap[b']? = w.heap[b']? := by
  simp [World.setCell, Array.getElem?_modify, h]
theorem wadd_is (n m v : Nat) (o : Bool) (hn : n < Q) (hm : m < Q) (hv : (n + m) % Q = v) (ho : decide (Q ≤ n + m) = o) (w : World) :
    Calls Tryd.prog 22 #[.agg (cw 6 n), .agg (cw 6 m)] w fun e w' => e = .returned (.tuple #[.agg (cw 6 v), .bool o]) ∧ Below w.heap.size w w' := by
  subst hv; subst ho; exact wadd_any n m hn hm w
theorem wsub_is (n m v : Nat) (o : Bool) (hn : n < Q) (hm : m < Q) (hv : (n + Q - m) % Q = v) (ho : decide (n < m) = o) (w : World) :
    Calls Tryd.prog 24 #[.agg (cw 6 n), .agg (cw 6 m)] w fun e w' => e = .returned (.tuple #[.agg (cw 6 v), .bool o]) ∧ Below w.heap.size w w' := by
  subst hv; subst ho; exact wsub_any n m hn hm w
theorem Q_big : 1000000 < Q := by
  obtain ⟨L, hL, hQ⟩ := Q_of
  rw [hQ]
  have : 2 ^ 20 ≤ 2 ^ (64 * L) := Nat.pow_le_pow_right (by decide) (by omega)
  have e : (2 : Nat) ^ 20 = 1048576 := by decide
  omega
theorem wof_al (n : Nat) (hn : n < 18446744073709551616) (w : World) : Calls Tryd.prog 23 #[.int .u64 n] w fun e w' => e = .returned (.agg (cw 6 n)) ∧ Below w.heap.size w w' := wof_any n hn w
def bitsV (b : Nat × Nat) : Value := .agg #[.int .u64 (b.1 : Nat), .int .u64 (b.2 : Nat)]

theorem set0 (x : Nat) (hx : x < 18446744073709551616) : (cw 6 0).setIfInBounds 0 (.int .u64 (x : Nat)) = cw 6 x := by
  rw [cw_set 6 0 0 x (by omega) hx, setw_low 0 0 x (by decide)]; simp
theorem set1 (x y : Nat) (hx : x < 18446744073709551616) (hy : y < 18446744073709551616) : (cw 6 x).setIfInBounds 1 (.int .u64 (y : Nat)) = cw 6 (x + 18446744073709551616 * y) := by
  rw [cw_set 6 x 1 y (by omega) hy, setw_low x 1 y (by rw [show 2 ^ (64 * 1) = 18446744073709551616 by decide]; exact hx)]
theorem bits_ltQ (x y : Nat) (hx : x < 18446744073709551616) (hy : y < 18446744073709551616) : x + 18446744073709551616 * y < Q := by
  obtain ⟨L, hL, hQ⟩ := Q_of
  rw [hQ]
  have h := push_lt x 1 y (by rw [show 2 ^ (64 * 1) = 18446744073709551616 by decide]; exact hx) hy
  have h2 : 2 ^ (64 * (1 + 1)) ≤ 2 ^ (64 * L) := Nat.pow_le_pow_right (by decide) (by omega)
  rw [show 2 ^ (64 * 1) = 18446744073709551616 by decide] at h
  omega

theorem wofbits_any (hi lo : Nat) (hh : hi < 18446744073709551616) (hl : lo < 18446744073709551616) (w : World) :
    Calls Tryd.prog 57 #[.agg #[.int .u64 hi, .int .u64 lo]] w fun e w' => e = .returned (.agg (cw 6 (lo + 18446744073709551616 * hi))) ∧ Below w.heap.size w w' := by
  have hat := cw_at 6
  have hz := cw6z
  have hf := cw6f
  have hs0 := st0
  obtain ⟨v, hv⟩ : ∃ v, v = lo + 18446744073709551616 * hi := ⟨_, rfl⟩
  have h1 := set0 lo hl
  have h2 := set1 lo hi hl hh
  rw [← hv] at h2 ⊢
  have h3 : (cw 6 0).toList.set 0 (.int .u64 lo) = (cw 6 lo).toList := by rw [← h1]; simp
  have h4 : (cw 6 lo).toList.set 1 (.int .u64 hi) = (cw 6 v).toList := by rw [← h2]; simp
  clear hv
  go_enter Tryd.func57, Tryd.ntmps57
  go_wp2
  exact bodyPost_ret (v := .agg (cw 6 v)) (by simp [results, Tryd.results57, go_sem, hat, hf]) rfl ⟨rfl, ((Below.refl _ _).alloc (Nat.le_refl _) _).alloc (by simp <;> omega) _⟩

def cmpv (n m : Nat) : Int := if n = m then 0 else if n < m then -1 else 1

theorem wcmp_any (n m : Nat) (hn : n < Q) (hm : m < Q) (w : World) :
    Calls Tryd.prog 9 #[.agg (cw 6 n), .agg (cw 6 m)] w fun e w' => e = .returned (.int .i64 (cmpv n m)) ∧ Below w.heap.size w w' := by
  have hat := cw_at 6
  have hz := cw6z
  have hf := cw6f
  have hs0 := st0
  have heq := eq6
  have hg := eqg6
  by_cases h : n = m
  · subst h
    go_enter Tryd.func9, Tryd.ntmps9
    go_wp2
    go_ret
    exact ⟨ret_int (by unfold cmpv; simp), ((Below.refl _ _).alloc (Nat.le_refl _) _).alloc (by simp <;> omega) _⟩
  · obtain ⟨d, hd⟩ : ∃ d, (n + Q - m) % Q = d := ⟨_, rfl⟩
    have HD := box hd
    have hne : decide (n = m) = false := decide_eq_false h
    clear hd
    by_cases h2 : n < m
    · have h3 : decide (n < m) = true := decide_eq_true h2
      have H3 := box h3
      clear h3
      go_enter Tryd.func9, Tryd.ntmps9
      go_wp2_with fail
      refine (wsub_is n m d true hn hm HD.out H3.out _).mono ?_
      rintro e w1 ⟨rfl, hb⟩
      go_wp2
      go_ret
      exact ⟨ret_int (by unfold cmpv; rw [if_neg h, if_pos h2]), ((((Below.refl _ _).alloc (Nat.le_refl _) _).alloc (by simp) _).trans (hb.mono (by simp <;> omega))).alloc (by have := hb.size; simp at this; omega) _⟩
    · have h3 : decide (n < m) = false := decide_eq_false h2
      have H3 := box h3
      clear h3
      go_enter Tryd.func9, Tryd.ntmps9
      go_wp2_with fail
      refine (wsub_is n m d false hn hm HD.out H3.out _).mono ?_
      rintro e w1 ⟨rfl, hb⟩
      go_wp2
      go_ret
      exact ⟨ret_int (by unfold cmpv; rw [if_neg h, if_neg h2]), ((((Below.refl _ _).alloc (Nat.le_refl _) _).alloc (by simp) _).trans (hb.mono (by simp <;> omega))).alloc (by have := hb.size; simp at this; omega) _⟩

theorem wofbits_is (hi lo v : Nat) (hh : hi < 18446744073709551616) (hl : lo < 18446744073709551616) (hv : lo + 18446744073709551616 * hi = v) (w : World) :
    Calls Tryd.prog 57 #[.agg #[.int .u64 hi, .int .u64 lo]] w fun e w' => e = .returned (.agg (cw 6 v)) ∧ Below w.heap.size w w' := by
  subst hv; exact wofbits_any hi lo hh hl w

theorem wcmp_is (n m : Nat) (c : Int) (hn : n < Q) (hm : m < Q) (hc : cmpv n m = c) (w : World) :
    Calls Tryd.prog 9 #[.agg (cw 6 n), .agg (cw 6 m)] w fun e w' => e = .returned (.int .i64 c) ∧ Below w.heap.size w w' := by
  subst hc; exact wcmp_any n m hn hm w
theorem wand_any (n m : Nat) (hn : n < Q) (w : World) :
    Calls Tryd.prog 66 #[.agg (cw 6 n), .agg (cw 6 m)] w fun e w' => e = .returned (.agg (cw 6 (n &&& m))) ∧ Below w.heap.size w w' := by
  obtain ⟨v, hv⟩ : ∃ v, n &&& m = v := ⟨_, rfl⟩
  have HV := box hv
  rw [hv]
  clear hv
  have hat := cw_at 6
  have hz := cw6z
  have hf := cw6f
  have hx := ix6
  have hs0 := st0
  go_enter Tryd.func66, Tryd.ntmps66
  go_wp2
  go_loopw [8] (fun i wr => ∃ (k X : Nat), k ≤ 6 ∧ i = .int .i64 k ∧ wr = ((w.alloc (.cells (cw 6 X) 35)).alloc (.cells (cw 6 m) 35)).alloc (.cells (cw 6 0) 35) ∧ Box (Part X n k fun j => wd n j &&& wd m j)) (fun i _ => 6 - (intOf i).toNat)
  case atStart => exact ⟨0, n, by omega, rfl, rfl, box (part_start n _ hn)⟩
  case round =>
    obtain ⟨k, X, hk, rfl, rfl, HE⟩ := hrel
    by_cases hlt : k < 6
    · have hw := part_wd HE.out hlt
      have ho := bits_and_u64_nat (wd n k) (wd m k) (wd_lt _ _) (wd_lt _ _)
      have hb : wd n k &&& wd m k < 18446744073709551616 := Nat.lt_of_le_of_lt Nat.and_le_left (wd_lt n k)
      go_wp2
      go_roundw
      case rel =>
        exact ⟨k + 1, _, by omega, by go_num, by rw [cw_seti 6 X k _ _ hlt hb rfl], box (part_step HE.out hlt _ hb rfl)⟩
      case measure => simp [intOf]; omega
    · go_wp2
      have e := part_end HE.out (by omega) (n &&& m) (and_ltQ n m hn) (fun j hj => wd_and n m j)
      rw [HV.out] at e
      subst e
      exact bodyPost_ret (v := .agg (cw 6 X)) (by simp [results, Tryd.results66, go_sem, hat, hf]) rfl ⟨rfl, (((Below.refl _ _).alloc (Nat.le_refl _) _).alloc (by simp <;> omega) _).alloc (by simp <;> omega) _⟩

theorem mask_is (n : Int) (v : Nat) (hv : 2 ^ cnt n - 1 = v) (w : World) :
    Calls Tryd.prog 80 #[.int .i64 n] w fun e w' => e = .returned (.int .u64 (v : Nat)) ∧ w' = w := by
  subst hv; exact mask_any n w

set_option maxHeartbeats 1000000 in
theorem wmask_is (s : Int) (v : Nat) (hv : 2 ^ cnt6 s - 1 = v) (w : World) :
    Calls Tryd.prog 67 #[.int .i64 s] w fun e w' => e = .returned (.agg (cw 6 v)) ∧ Below w.heap.size w w' := by
  obtain ⟨c, hc⟩ : ∃ c, c = cnt6 s := ⟨_, rfl⟩
  have hc6 : c ≤ 384 := by rw [hc]; unfold cnt6; omega
  have hci : (c : Int) ≤ 384 := by omega
  rw [← hc] at hv
  have HV := box hv
  have HC := box hc
  clear hv hc
  have hat := cw_at 6
  have hz := cw6z
  have hf := cw6f
  have hs1 := st1
  go_enter Tryd.func67, Tryd.ntmps67
  go_wp2_with fail
  refine (wcount_any _ _).mono ?_
  rw [← HC.out]
  rintro e w' ⟨rfl, rfl⟩
  go_wp2
  go_loopw [7] (fun i wr => ∃ (k X : Nat), k ≤ 6 ∧ i = .int .i64 k ∧ wr = (w.alloc (.cells (cw 6 0) 35)).alloc (.cells (cw 6 X) 35) ∧ Box (Part X 0 k fun j => 2 ^ min (c - 64 * j) 64 - 1)) (fun i _ => 6 - (intOf i).toNat)
  case atStart => exact ⟨0, 0, by omega, rfl, rfl, box (part_start 0 _ Q_pos)⟩
  case round =>
    obtain ⟨k, X, hk, rfl, rfl, HE⟩ := hrel
    by_cases hlt : k < 6
    · obtain ⟨x, hx⟩ : ∃ x, 2 ^ min (c - 64 * k) 64 - 1 = x := ⟨_, rfl⟩
      have bx : x < 18446744073709551616 := by rw [← hx]; exact mask_lt64 _ (by omega)
      have hcn : cnt ((c : Int) - (k : Int) * 64) = min (c - 64 * k) 64 := by unfold cnt; omega
      have HX : Box (2 ^ cnt ((c : Int) - (k : Int) * 64) - 1 = x) := box (by rw [hcn, hx])
      have PS := box (part_step HE.out hlt x bx hx)
      clear hx hcn
      go_wp2_with fail
      refine (mask_is _ x HX.out _).mono ?_
      rintro e w2 ⟨rfl, rfl⟩
      go_wp2
      go_roundw
      case rel => exact ⟨k + 1, _, by omega, by go_num, by rw [cw_seti 6 X k x _ hlt bx rfl], PS⟩
      case measure => simp [intOf]; omega
    · go_wp2
      have e := part_end HE.out (by omega) (2 ^ c - 1) (mask_ltQ c hc6) (fun j hj => mask_wd c j _ rfl)
      rw [HV.out] at e
      subst e
      exact bodyPost_ret (v := .agg (cw 6 X)) (by simp [results, Tryd.results67, go_sem, hat, hf]) rfl ⟨rfl, ((Below.refl _ _).alloc (Nat.le_refl _) _).alloc (by simp <;> omega) _⟩

end Go.Proofs.YtlpelcfaakfmiaaDoor
namespace Go.Proofs.YtlpelcfaakfmiaaDoor
set_option maxRecDepth 100000
set_option maxHeartbeats 40000000
set_option maxRecDepth 100000
open WMath
open Go.ChangeShapes Go.WideShapes Go.ChangeAt Go.RowKit
theorem nat_u64 {x : Int} (h : (Lit.int .u64 x).wf = true) : ∃ n : Nat, n < 18446744073709551616 ∧ x = (n : Int) := by
  have hb := bounds_u64 h
  obtain ⟨n, rfl⟩ := Int.eq_ofNat_of_zero_le hb.1
  exact ⟨n, by omega, rfl⟩
theorem u64_nat (n : Nat) (h : n < 18446744073709551616) : (Lit.int .u64 (n : Int)).wf = true := by
  first
    | exact WalkArith.wf_u64 (by omega)
    | exact WalkArith.wf_u64 (by omega) (by omega)

theorem post_plain {H : Type} {enc : TypeId × Value → H} {P : Program} {f : Func} {s : ChangeSpec} {apart fresh handsOn again : Bool} {W W' : World} {args : Array Value} {v : Value} {ds gs : List (DataW H)}
    (hW : DataW.Whole enc P f.params.toList s.vars apart W args.toList ds gs [])
    (hres : ∀ (b : Nat) (sp : Nat → Bool) (hd : Bool), DataW.TrodAll enc P W' b sp hd f.resultTypes.toList (v.resultList f.resultTypes.size) (s.fn H (ds ++ gs)).results [])
    (hargs : ∀ sp : Nat → Bool, DataW.TrodAll enc P W' 0 sp true f.params.toList args.toList (s.fn H (ds ++ gs)).args [])
    (hvars : ∀ sp : Nat → Bool, DataW.TrodVars enc P W' sp s.vars (s.fn H (ds ++ gs)).vars [])
    (hk : Below W.heap.size W W')
    (hok : ∀ (j : Nat) (t : TypeId) (r : Value), f.resultTypes[j]? = some t → (v.resultList f.resultTypes.size)[j]? = some r → Value.okWide P W' .any 0 t r) :
    s.post enc P f apart fresh handsOn again W args v W' := by
  refine ⟨ds, gs, [], [], [], [], hW, hres _ _ _, hargs _, hvars _, hk.frame _, fun _ => ⟨hok, _, _, [], ⟨[], [], trodAll_append (hargs _) (hres _ _ _), hvars _, rfl, ?_, ?_⟩, ?_⟩⟩
  · intro _ _ hp
    cases hp
  · intro _
    exact List.Pairwise.nil
  · intro _ hp
    cases hp
def dB (H : Type) (b : Nat × Nat) : DataW H := .agg [.lit (.int .u64 (b.1 : Nat)), .lit (.int .u64 (b.2 : Nat))]

theorem list2 {α : Type} (l : List α) (h : (⟨l⟩ : Array α).size = 2) : ∃ a b, l = [a, b] := by
  match l, h with
  | [a, b], _ => exact ⟨a, b, rfl⟩

theorem open_bits {H : Type} {enc : TypeId × Value → H} {w : World} {base b : Nat} {spare : Nat → Bool} {held : Bool} {v : Value} {d : DataW H} {p : List MemPlace}
    (hok : Value.okWide Tryd.prog w .any base 26 v) (h : DataW.Trod enc Tryd.prog w b spare held 26 v d p) : ∃ a : Nat × Nat, (a.1 < 18446744073709551616 ∧ a.2 < 18446744073709551616) ∧ v = bitsV a ∧ d = dB H a ∧ p = [] := by
  have hc : Tryd.prog.cellsOf 26 = 2 := by kernel_rfl
  have hce : Tryd.prog.cellsOf 24 = 1 := by kernel_rfl
  obtain ⟨cs, rfl, hsz⟩ := okWide_struct Tryd.underlying26 hok
  rw [hc] at hsz
  obtain ⟨l⟩ := cs
  obtain ⟨c0, c1, rfl⟩ := list2 l hsz
  obtain ⟨fuel, hf⟩ := h
  obtain ⟨y0, y1, n, hx, _, h0, h1⟩ := trod_struct2 Tryd.underlying26 hf
  simp only [hce] at h0 h1
  obtain ⟨x0, e0, g0, w0⟩ := DataW.trod_int Tryd.underlying24 h0
  obtain ⟨x1, e1, g1, w1⟩ := DataW.trod_int Tryd.underlying24 h1
  simp [Value.cells] at e0 e1
  subst e0 e1
  obtain ⟨a0, b0, rfl⟩ := nat_u64 w0
  obtain ⟨a1, b1, rfl⟩ := nat_u64 w1
  simp only [Prod.mk.injEq] at hx
  refine ⟨(a0, a1), ⟨b0, b1⟩, rfl, ?_, ?_⟩
  · rw [hx.1, g0, g1]; rfl
  · rw [hx.2, g0, g1]; rfl

theorem shut_bits {H : Type} {enc : TypeId × Value → H} {w : World} {b : Nat} {spare : Nat → Bool} {held : Bool} (a : Nat × Nat) (h : a.1 < 18446744073709551616 ∧ a.2 < 18446744073709551616) : DataW.Trod enc Tryd.prog w b spare held 26 (bitsV a) (dB H a) [] := by
  have hc : Tryd.prog.cellsOf 26 = 2 := by kernel_rfl
  have hce : Tryd.prog.cellsOf 24 = 1 := by kernel_rfl
  have k0 := u64_nat _ h.1
  have k1 := u64_nat _ h.2
  refine ⟨2, ?_⟩
  simp [DataW.trod, Value.cells, bitsV, Tryd.underlying26, Tryd.underlying24, hc, hce, k0, k1, dB]

end Go.Proofs.YtlpelcfaakfmiaaDoor
namespace Go.Proofs.YtlpelcfaakfmiaaDoor
set_option maxRecDepth 100000
set_option maxHeartbeats 40000000
set_option maxRecDepth 100000
open Go.RowKit WMath
theorem wor_is (n m v : Nat) (hn : n < Q) (hm : m < Q) (hv : n ||| m = v) (w : World) :
    Calls Tryd.prog 61 #[.agg (cw 6 n), .agg (cw 6 m)] w fun e w' => e = .returned (.agg (cw 6 v)) ∧ Below w.heap.size w w' := by
  subst hv; exact wor_any n m hn hm w
theorem wlen_is (n l : Nat) (hn : n < Q) (hl : blen n = l) (w : World) :
    Calls Tryd.prog 72 #[.agg (cw 6 n)] w fun e w' => e = .returned (.int .i64 (l : Nat)) ∧ Below w.heap.size w w' := by
  subst hl; exact wlen_any n hn w

theorem rows_two {w w1 : World} {n : Nat} (hb : Below ((w.alloc (.cells (cw 6 n) 35)).alloc (.cells (cw 6 0) 35)).heap.size ((w.alloc (.cells (cw 6 n) 35)).alloc (.cells (cw 6 0) 35)) w1) :
    w1.heap[w.heap.size]? = some (.cells (cw 6 n) 35) ∧ w1.heap[w.heap.size + 1]? = some (.cells (cw 6 0) 35) ∧ Below w.heap.size w w1 ∧ w.heap.size + 1 < w1.heap.size := by
  have h1 : w1.heap[w.heap.size + 1]? = some (.cells (cw 6 0) 35) := heap_of hb _ _ _ (by rw [← size_al]; exact heap_alloc_last _ _)
  exact ⟨heap_of hb _ _ _ (by rw [heap_below _ _ _ (by simp only [size_al]; omega)]; exact heap_alloc_last w _), h1,
    (((Below.refl _ _).alloc (Nat.le_refl _) _).alloc (by simp only [size_al]; omega) _).trans (hb.mono (by simp only [size_al]; omega)), (Array.getElem?_eq_some_iff.1 h1).1⟩

def RowsL (w wr : World) (l : List Nat) : Prop := (∀ i x, l[i]? = some x → wr.heap[w.heap.size + i]? = some (.cells (cw 6 x) 35)) ∧ Below w.heap.size w wr
theorem rowsL_nil (w : World) : RowsL w w [] := ⟨fun i x h => by simp at h, Below.refl _ _⟩
theorem rowsL_new {w wr : World} {l : List Nat} (h : RowsL w wr l) (hs : wr.heap.size = w.heap.size + l.length) (x : Nat) : RowsL w (wr.alloc (.cells (cw 6 x) 35)) (l ++ [x]) := by
  refine ⟨fun i y hy => ?_, h.2.alloc (by omega) _⟩
  rw [List.getElem?_append] at hy
  split at hy
  · rw [heap_below _ _ _ (by omega)]; exact h.1 i y hy
  · have e : i = l.length := by
      have := (List.getElem?_eq_some_iff.1 hy).1
      simp at this; omega
    subst e
    simp at hy
    subst hy
    rw [← hs]
    exact heap_alloc_last _ _
theorem rowsL_below {w wr w2 : World} {l : List Nat} (h : RowsL w wr l) (hb : Below wr.heap.size wr w2) : RowsL w w2 l :=
  ⟨fun i x hx => heap_of hb _ _ _ (h.1 i x hx), h.2.trans (hb.mono h.2.size)⟩
theorem rowsL_alloc {w wr : World} {l : List Nat} (h : RowsL w wr l) (o : Obj) : RowsL w (wr.alloc o) l :=
  rowsL_below h ((Below.refl _ _).alloc (Nat.le_refl _) _)
theorem rowsL_drew {w wr : World} {l : List Nat} (h : RowsL w wr l) (d : Nat) : RowsL w (wr.drewN d) l := ⟨h.1, below_drewN h.2 d⟩
theorem rowsL_set {w wr : World} {l l2 : List Nat} (h : RowsL w wr l) (i x b : Nat) (hi : i < l.length) (hb : b = w.heap.size + i) (hl : l2 = l.set i x) : RowsL w (wr.setRow b (cw 6 x)) l2 := by
  subst hb
  subst hl
  refine ⟨fun j y hy => ?_, Below.setRow h.2 (by omega)⟩
  by_cases e : i = j
  · subst e
    rw [List.getElem?_set_self hi] at hy
    cases hy
    exact setRow_row (h.1 i _ (List.getElem?_eq_getElem hi))
  · rw [List.getElem?_set_ne e] at hy
    rw [setRow_other (by omega)]
    exact h.1 j y hy

theorem rows0 {w wr : World} {x : Nat} {l : List Nat} (h : RowsL w wr (x :: l)) : wr.heap[w.heap.size]? = some (.cells (cw 6 x) 35) := h.1 0 _ rfl
theorem rows1 {w wr : World} {x y : Nat} {l : List Nat} (h : RowsL w wr (x :: y :: l)) : wr.heap[w.heap.size + 1]? = some (.cells (cw 6 y) 35) := h.1 1 _ rfl
theorem wrap_i64_is (n : Int) (h1 : -9223372036854775808 ≤ n) (h2 : n ≤ 9223372036854775807) : IntKind.i64.wrap n = n := by
  simp [IntKind.wrap, IntKind.bits, IntKind.signed]; omega

theorem rowsL_size {w wr : World} {l : List Nat} (h : RowsL w wr l) (i x : Nat) (hi : l[i]? = some x) : w.heap.size + i < wr.heap.size :=
  (Array.getElem?_eq_some_iff.1 (h.1 i x hi)).1
def cnt5 (s : Int) : Nat := min s.toNat 385
theorem cnt65 (s : Int) : cnt6 ((cnt5 s : Nat) : Int) = cnt6 s := by unfold cnt6 cnt5; omega

theorem jand_mask (a c : Nat) : a &&& (2 ^ c - 1) = a % 2 ^ c := Nat.and_two_pow_sub_one_eq_mod a c

theorem mod_pow_zero (a n k : Nat) : a % 2 ^ (n + k) = 0 ↔ a % 2 ^ n = 0 ∧ a / 2 ^ n % 2 ^ k = 0 := by
  rw [Nat.pow_add, Nat.mod_mul]
  have hp := Nat.two_pow_pos n
  constructor
  · intro h
    have h1 : a % 2 ^ n = 0 := by omega
    have h2 : 2 ^ n * (a / 2 ^ n % 2 ^ k) = 0 := by omega
    rcases Nat.mul_eq_zero.1 h2 with h3 | h3
    · omega
    · exact ⟨h1, h3⟩
  · rintro ⟨h1, h2⟩
    rw [h1, h2, Nat.mul_zero]

def halfv (a c : Nat) : Int := if c = 0 ∨ 384 < c then -1 else cmpv (a % 2 ^ c) (2 ^ (c - 1))

theorem halfv_bit (a k : Nat) (hk : k < 384) : halfv a (k + 1) = if a.testBit k then (if a % 2 ^ k = 0 then 0 else 1) else -1 := by
  unfold halfv
  rw [if_neg (by omega), Nat.add_sub_cancel, mod_succ]
  have h := Nat.mod_lt a (Nat.two_pow_pos k)
  unfold cmpv
  cases a.testBit k
  · simp only [Bool.toNat_false, Nat.mul_zero, Nat.add_zero]
    rw [if_neg (by omega), if_pos h]
    rfl
  · simp only [Bool.toNat_true, Nat.mul_one]
    by_cases h0 : a % 2 ^ k = 0
    · simp [h0]
    · rw [if_neg (by omega), if_neg (by omega)]
      simp [h0]

theorem jcount_any (n : Int) (w : World) :
    Calls Tryd.prog 33 #[.int .i64 n] w fun e w' => e = .returned (.int .i64 (cnt5 n : Nat)) ∧ w' = w := by
  go_enter Tryd.func33, Tryd.ntmps33
  go_wp2
  all_goals go_ret
  all_goals
    refine ⟨ret_int ?_, rfl⟩
    unfold cnt5
    omega

theorem jzero_is (n : Nat) (o : Bool) (hn : n < Q) (ho : decide (n = 0) = o) (w : World) :
    Calls Tryd.prog 37 #[.agg (cw 6 n)] w fun e w' => e = .returned (.bool o) ∧ Below w.heap.size w w' := by
  have hat := cw_at 6
  have hz := cw6z
  have hf := cw6f
  have heq := eq6
  have hg := eqg6
  have hQ := Q_pos
  have HO := box ho
  clear ho
  go_enter Tryd.func37, Tryd.ntmps37
  go_wp2
  go_ret
  exact ⟨by rw [HO.out]; rfl, (Below.refl _ _).alloc (Nat.le_refl _) _⟩

theorem wand_is (n m v : Nat) (hn : n < Q) (hv : n &&& m = v) (w : World) :
    Calls Tryd.prog 66 #[.agg (cw 6 n), .agg (cw 6 m)] w fun e w' => e = .returned (.agg (cw 6 v)) ∧ Below w.heap.size w w' := by
  subst hv; exact wand_any n m hn w

theorem jwhole_is (n v : Nat) (s : Int) (hn : n < Q) (hv : n / 2 ^ cnt6 s = v) (w : World) :
    Calls Tryd.prog 35 #[.agg (cw 6 n), .int .i64 s] w fun e w' => e = .returned (.agg (cw 6 v)) ∧ Below w.heap.size w w' := by
  have hat := cw_at 6
  have hz := cw6z
  have hf := cw6f
  have hs0 := st0
  have hcs : ∀ x, ((cw 6 x).size = 6) = True := fun x => eq_true (cw_size 6 x)
  have HV := box hv
  clear hv
  go_enter Tryd.func35, Tryd.ntmps35
  go_wp2_with fail
  refine (wright_is n v s _ hn HV.out rfl _).mono ?_
  rintro e w1 ⟨rfl, hb1⟩
  obtain ⟨r0, r1, b1, s1⟩ := rows_two hb1
  clear hb1
  have q1 : (w1.alloc (.cells (cw 6 v) 35)).heap[w.heap.size + 1]? = some (.cells (cw 6 0) 35) := by rw [heap_below _ _ _ s1]; exact r1
  have hst := st_any (w1.alloc (.cells (cw 6 v) 35)) (w.heap.size + 1) v 0 q1
  have q2 := row_cell (setRow_row (c' := cw 6 v) q1)
  have bz : Below w.heap.size w ((w1.alloc (.cells (cw 6 v) 35)).setRow (w.heap.size + 1) (cw 6 v)) := Below.setRow (b1.alloc b1.size _) (by omega)
  go_wp2
  exact bodyPost_ret (v := .agg (cw 6 v)) (by simp [results, Tryd.results35, go_sem, q2, hf]) rfl ⟨rfl, bz⟩

theorem jrows2 (w : World) (n : Nat) : RowsL w ((w.alloc (.cells (cw 6 n) 35)).alloc (.cells (cw 6 0) 35)) [n, 0] := rowsL_new (rowsL_new (rowsL_nil w) rfl n) (by simp) 0

theorem jleft_is (n v : Nat) (s : Int) (hn : n < Q) (hv : n % 2 ^ cnt6 s = v) (w : World) :
    Calls Tryd.prog 34 #[.agg (cw 6 n), .int .i64 s] w fun e w' => e = .returned (.agg (cw 6 v)) ∧ Below w.heap.size w w' := by
  have hat := cw_at 6
  have hz := cw6z
  have hf := cw6f
  have hs0 := st0
  have hcs : ∀ x, ((cw 6 x).size = 6) = True := fun x => eq_true (cw_size 6 x)
  obtain ⟨m, hm⟩ : ∃ m, 2 ^ cnt6 s - 1 = m := ⟨_, rfl⟩
  have HV : Box (n &&& m = v) := box (by rw [← hm, jand_mask, hv])
  have HM := box hm
  have R := jrows2 w n
  obtain ⟨W0, hW0⟩ : ∃ W0, (w.alloc (.cells (cw 6 n) 35)).alloc (.cells (cw 6 0) 35) = W0 := ⟨_, rfl⟩
  rw [hW0] at R
  have c0 := row_cell (rows0 R)
  clear hv hm
  go_enter Tryd.func34, Tryd.ntmps34
  go_wp2
  clear hW0
  go_region_with (first
    | (go_at_call 67; refine (wmask_is s m HM.out _).mono ?_; rintro e w1 ⟨rfl, hb1⟩; have R1 := rowsL_below (rowsL_drew R _) hb1; have c1 := row_cell (rows0 R1))
    | (go_at_call 66; refine (wand_is n m v hn HV.out _).mono ?_; rintro e w2 ⟨rfl, hb2⟩; have R2 := rowsL_below R1 hb2; have hst := st_any w2 (w.heap.size + 1) v 0 (rows1 R2)))
  all_goals
    have R3 : RowsL w (w2.setRow (w.heap.size + 1) (cw 6 v)) [n, v] := rowsL_set R2 1 v _ (by simp) rfl rfl
    have d := row_cell (rows1 R3)
    go_wp2
    exact bodyPost_ret (v := .agg (cw 6 v)) (by simp [results, Tryd.results34, go_sem, d, hf]) rfl ⟨rfl, R3.2⟩

set_option maxRecDepth 100000 in
theorem jhalf_out (r c : Nat) (hc : c = 0 ∨ 384 < c) (w : World) :
    Calls Tryd.prog 36 #[.agg (cw 6 r), .int .i64 (c : Nat)] w fun e w' => e = .returned (.int .i64 (-1)) ∧ Below w.heap.size w w' := by
  have hat := cw_at 6
  have hz := cw6z
  have hf := cw6f
  have hh : ((c : Int) == 0) = true ∨ (((c : Int) == 0) = false ∧ decide ((384 : Int) < (c : Int)) = true) := by
    simp only [decide_eq_true_eq, beq_iff_eq, beq_eq_false_iff_ne]
    omega
  clear hc
  rcases hh with h0 | ⟨h0, h1⟩
  all_goals
    go_enter Tryd.func36, Tryd.ntmps36
    go_wp2
    go_ret
    exact ⟨rfl, (Below.refl _ _).alloc (Nat.le_refl _) _⟩

set_option maxRecDepth 100000 in
theorem jhalf_in (r k : Nat) (h : Int) (hr : r < Q) (hk : k < 384) (hh : cmpv r (2 ^ k) = h) (w : World) :
    Calls Tryd.prog 36 #[.agg (cw 6 r), .int .i64 ((k + 1 : Nat) : Int)] w fun e w' => e = .returned (.int .i64 h) ∧ Below w.heap.size w w' := by
  have hat := cw_at 6
  have hz := cw6z
  have hf := cw6f
  have hs0 := st0
  have hcs : ∀ x, ((cw 6 x).size = 6) = True := fun x => eq_true (cw_size 6 x)
  obtain ⟨c, hc⟩ : ∃ c : Int, ((k + 1 : Nat) : Int) = c := ⟨_, rfl⟩
  obtain ⟨p, hp⟩ : ∃ p, 2 ^ k = p := ⟨_, rfl⟩
  have d0 : (c == 0) = false := by simp only [beq_eq_false_iff_ne]; omega
  have d1 : decide ((384 : Int) < c) = false := by rw [decide_eq_false_iff_not]; omega
  have n1 : IntKind.i64.wrap (c - 1) = (k : Int) := by rw [wrap_i64_is _ (by omega) (by omega)]; omega
  have pQ : p < Q := by rw [← hp]; exact pow_ltQ k hk
  have q1 : 1 < Q := by have := Q_big; omega
  have HP : Box (1 * 2 ^ cnt6 (k : Int) % Q = p) := box (by rw [show cnt6 (k : Int) = k by unfold cnt6; omega, Nat.one_mul, hp, Nat.mod_eq_of_lt pQ])
  rw [hp] at hh
  have HH := box hh
  rw [hc]
  clear hh hp hc
  go_enter Tryd.func36, Tryd.ntmps36
  go_wp2_with fail
  refine (wof_al 1 (by decide) _).mono ?_
  rintro e w1 ⟨rfl, hb1⟩
  have r1 : w1.heap[w.heap.size]? = some (.cells (cw 6 r) 35) := heap_of hb1 _ _ _ (heap_alloc_last w _)
  have b1 : Below w.heap.size w w1 := ((Below.refl _ _).alloc (Nat.le_refl _) _).trans (hb1.mono (by simp))
  clear hb1
  go_wp2_with fail
  refine (wleft_is 1 p (k : Int) _ q1 HP.out rfl _).mono ?_
  rintro e w2 ⟨rfl, hb2⟩
  have r2 : w2.heap[w.heap.size]? = some (.cells (cw 6 r) 35) := heap_of hb2 _ _ _ r1
  have b2 : Below w.heap.size w w2 := b1.trans (hb2.mono b1.size)
  clear hb2 b1 r1
  have z2 : w.heap.size < w2.heap.size := (Array.getElem?_eq_some_iff.1 r2).1
  have c2 := row_cell (show (w2.alloc (.cells (cw 6 p) 35)).heap[w.heap.size]? = some (.cells (cw 6 r) 35) by rw [heap_below _ _ _ z2]; exact r2)
  go_wp2_with fail
  refine (wcmp_is r p h hr pQ HH.out _).mono ?_
  rintro e w3 ⟨rfl, hb3⟩
  have b3 : Below w.heap.size w w3 := (b2.alloc b2.size _).trans (hb3.mono (by have := b2.size; simp; omega))
  clear hb3
  go_wp2
  go_ret
  exact ⟨rfl, b3⟩

theorem jhalf_is (a c r : Nat) (h : Int) (hr : r < Q) (hc : c ≤ 385) (e : a % 2 ^ cnt6 (c : Int) = r) (hh : halfv a c = h) (w : World) :
    Calls Tryd.prog 36 #[.agg (cw 6 r), .int .i64 (c : Nat)] w fun e w' => e = .returned (.int .i64 h) ∧ Below w.heap.size w w' := by
  by_cases ho : c = 0 ∨ 384 < c
  · have : h = -1 := by rw [← hh]; unfold halfv; rw [if_pos ho]
    subst this
    exact jhalf_out r c ho w
  · obtain ⟨k, rfl⟩ : ∃ k, c = k + 1 := ⟨c - 1, by omega⟩
    refine jhalf_in r k h hr (by omega) ?_ w
    rw [← hh, ← e]
    unfold halfv
    rw [if_neg ho, Nat.add_sub_cancel, show cnt6 ((k + 1 : Nat) : Int) = k + 1 by unfold cnt6; omega]

end Go.Proofs.YtlpelcfaakfmiaaDoor
namespace Go.Proofs.YtlpelcfaakfmiaaDoor
set_option maxRecDepth 100000
set_option maxHeartbeats 40000000
set_option maxRecDepth 100000
open Go.RowKit WMath
set_option maxHeartbeats 2000000 in
theorem jcut_is (n v : Nat) (s h : Int) (o : Bool) (hn : n < Q) (hv : n / 2 ^ cnt6 s = v) (hh : halfv n (cnt5 s) = h) (ho : decide (n % 2 ^ cnt6 s = 0) = o) (w : World) :
    Calls Tryd.prog 19 #[.agg (cw 6 n), .int .i64 s] w fun e w' => e = .returned (.tuple #[.agg (cw 6 v), .int .i64 h, .bool o]) ∧ Below w.heap.size w w' := by
  have hat := cw_at 6
  have hz := cw6z
  have hf := cw6f
  have hs0 := st0
  have hcs : ∀ x, ((cw 6 x).size = 6) = True := fun x => eq_true (cw_size 6 x)
  obtain ⟨c, hc⟩ : ∃ c, cnt5 s = c := ⟨_, rfl⟩
  have c385 : c ≤ 385 := by rw [← hc]; unfold cnt5; omega
  have h65 : cnt6 (c : Int) = cnt6 s := by rw [← hc]; exact cnt65 s
  obtain ⟨r, hr⟩ : ∃ r, n % 2 ^ cnt6 (c : Int) = r := ⟨_, rfl⟩
  have rQ : r < Q := by rw [← hr]; exact Nat.lt_of_le_of_lt (Nat.mod_le _ _) hn
  rw [← h65] at hv ho
  rw [hr] at ho
  rw [hc] at hh
  have HV := box hv
  have HR := box hr
  have HC := box hc
  have HO := box ho
  have HH := box hh
  have C385 := box c385
  clear hv ho hc hr h65 hh c385
  go_enter Tryd.func19, Tryd.ntmps19
  go_wp2_with fail
  refine (jcount_any s _).mono ?_
  rw [HC.out]
  rintro e w' ⟨rfl, rfl⟩
  go_wp2_with fail
  refine (jleft_is n r (c : Int) hn HR.out _).mono ?_
  rintro e w1 ⟨rfl, hb1⟩
  have R1 : RowsL w w1 [n, 0] := rowsL_below (jrows2 w n) hb1
  clear hb1
  have z1 := rowsL_size R1 1 _ rfl
  have R := rowsL_alloc R1 (.cells (cw 6 r) 35)
  have S : (w1.alloc (.cells (cw 6 r) 35)).heap[w1.heap.size]? = some (.cells (cw 6 r) 35) := heap_alloc_last w1 _
  obtain ⟨W0, hW0⟩ : ∃ W0, w1.alloc (.cells (cw 6 r) 35) = W0 := ⟨_, rfl⟩
  rw [hW0] at R S
  have c0 := row_cell (rows0 R)
  have s0 := row_cell S
  clear R1
  go_wp2
  clear hW0
  go_region_with (first
    | (go_at_call 35; refine (jwhole_is n v (c : Int) hn HV.out _).mono ?_; rintro e w2 ⟨rfl, hb2⟩; have R2 := rowsL_below (rowsL_drew R _) hb2; have S2 := heap_of hb2 _ _ _ S; have s2 := row_cell S2)
    | (go_at_call 36; refine (jhalf_is n c r h rQ C385.out HR.out HH.out _).mono ?_; rintro e w3 ⟨rfl, hb3⟩; have R3 := rowsL_below R2 hb3; have s3 := row_cell (heap_of hb3 _ _ _ S2))
    | (go_at_call 37; refine (jzero_is r o rQ HO.out _).mono ?_; rintro e w4 ⟨rfl, hb4⟩; have R4 := rowsL_below R3 hb4; have hst := st_any w4 (w.heap.size + 1) v 0 (rows1 R4)))
  all_goals
    have R5 : RowsL w (w4.setRow (w.heap.size + 1) (cw 6 v)) [n, v] := rowsL_set R4 1 v _ (by simp) rfl rfl
    have d := row_cell (rows1 R5)
    go_wp2
    exact bodyPost_ret (v := .tuple #[.agg (cw 6 v), .int .i64 h, .bool o]) (by simp [results, Tryd.results19, go_sem, d, hf]) rfl ⟨rfl, R5.2⟩

end Go.Proofs.YtlpelcfaakfmiaaDoor
namespace Go.Proofs.YtlpelcfaakfmiaaDoor
set_option maxRecDepth 100000
set_option maxHeartbeats 40000000
set_option maxRecDepth 100000
open Go.RowKit WMath
def lg (x : Nat) : ByteArray × Int := if nl x ≤ 16384 then (nbA x, 0) else (⟨#[]⟩, 4)
def SL (B : Nat) (w : World) (p : Option Addr) (L c n : Nat) : Prop := n < 2 ^ (64 * L) ∧ L ≤ c ∧ (0 < L → ∃ b o, p = some ⟨b, o, none⟩ ∧ b < B ∧ ∀ k, k < L → w.cell? ⟨b, o + k, none⟩ = some (.int .u64 (wd n k : Nat)))
theorem SL.mono {B B' : Nat} {w : World} {p : Option Addr} {L c n : Nat} (h : SL B w p L c n) (hB : B ≤ B') : SL B' w p L c n :=
  ⟨h.1, h.2.1, fun hL => by
    obtain ⟨b, o, hp, hlt, hc⟩ := h.2.2 hL
    exact ⟨b, o, hp, Nat.lt_of_lt_of_le hlt hB, hc⟩⟩
theorem SL.below {w w' : World} {p : Option Addr} {L c n B B' : Nat} (h : SL B w p L c n) (hb : Below B' w w') (hB : B ≤ B') : SL B w' p L c n := by
  refine ⟨h.1, h.2.1, fun hL => ?_⟩
  obtain ⟨b, o, hp, hlt, hc⟩ := h.2.2 hL
  refine ⟨b, o, hp, hlt, fun k hk => ?_⟩
  rw [hb.cell (p := ⟨b, o + k, none⟩) (show b < B' by omega)]
  exact hc k hk
theorem cell_size {w : World} {b o : Nat} {v : Value} (h : w.cell? ⟨b, o, none⟩ = some v) : b < w.heap.size := by
  by_cases e : b < w.heap.size
  · exact e
  · exfalso
    have : w.heap[b]? = none := Array.getElem?_eq_none (by omega)
    simp [World.cell?, this] at h
def Only (g : Nat) (w w' : World) : Prop := w'.os = w.os ∧ w'.tape = w.tape ∧ w'.output = w.output ∧ w.heap.size ≤ w'.heap.size ∧ ∀ k, k < w.heap.size → k ≠ g → w'.heap[k]? = w.heap[k]?
theorem Only.refl (g : Nat) (w : World) : Only g w w := ⟨rfl, rfl, rfl, Nat.le_refl _, fun _ _ _ => rfl⟩
theorem Only.trans {g : Nat} {a b c : World} (h : Only g a b) (k : Only g b c) : Only g a c :=
  ⟨k.1.trans h.1, k.2.1.trans h.2.1, k.2.2.1.trans h.2.2.1, Nat.le_trans h.2.2.2.1 k.2.2.2.1, fun i hi hg => (k.2.2.2.2 i (Nat.lt_of_lt_of_le hi h.2.2.2.1) hg).trans (h.2.2.2.2 i hi hg)⟩
theorem Only.size {g : Nat} {a b : World} (h : Only g a b) : a.heap.size ≤ b.heap.size := h.2.2.2.1
theorem Only.setCell {g o : Nat} {a w : World} (h : Only g a w) (u : Value) : Only g a (w.setCell ⟨g, o, none⟩ u) :=
  h.trans ⟨rfl, rfl, rfl, by simp [World.setCell], fun k _ hg => Below.heap_setCell _ _ _ _ hg⟩
theorem Only.drew {g : Nat} {a w : World} (h : Only g a w) : Only g a w.drew := h.trans ⟨rfl, rfl, rfl, Nat.le_refl _, fun _ _ _ => rfl⟩
theorem Only.row {g b : Nat} {w w' : World} {c : Array Value} {t : TypeId} (k : Only g w w') (hb : b ≠ g) (h : w.heap[b]? = some (.cells c t)) : w'.heap[b]? = some (.cells c t) := by
  rw [k.2.2.2.2 b (Array.getElem?_eq_some_iff.1 h).1 hb, h]
theorem SL.only {B g : Nat} {w w' : World} {p : Option Addr} {L c n : Nat} (h : SL B w p L c n) (k : Only g w w') (hB : B ≤ g) : SL B w' p L c n := by
  refine ⟨h.1, h.2.1, fun hL => ?_⟩
  obtain ⟨b, o, hp, hlt, hc⟩ := h.2.2 hL
  refine ⟨b, o, hp, hlt, fun i hi => ?_⟩
  have h1 := hc i hi
  rw [World.cell?_of_block (w := w) (k.2.2.2.2 b (cell_size h1) (by omega))]
  exact h1

theorem SL.cell {B : Nat} {w : World} {b o L c n : Nat} (h : SL B w (some ⟨b, o, none⟩) L c n) (k x : Nat) (hk : k < L) (hx : wd n k = x) : w.cell? ⟨b, o + k, none⟩ = some (.int .u64 (x : Nat)) := by
  obtain ⟨b', o', e, _, hc⟩ := h.2.2 (by omega)
  simp only [Option.some.injEq, Addr.mk.injEq] at e
  obtain ⟨rfl, rfl, _⟩ := e
  rw [hc k hk, hx]
theorem SL.row {w : World} {b N X c : Nat} {T : TypeId} (r : w.heap[b]? = some (.cells (cw N X) T)) (B : Nat) (hB : b < B) (hX : X < 2 ^ (64 * N)) (hc : N ≤ c) : SL B w (some ⟨b, 0, none⟩) N c X :=
  ⟨hX, hc, fun _ => ⟨b, 0, rfl, hB, fun k hk => by rw [Nat.zero_add, cell_of_row w b k _ _ _ r, cw_at N X k hk]⟩⟩

theorem bal (w : World) (o : Obj) : Below w.heap.size w (w.alloc o) := (Below.refl _ _).alloc (Nat.le_refl _) _
theorem btr {a b c : World} (h : Below a.heap.size a b) (k : Below b.heap.size b c) : Below a.heap.size a c := h.trans (k.mono h.size)

end Go.Proofs.YtlpelcfaakfmiaaDoor
namespace Go.Proofs.YtlpelcfaakfmiaaDoor.WMath
set_option maxRecDepth 100000
set_option maxHeartbeats 40000000
set_option maxRecDepth 100000
def gs (hi lo top : Nat) : Nat := if hi < top then (hi * 18446744073709551616 + lo) / top else 18446744073709551615
end Go.Proofs.YtlpelcfaakfmiaaDoor.WMath
namespace Go.Proofs.YtlpelcfaakfmiaaDoor
set_option maxRecDepth 100000
set_option maxHeartbeats 40000000
set_option maxRecDepth 100000
open Go.RowKit WMath
def tn (r A B : Nat) : Value := .agg #[.int .u64 (r : Nat), .int .u64 (A : Nat), .int .u64 (B : Nat)]

end Go.Proofs.YtlpelcfaakfmiaaDoor
namespace Go.Proofs.YtlpelcfaakfmiaaDoor.XMath
set_option maxRecDepth 100000
set_option maxHeartbeats 40000000
set_option maxRecDepth 100000
open WMath
def tz (n : Nat) : Nat := if h : n = 0 ∨ n % 2 = 1 then 0 else tz (n / 2) + 1
termination_by n
decreasing_by omega
theorem tz_odd (n : Nat) (h : n % 2 = 1) : tz n = 0 := by rw [tz, dif_pos (Or.inr h)]
theorem tz_even (n : Nat) (h0 : n ≠ 0) (h : n % 2 = 0) : tz n = tz (n / 2) + 1 := by rw [tz, dif_neg (by omega)]
theorem tz_is (n : Nat) (h : n ≠ 0) : ∃ m, n = m * 2 ^ tz n ∧ m % 2 = 1 := by
  induction n using Nat.strongRecOn with
  | _ n ih =>
    by_cases h1 : n % 2 = 1
    · exact ⟨n, by rw [tz_odd n h1, Nat.pow_zero, Nat.mul_one], h1⟩
    · obtain ⟨m, hm, ho⟩ := ih (n / 2) (by omega) (by omega)
      refine ⟨m, ?_, ho⟩
      rw [tz_even n h (by omega), Nat.pow_succ, ← Nat.mul_assoc, ← hm]
      omega
def od (n : Nat) : Nat := n / 2 ^ tz n
theorem od_is (n : Nat) (h : n ≠ 0) : n = od n * 2 ^ tz n ∧ od n % 2 = 1 := by
  obtain ⟨m, hm, ho⟩ := tz_is n h
  have e : od n = m := by
    unfold od
    generalize tz n = k at hm ⊢
    rw [hm]
    exact Nat.mul_div_cancel _ (Nat.two_pow_pos _)
  rw [e]
  exact ⟨hm, ho⟩
theorem od_odd (n : Nat) (h : n % 2 = 1) : od n = n := by unfold od; rw [tz_odd n h, Nat.pow_zero, Nat.div_one]
theorem od_le (n : Nat) : od n ≤ n := Nat.div_le_self _ _
theorem tz_blen (n : Nat) : tz n ≤ blen n := by
  by_cases h : n = 0
  · rw [h, tz, dif_pos (Or.inl rfl)]; omega
  · obtain ⟨h1, h2⟩ := od_is n h
    have h3 : 2 ^ tz n ≤ n := by
      generalize tz n = k at h1 ⊢
      rw [h1]
      exact Nat.le_mul_of_pos_left _ (by omega)
    have h4 := blen_lt n
    exact Nat.le_of_lt ((Nat.pow_lt_pow_iff_right (by decide : 1 < 2)).1 (Nat.lt_of_le_of_lt h3 h4))

structure XN where
  b : Bool
  n : Nat
  d : Nat
  e : Int
def XN.can (x : XN) : Prop := nl x.n ≤ 16384 ∧ nl x.d ≤ 16384 ∧ -1048576 ≤ x.e ∧ x.e ≤ 1048576 ∧ ((x.b = false ∧ x.n = 0 ∧ x.d = 1 ∧ x.e = 0) ∨ (x.n % 2 = 1 ∧ x.d % 2 = 1 ∧ Nat.gcd x.n x.d = 1))
def sgn (b : Bool) : Rat := if b then -1 else 1
def XN.val (x : XN) : Rat := sgn x.b * ((x.n : Rat) / (x.d : Rat)) * (2 : Rat) ^ x.e
def X0 : XN := ⟨false, 0, 1, 0⟩
def XZ : XN := ⟨false, 0, 0, 0⟩
theorem XN.can.d {x : XN} (h : x.can) : x.d % 2 = 1 := by rcases h.2.2.2.2 with h | h <;> omega
theorem XN.can.d0 {x : XN} (h : x.can) : x.d ≠ 0 := by have := h.d; omega
theorem XN.can.odd {x : XN} (h : x.can) (h0 : x.n ≠ 0) : x.n % 2 = 1 ∧ x.d % 2 = 1 ∧ Nat.gcd x.n x.d = 1 := by
  rcases h.2.2.2.2 with h | h
  · exact absurd h.2.1 h0
  · exact h
theorem x0_can : X0.can := ⟨Nat.le_trans (nl_mono 0 1 (by decide)) (Nat.le_trans (nl_le_of 1 1 (by decide)) (by decide)), Nat.le_trans (nl_le_of 1 1 (by decide)) (by decide), by decide, by decide, Or.inl ⟨rfl, rfl, rfl, rfl⟩⟩

def mk (neg : Bool) (n d : Nat) (e : Int) : XN × Int :=
  if n = 0 then (X0, 0)
  else if -1048576 ≤ e + (tz n : Int) - (tz d : Int) ∧ e + (tz n : Int) - (tz d : Int) ≤ 1048576 then (⟨neg, od n / Nat.gcd (od n) (od d), od d / Nat.gcd (od n) (od d), e + (tz n : Int) - (tz d : Int)⟩, 0)
  else (XZ, 4)
theorem mk_null (neg : Bool) (d : Nat) (e : Int) : mk neg 0 d e = (X0, 0) := by unfold mk; rw [if_pos rfl]
theorem div_odd (a g : Nat) (h : g ∣ a) (ha : a % 2 = 1) : a / g % 2 = 1 := by
  obtain ⟨k, rfl⟩ := h
  have g0 : 0 < g := by
    rcases Nat.eq_zero_or_pos g with h | h
    · rw [h, Nat.zero_mul] at ha; omega
    · exact h
  rw [Nat.mul_div_cancel_left _ g0]
  rcases Nat.mod_two_eq_zero_or_one k with h | h
  · rw [Nat.mul_mod, h, Nat.mul_zero] at ha; omega
  · exact h
theorem mk_can (neg : Bool) (n d : Nat) (e : Int) (hn : nl n ≤ 16384) (hd : nl d ≤ 16384) (d0 : d ≠ 0) (h : (mk neg n d e).2 = 0) : (mk neg n d e).1.can := by
  unfold mk at h ⊢
  split
  · exact x0_can
  · rename_i n0
    rw [if_neg n0] at h
    split
    · rename_i hb
      obtain ⟨h1, h2⟩ := od_is n n0
      obtain ⟨h3, h4⟩ := od_is d d0
      have g1 := Nat.gcd_dvd_left (od n) (od d)
      have g2 := Nat.gcd_dvd_right (od n) (od d)
      refine ⟨Nat.le_trans (nl_mono _ _ (Nat.le_trans (Nat.div_le_self _ _) (od_le n))) hn, Nat.le_trans (nl_mono _ _ (Nat.le_trans (Nat.div_le_self _ _) (od_le d))) hd, hb.1, hb.2, Or.inr ⟨div_odd _ _ g1 h2, div_odd _ _ g2 h4, ?_⟩⟩
      show Nat.gcd (od n / Nat.gcd (od n) (od d)) (od d / Nat.gcd (od n) (od d)) = 1
      rw [Nat.gcd_div g1 g2]
      exact Nat.div_self (Nat.gcd_pos_of_pos_left _ (by omega))
    · rename_i hb
      rw [if_neg hb] at h
      exact absurd h (by decide)
theorem p2 (e : Int) : (0 : Rat) < (2 : Rat) ^ e := Rat.zpow_pos (by decide)
def sA (x y : XN) : Nat := x.n * y.d * 2 ^ (x.e - min x.e y.e).toNat
def sS (x y : XN) : Nat := if x.b = y.b then sA x y + sA y x else if sA x y < sA y x then sA y x - sA x y else sA x y - sA y x
def sg (x : XN) : Int := if x.n = 0 then 0 else if x.b then -1 else 1
def lenD (x : XN) : Int := (blen x.n : Int) - (blen x.d : Int)
def tA (x : XN) : Nat := x.n * 2 ^ (max (-lenD x) 0).toNat
def tB (x : XN) : Nat := x.d * 2 ^ (max (lenD x) 0).toNat
def topX (x : XN) : Int := (if tA x < tB x then lenD x - 1 else lenD x) + x.e
def flX (x : XN) (e : Int) : (Nat × Bool) × Int :=
  if e < -2097152 ∨ 2097152 < e then ((0, false), 2) else if x.n = 0 then ((0, true), 0)
  else if e ≤ x.e then (if nl (x.n * 2 ^ (x.e - e).toNat) ≤ 16384 then ((x.n * 2 ^ (x.e - e).toNat / x.d, decide (x.n * 2 ^ (x.e - e).toNat % x.d = 0)), 0) else ((0, false), 4))
  else if topX x < e then ((0, false), 0) else ((x.n / (x.d * 2 ^ (e - x.e).toNat), false), 0)

theorem nl_pow (n p : Nat) (h : n < 2 ^ p) (hp : p ≤ 131072) : nl n ≤ 16384 := by
  have := blen_le_of n p h
  unfold nl
  omega
end Go.Proofs.YtlpelcfaakfmiaaDoor.XMath
namespace Go.Proofs.YtlpelcfaakfmiaaDoor
set_option maxRecDepth 100000
set_option maxHeartbeats 40000000
set_option maxRecDepth 100000
open Go.RowKit WMath XMath
theorem cells4 {w : World} {g : Nat} {T : TypeId} {c : Array Value} (row : w.heap[g]? = some (.cells c T)) (k : Nat) (v : Value) (h : c[k]? = some v) : w.cell? ⟨g, k, none⟩ = some v := by
  rw [cell_of_row w g k _ _ _ row]
  exact h

theorem cells2s {w : World} {g : Nat} {T : TypeId} {a b : Value} (R : w.heap[g]? = some (.cells #[a, b] T)) : w.cell? ⟨g, 0, none⟩ = some a ∧ w.cell? ⟨g, 1, none⟩ = some b := ⟨cells4 R 0 _ rfl, cells4 R 1 _ rfl⟩
theorem opn1 (w : World) (o : Obj) : (w.alloc o).heap[w.heap.size]? = some o ∧ Below w.heap.size w (w.alloc o) := ⟨heap_alloc_last _ _, (Below.refl _ _).alloc (Nat.le_refl _) _⟩
theorem opn2 (w : World) (o1 o2 : Obj) : ((w.alloc o1).alloc o2).heap[w.heap.size]? = some o1 ∧ ((w.alloc o1).alloc o2).heap[w.heap.size + 1]? = some o2 ∧ Below w.heap.size w ((w.alloc o1).alloc o2) := by
  obtain ⟨r0, b⟩ := opn1 w o1
  have z : (w.alloc o1).heap.size = w.heap.size + 1 := by simp only [size_al]
  exact ⟨by rw [heap_below _ _ _ (by omega)]; exact r0, by rw [← z]; exact heap_alloc_last _ _, b.alloc (by omega) _⟩
end Go.Proofs.YtlpelcfaakfmiaaDoor
