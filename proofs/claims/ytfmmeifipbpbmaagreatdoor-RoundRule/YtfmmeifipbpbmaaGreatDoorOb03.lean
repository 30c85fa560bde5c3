/-
  What the functions that the statement reaches return: part 3 (Wide9, Wide12, Frame6, Quot1, Quot2, Rlen, Rquot1, Jmath, Jam1, Jam2, Nat0, Nat1).
-/
import Derived.RegionTactic
import Derived.Test.YtfmmeifipbpbmaaGreatDoorRows
import Derived.WalkKit
import Derived.ProofKit
import Derived.OpenShut
import Derived.Laws.IdiomArrays
import Derived.Below
import Derived.Carry
import Derived.Deep.RegionWith
import Derived.Lib.BitFns
import Derived.Laws.Cover1
import Derived.Test.YtfmmeifipbpbmaaGreatDoorOb02
namespace Go.Proofs.YtfmmeifipbpbmaaGreatDoor
set_option maxRecDepth 100000
open Go.RowKit WMath

/-- 128 bits, as a value: the upper word and the lower one. -/
def bitsV (b : Nat × Nat) : Value := .agg #[.int .u64 (b.1 : Nat), .int .u64 (b.2 : Nat)]

theorem set0 (x : Nat) (hx : x < 18446744073709551616) : (cw 6 0).setIfInBounds 0 (.int .u64 (x : Nat)) = cw 6 x := by
  rw [cw_set 6 0 0 x (by omega) hx, setw_low 0 0 x (by decide)]; simp
theorem set1 (x y : Nat) (hx : x < 18446744073709551616) (hy : y < 18446744073709551616) : (cw 6 x).setIfInBounds 1 (.int .u64 (y : Nat)) = cw 6 (x + 18446744073709551616 * y) := by
  rw [cw_set 6 x 1 y (by omega) hy, setw_low x 1 y (by rw [show 2 ^ (64 * 1) = 18446744073709551616 by decide]; exact hx)]
theorem bits_ltQ (x y : Nat) (hx : x < 18446744073709551616) (hy : y < 18446744073709551616) : x + 18446744073709551616 * y < Q := by
  obtain ⟨L, hL, hQ⟩ := Q_of
  rw [hQ]
  have h := push_lt x 1 y (by rw [show 2 ^ (64 * 1) = 18446744073709551616 by decide]; exact hx) hy
  have h2 : 2 ^ (64 * (1 + 1)) ≤ 2 ^ (64 * L) := Nat.pow_le_pow_right (by decide) (by omega)
  rw [show 2 ^ (64 * 1) = 18446744073709551616 by decide] at h
  omega

theorem wofbits_any (hi lo : Nat) (hh : hi < 18446744073709551616) (hl : lo < 18446744073709551616) (w : World) :
    Calls Tryz.prog 183 #[.agg #[.int .u64 hi, .int .u64 lo]] w fun e w' => e = .returned (.agg (cw 6 (lo + 18446744073709551616 * hi))) ∧ Below w.heap.size w w' := by
  have hat := cw_at 6
  have hz := cw6z
  have hf := cw6f
  have hs0 := st0
  obtain ⟨v, hv⟩ : ∃ v, v = lo + 18446744073709551616 * hi := ⟨_, rfl⟩
  have h1 := set0 lo hl
  have h2 := set1 lo hi hl hh
  rw [← hv] at h2 ⊢
  have h3 : (cw 6 0).toList.set 0 (.int .u64 lo) = (cw 6 lo).toList := by rw [← h1]; simp
  have h4 : (cw 6 lo).toList.set 1 (.int .u64 hi) = (cw 6 v).toList := by rw [← h2]; simp
  clear hv
  go_enter Tryz.func183, Tryz.ntmps183
  go_wp2
  exact bodyPost_ret (v := .agg (cw 6 v)) (by simp [results, Tryz.results183, go_sem, hat, hf]) rfl ⟨rfl, ((Below.refl _ _).alloc (Nat.le_refl _) _).alloc (by simp <;> omega) _⟩

def cmpv (n m : Nat) : Int := if n = m then 0 else if n < m then -1 else 1

theorem wcmp_any (n m : Nat) (hn : n < Q) (hm : m < Q) (w : World) :
    Calls Tryz.prog 192 #[.agg (cw 6 n), .agg (cw 6 m)] w fun e w' => e = .returned (.int .i64 (cmpv n m)) ∧ Below w.heap.size w w' := by
  have hat := cw_at 6
  have hz := cw6z
  have hf := cw6f
  have hs0 := st0
  have heq := eq6
  have hg := eqg6
  by_cases h : n = m
  · subst h
    go_enter Tryz.func192, Tryz.ntmps192
    go_wp2
    go_ret
    exact ⟨ret_int (by unfold cmpv; simp), ((Below.refl _ _).alloc (Nat.le_refl _) _).alloc (by simp <;> omega) _⟩
  · obtain ⟨d, hd⟩ : ∃ d, (n + Q - m) % Q = d := ⟨_, rfl⟩
    have HD := box hd
    have hne : decide (n = m) = false := decide_eq_false h
    clear hd
    by_cases h2 : n < m
    · have h3 : decide (n < m) = true := decide_eq_true h2
      have H3 := box h3
      clear h3
      go_enter Tryz.func192, Tryz.ntmps192
      go_wp2_with fail
      refine (wsub_is n m d true hn hm HD.out H3.out _).mono ?_
      rintro e w1 ⟨rfl, hb⟩
      go_wp2
      go_ret
      exact ⟨ret_int (by unfold cmpv; rw [if_neg h, if_pos h2]), ((((Below.refl _ _).alloc (Nat.le_refl _) _).alloc (by simp) _).trans (hb.mono (by simp <;> omega))).alloc (by have := hb.size; simp at this; omega) _⟩
    · have h3 : decide (n < m) = false := decide_eq_false h2
      have H3 := box h3
      clear h3
      go_enter Tryz.func192, Tryz.ntmps192
      go_wp2_with fail
      refine (wsub_is n m d false hn hm HD.out H3.out _).mono ?_
      rintro e w1 ⟨rfl, hb⟩
      go_wp2
      go_ret
      exact ⟨ret_int (by unfold cmpv; rw [if_neg h, if_neg h2]), ((((Below.refl _ _).alloc (Nat.le_refl _) _).alloc (by simp) _).trans (hb.mono (by simp <;> omega))).alloc (by have := hb.size; simp at this; omega) _⟩

theorem wofbits_is (hi lo v : Nat) (hh : hi < 18446744073709551616) (hl : lo < 18446744073709551616) (hv : lo + 18446744073709551616 * hi = v) (w : World) :
    Calls Tryz.prog 183 #[.agg #[.int .u64 hi, .int .u64 lo]] w fun e w' => e = .returned (.agg (cw 6 v)) ∧ Below w.heap.size w w' := by
  subst hv; exact wofbits_any hi lo hh hl w

theorem wtobits_yes (n : Nat) (hn : n < Q) (hv : wd n 0 + 18446744073709551616 * wd n 1 = n) (w : World) :
    Calls Tryz.prog 181 #[.agg (cw 6 n)] w fun e w' => e = .returned (.tuple #[.agg #[.int .u64 (wd n 1 : Nat), .int .u64 (wd n 0 : Nat)], .bool true]) ∧ Below w.heap.size w w' := by
  have hat := cw_at 6
  have hf := cw6f
  have heq := eq6
  have hg := eqg6
  have HV := box hv
  clear hv
  obtain ⟨W, hW⟩ : ∃ W, W = (w.alloc (.cells (cw 6 n) 62)).alloc (.cells #[.int .u64 (wd n 1 : Nat), .int .u64 (wd n 0 : Nat)] 25) := ⟨_, rfl⟩
  have r0 : W.heap[w.heap.size]? = some (.cells (cw 6 n) 62) := by rw [hW, heap_below _ _ _ (by simp only [size_al]; omega)]; exact heap_alloc_last _ _
  have r1 : W.heap[w.heap.size + 1]? = some (.cells #[.int .u64 (wd n 1 : Nat), .int .u64 (wd n 0 : Nat)] 25) := by
    rw [hW]
    have := heap_alloc_last (w.alloc (.cells (cw 6 n) 62)) (.cells #[.int .u64 (wd n 1 : Nat), .int .u64 (wd n 0 : Nat)] 25)
    simpa only [size_al] using this
  have bW : Below w.heap.size w W := by rw [hW]; exact ((Below.refl _ _).alloc (Nat.le_refl _) _).alloc (by simp only [size_al]; omega) _
  obtain ⟨F, hF1, hF2⟩ := below_fun W
  have hFn : ∀ u o, o < 6 → (F u).cell? ⟨w.heap.size, o, none⟩ = some (.int .u64 (wd n o : Nat)) := fun u => row_cell (heap_of (hF1 u) _ _ _ r0)
  have hF3 : ∀ u, (F u).cell? ⟨w.heap.size + 1, 0, none⟩ = some (.int .u64 (wd n 1 : Nat)) := fun u => by rw [cell_of_row _ _ _ _ _ _ (heap_of (hF1 u) _ _ _ r1)]; rfl
  have hF4 : ∀ u, (F u).cell? ⟨w.heap.size + 1, 1, none⟩ = some (.int .u64 (wd n 0 : Nat)) := fun u => by rw [cell_of_row _ _ _ _ _ _ (heap_of (hF1 u) _ _ _ r1)]; rfl
  go_enter Tryz.func181, Tryz.ntmps181
  go_wp2
  rw [← hW]
  clear hW
  refine wp_region_below F hF2 (by kernel_rfl) (by kernel_rfl) ?_
  repeat quiet_step ((go_at_call 183; exact quietF hF1 hF2 (wofbits_is (wd n 1) (wd n 0) n (wd_lt _ _) (wd_lt _ _) HV.out _)))
  refine wpQuiet_nil ?_
  rintro _ ⟨u, rfl⟩
  have hz3 := hF3 u
  have hz4 := hF4 u
  have hz5 : ∀ o, (F u).frozen? ⟨w.heap.size + 1, o, none⟩ = false := fun o => fz (heap_of (hF1 u) _ _ _ r1)
  go_wp2
  exact bodyPost_ret (v := .tuple #[.agg #[.int .u64 (wd n 1 : Nat), .int .u64 (wd n 0 : Nat)], .bool true]) (by simp [results, Tryz.results181, go_sem, hz3, hz4]) rfl ⟨rfl, ((bW.trans ((hF1 u).mono bW.size)).setCell (by show w.heap.size ≤ w.heap.size + 1; omega) _).setCell (by show w.heap.size ≤ w.heap.size + 1; omega) _⟩
theorem wtobits_no (n : Nat) (hn : n < Q) (hv : ¬ wd n 0 + 18446744073709551616 * wd n 1 = n) (w : World) :
    Calls Tryz.prog 181 #[.agg (cw 6 n)] w fun e w' => e = .returned (.tuple #[.agg #[.int .u64 0, .int .u64 0], .bool false]) ∧ Below w.heap.size w w' := by
  have hat := cw_at 6
  have hf := cw6f
  have heq := eq6
  have hg := eqg6
  obtain ⟨v, hx⟩ : ∃ v, wd n 0 + 18446744073709551616 * wd n 1 = v := ⟨_, rfl⟩
  rw [hx] at hv
  have hvQ : v < Q := by rw [← hx]; exact bits_ltQ _ _ (wd_lt _ _) (wd_lt _ _)
  have HV := box hx
  clear hx
  obtain ⟨W, hW⟩ : ∃ W, W = (w.alloc (.cells (cw 6 n) 62)).alloc (.cells #[.int .u64 (wd n 1 : Nat), .int .u64 (wd n 0 : Nat)] 25) := ⟨_, rfl⟩
  have r0 : W.heap[w.heap.size]? = some (.cells (cw 6 n) 62) := by rw [hW, heap_below _ _ _ (by simp only [size_al]; omega)]; exact heap_alloc_last _ _
  have r1 : W.heap[w.heap.size + 1]? = some (.cells #[.int .u64 (wd n 1 : Nat), .int .u64 (wd n 0 : Nat)] 25) := by
    rw [hW]
    have := heap_alloc_last (w.alloc (.cells (cw 6 n) 62)) (.cells #[.int .u64 (wd n 1 : Nat), .int .u64 (wd n 0 : Nat)] 25)
    simpa only [size_al] using this
  have bW : Below w.heap.size w W := by rw [hW]; exact ((Below.refl _ _).alloc (Nat.le_refl _) _).alloc (by simp only [size_al]; omega) _
  obtain ⟨F, hF1, hF2⟩ := below_fun W
  have hFn : ∀ u o, o < 6 → (F u).cell? ⟨w.heap.size, o, none⟩ = some (.int .u64 (wd n o : Nat)) := fun u => row_cell (heap_of (hF1 u) _ _ _ r0)
  have hF3 : ∀ u, (F u).cell? ⟨w.heap.size + 1, 0, none⟩ = some (.int .u64 (wd n 1 : Nat)) := fun u => by rw [cell_of_row _ _ _ _ _ _ (heap_of (hF1 u) _ _ _ r1)]; rfl
  have hF4 : ∀ u, (F u).cell? ⟨w.heap.size + 1, 1, none⟩ = some (.int .u64 (wd n 0 : Nat)) := fun u => by rw [cell_of_row _ _ _ _ _ _ (heap_of (hF1 u) _ _ _ r1)]; rfl
  go_enter Tryz.func181, Tryz.ntmps181
  go_wp2
  rw [← hW]
  clear hW
  refine wp_region_below F hF2 (by kernel_rfl) (by kernel_rfl) ?_
  repeat quiet_step ((go_at_call 183; exact quietF hF1 hF2 (wofbits_is (wd n 1) (wd n 0) v (wd_lt _ _) (wd_lt _ _) HV.out _)))
  refine wpQuiet_nil ?_
  rintro _ ⟨u, rfl⟩
  have hz3 := hF3 u
  have hz4 := hF4 u
  have hz5 : ∀ o, (F u).frozen? ⟨w.heap.size + 1, o, none⟩ = false := fun o => fz (heap_of (hF1 u) _ _ _ r1)
  go_wp2
  exact bodyPost_ret (v := .tuple #[.agg #[.int .u64 0, .int .u64 0], .bool false]) (by simp [results, Tryz.results181, go_sem, hz3, hz4]) rfl ⟨rfl, ((bW.trans ((hF1 u).mono bW.size)).setCell (by show w.heap.size ≤ w.heap.size + 1; omega) _).setCell (by show w.heap.size ≤ w.heap.size + 1; omega) _⟩

theorem wcmp_is (n m : Nat) (c : Int) (hn : n < Q) (hm : m < Q) (hc : cmpv n m = c) (w : World) :
    Calls Tryz.prog 192 #[.agg (cw 6 n), .agg (cw 6 m)] w fun e w' => e = .returned (.int .i64 c) ∧ Below w.heap.size w w' := by
  subst hc; exact wcmp_any n m hn hm w
end Go.Proofs.YtfmmeifipbpbmaaGreatDoor
namespace Go.Proofs.YtfmmeifipbpbmaaGreatDoor
set_option maxRecDepth 100000
open Go.RowKit WMath

theorem wand_any (n m : Nat) (hn : n < Q) (w : World) :
    Calls Tryz.prog 293 #[.agg (cw 6 n), .agg (cw 6 m)] w fun e w' => e = .returned (.agg (cw 6 (n &&& m))) ∧ Below w.heap.size w w' := by
  obtain ⟨v, hv⟩ : ∃ v, n &&& m = v := ⟨_, rfl⟩
  have HV := box hv
  rw [hv]
  clear hv
  have hat := cw_at 6
  have hz := cw6z
  have hf := cw6f
  have hx := ix6
  have hs0 := st0
  go_enter Tryz.func293, Tryz.ntmps293
  go_wp2
  go_loopw [8] (fun i wr => ∃ (k X : Nat), k ≤ 6 ∧ i = .int .i64 k ∧ wr = ((w.alloc (.cells (cw 6 X) 62)).alloc (.cells (cw 6 m) 62)).alloc (.cells (cw 6 0) 62) ∧ Box (Part X n k fun j => wd n j &&& wd m j)) (fun i _ => 6 - (intOf i).toNat)
  case atStart => exact ⟨0, n, by omega, rfl, rfl, box (part_start n _ hn)⟩
  case round =>
    obtain ⟨k, X, hk, rfl, rfl, HE⟩ := hrel
    by_cases hlt : k < 6
    · have hw := part_wd HE.out hlt
      have ho := bits_and_u64_nat (wd n k) (wd m k) (wd_lt _ _) (wd_lt _ _)
      have hb : wd n k &&& wd m k < 18446744073709551616 := Nat.lt_of_le_of_lt Nat.and_le_left (wd_lt n k)
      go_wp2
      go_roundw
      case rel =>
        exact ⟨k + 1, _, by omega, by go_num, by rw [cw_seti 6 X k _ _ hlt hb rfl], box (part_step HE.out hlt _ hb rfl)⟩
      case measure => simp [intOf]; omega
    · go_wp2
      have e := part_end HE.out (by omega) (n &&& m) (and_ltQ n m hn) (fun j hj => wd_and n m j)
      rw [HV.out] at e
      subst e
      exact bodyPost_ret (v := .agg (cw 6 X)) (by simp [results, Tryz.results293, go_sem, hat, hf]) rfl ⟨rfl, (((Below.refl _ _).alloc (Nat.le_refl _) _).alloc (by simp <;> omega) _).alloc (by simp <;> omega) _⟩

theorem mask_is (n : Int) (v : Nat) (hv : 2 ^ cnt n - 1 = v) (w : World) :
    Calls Tryz.prog 305 #[.int .i64 n] w fun e w' => e = .returned (.int .u64 (v : Nat)) ∧ w' = w := by
  subst hv; exact mask_any n w

set_option maxHeartbeats 1000000 in
theorem wmask_is (s : Int) (v : Nat) (hv : 2 ^ cnt6 s - 1 = v) (w : World) :
    Calls Tryz.prog 294 #[.int .i64 s] w fun e w' => e = .returned (.agg (cw 6 v)) ∧ Below w.heap.size w w' := by
  obtain ⟨c, hc⟩ : ∃ c, c = cnt6 s := ⟨_, rfl⟩
  have hc6 : c ≤ 384 := by rw [hc]; unfold cnt6; omega
  have hci : (c : Int) ≤ 384 := by omega
  rw [← hc] at hv
  have HV := box hv
  have HC := box hc
  clear hv hc
  have hat := cw_at 6
  have hz := cw6z
  have hf := cw6f
  have hs1 := st1
  go_enter Tryz.func294, Tryz.ntmps294
  go_wp2_with fail
  refine (wcount_any _ _).mono ?_
  rw [← HC.out]
  rintro e w' ⟨rfl, rfl⟩
  go_wp2
  go_loopw [7] (fun i wr => ∃ (k X : Nat), k ≤ 6 ∧ i = .int .i64 k ∧ wr = (w.alloc (.cells (cw 6 0) 62)).alloc (.cells (cw 6 X) 62) ∧ Box (Part X 0 k fun j => 2 ^ min (c - 64 * j) 64 - 1)) (fun i _ => 6 - (intOf i).toNat)
  case atStart => exact ⟨0, 0, by omega, rfl, rfl, box (part_start 0 _ Q_pos)⟩
  case round =>
    obtain ⟨k, X, hk, rfl, rfl, HE⟩ := hrel
    by_cases hlt : k < 6
    · obtain ⟨x, hx⟩ : ∃ x, 2 ^ min (c - 64 * k) 64 - 1 = x := ⟨_, rfl⟩
      have bx : x < 18446744073709551616 := by rw [← hx]; exact mask_lt64 _ (by omega)
      have hcn : cnt ((c : Int) - (k : Int) * 64) = min (c - 64 * k) 64 := by unfold cnt; omega
      have HX : Box (2 ^ cnt ((c : Int) - (k : Int) * 64) - 1 = x) := box (by rw [hcn, hx])
      have PS := box (part_step HE.out hlt x bx hx)
      clear hx hcn
      go_wp2_with fail
      refine (mask_is _ x HX.out _).mono ?_
      rintro e w2 ⟨rfl, rfl⟩
      go_wp2
      go_roundw
      case rel => exact ⟨k + 1, _, by omega, by go_num, by rw [cw_seti 6 X k x _ hlt bx rfl], PS⟩
      case measure => simp [intOf]; omega
    · go_wp2
      have e := part_end HE.out (by omega) (2 ^ c - 1) (mask_ltQ c hc6) (fun j hj => mask_wd c j _ rfl)
      rw [HV.out] at e
      subst e
      exact bodyPost_ret (v := .agg (cw 6 X)) (by simp [results, Tryz.results294, go_sem, hat, hf]) rfl ⟨rfl, ((Below.refl _ _).alloc (Nat.le_refl _) _).alloc (by simp <;> omega) _⟩

end Go.Proofs.YtfmmeifipbpbmaaGreatDoor
namespace Go.Proofs.YtfmmeifipbpbmaaGreatDoor
set_option maxRecDepth 100000
open WMath
open Go.ChangeShapes Go.WideShapes Go.ChangeAt Go.RowKit

theorem trod6 {H : Type} {enc : TypeId × Value → H} {w : World} {base : Nat} {spare : Nat → Bool} {held : Bool} {fuel : Nat} {c0 c1 c2 c3 c4 c5 : Value} {x : DataW H × List MemPlace}
    (h : DataW.trod enc Tryz.prog w base spare held fuel 62 [c0, c1, c2, c3, c4, c5] = some x) :
    ∃ (y : Nat → DataW H × List MemPlace) (n : Nat), x = (.agg [(y 0).1, (y 1).1, (y 2).1, (y 3).1, (y 4).1, (y 5).1], (y 0).2 ++ ((y 1).2 ++ ((y 2).2 ++ ((y 3).2 ++ ((y 4).2 ++ (y 5).2))))) ∧ DataW.trod enc Tryz.prog w base spare held n 23 [c0] = some (y 0) ∧ DataW.trod enc Tryz.prog w base spare held n 23 [c1] = some (y 1) ∧ DataW.trod enc Tryz.prog w base spare held n 23 [c2] = some (y 2) ∧ DataW.trod enc Tryz.prog w base spare held n 23 [c3] = some (y 3) ∧ DataW.trod enc Tryz.prog w base spare held n 23 [c4] = some (y 4) ∧ DataW.trod enc Tryz.prog w base spare held n 23 [c5] = some (y 5) := by
  have hce : Tryz.prog.cellsOf 23 = 1 := by kernel_rfl
  cases fuel with
  | zero => simp [DataW.trod] at h
  | succ n =>
    unfold DataW.trod at h
    rw [Tryz.underlying62] at h
    simp [show List.range 6 = [0, 1, 2, 3, 4, 5] from rfl, hce] at h
    replace h := h.2
    have part : ∀ c, DataW.trod enc Tryz.prog w base spare held n 23 [c] = none ∨ ∃ y, DataW.trod enc Tryz.prog w base spare held n 23 [c] = some y := fun c => by
      cases DataW.trod enc Tryz.prog w base spare held n 23 [c]
      · exact .inl rfl
      · exact .inr ⟨_, rfl⟩
    rcases part c0 with e | ⟨y0, e0⟩
    · simp [e] at h
    rcases part c1 with e | ⟨y1, e1⟩
    · simp [e0, e] at h
    rcases part c2 with e | ⟨y2, e2⟩
    · simp [e0, e1, e] at h
    rcases part c3 with e | ⟨y3, e3⟩
    · simp [e0, e1, e2, e] at h
    rcases part c4 with e | ⟨y4, e4⟩
    · simp [e0, e1, e2, e3, e] at h
    rcases part c5 with e | ⟨y5, e5⟩
    · simp [e0, e1, e2, e3, e4, e] at h
    simp [e0, e1, e2, e3, e4, e5] at h
    exact ⟨fun i => [y0, y1, y2, y3, y4, y5].getD i y0, n, h.symm, e0, e1, e2, e3, e4, e5⟩

def dW (H : Type) (n : Nat) : DataW H := .agg [.lit (.int .u64 (wd n 0 : Nat)), .lit (.int .u64 (wd n 1 : Nat)), .lit (.int .u64 (wd n 2 : Nat)), .lit (.int .u64 (wd n 3 : Nat)), .lit (.int .u64 (wd n 4 : Nat)), .lit (.int .u64 (wd n 5 : Nat))]

theorem nat_u64 {x : Int} (h : (Lit.int .u64 x).wf = true) : ∃ n : Nat, n < 18446744073709551616 ∧ x = (n : Int) := by
  have hb := bounds_u64 h
  obtain ⟨n, rfl⟩ := Int.eq_ofNat_of_zero_le hb.1
  exact ⟨n, by omega, rfl⟩
theorem u64_nat (n : Nat) (h : n < 18446744073709551616) : (Lit.int .u64 (n : Int)).wf = true := by
  first
    | exact WalkArith.wf_u64 (by omega)
    | exact WalkArith.wf_u64 (by omega) (by omega)

/-- A call whose arguments and results have no memory of their own: what it leaves of the world is enough. -/
theorem post_plain {H : Type} {enc : TypeId × Value → H} {P : Program} {f : Func} {s : ChangeSpec} {apart fresh handsOn again : Bool} {W W' : World} {args : Array Value} {v : Value} {ds gs : List (DataW H)}
    (hW : DataW.Whole enc P f.params.toList s.vars apart W args.toList ds gs [])
    (hres : ∀ (b : Nat) (sp : Nat → Bool) (hd : Bool), DataW.TrodAll enc P W' b sp hd f.resultTypes.toList (v.resultList f.resultTypes.size) (s.fn H (ds ++ gs)).results [])
    (hargs : ∀ sp : Nat → Bool, DataW.TrodAll enc P W' 0 sp true f.params.toList args.toList (s.fn H (ds ++ gs)).args [])
    (hvars : ∀ sp : Nat → Bool, DataW.TrodVars enc P W' sp s.vars (s.fn H (ds ++ gs)).vars [])
    (hk : Below W.heap.size W W')
    (hok : ∀ (j : Nat) (t : TypeId) (r : Value), f.resultTypes[j]? = some t → (v.resultList f.resultTypes.size)[j]? = some r → Value.okWide P W' .any 0 t r) :
    s.post enc P f apart fresh handsOn again W args v W' := by
  refine ⟨ds, gs, [], [], [], [], hW, hres _ _ _, hargs _, hvars _, hk.frame _, fun _ => ⟨hok, _, _, [], ⟨[], [], trodAll_append (hargs _) (hres _ _ _), hvars _, rfl, ?_, ?_⟩, ?_⟩⟩
  · intro _ _ hp
    cases hp
  · intro _
    exact List.Pairwise.nil
  · intro _ hp
    cases hp
end Go.Proofs.YtfmmeifipbpbmaaGreatDoor
namespace Go.Proofs.YtfmmeifipbpbmaaGreatDoor
set_option maxRecDepth 100000
open Go.RowKit WMath

theorem wor_is (n m v : Nat) (hn : n < Q) (hm : m < Q) (hv : n ||| m = v) (w : World) :
    Calls Tryz.prog 182 #[.agg (cw 6 n), .agg (cw 6 m)] w fun e w' => e = .returned (.agg (cw 6 v)) ∧ Below w.heap.size w w' := by
  subst hv; exact wor_any n m hn hm w
theorem wlen_is (n l : Nat) (hn : n < Q) (hl : blen n = l) (w : World) :
    Calls Tryz.prog 171 #[.agg (cw 6 n)] w fun e w' => e = .returned (.int .i64 (l : Nat)) ∧ Below w.heap.size w w' := by
  subst hl; exact wlen_any n hn w

/-- A row made by box and alloc, a call, and what it gave stored twice: the walk of up, half and less. -/
theorem rows_two {w w1 : World} {n : Nat} (hb : Below ((w.alloc (.cells (cw 6 n) 62)).alloc (.cells (cw 6 0) 62)).heap.size ((w.alloc (.cells (cw 6 n) 62)).alloc (.cells (cw 6 0) 62)) w1) :
    w1.heap[w.heap.size]? = some (.cells (cw 6 n) 62) ∧ w1.heap[w.heap.size + 1]? = some (.cells (cw 6 0) 62) ∧ Below w.heap.size w w1 ∧ w.heap.size + 1 < w1.heap.size := by
  have h1 : w1.heap[w.heap.size + 1]? = some (.cells (cw 6 0) 62) := heap_of hb _ _ _ (by rw [← size_al]; exact heap_alloc_last _ _)
  exact ⟨heap_of hb _ _ _ (by rw [heap_below _ _ _ (by simp only [size_al]; omega)]; exact heap_alloc_last w _), h1,
    (((Below.refl _ _).alloc (Nat.le_refl _) _).alloc (by simp only [size_al]; omega) _).trans (hb.mono (by simp only [size_al]; omega)), (Array.getElem?_eq_some_iff.1 h1).1⟩

end Go.Proofs.YtfmmeifipbpbmaaGreatDoor
namespace Go.Proofs.YtfmmeifipbpbmaaGreatDoor
set_option maxRecDepth 100000
open Go.RowKit WMath

/-- The first boxes that a call has made, in their order; whatever was there before is as it was. -/
def RowsL (w wr : World) (l : List Nat) : Prop := (∀ i x, l[i]? = some x → wr.heap[w.heap.size + i]? = some (.cells (cw 6 x) 62)) ∧ Below w.heap.size w wr
theorem rowsL_nil (w : World) : RowsL w w [] := ⟨fun i x h => by simp at h, Below.refl _ _⟩
theorem rowsL_new {w wr : World} {l : List Nat} (h : RowsL w wr l) (hs : wr.heap.size = w.heap.size + l.length) (x : Nat) : RowsL w (wr.alloc (.cells (cw 6 x) 62)) (l ++ [x]) := by
  refine ⟨fun i y hy => ?_, h.2.alloc (by omega) _⟩
  rw [List.getElem?_append] at hy
  split at hy
  · rw [heap_below _ _ _ (by omega)]; exact h.1 i y hy
  · have e : i = l.length := by
      have := (List.getElem?_eq_some_iff.1 hy).1
      simp at this; omega
    subst e
    simp at hy
    subst hy
    rw [← hs]
    exact heap_alloc_last _ _
theorem rowsL_below {w wr w2 : World} {l : List Nat} (h : RowsL w wr l) (hb : Below wr.heap.size wr w2) : RowsL w w2 l :=
  ⟨fun i x hx => heap_of hb _ _ _ (h.1 i x hx), h.2.trans (hb.mono h.2.size)⟩
theorem rowsL_alloc {w wr : World} {l : List Nat} (h : RowsL w wr l) (o : Obj) : RowsL w (wr.alloc o) l :=
  rowsL_below h ((Below.refl _ _).alloc (Nat.le_refl _) _)
theorem rowsL_drew {w wr : World} {l : List Nat} (h : RowsL w wr l) (d : Nat) : RowsL w (wr.drewN d) l := ⟨h.1, below_drewN h.2 d⟩
theorem rowsL_set {w wr : World} {l l2 : List Nat} (h : RowsL w wr l) (i x b : Nat) (hi : i < l.length) (hb : b = w.heap.size + i) (hl : l2 = l.set i x) : RowsL w (wr.setRow b (cw 6 x)) l2 := by
  subst hb
  subst hl
  refine ⟨fun j y hy => ?_, Below.setRow h.2 (by omega)⟩
  by_cases e : i = j
  · subst e
    rw [List.getElem?_set_self hi] at hy
    cases hy
    exact setRow_row (h.1 i _ (List.getElem?_eq_getElem hi))
  · rw [List.getElem?_set_ne e] at hy
    rw [setRow_other (by omega)]
    exact h.1 j y hy

theorem rows0 {w wr : World} {x : Nat} {l : List Nat} (h : RowsL w wr (x :: l)) : wr.heap[w.heap.size]? = some (.cells (cw 6 x) 62) := h.1 0 _ rfl
theorem rows1 {w wr : World} {x y : Nat} {l : List Nat} (h : RowsL w wr (x :: y :: l)) : wr.heap[w.heap.size + 1]? = some (.cells (cw 6 y) 62) := h.1 1 _ rfl
theorem wrap_i64_is (n : Int) (h1 : -9223372036854775808 ≤ n) (h2 : n ≤ 9223372036854775807) : IntKind.i64.wrap n = n := by
  simp [IntKind.wrap, IntKind.bits, IntKind.signed]; omega

end Go.Proofs.YtfmmeifipbpbmaaGreatDoor
namespace Go.Proofs.YtfmmeifipbpbmaaGreatDoor
set_option maxRecDepth 100000
open Go.RowKit WMath

theorem rlen_is (x l : Nat) (hx : x < 18446744073709551616) (hl : blen x = l) (w : World) :
    Calls Tryz.prog 186 #[.int .u64 x] w fun e w' => e = .returned (.int .i64 (l : Nat)) ∧ w' = w := by
  subst hl; rw [← bitLen_blen x hx]; exact rlen_any x hx w

theorem nzf {x : Nat} (h : x = 0) : (((x : Nat) : Int) != 0) = false := by subst h; rfl
theorem nzt {x : Nat} (h : ¬ x = 0) : (((x : Nat) : Int) != 0) = true := by simp; omega

theorem rwlen_any (n : Nat) (hn : n < Q) (w : World) :
    Calls Tryz.prog 93 #[.agg (cw 6 n)] w fun e w' => e = .returned (.int .i64 (blen n : Nat)) ∧ Below w.heap.size w w' := by
  have hat := cw_at 6
  have bz : Below w.heap.size w (w.alloc (.cells (cw 6 n) 62)) := (Below.refl _ _).alloc (Nat.le_refl _) _
  go_enter Tryz.func93, Tryz.ntmps93
  go_wp2
  go_loop [3] (fun iv => ∃ k : Nat, k ≤ 6 ∧ iv = .int .i64 ((k : Int) - 1) ∧ Box (n < 2 ^ (64 * k))) (fun iv => (intOf iv + 1).toNat)
  case atStart => exact ⟨6, by omega, rfl, box (by rw [pwQ 6 rfl]; exact hn)⟩
  case round =>
    obtain ⟨k, hk, rfl, HE⟩ := hrel
    by_cases h0 : k = 0
    · subst h0
      have e : n = 0 := by have := HE.out; rw [Nat.mul_zero, Nat.pow_zero] at this; omega
      subst e
      go_wp2
      go_ret
      exact ⟨rfl, bz⟩
    · obtain ⟨j, rfl⟩ : ∃ j, k = j + 1 := ⟨k - 1, by omega⟩
      have ej : (((j + 1 : Nat) : Int) - 1) = (j : Int) := by omega
      rw [ej]
      have hj6 : j < 6 := by omega
      have hji : (j : Int) < 6 := by omega
      have ST := box (rlen_step n j HE.out)
      by_cases hw : wd n j = 0
      · have y := nzf hw
        have NX := box (ST.out.2 hw)
        clear hw
        go_wp2
        go_round
        case rel => exact ⟨j, by omega, rfl, NX⟩
        case measure => simp [intOf] <;> omega
      · have y := nzt hw
        obtain ⟨b, hb⟩ : ∃ b, blen (wd n j) = b := ⟨_, rfl⟩
        have hb64 : b ≤ 64 := by rw [← hb]; exact blen_le_of _ 64 (by rw [← two64]; exact wd_lt n j)
        have EN : Box (blen n = 64 * j + b) := box (by rw [ST.out.1 hw, hb])
        have HB := box hb
        clear hw hb
        go_wp2_with (go_at_call 186; refine (rlen_is _ b (wd_lt n j) HB.out _).mono ?_; rintro e w' ⟨rfl, rfl⟩)
        go_ret
        exact ⟨ret_int (by rw [EN.out]; simp), bz⟩
end Go.Proofs.YtfmmeifipbpbmaaGreatDoor
namespace Go.Proofs.YtfmmeifipbpbmaaGreatDoor
set_option maxRecDepth 100000
open Go.RowKit WMath

theorem rowsL_setCell {w wr : World} {l l2 : List Nat} (h : RowsL w wr l) (i x y b o : Nat) (v : Value) (hi : l[i]? = some x) (hb : b = w.heap.size + i) (hv : (cw 6 x).setIfInBounds o v = cw 6 y) (hl : l2 = l.set i y) : RowsL w (wr.setCell ⟨b, o, none⟩ v) l2 := by
  subst hb
  subst hl
  refine ⟨fun j z hz => ?_, h.2.setCell (by show w.heap.size ≤ w.heap.size + i; omega) _⟩
  by_cases e : i = j
  · subst e
    rw [List.getElem?_set_self (List.getElem?_eq_some_iff.1 hi).1] at hz
    cases hz
    rw [setCell_row (h.1 i _ hi), hv]
  · rw [List.getElem?_set_ne e] at hz
    rw [setCell_other (by omega)]
    exact h.1 j z hz
theorem rowsL_size {w wr : World} {l : List Nat} (h : RowsL w wr l) (i x : Nat) (hi : l[i]? = some x) : w.heap.size + i < wr.heap.size :=
  (Array.getElem?_eq_some_iff.1 (h.1 i x hi)).1
end Go.Proofs.YtfmmeifipbpbmaaGreatDoor
namespace Go.Proofs.YtfmmeifipbpbmaaGreatDoor
set_option maxRecDepth 100000
open Go.RowKit WMath

/-- The count that package jam brings within 0 to 385. -/
def cnt5 (s : Int) : Nat := min s.toNat 385
theorem cnt65 (s : Int) : cnt6 ((cnt5 s : Nat) : Int) = cnt6 s := by unfold cnt6 cnt5; omega

theorem jor1 (x : Nat) : x ||| 1 = x / 2 * 2 + 1 := by
  rcases Nat.mod_two_eq_zero_or_one x with h | h
  · rw [or_one x h]; omega
  · obtain ⟨y, rfl⟩ : ∃ y, x = y + 1 := ⟨x - 1, by omega⟩
    rw [← or_one y (by omega), Nat.or_assoc, Nat.or_self, or_one y (by omega)]
    omega

theorem jand_mask (a c : Nat) : a &&& (2 ^ c - 1) = a % 2 ^ c := Nat.and_two_pow_sub_one_eq_mod a c

theorem mod_pow_zero (a n k : Nat) : a % 2 ^ (n + k) = 0 ↔ a % 2 ^ n = 0 ∧ a / 2 ^ n % 2 ^ k = 0 := by
  rw [Nat.pow_add, Nat.mod_mul]
  have hp := Nat.two_pow_pos n
  constructor
  · intro h
    have h1 : a % 2 ^ n = 0 := by omega
    have h2 : 2 ^ n * (a / 2 ^ n % 2 ^ k) = 0 := by omega
    rcases Nat.mul_eq_zero.1 h2 with h3 | h3
    · omega
    · exact ⟨h1, h3⟩
  · rintro ⟨h1, h2⟩
    rw [h1, h2, Nat.mul_zero]

/-- What is left by c, against the half of 2^c. -/
def halfv (a c : Nat) : Int := if c = 0 ∨ 384 < c then -1 else cmpv (a % 2 ^ c) (2 ^ (c - 1))

/-- The same, by the highest bit that is left and those below it. -/
theorem halfv_bit (a k : Nat) (hk : k < 384) : halfv a (k + 1) = if a.testBit k then (if a % 2 ^ k = 0 then 0 else 1) else -1 := by
  unfold halfv
  rw [if_neg (by omega), Nat.add_sub_cancel, mod_succ]
  have h := Nat.mod_lt a (Nat.two_pow_pos k)
  unfold cmpv
  cases a.testBit k
  · simp only [Bool.toNat_false, Nat.mul_zero, Nat.add_zero]
    rw [if_neg (by omega), if_pos h]
    rfl
  · simp only [Bool.toNat_true, Nat.mul_one]
    by_cases h0 : a % 2 ^ k = 0
    · simp [h0]
    · rw [if_neg (by omega), if_neg (by omega)]
      simp [h0]

end Go.Proofs.YtfmmeifipbpbmaaGreatDoor
namespace Go.Proofs.YtfmmeifipbpbmaaGreatDoor
set_option maxRecDepth 100000
open Go.RowKit WMath

theorem jcount_any (n : Int) (w : World) :
    Calls Tryz.prog 249 #[.int .i64 n] w fun e w' => e = .returned (.int .i64 (cnt5 n : Nat)) ∧ w' = w := by
  go_enter Tryz.func249, Tryz.ntmps249
  go_wp2
  all_goals go_ret
  all_goals
    refine ⟨ret_int ?_, rfl⟩
    unfold cnt5
    omega

theorem jzero_is (n : Nat) (o : Bool) (hn : n < Q) (ho : decide (n = 0) = o) (w : World) :
    Calls Tryz.prog 253 #[.agg (cw 6 n)] w fun e w' => e = .returned (.bool o) ∧ Below w.heap.size w w' := by
  have hat := cw_at 6
  have hz := cw6z
  have hf := cw6f
  have heq := eq6
  have hg := eqg6
  have hQ := Q_pos
  have HO := box ho
  clear ho
  go_enter Tryz.func253, Tryz.ntmps253
  go_wp2
  go_ret
  exact ⟨by rw [HO.out]; rfl, (Below.refl _ _).alloc (Nat.le_refl _) _⟩

theorem wand_is (n m v : Nat) (hn : n < Q) (hv : n &&& m = v) (w : World) :
    Calls Tryz.prog 293 #[.agg (cw 6 n), .agg (cw 6 m)] w fun e w' => e = .returned (.agg (cw 6 v)) ∧ Below w.heap.size w w' := by
  subst hv; exact wand_any n m hn w

theorem jwhole_is (n v : Nat) (s : Int) (hn : n < Q) (hv : n / 2 ^ cnt6 s = v) (w : World) :
    Calls Tryz.prog 251 #[.agg (cw 6 n), .int .i64 s] w fun e w' => e = .returned (.agg (cw 6 v)) ∧ Below w.heap.size w w' := by
  have hat := cw_at 6
  have hz := cw6z
  have hf := cw6f
  have hs0 := st0
  have hcs : ∀ x, ((cw 6 x).size = 6) = True := fun x => eq_true (cw_size 6 x)
  have HV := box hv
  clear hv
  go_enter Tryz.func251, Tryz.ntmps251
  go_wp2_with fail
  refine (wright_is n v s _ hn HV.out rfl _).mono ?_
  rintro e w1 ⟨rfl, hb1⟩
  obtain ⟨r0, r1, b1, s1⟩ := rows_two hb1
  clear hb1
  have q1 : (w1.alloc (.cells (cw 6 v) 62)).heap[w.heap.size + 1]? = some (.cells (cw 6 0) 62) := by rw [heap_below _ _ _ s1]; exact r1
  have hst := st_any (w1.alloc (.cells (cw 6 v) 62)) (w.heap.size + 1) v 0 q1
  have q2 := row_cell (setRow_row (c' := cw 6 v) q1)
  have bz : Below w.heap.size w ((w1.alloc (.cells (cw 6 v) 62)).setRow (w.heap.size + 1) (cw 6 v)) := Below.setRow (b1.alloc b1.size _) (by omega)
  go_wp2
  exact bodyPost_ret (v := .agg (cw 6 v)) (by simp [results, Tryz.results251, go_sem, q2, hf]) rfl ⟨rfl, bz⟩

theorem jrows2 (w : World) (n : Nat) : RowsL w ((w.alloc (.cells (cw 6 n) 62)).alloc (.cells (cw 6 0) 62)) [n, 0] := rowsL_new (rowsL_new (rowsL_nil w) rfl n) (by simp) 0

theorem jleft_is (n v : Nat) (s : Int) (hn : n < Q) (hv : n % 2 ^ cnt6 s = v) (w : World) :
    Calls Tryz.prog 250 #[.agg (cw 6 n), .int .i64 s] w fun e w' => e = .returned (.agg (cw 6 v)) ∧ Below w.heap.size w w' := by
  have hat := cw_at 6
  have hz := cw6z
  have hf := cw6f
  have hs0 := st0
  have hcs : ∀ x, ((cw 6 x).size = 6) = True := fun x => eq_true (cw_size 6 x)
  obtain ⟨m, hm⟩ : ∃ m, 2 ^ cnt6 s - 1 = m := ⟨_, rfl⟩
  have HV : Box (n &&& m = v) := box (by rw [← hm, jand_mask, hv])
  have HM := box hm
  have R := jrows2 w n
  obtain ⟨W0, hW0⟩ : ∃ W0, (w.alloc (.cells (cw 6 n) 62)).alloc (.cells (cw 6 0) 62) = W0 := ⟨_, rfl⟩
  rw [hW0] at R
  have c0 := row_cell (rows0 R)
  clear hv hm
  go_enter Tryz.func250, Tryz.ntmps250
  go_wp2
  clear hW0
  go_region_with (first
    | (go_at_call 294; refine (wmask_is s m HM.out _).mono ?_; rintro e w1 ⟨rfl, hb1⟩; have R1 := rowsL_below (rowsL_drew R _) hb1; have c1 := row_cell (rows0 R1))
    | (go_at_call 293; refine (wand_is n m v hn HV.out _).mono ?_; rintro e w2 ⟨rfl, hb2⟩; have R2 := rowsL_below R1 hb2; have hst := st_any w2 (w.heap.size + 1) v 0 (rows1 R2)))
  all_goals
    have R3 : RowsL w (w2.setRow (w.heap.size + 1) (cw 6 v)) [n, v] := rowsL_set R2 1 v _ (by simp) rfl rfl
    have d := row_cell (rows1 R3)
    go_wp2
    exact bodyPost_ret (v := .agg (cw 6 v)) (by simp [results, Tryz.results250, go_sem, d, hf]) rfl ⟨rfl, R3.2⟩

set_option maxRecDepth 100000 in
theorem jhalf_out (r c : Nat) (hc : c = 0 ∨ 384 < c) (w : World) :
    Calls Tryz.prog 252 #[.agg (cw 6 r), .int .i64 (c : Nat)] w fun e w' => e = .returned (.int .i64 (-1)) ∧ Below w.heap.size w w' := by
  have hat := cw_at 6
  have hz := cw6z
  have hf := cw6f
  have hh : ((c : Int) == 0) = true ∨ (((c : Int) == 0) = false ∧ decide ((384 : Int) < (c : Int)) = true) := by
    simp only [decide_eq_true_eq, beq_iff_eq, beq_eq_false_iff_ne]
    omega
  clear hc
  rcases hh with h0 | ⟨h0, h1⟩
  all_goals
    go_enter Tryz.func252, Tryz.ntmps252
    go_wp2
    go_ret
    exact ⟨rfl, (Below.refl _ _).alloc (Nat.le_refl _) _⟩

set_option maxRecDepth 100000 in
theorem jhalf_in (r k : Nat) (h : Int) (hr : r < Q) (hk : k < 384) (hh : cmpv r (2 ^ k) = h) (w : World) :
    Calls Tryz.prog 252 #[.agg (cw 6 r), .int .i64 ((k + 1 : Nat) : Int)] w fun e w' => e = .returned (.int .i64 h) ∧ Below w.heap.size w w' := by
  have hat := cw_at 6
  have hz := cw6z
  have hf := cw6f
  have hs0 := st0
  have hcs : ∀ x, ((cw 6 x).size = 6) = True := fun x => eq_true (cw_size 6 x)
  obtain ⟨c, hc⟩ : ∃ c : Int, ((k + 1 : Nat) : Int) = c := ⟨_, rfl⟩
  obtain ⟨p, hp⟩ : ∃ p, 2 ^ k = p := ⟨_, rfl⟩
  have d0 : (c == 0) = false := by simp only [beq_eq_false_iff_ne]; omega
  have d1 : decide ((384 : Int) < c) = false := by rw [decide_eq_false_iff_not]; omega
  have n1 : IntKind.i64.wrap (c - 1) = (k : Int) := by rw [wrap_i64_is _ (by omega) (by omega)]; omega
  have pQ : p < Q := by rw [← hp]; exact pow_ltQ k hk
  have q1 : 1 < Q := by have := Q_big; omega
  have HP : Box (1 * 2 ^ cnt6 (k : Int) % Q = p) := box (by rw [show cnt6 (k : Int) = k by unfold cnt6; omega, Nat.one_mul, hp, Nat.mod_eq_of_lt pQ])
  rw [hp] at hh
  have HH := box hh
  rw [hc]
  clear hh hp hc
  go_enter Tryz.func252, Tryz.ntmps252
  go_wp2_with fail
  refine (wof_al 1 (by decide) _).mono ?_
  rintro e w1 ⟨rfl, hb1⟩
  have r1 : w1.heap[w.heap.size]? = some (.cells (cw 6 r) 62) := heap_of hb1 _ _ _ (heap_alloc_last w _)
  have b1 : Below w.heap.size w w1 := ((Below.refl _ _).alloc (Nat.le_refl _) _).trans (hb1.mono (by simp))
  clear hb1
  go_wp2_with fail
  refine (wleft_is 1 p (k : Int) _ q1 HP.out rfl _).mono ?_
  rintro e w2 ⟨rfl, hb2⟩
  have r2 : w2.heap[w.heap.size]? = some (.cells (cw 6 r) 62) := heap_of hb2 _ _ _ r1
  have b2 : Below w.heap.size w w2 := b1.trans (hb2.mono b1.size)
  clear hb2 b1 r1
  have z2 : w.heap.size < w2.heap.size := (Array.getElem?_eq_some_iff.1 r2).1
  have c2 := row_cell (show (w2.alloc (.cells (cw 6 p) 62)).heap[w.heap.size]? = some (.cells (cw 6 r) 62) by rw [heap_below _ _ _ z2]; exact r2)
  go_wp2_with fail
  refine (wcmp_is r p h hr pQ HH.out _).mono ?_
  rintro e w3 ⟨rfl, hb3⟩
  have b3 : Below w.heap.size w w3 := (b2.alloc b2.size _).trans (hb3.mono (by have := b2.size; simp; omega))
  clear hb3
  go_wp2
  go_ret
  exact ⟨rfl, b3⟩

/-- What is left by c against the half of 2^c, as package jam tells it. -/
theorem jhalf_is (a c r : Nat) (h : Int) (hr : r < Q) (hc : c ≤ 385) (e : a % 2 ^ cnt6 (c : Int) = r) (hh : halfv a c = h) (w : World) :
    Calls Tryz.prog 252 #[.agg (cw 6 r), .int .i64 (c : Nat)] w fun e w' => e = .returned (.int .i64 h) ∧ Below w.heap.size w w' := by
  by_cases ho : c = 0 ∨ 384 < c
  · have : h = -1 := by rw [← hh]; unfold halfv; rw [if_pos ho]
    subst this
    exact jhalf_out r c ho w
  · obtain ⟨k, rfl⟩ : ∃ k, c = k + 1 := ⟨c - 1, by omega⟩
    refine jhalf_in r k h hr (by omega) ?_ w
    rw [← hh, ← e]
    unfold halfv
    rw [if_neg ho, Nat.add_sub_cancel, show cnt6 ((k + 1 : Nat) : Int) = k + 1 by unfold cnt6; omega]

end Go.Proofs.YtfmmeifipbpbmaaGreatDoor
namespace Go.Proofs.YtfmmeifipbpbmaaGreatDoor
set_option maxRecDepth 100000
open Go.RowKit WMath

set_option maxHeartbeats 2000000 in
theorem jcut_is (n v : Nat) (s h : Int) (o : Bool) (hn : n < Q) (hv : n / 2 ^ cnt6 s = v) (hh : halfv n (cnt5 s) = h) (ho : decide (n % 2 ^ cnt6 s = 0) = o) (w : World) :
    Calls Tryz.prog 174 #[.agg (cw 6 n), .int .i64 s] w fun e w' => e = .returned (.tuple #[.agg (cw 6 v), .int .i64 h, .bool o]) ∧ Below w.heap.size w w' := by
  have hat := cw_at 6
  have hz := cw6z
  have hf := cw6f
  have hs0 := st0
  have hcs : ∀ x, ((cw 6 x).size = 6) = True := fun x => eq_true (cw_size 6 x)
  obtain ⟨c, hc⟩ : ∃ c, cnt5 s = c := ⟨_, rfl⟩
  have c385 : c ≤ 385 := by rw [← hc]; unfold cnt5; omega
  have h65 : cnt6 (c : Int) = cnt6 s := by rw [← hc]; exact cnt65 s
  obtain ⟨r, hr⟩ : ∃ r, n % 2 ^ cnt6 (c : Int) = r := ⟨_, rfl⟩
  have rQ : r < Q := by rw [← hr]; exact Nat.lt_of_le_of_lt (Nat.mod_le _ _) hn
  rw [← h65] at hv ho
  rw [hr] at ho
  rw [hc] at hh
  have HV := box hv
  have HR := box hr
  have HC := box hc
  have HO := box ho
  have HH := box hh
  have C385 := box c385
  clear hv ho hc hr h65 hh c385
  go_enter Tryz.func174, Tryz.ntmps174
  go_wp2_with fail
  refine (jcount_any s _).mono ?_
  rw [HC.out]
  rintro e w' ⟨rfl, rfl⟩
  go_wp2_with fail
  refine (jleft_is n r (c : Int) hn HR.out _).mono ?_
  rintro e w1 ⟨rfl, hb1⟩
  have R1 : RowsL w w1 [n, 0] := rowsL_below (jrows2 w n) hb1
  clear hb1
  have z1 := rowsL_size R1 1 _ rfl
  have R := rowsL_alloc R1 (.cells (cw 6 r) 62)
  have S : (w1.alloc (.cells (cw 6 r) 62)).heap[w1.heap.size]? = some (.cells (cw 6 r) 62) := heap_alloc_last w1 _
  obtain ⟨W0, hW0⟩ : ∃ W0, w1.alloc (.cells (cw 6 r) 62) = W0 := ⟨_, rfl⟩
  rw [hW0] at R S
  have c0 := row_cell (rows0 R)
  have s0 := row_cell S
  clear R1
  go_wp2
  clear hW0
  go_region_with (first
    | (go_at_call 251; refine (jwhole_is n v (c : Int) hn HV.out _).mono ?_; rintro e w2 ⟨rfl, hb2⟩; have R2 := rowsL_below (rowsL_drew R _) hb2; have S2 := heap_of hb2 _ _ _ S; have s2 := row_cell S2)
    | (go_at_call 252; refine (jhalf_is n c r h rQ C385.out HR.out HH.out _).mono ?_; rintro e w3 ⟨rfl, hb3⟩; have R3 := rowsL_below R2 hb3; have s3 := row_cell (heap_of hb3 _ _ _ S2))
    | (go_at_call 253; refine (jzero_is r o rQ HO.out _).mono ?_; rintro e w4 ⟨rfl, hb4⟩; have R4 := rowsL_below R3 hb4; have hst := st_any w4 (w.heap.size + 1) v 0 (rows1 R4)))
  all_goals
    have R5 : RowsL w (w4.setRow (w.heap.size + 1) (cw 6 v)) [n, v] := rowsL_set R4 1 v _ (by simp) rfl rfl
    have d := row_cell (rows1 R5)
    go_wp2
    exact bodyPost_ret (v := .tuple #[.agg (cw 6 v), .int .i64 h, .bool o]) (by simp [results, Tryz.results174, go_sem, d, hf]) rfl ⟨rfl, R5.2⟩

end Go.Proofs.YtfmmeifipbpbmaaGreatDoor
namespace Go.Proofs.YtfmmeifipbpbmaaGreatDoor
set_option maxRecDepth 100000
open Go.RowKit WMath

theorem c8_made (L : Nat) : madeCells #[.int .u8 0] L = c8 L 0 := by
  apply Array.ext_getElem?
  intro i
  by_cases h : i < L
  · rw [c8_at L 0 i h, d8_zero]
    simp [madeCells, h, Nat.mod_one]
  · rw [Array.getElem?_eq_none (by rw [size_madeCells]; omega), Array.getElem?_eq_none (by rw [c8_size]; omega)]
theorem c8_cell {w : World} {b k L n : Nat} {t : TypeId} (h : w.heap[b]? = some (.cells (c8 L n) t)) (hk : k < L) : w.cell? ⟨b, k, none⟩ = some (.int .u8 (d8 n k : Nat)) := by
  rw [cell_of_row w b k _ _ _ h, c8_at L n k hk]
theorem c8_make (L : Nat) (h : L ≤ 1000000) (w : World) : (Instr.makeSlice 128 (.int .i64 (L : Int)) (.int .i64 (L : Int))).run Tryz.prog w = .ok (.slice (some ⟨w.heap.size, 0, none⟩) L L) (w.alloc (.cells (c8 L 0) 5)) := by
  rw [← c8_made]
  exact run_make_row' (P := Tryz.prog) 128 5 (.int .u8 0) 1 Tryz.underlying128 (by kernel_rfl) rfl .i64 .i64 L (by omega) (by omega) w
theorem c8_makeI (L : Nat) (k : Int) (hk : k = (L : Int)) (h : L ≤ 1000000) (w : World) : (Instr.makeSlice 128 (.int .i64 k) (.int .i64 k)).run Tryz.prog w = .ok (.slice (some ⟨w.heap.size, 0, none⟩) L L) (w.alloc (.cells (c8 L 0) 5)) := by
  subst hk; exact c8_make L h w
/-- A row of bytes as a string. -/
theorem c8_str {w : World} {b c L X : Nat} {t : TypeId} (v : ByteArray) (h : w.heap[b]? = some (.cells (c8 L X) t)) (hL : v.size = L) (hv : ∀ (k : Nat) (h1 : k < v.size), (v[k]'h1).toNat = d8 X k) :
    (convert 128 9 (.slice (some ⟨b, 0, none⟩) L c)).run Tryz.prog w = .ok (.string v) w := by
  have e : c8 L X = cb v.data.toList := by
    apply Array.ext_getElem?
    intro i
    by_cases hi : i < L
    · have hi2 : i < v.size := by rw [hL]; exact hi
      have hi3 : i < v.data.toList.length := by rw [Array.length_toList]; exact hi2
      rw [c8_at L X i hi, cb_at _ i (v[i]'hi2) (by rw [List.getElem?_eq_getElem hi3]; rfl), hv i hi2]
    · rw [Array.getElem?_eq_none (by rw [c8_size]; omega), Array.getElem?_eq_none (by rw [cb_size, Array.length_toList]; show v.size ≤ i; omega)]
  rw [e] at h
  have := str_of (c := c) h
  rw [Array.length_toList, show v.data.size = L from hL] at this
  simpa using this

theorem idx_run (s : ByteArray) (k : Nat) (i : Int) (d : Nat) (hi : i = (k : Int)) (hk : k < s.size) (hd : (s[k]'hk).toNat = d) (w : World) :
    (Instr.index 9 (.string s) (.int .i64 i)).run Tryz.prog w = .ok (.int .u8 (d : Nat)) w := by
  subst hi hd
  rw [run_index_string (P := Tryz.prog) w 9 s _ _ Tryz.underlying9, dif_pos ⟨by omega, by omega⟩]
  simp

theorem nat_at (n i d : Nat) (s : ByteArray) (hs : nbA n = s) (hd : d8 n i = d) (hn : nl n ≤ 100000) (w : World) :
    Calls Tryz.prog 96 #[.string s, .int .i64 (i : Nat)] w fun e w' => e = .returned (.int .i64 (d : Nat)) ∧ w' = w := by
  obtain ⟨L, hL⟩ : ∃ L, nl n = L := ⟨_, rfl⟩
  have hz : s.size = L := by rw [← hs, nbA_size, hL]
  rw [hL] at hn
  by_cases h : L ≤ i
  · have e : d = 0 := by rw [← hd]; exact d8_nl n i (by omega)
    subst e
    have h1 : decide (L ≤ i) = true := by rw [decide_eq_true_iff]; omega
    clear hs hd hL h
    go_enter Tryz.func96, Tryz.ntmps96
    go_wp2
    go_ret
    exact ⟨rfl, rfl⟩
  · have h1 : decide (L ≤ i) = false := by rw [decide_eq_false_iff_not]; omega
    have hk : L - 1 - i < s.size := by omega
    have hg : (s[L - 1 - i]'hk).toNat = d := by
      subst hs
      rw [nbA_get, hL, show L - 1 - (L - 1 - i) = i by omega, hd]
    have hx := idx_run s (L - 1 - i) ((L : Int) - 1 - (i : Int)) d (by omega) hk hg
    have n1 : IntKind.i64.wrap ((L : Int) - 1) = (L : Int) - 1 := wrap_i64_is _ (by omega) (by omega)
    have n2 : IntKind.i64.wrap ((L : Int) - 1 - (i : Int)) = (L : Int) - 1 - (i : Int) := wrap_i64_is _ (by omega) (by omega)
    have d256 : d < 256 := by rw [← hd]; exact d8_lt n i
    clear hs hd hL h hg hk
    go_enter Tryz.func96, Tryz.ntmps96
    go_wp2
    go_ret
    exact ⟨rfl, rfl⟩
end Go.Proofs.YtfmmeifipbpbmaaGreatDoor
namespace Go.Proofs.YtfmmeifipbpbmaaGreatDoor
set_option maxRecDepth 100000
open Go.RowKit WMath

theorem fit_low (X m : Nat) (h : X < 2 ^ (8 * (m + 1))) (hd : d8 X m = 0) : X < 2 ^ (8 * m) := by
  have := mod_d8 X m
  rw [Nat.mod_eq_of_lt h, hd, Nat.mul_zero, Nat.add_zero] at this
  rw [this]
  exact Nat.mod_lt _ (Nat.two_pow_pos _)

set_option maxHeartbeats 1000000 in
theorem nat_fit (L X b c : Nat) (v : ByteArray) (hL : L ≤ 100000) (hX : X < 2 ^ (8 * L)) (hv : nbA X = v) (w : World) (row : w.heap[b]? = some (.cells (c8 L X) 5)) :
    Calls Tryz.prog 97 #[.slice (some ⟨b, 0, none⟩) L c] w fun e w' => e = .returned (.string v) ∧ Below w.heap.size w w' := by
  have hb : b < w.heap.size := (Array.getElem?_eq_some_iff.1 row).1
  have HV := box hv
  have HX := box hX
  clear hv hX
  go_enter Tryz.func97, Tryz.ntmps97
  go_wp2
  go_loop [3] (fun iv => ∃ k : Nat, k ≤ L ∧ iv = .int .i64 k ∧ Box (X < 2 ^ (8 * k))) (fun iv => (intOf iv).toNat)
  case atStart => exact ⟨L, by omega, rfl, HX⟩
  case round =>
    obtain ⟨m, hm, rfl, HM⟩ := hrel
    have hmk := c8_make m (by omega)
    by_cases hst : m ≠ 0 ∧ d8 X (m - 1) = 0
    · obtain ⟨k, rfl⟩ : ∃ k, m = k + 1 := ⟨m - 1, by omega⟩
      have hd : d8 X k = 0 := hst.2
      have c0 := c8_cell row (show k < L by omega)
      rw [hd] at c0
      have NX := box (fit_low X k HM.out hd)
      clear hst hmk
      go_wp2
      go_round
      case rel => exact ⟨k, by omega, by go_num, NX⟩
      case measure => simp [intOf] <;> omega
    · have hnl : nl X = m := nl_is X m HM.out (by omega)
      have HN := box hnl
      have hcase : decide (0 < m) = false ∨ (decide (0 < m) = true ∧ 0 < m ∧ ((d8 X (m - 1) : Int) == 0) = false) := by
        by_cases e : m = 0
        · left; rw [decide_eq_false_iff_not]; omega
        · right
          refine ⟨by rw [decide_eq_true_iff]; omega, by omega, ?_⟩
          simp only [beq_eq_false_iff_ne]
          omega
      clear hst hnl
      rcases hcase with h0 | ⟨h0, h1, hd⟩
      all_goals
        try (have c0 := c8_cell row (show m - 1 < L by omega))
        go_wp2
        clear hmk h0
        try (clear hd c0)
        go_loopw [5] (fun iv wr => ∃ (i Y : Nat), i ≤ m ∧ iv = .int .i64 i ∧ wr.heap[w.heap.size]? = some (.cells (c8 m Y) 5) ∧ Below w.heap.size w wr ∧ Box (∀ j, j < m → m - 1 - i < j + 1 → (i = 0 → False) → (m - 1 - j < i) → d8 Y j = d8 X (m - 1 - j))) (fun iv _ => m - (intOf iv).toNat)
        case atStart => exact ⟨0, 0, by omega, rfl, heap_alloc_last _ _, (Below.refl _ _).alloc (Nat.le_refl _) _, box (fun j _ _ h => absurd rfl h)⟩
        case round =>
          obtain ⟨i, Y, hi, rfl, r0, hbw, HY⟩ := hrel
          by_cases hlt : i < m
          · have rb : wr.heap[b]? = some (.cells (c8 L X) 5) := by rw [hbw.block b hb]; exact row
            have c1 := c8_cell rb (show i < L by omega)
            have c2 := c8_cell r0 (show m - 1 - i < m by omega)
            have f0 := fz (k := m - 1 - i) r0
            have hx := d8_lt X i
            have RS : Box ((wr.setCell ⟨w.heap.size, m - 1 - i, none⟩ (.int .u8 ((d8 X i : Nat) : Int))).heap[w.heap.size]? = some (.cells (c8 m (set8 Y (m - 1 - i) (d8 X i))) 5)) := box (by rw [setCell_row r0, c8_seti m Y (m - 1 - i) _ _ (by omega) hx rfl])
            have NY : Box (∀ j, j < m → m - 1 - (i + 1) < j + 1 → (i + 1 = 0 → False) → (m - 1 - j < i + 1) → d8 (set8 Y (m - 1 - i) (d8 X i)) j = d8 X (m - 1 - j)) := box (fun j hj _ _ hji => by
              rw [d8_set8 _ _ _ _ hx]
              by_cases e : j = m - 1 - i
              · rw [if_pos e, e, show m - 1 - (m - 1 - i) = i by omega]
              · rw [if_neg e]
                exact HY.out j hj (by omega) (by omega) (by omega))
            have t1 : ((m : Int) - 1 - (i : Int)).toNat = m - 1 - i := by omega
            go_wp2
            go_roundw
            case rel => exact ⟨i + 1, _, by omega, by go_num, RS.out, hbw.setCell (Nat.le_refl _) _, NY⟩
            case measure => simp [intOf] <;> omega
          · obtain rfl : i = m := by omega
            have hsv := c8_str (c := i) v r0 (by rw [← HV.out, nbA_size]; exact HN.out) (fun k hk => by
              have hz : v.size = i := by rw [← HV.out, nbA_size]; exact HN.out
              have e := HY.out k (by omega) (by omega) (by omega) (by omega)
              rw [e]
              have hV := HV.out
              subst hV
              rw [nbA_get, HN.out])
            go_wp2
            go_ret
            exact ⟨rfl, hbw⟩

theorem nat_long_ok (s : ByteArray) (h : s.size ≤ 16384) (w : World) :
    Calls Tryz.prog 98 #[.string s] w fun e w' => e = .returned (.tuple #[.string s, .int .i64 0]) ∧ w' = w := by
  have h1 : decide ((16384 : Int) < (s.size : Int)) = false := by rw [decide_eq_false_iff_not]; omega
  have h2 : decide (16384 < s.size) = false := by rw [decide_eq_false_iff_not]; omega
  clear h
  go_enter Tryz.func98, Tryz.ntmps98
  go_wp2
  go_ret2
  exact ⟨rfl, rfl⟩
theorem nat_long_no (s : ByteArray) (h : ¬ s.size ≤ 16384) (w : World) :
    Calls Tryz.prog 98 #[.string s] w fun e w' => e = .returned (.tuple #[.string ⟨#[]⟩, .int .i64 4]) ∧ w' = w := by
  have h1 : decide ((16384 : Int) < (s.size : Int)) = true := by rw [decide_eq_true_iff]; omega
  have h2 : decide (16384 < s.size) = true := by rw [decide_eq_true_iff]; omega
  clear h
  go_enter Tryz.func98, Tryz.ntmps98
  go_wp2
  go_ret2
  exact ⟨rfl, rfl⟩

/-- Whether a string is that of a number of at most 16384 bytes. -/
def mayB (s : ByteArray) : Bool := decide (s.size ≤ 16384) && (decide (s.size = 0) || decide (∃ h : 0 < s.size, (s[0]'h).toNat ≠ 0))

theorem toList_len (s : ByteArray) : s.toList.length = s.size := by rw [ByteArray.toList_eq, Array.length_toList]; rfl
theorem eq_empty (s : ByteArray) : (s.toList == []) = decide (s.size = 0) := by
  rw [← toList_len]
  cases s.toList with
  | nil => rfl
  | cons x l => simp

theorem nat_may (s : ByteArray) (o : Bool) (ho : mayB s = o) (w : World) :
    Calls Tryz.prog 62 #[.string s] w fun e w' => e = .returned (.bool o) ∧ w' = w := by
  have d2 := eq_empty s
  by_cases h1 : s.size ≤ 16384
  · have d1 : decide ((s.size : Int) ≤ 16384) = true := by rw [decide_eq_true_iff]; omega
    by_cases h2 : s.size = 0
    · have e : o = true := by rw [← ho]; unfold mayB; rw [decide_eq_true h1, decide_eq_true h2]; rfl
      subst e
      rw [decide_eq_true h2] at d2
      clear h1 h2 ho
      go_enter Tryz.func62, Tryz.ntmps62
      go_wp2
      go_ret
      exact ⟨rfl, rfl⟩
    · rw [decide_eq_false h2] at d2
      have hp : 0 < s.size := by omega
      obtain ⟨x, hx⟩ : ∃ x, (s[0]'hp).toNat = x := ⟨_, rfl⟩
      have e : ((x : Int) != 0) = o := by
        rw [← ho]; unfold mayB
        rw [decide_eq_true h1, decide_eq_false h2, Bool.true_and, Bool.false_or]
        by_cases h0 : x = 0
        · rw [decide_eq_false (fun ⟨a, b⟩ => b (hx.trans h0)), h0]; rfl
        · rw [decide_eq_true ⟨hp, fun c => h0 (hx.symm.trans c)⟩]
          simp; omega
      have hi := idx_run s 0 0 x rfl hp hx
      clear h1 h2 ho hx
      go_enter Tryz.func62, Tryz.ntmps62
      go_wp2
      go_ret
      exact ⟨rfl, rfl⟩
  · have d1 : decide ((s.size : Int) ≤ 16384) = false := by rw [decide_eq_false_iff_not]; omega
    have e : o = false := by rw [← ho]; unfold mayB; rw [decide_eq_false h1]; rfl
    subst e
    clear h1 ho d2
    go_enter Tryz.func62, Tryz.ntmps62
    go_wp2
    go_ret
    exact ⟨rfl, rfl⟩

theorem mayB_nb (n : Nat) (h : nl n ≤ 16384) : mayB (nbA n) = true := by
  have hz := nbA_size n
  unfold mayB
  rw [show decide ((nbA n).size ≤ 16384) = true from decide_eq_true (by omega), Bool.true_and]
  by_cases h0 : (nbA n).size = 0
  · rw [decide_eq_true h0]; rfl
  · rw [decide_eq_false h0, Bool.false_or, decide_eq_true]
    exact ⟨by omega, nbA_first n _⟩
theorem mayB_is (s : ByteArray) (h : mayB s = true) : ∃ n, nbA n = s ∧ nl n ≤ 16384 := by
  unfold mayB at h
  rw [Bool.and_eq_true, Bool.or_eq_true, decide_eq_true_iff, decide_eq_true_iff, decide_eq_true_iff] at h
  obtain ⟨h1, h2⟩ := h
  obtain ⟨n, hn⟩ := nbA_of s (h2.imp id (fun ⟨a, b⟩ => ⟨a, fun c => b (by rw [c]; rfl)⟩))
  exact ⟨n, hn, by rw [← nbA_size, hn]; exact h1⟩

theorem bless_pre : ∀ (x y : List UInt8), x.length = y.length → (Op.bytesLess x y = decide (bvl x < bvl y))
  | [], [], _ => by rfl
  | [], _ :: _, h => by simp at h
  | _ :: _, [], h => by simp at h
  | a :: x, b :: y, h => by
    have hl : x.length = y.length := by simpa using h
    have ih := bless_pre x y hl
    have e : ∀ (c : UInt8) (z : List UInt8), bvl (c :: z) = c.toNat * 2 ^ (8 * z.length) + bvl z := by
      intro c z
      refine rev_ind (P := fun z => bvl (c :: z) = c.toNat * 2 ^ (8 * z.length) + bvl z) ?_ (fun l d ih => ?_) z
      · show 256 * 0 + c.toNat = c.toNat * 2 ^ (8 * 0) + 0
        simp
      · rw [← List.cons_append, bvl_snoc, ih, bvl_snoc, List.length_append, List.length_singleton, pow8, Nat.mul_add, ← Nat.mul_assoc (c.toNat)]
        omega
    have hx := bvl_lt x
    have hy := bvl_lt y
    rw [Op.bytesLess, ih, e a x, e b y, hl]
    rw [hl] at hx
    rcases Nat.lt_trichotomy a.toNat b.toNat with h1 | h1 | h1
    · have h2 : a < b := UInt8.lt_iff_toNat_lt.2 h1
      have h3 : (a.toNat + 1) * 2 ^ (8 * y.length) ≤ b.toNat * 2 ^ (8 * y.length) := Nat.mul_le_mul_right _ h1
      rw [Nat.add_mul, Nat.one_mul] at h3
      rw [decide_eq_true h2, Bool.true_or, decide_eq_true (by omega)]
    · have h2 : a = b := UInt8.toNat_inj.1 h1
      subst h2
      have h3 : ¬ a < a := fun h => Nat.lt_irrefl _ (UInt8.lt_iff_toNat_lt.1 h)
      rw [decide_eq_false h3, Bool.false_or, beq_self_eq_true, Bool.true_and]
      rw [Bool.eq_iff_iff, decide_eq_true_iff, decide_eq_true_iff]
      omega
    · have h2 : ¬ a < b := fun h => by have := UInt8.lt_iff_toNat_lt.1 h; omega
      have h3 : (b.toNat + 1) * 2 ^ (8 * y.length) ≤ a.toNat * 2 ^ (8 * y.length) := Nat.mul_le_mul_right _ h1
      rw [Nat.add_mul, Nat.one_mul] at h3
      have h4 : (a == b) = false := by simp only [beq_eq_false_iff_ne]; intro c; rw [c] at h1; omega
      rw [decide_eq_false h2, Bool.false_or, h4, Bool.false_and, decide_eq_false (by omega)]
theorem bvl_nbL (n : Nat) : bvl (nbL n) = n := by
  have h1 := bvl_lt (nbL n)
  rw [nbL_len] at h1
  refine d8_ext h1 (nl_lt n) (fun k hk => ?_)
  have h2 := bvl_d8 (nbL n) (nl n - 1 - k) (by rw [nbL_len]; omega)
  have hk2 : (nbL n).length - 1 - (nl n - 1 - k) = k := by rw [nbL_len]; omega
  rw [hk2] at h2
  rw [h2]
  have h3 := nbA_get n (nl n - 1 - k) (by rw [nbA_size]; omega)
  rw [show nl n - 1 - (nl n - 1 - k) = k by omega] at h3
  exact h3
theorem toList_nb (n : Nat) : (nbA n).toList = nbL n := by rw [ByteArray.toList_eq]; rfl
theorem bless_nb (a b : Nat) (h : nl a = nl b) : Op.bytesLess (nbA a).toList (nbA b).toList = decide (a < b) := by
  rw [toList_nb, toList_nb, bless_pre _ _ (by rw [nbL_len, nbL_len, h]), bvl_nbL, bvl_nbL]
theorem beq_nb (a b : Nat) : ((nbA a).toList == (nbA b).toList) = decide (a = b) := by
  rw [toList_nb, toList_nb, Bool.eq_iff_iff, beq_iff_eq, decide_eq_true_iff]
  constructor
  · intro h
    rw [← bvl_nbL a, h, bvl_nbL]
  · intro h; rw [h]

theorem nat_cmp (a b : Nat) (s t : ByteArray) (c : Int) (hs : nbA a = s) (ht : nbA b = t) (hc : cmpv a b = c) (w : World) :
    Calls Tryz.prog 188 #[.string s, .string t] w fun e w' => e = .returned (.int .i64 c) ∧ w' = w := by
  obtain ⟨L, hL⟩ : ∃ L, nl a = L := ⟨_, rfl⟩
  obtain ⟨M, hM⟩ : ∃ M, nl b = M := ⟨_, rfl⟩
  have hz : s.size = L := by rw [← hs, nbA_size, hL]
  have hy : t.size = M := by rw [← ht, nbA_size, hM]
  by_cases h : L = M
  · subst h
    have e1 := bless_nb a b (by rw [hL, hM])
    have e2 := beq_nb a b
    rw [hs, ht] at e1 e2
    have n1 : ((L : Int) != (L : Int)) = false := by simp
    unfold cmpv at hc
    by_cases h1 : a = b
    · rw [if_pos h1] at hc
      subst hc
      rw [decide_eq_false (by omega)] at e1
      rw [decide_eq_true h1] at e2
      clear hs ht hL hM h1
      go_enter Tryz.func188, Tryz.ntmps188
      go_wp2
      go_ret
      exact ⟨rfl, rfl⟩
    · rw [if_neg h1] at hc
      rw [decide_eq_false h1] at e2
      by_cases h2 : a < b
      · rw [if_pos h2] at hc
        subst hc
        rw [decide_eq_true h2] at e1
        clear hs ht hL hM h1 h2
        go_enter Tryz.func188, Tryz.ntmps188
        go_wp2
        go_ret
        exact ⟨rfl, rfl⟩
      · rw [if_neg h2] at hc
        subst hc
        rw [decide_eq_false h2] at e1
        clear hs ht hL hM h1 h2
        go_enter Tryz.func188, Tryz.ntmps188
        go_wp2
        go_ret
        exact ⟨rfl, rfl⟩
  · have n1 : ((L : Int) != (M : Int)) = true := by simp; omega
    have n2 : ¬ a = b := fun e => h (by rw [← hL, ← hM, e])
    unfold cmpv at hc
    rw [if_neg n2] at hc
    by_cases h2 : L < M
    · have h3 : a < b := by
        rcases Nat.lt_or_ge a b with h3 | h3
        · exact h3
        · have := nl_mono b a h3; omega
      rw [if_pos h3] at hc
      subst hc
      have n3 : decide (L < M) = true := decide_eq_true h2
      clear hs ht hL hM h n2 h2 h3
      go_enter Tryz.func188, Tryz.ntmps188
      go_wp2
      go_ret
      exact ⟨rfl, rfl⟩
    · have h3 : ¬ a < b := fun e => by have := nl_mono a b (Nat.le_of_lt e); omega
      rw [if_neg h3] at hc
      subst hc
      have n3 : decide (L < M) = false := decide_eq_false h2
      clear hs ht hL hM h n2 h2 h3
      go_enter Tryz.func188, Tryz.ntmps188
      go_wp2
      go_ret
      exact ⟨rfl, rfl⟩
end Go.Proofs.YtfmmeifipbpbmaaGreatDoor
