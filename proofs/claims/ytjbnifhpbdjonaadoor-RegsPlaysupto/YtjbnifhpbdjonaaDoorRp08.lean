/-
  What the functions that the statement reaches return: part 8 (CB, CD, CE).
-/
import Derived.Deep.MidRow
import Derived.Test.YtjbnifhpbdjonaaDoorRp07
namespace Go.Proofs.YtjbnifhpbdjonaaDoor
set_option maxRecDepth 100000
set_option maxHeartbeats 40000000
set_option maxRecDepth 100000
open Go.RowKit WMath
set_option linter.unusedSimpArgs false
set_option linter.unusedVariables false
def rf2 (X Y : Nat → Nat) : Array Value := rf X ++ rf Y
theorem rf2_size (X Y : Nat → Nat) : (rf2 X Y).size = 192 := by simp [rf2, rf_size]
theorem rf2_lo (X Y : Nat → Nat) (k : Nat) (h : k < 96) : (rf2 X Y)[k]? = some (.int .u64 (X k : Nat)) := by
  unfold rf2
  rw [Array.getElem?_append_left (by rw [rf_size]; exact h), rf_at X k h]
theorem rf2_hi (X Y : Nat → Nat) (k : Nat) (h : k < 96) : (rf2 X Y)[96 + k]? = some (.int .u64 (Y k : Nat)) := by
  unfold rf2
  rw [Array.getElem?_append_right (by rw [rf_size]; omega), rf_size, show 96 + k - 96 = k by omega, rf_at Y k h]
theorem rf2_one (X Y : Nat → Nat) : (rf2 X Y).all (·.oneCell') = true := by
  unfold rf2
  rw [Array.all_append, rf_one, rf_one]
  rfl
theorem rf2_rlo {w : World} {b : Nat} {X Y : Nat → Nat} {T : TypeId} (h : w.heap[b]? = some (.cells (rf2 X Y) T)) : w.rangeAt b 0 (rf X).toList := fun j v hv => by
  have hj : j < 96 := by have := (List.getElem?_eq_some_iff.1 hv).1; rw [Array.length_toList, rf_size] at this; exact this
  rw [Array.getElem?_toList, rf_at X j hj] at hv
  rw [Nat.zero_add]
  exact cell7 h j v ((rf2_lo X Y j hj).trans hv)
theorem rf2_rhi {w : World} {b : Nat} {X Y : Nat → Nat} {T : TypeId} (h : w.heap[b]? = some (.cells (rf2 X Y) T)) : w.rangeAt b 96 (rf Y).toList := fun j v hv => by
  have hj : j < 96 := by have := (List.getElem?_eq_some_iff.1 hv).1; rw [Array.length_toList, rf_size] at this; exact this
  rw [Array.getElem?_toList, rf_at Y j hj] at hv
  exact cell7 h (96 + j) v ((rf2_hi X Y j hj).trans hv)
theorem rf2_there {w : World} {b : Nat} {X Y : Nat → Nat} {T : TypeId} (h : w.heap[b]? = some (.cells (rf2 X Y) T)) (o : Nat) (ho : o + 96 ≤ 192) : w.there b o 96 := fun j hj => by
  refine ⟨?_, fz h⟩
  have : ∃ v, (rf2 X Y)[o + j]? = some v := ⟨_, Array.getElem?_eq_getElem (by rw [rf2_size]; omega)⟩
  obtain ⟨v, hv⟩ := this
  rw [cell7 h (o + j) v hv]
  rfl
def wrA (c : Array Value) (o : Nat) : List Value → Array Value
  | [] => c
  | v :: r => wrA (c.setIfInBounds o v) (o + 1) r
theorem wrA_at : ∀ (vs : List Value) (c : Array Value) (o i : Nat), o + vs.length ≤ c.size → (wrA c o vs)[i]? = if o ≤ i ∧ i < o + vs.length then vs[i - o]? else c[i]?
  | [], c, o, i, _ => by
    rw [if_neg (by simp only [List.length_nil]; omega)]
    rfl
  | v :: r, c, o, i, h => by
    rw [List.length_cons] at h
    show (wrA (c.setIfInBounds o v) (o + 1) r)[i]? = _
    rw [wrA_at r _ _ _ (by simp; omega), Array.getElem?_setIfInBounds]
    by_cases e : o = i
    · subst e
      rw [if_neg (by omega), if_pos rfl, if_pos (by omega), if_pos (by simp), Nat.sub_self]
      rfl
    · rw [if_neg e]
      by_cases q : o + 1 ≤ i ∧ i < o + 1 + r.length
      · rw [if_pos q, if_pos (by simp only [List.length_cons]; omega), show i - o = (i - (o + 1)) + 1 by omega, List.getElem?_cons_succ]
      · rw [if_neg q, if_neg (by simp only [List.length_cons]; omega)]
theorem setCells_row (b : Nat) : ∀ (vs : List Value) (o : Nat) (w : World) (c : Array Value) (T : TypeId), w.heap[b]? = some (.cells c T) → (w.setCells b o vs).heap[b]? = some (.cells (wrA c o vs) T)
  | [], _, _, _, _, h => h
  | v :: r, o, w, c, T, h => by
    show ((w.setCell ⟨b, o, none⟩ v).setCells b (o + 1) r).heap[b]? = some (.cells (wrA (c.setIfInBounds o v) (o + 1) r) T)
    exact setCells_row b r (o + 1) _ _ T (setCell_row h)
theorem setCells_other {b k : Nat} (h : b ≠ k) : ∀ (vs : List Value) (o : Nat) (w : World), (w.setCells b o vs).heap[k]? = w.heap[k]?
  | [], _, _ => rfl
  | v :: r, o, w => by
    show ((w.setCell ⟨b, o, none⟩ v).setCells b (o + 1) r).heap[k]? = _
    rw [setCells_other h r (o + 1) _, setCell_other h]
theorem setCells_below {B b : Nat} {a : World} (hB : B ≤ b) : ∀ (vs : List Value) (o : Nat) (w : World), Below B a w → Below B a (w.setCells b o vs)
  | [], _, _, h => h
  | v :: r, o, w, h => setCells_below hB r (o + 1) _ (h.setCell (p := ⟨b, o, none⟩) hB v)
theorem wr_lo (X Y Z : Nat → Nat) : wrA (rf2 X Y) 0 (rf Z).toList = rf2 Z Y := by
  apply Array.ext_getElem?
  intro i
  rw [wrA_at _ _ _ _ (by rw [Array.length_toList, rf_size, rf2_size]; omega), Array.length_toList, rf_size, Nat.sub_zero, Array.getElem?_toList]
  by_cases h : i < 96
  · rw [if_pos (by omega), rf_at Z i h, rf2_lo Z Y i h]
  · rw [if_neg (by omega)]
    by_cases k : i < 192
    · rw [show i = 96 + (i - 96) by omega, rf2_hi X Y _ (by omega), rf2_hi Z Y _ (by omega)]
    · rw [Array.getElem?_eq_none (by rw [rf2_size]; omega), Array.getElem?_eq_none (by rw [rf2_size]; omega)]
theorem wr_hi (X Y Z : Nat → Nat) : wrA (rf2 X Y) 96 (rf Z).toList = rf2 X Z := by
  apply Array.ext_getElem?
  intro i
  rw [wrA_at _ _ _ _ (by rw [Array.length_toList, rf_size, rf2_size]; omega), Array.length_toList, rf_size, Array.getElem?_toList]
  by_cases h : 96 ≤ i ∧ i < 96 + 96
  · rw [if_pos h, rf_at Z _ (by omega)]
    have := rf2_hi X Z (i - 96) (by omega)
    rw [show 96 + (i - 96) = i by omega] at this
    exact this.symm
  · rw [if_neg h]
    by_cases k : i < 96
    · rw [rf2_lo X Y i k, rf2_lo X Z i k]
    · rw [Array.getElem?_eq_none (by rw [rf2_size]; omega), Array.getElem?_eq_none (by rw [rf2_size]; omega)]
theorem rf2_store {w : World} {b : Nat} {c : Array Value} {X Y : Nat → Nat} {T : TypeId} (hc : c.size = 192) (h : w.heap[b]? = some (.cells c T)) : (storeCells ⟨b, 0, none⟩ (rf2 X Y).toList 0).run Tryd.prog w = .ok () (w.setRow b (rf2 X Y)) := by
  have := run_storeCells_from (P := Tryd.prog) b T (rf2 X Y).toList 0 c w h (by simp [rf2_size, hc]) (fun v hv => (Array.all_eq_true_iff_forall_mem.1 (rf2_one X Y)) v (by simpa using hv))
  have e : List.drop 192 c.toList = [] := List.drop_eq_nil_of_le (by rw [Array.length_toList, hc]; exact Nat.le_refl _)
  simpa [rf2_size, e] using this
theorem rf2_zero (w : World) : (zeroValue 34).run Tryd.prog w = .ok (.agg (rf2 (fun _ => 0) (fun _ => 0))) w := (zero_of_info (v := .agg (rf2 (fun _ => 0) (fun _ => 0))) (n := 192) (by kernel_rfl)).1 w
def inR (n : Int) : Bool := decide (0 ≤ n) && decide (n < 32)
def prN (R : Nat → Nat) (k : Nat) : Nat := R (32 + k * 2 + 1) + 18446744073709551616 * R (32 + k * 2)
def xV (R : Nat → Nat) (n : Int) : Nat × Int := if inR n = true then (R n.toNat, 0) else (0, 2)
def sxV (R : Nat → Nat) (n : Int) (v : Nat) : (Nat → Nat) × Int := if inR n = true then (if n = 0 then R else up R n.toNat v, 0) else (R, 2)
def fV (R : Nat → Nat) (n : Int) : Nat × Nat × Int := if inR n = true then (R (32 + n.toNat * 2), R (32 + n.toNat * 2 + 1), 0) else (0, 0, 2)
def sfV (R : Nat → Nat) (n : Int) (u v : Nat) : (Nat → Nat) × Int := if inR n = true then (up (up R (32 + n.toNat * 2) u) (32 + n.toNat * 2 + 1) v, 0) else (R, 2)
def gtV (R : Nat → Nat) (f n : Int) : Nat × Nat × Int := if (inR n && decide (f ≤ 3)) = true then ((bv7 (ubN f (prN R n.toNat))).1, (bv7 (ubN f (prN R n.toNat))).2, 0) else (0, 0, 2)
def lwV (R : Nat → Nat) (f n : Int) : Nat × Nat × Int := if (inR n && decide (f ≤ 3)) = true then ((bv7 (prN R n.toNat % 2 ^ wdF f)).1, (bv7 (prN R n.toNat % 2 ^ wdF f)).2, 0) else (0, 0, 2)
def ptV (R : Nat → Nat) (f n : Int) (u v : Nat) : (Nat → Nat) × Int := if (inR n && fitN f (v + 18446744073709551616 * u)) = true then (up (up R (32 + n.toNat * 2) (bv7 (v + 18446744073709551616 * u + abN f)).1) (32 + n.toNat * 2 + 1) (bv7 (v + 18446744073709551616 * u + abN f)).2, 0) else (R, 2)
theorem inR_nat {n : Int} (h : inR n = true) : ∃ k : Nat, k < 32 ∧ n = (k : Int) ∧ n.toNat = k := by
  unfold inR at h
  rw [Bool.and_eq_true, decide_eq_true_iff, decide_eq_true_iff] at h
  exact ⟨n.toNat, by omega, by omega, rfl⟩
theorem rX23 (R : Nat → Nat) (n : Int) (w : World) : Calls Tryd.prog 33 #[.agg (rf R), .int .i64 n] w fun r w' => r = .returned (.tuple #[.int .u64 ((xV R n).1 : Nat), .int .i64 (xV R n).2]) ∧ Below w.heap.size w w' := by
  unfold xV
  cases q : inR n
  · exact r23_x_no R n q w
  · obtain ⟨k, hk, rfl, e⟩ := inR_nat q
    exact r23_x R k hk w
theorem rSetX23 (R : Nat → Nat) (n : Int) (v : Nat) (w : World) : Calls Tryd.prog 30 #[.agg (rf R), .int .i64 n, .int .u64 (v : Nat)] w fun r w' => r = .returned (.tuple #[.agg (rf (sxV R n v).1), .int .i64 (sxV R n v).2]) ∧ Below w.heap.size w w' := by
  unfold sxV
  cases q : inR n
  · exact r23_setx_no R n v q w
  · obtain ⟨k, hk, rfl, e⟩ := inR_nat q
    by_cases z : k = 0
    · subst z
      exact r23_setx0 R v w
    · rw [if_pos rfl, if_neg (by omega)]
      exact r23_setx R k v hk (by omega) w
theorem rF23 (R : Nat → Nat) (n : Int) (w : World) : Calls Tryd.prog 34 #[.agg (rf R), .int .i64 n] w fun r w' => r = .returned (.tuple #[.agg #[.int .u64 ((fV R n).1 : Nat), .int .u64 ((fV R n).2.1 : Nat)], .int .i64 (fV R n).2.2]) ∧ Below w.heap.size w w' := by
  unfold fV
  cases q : inR n
  · exact r23_f_no R n q w
  · obtain ⟨k, hk, rfl, e⟩ := inR_nat q
    exact r23_f R k hk w
theorem rSetF23 (R : Nat → Nat) (n : Int) (u v : Nat) (w : World) : Calls Tryd.prog 31 #[.agg (rf R), .int .i64 n, .agg #[.int .u64 (u : Nat), .int .u64 (v : Nat)]] w fun r w' => r = .returned (.tuple #[.agg (rf (sfV R n u v).1), .int .i64 (sfV R n u v).2]) ∧ Below w.heap.size w w' := by
  unfold sfV
  cases q : inR n
  · exact r23_setf_no R n u v q w
  · obtain ⟨k, hk, rfl, e⟩ := inR_nat q
    exact r23_setf R k u v hk w
theorem is23 (n : Int) : Box (∀ w, Calls Tryd.prog 40 #[.int .i64 n] w fun r w' => r = .returned (.bool (inR n)) ∧ Below w.heap.size w w') := box (fun w => bel_st (r23_is n _ rfl w))
theorem wd23 (f : Int) : Box (∀ w, Calls Tryd.prog 54 #[.int .u8 f] w fun r w' => r = .returned (.int .i64 ((wdF f : Nat) : Int)) ∧ Below w.heap.size w w') := box (fun w => bel_st (r22_w f w))
theorem rGet23 (R : Nat → Nat) (hR : ∀ k, R k < 18446744073709551616) (f n : Int) (f0 : 0 ≤ f) (w : World) : Calls Tryd.prog 35 #[.agg (rf R), .int .u8 f, .int .i64 n] w fun r w' => r = .returned (.tuple #[.agg #[.int .u64 ((gtV R f n).1 : Nat), .int .u64 ((gtV R f n).2.1 : Nat)], .int .i64 (gtV R f n).2.2]) ∧ Below w.heap.size w w' := by
  have K := is23 n
  unfold gtV
  cases q : inR n
  · rw [q] at K
    exact r23_Get_n1 R f n w K
  · rw [q] at K
    have KW := wd23 f
    by_cases c : f ≤ 3
    · rw [decide_eq_true c]
      obtain ⟨k, hk, rfl, e⟩ := inR_nat q
      exact r23_Get_y R f k hk _ (beq_eq_false_iff_ne.2 (by have := wdF_pos f0 c; omega)) _ _ w K KW (box (fun w => rUbx_is f f0 c _ _ _ (hR _) (hR _) rfl _ _ rfl w))
    · rw [decide_eq_false c]
      rw [wdF_none c] at KW
      exact r23_Get_n2 R f n w K KW
theorem rLow23 (R : Nat → Nat) (hR : ∀ k, R k < 18446744073709551616) (f n : Int) (f0 : 0 ≤ f) (w : World) : Calls Tryd.prog 36 #[.agg (rf R), .int .u8 f, .int .i64 n] w fun r w' => r = .returned (.tuple #[.agg #[.int .u64 ((lwV R f n).1 : Nat), .int .u64 ((lwV R f n).2.1 : Nat)], .int .i64 (lwV R f n).2.2]) ∧ Below w.heap.size w w' := by
  have K := is23 n
  unfold lwV
  cases q : inR n
  · rw [q] at K
    exact r23_Low_n1 R f n w K
  · rw [q] at K
    have KW := wd23 f
    by_cases c : f ≤ 3
    · rw [decide_eq_true c]
      obtain ⟨k, hk, rfl, e⟩ := inR_nat q
      exact r23_Low_y R f k hk _ (beq_eq_false_iff_ne.2 (by have := wdF_pos f0 c; omega)) _ _ w K KW (box (fun w => rLow_is f _ _ _ (hR _) (hR _) rfl _ _ rfl w))
    · rw [decide_eq_false c]
      rw [wdF_none c] at KW
      exact r23_Low_n2 R f n w K KW
theorem rPut23 (R : Nat → Nat) (f n : Int) (u v : Nat) (hu : u < 18446744073709551616) (hv : v < 18446744073709551616) (w : World) : Calls Tryd.prog 32 #[.agg (rf R), .int .u8 f, .int .i64 n, .agg #[.int .u64 (u : Nat), .int .u64 (v : Nat)]] w fun r w' => r = .returned (.tuple #[.agg (rf (ptV R f n u v).1), .int .i64 (ptV R f n u v).2]) ∧ Below w.heap.size w w' := by
  have K := is23 n
  unfold ptV
  cases q : inR n
  · rw [q] at K
    exact r23_Put_n1 R f n u v w K
  · rw [q] at K
    have KF : Box (∀ w, Calls Tryd.prog 52 #[.int .u8 f, .agg #[.int .u64 (u : Nat), .int .u64 (v : Nat)]] w fun r w' => r = .returned (.bool (fitN f (v + 18446744073709551616 * u))) ∧ Below w.heap.size w w') := box (fun w => rFit_is f u v _ hu hv rfl w)
    cases c : fitN f (v + 18446744073709551616 * u)
    · rw [c] at KF
      exact r23_Put_n2 R f n u v w K KF
    · rw [c] at KF
      obtain ⟨k, hk, rfl, e⟩ := inR_nat q
      exact r23_Put_y R f k hk u v _ _ w K KF (box (fun w => rBox_is f u v _ hu hv rfl (of_decide_eq_true c).2 _ _ rfl w))
theorem rChange23 (R : Nat → Nat) (l : List Chg) (s : Value) (hL : l.length ≤ 1000000) (w : World) (hv : CS w s l) : Calls Tryd.prog 37 #[.agg (rf R), s] w fun r w' => r = .returned (.tuple #[.agg (rf (chgR R l).1), .int .i64 (chgR R l).2]) ∧ Below w.heap.size w w' := by
  refine r23_change R l s _ rfl hL w hv (fun n o ho => by rw [← ho]; exact is23 n) (fun R n x ok => box (fun w => ?_)) (fun R n x y ok => box (fun w => ?_))
  · have h := rSetX23 R n x w
    have i : inR n = true := by simp [okC] at ok; simp [inR]; omega
    have e : sxV R n x = (apC R ⟨false, n, x, 0, 0⟩, 0) := by unfold sxV apC; rw [if_pos i]; rfl
    rw [e] at h
    exact h
  · have h := rSetF23 R n x y w
    have i : inR n = true := by simp [okC] at ok; simp [inR]; omega
    have e : sfV R n x y = (apC R ⟨true, n, 0, x, y⟩, 0) := by unfold sfV apC; rw [if_pos i]; rfl
    rw [e] at h
    exact h
def Bnd (R : Nat → Nat) : Prop := (∀ k, R k < 18446744073709551616) ∧ R 0 = 0
theorem bnd_up {R : Nat → Nat} (h : Bnd R) {k v : Nat} (hk : k ≠ 0) (hv : v < 18446744073709551616) : Bnd (up R k v) := ⟨up_lt h.1 hv, by unfold up; rw [if_neg (by omega)]; exact h.2⟩
def ChOk (l : List Chg) : Prop := ∀ c ∈ l, c.wd < 18446744073709551616 ∧ c.hi < 18446744073709551616 ∧ c.lo < 18446744073709551616
theorem bnd_sx {R : Nat → Nat} (h : Bnd R) (n : Int) {v : Nat} (hv : v < 18446744073709551616) : Bnd (sxV R n v).1 := by
  unfold sxV
  split
  · rename_i q
    obtain ⟨k, hk, e, e2⟩ := inR_nat q
    show Bnd (if n = 0 then R else up R n.toNat v)
    split
    · exact h
    · exact bnd_up h (by omega) hv
  · exact h
theorem bnd_sf {R : Nat → Nat} (h : Bnd R) (n : Int) {u v : Nat} (hu : u < 18446744073709551616) (hv : v < 18446744073709551616) : Bnd (sfV R n u v).1 := by
  unfold sfV
  split
  · exact bnd_up (bnd_up h (by omega) hu) (by omega) hv
  · exact h
theorem bv7_lt {N u v : Nat} (hN : N < 340282366920938463463374607431768211456) (h : bv7 N = (u, v)) : u < 18446744073709551616 ∧ v < 18446744073709551616 := by
  unfold bv7 at h
  cases h
  omega
theorem bnd_pt {R : Nat → Nat} (h : Bnd R) (f n : Int) {u v : Nat} (hu : u < 18446744073709551616) (hv : v < 18446744073709551616) : Bnd (ptV R f n u v).1 := by
  unfold ptV
  split
  · rename_i q
    rw [Bool.and_eq_true] at q
    have fit := (of_decide_eq_true q.2).2
    have W := wdF_le f
    have e : v + 18446744073709551616 * u + abN f < 340282366920938463463374607431768211456 := by
      have : 2 ^ wdF f ≤ 2 ^ 128 := Nat.pow_le_pow_right (by decide) W
      rw [show (2 : Nat) ^ 128 = 340282366920938463463374607431768211456 from rfl] at this
      unfold abN
      rw [show (2 : Nat) ^ 128 = 340282366920938463463374607431768211456 from rfl]
      omega
    have b := bv7_lt e (show bv7 _ = (_, _) from rfl)
    exact bnd_up (bnd_up h (by omega) b.1) (by omega) b.2
  · exact h
theorem bnd_ap {R : Nat → Nat} (h : Bnd R) {c : Chg} (hc : c.wd < 18446744073709551616 ∧ c.hi < 18446744073709551616 ∧ c.lo < 18446744073709551616) (ok : okC c = true) : Bnd (apC R c) := by
  have n0 : 0 ≤ c.n := by simp [okC] at ok; omega
  unfold apC
  split
  · exact bnd_up (bnd_up h (by omega) hc.2.1) (by omega) hc.2.2
  · split
    · exact h
    · exact bnd_up h (by omega) hc.1
theorem bnd_fold : ∀ (l : List Chg) (R : Nat → Nat), Bnd R → ChOk l → l.all okC = true → Bnd (l.foldl apC R)
  | [], _, h, _, _ => h
  | c :: l, R, h, hc, ho => bnd_fold l _ (bnd_ap h (hc c (by simp)) (List.all_eq_true.1 ho c (by simp))) (fun d hd => hc d (by simp [hd])) (List.all_eq_true.2 fun d hd => List.all_eq_true.1 ho d (by simp [hd]))
theorem bnd_ch {R : Nat → Nat} (h : Bnd R) {l : List Chg} (hl : ChOk l) : Bnd (chgR R l).1 := by
  unfold chgR
  split
  · rename_i q
    exact bnd_fold l R h hl q
  · exact h
def CLt (w : World) (b : Nat) (sv : Value) (l : List Chg) : Prop := (sv = .slice none 0 0 ∧ l = []) ∨ ∃ (ad : Addr) (L cv : Nat), sv = .slice (some ad) L cv ∧ l.length = L ∧ L ≤ cv ∧ (L = 0 ∨ (ad.spot = none ∧ ad.block < w.heap.size)) ∧ Box (∀ W, Only b w W → ∀ j u, (chsC l)[j]? = some u → W.cell? (ad.add j) = some u)
theorem CLt.cs {w : World} {b : Nat} {sv : Value} {l : List Chg} (h : CLt w b sv l) : ∀ W, Below w.heap.size w W → CS W sv l := by
  intro W bW
  rcases h with ⟨rfl, rfl⟩ | ⟨ad, L, cv, rfl, hl, hc, hs, HC⟩
  · exact ⟨none, 0, rfl, fun h => absurd rfl h⟩
  · refine ⟨some ad, cv, by rw [hl], fun hne => ?_⟩
    have hL : L ≠ 0 := fun z => hne (List.length_eq_zero_iff.1 (hl.trans z))
    obtain ⟨hsp, hbl⟩ := hs.resolve_left hL
    obtain ⟨g, z, sp⟩ := ad
    obtain rfl : sp = none := hsp
    refine ⟨g, z, rfl, Nat.lt_of_lt_of_le hbl bW.size, fun j u hj => ?_⟩
    have := HC.out W (Only.ofBelow bW (Nat.le_refl _)) j u hj
    rw [show (⟨g, z, none⟩ : Addr).add j = ⟨g, z + j, none⟩ from by unfold Addr.add; split <;> simp_all] at this
    exact this
theorem both_all {T : World → Prop} (FB : Box (∀ {w w' : World}, T w → Below w.heap.size w w' → T w')) (rg : (Nat → Nat) → Array Value) (tg : TypeId) (PX : Box (∀ (R : Nat → Nat) (b : Nat) (n : Int) w, Bnd R → T w → w.heap[b]? = some (.cells (rg R) tg) → Calls Tryd.prog 20 #[.pointer (some ⟨b, 0, none⟩), .int .i64 n] w fun r w' => r = .returned (.tuple #[.int .u64 ((xV R n).1 : Nat), .int .i64 (xV R n).2]) ∧ Below w.heap.size w w')) (PF : Box (∀ (R : Nat → Nat) (b : Nat) (n : Int) w, Bnd R → T w → w.heap[b]? = some (.cells (rg R) tg) → Calls Tryd.prog 21 #[.pointer (some ⟨b, 0, none⟩), .int .i64 n] w fun r w' => r = .returned (.tuple #[.agg #[.int .u64 ((fV R n).1 : Nat), .int .u64 ((fV R n).2.1 : Nat)], .int .i64 (fV R n).2.2]) ∧ Below w.heap.size w w')) (PG : Box (∀ (R : Nat → Nat) (b : Nat) (f n : Int) w, Bnd R → 0 ≤ f → f ≤ 255 → T w → w.heap[b]? = some (.cells (rg R) tg) → Calls Tryd.prog 22 #[.pointer (some ⟨b, 0, none⟩), .int .u8 f, .int .i64 n] w fun r w' => r = .returned (.tuple #[.agg #[.int .u64 ((gtV R f n).1 : Nat), .int .u64 ((gtV R f n).2.1 : Nat)], .int .i64 (gtV R f n).2.2]) ∧ Below w.heap.size w w')) (PL : Box (∀ (R : Nat → Nat) (b : Nat) (f n : Int) w, Bnd R → 0 ≤ f → f ≤ 255 → T w → w.heap[b]? = some (.cells (rg R) tg) → Calls Tryd.prog 23 #[.pointer (some ⟨b, 0, none⟩), .int .u8 f, .int .i64 n] w fun r w' => r = .returned (.tuple #[.agg #[.int .u64 ((lwV R f n).1 : Nat), .int .u64 ((lwV R f n).2.1 : Nat)], .int .i64 (lwV R f n).2.2]) ∧ Below w.heap.size w w')) (PSX : Box (∀ (R : Nat → Nat) (b : Nat) (n : Int) (x : Nat) w, Bnd R → x < 18446744073709551616 → T w → w.heap[b]? = some (.cells (rg R) tg) → Calls Tryd.prog 25 #[.pointer (some ⟨b, 0, none⟩), .int .i64 n, .int .u64 (x : Nat)] w fun r w' => r = .returned (.int .i64 (sxV R n x).2) ∧ w'.heap[b]? = some (.cells (rg (sxV R n x).1) tg) ∧ Only b w w')) (PSF : Box (∀ (R : Nat → Nat) (b : Nat) (n : Int) (u v : Nat) w, Bnd R → u < 18446744073709551616 → v < 18446744073709551616 → T w → w.heap[b]? = some (.cells (rg R) tg) → Calls Tryd.prog 26 #[.pointer (some ⟨b, 0, none⟩), .int .i64 n, .agg #[.int .u64 (u : Nat), .int .u64 (v : Nat)]] w fun r w' => r = .returned (.int .i64 (sfV R n u v).2) ∧ w'.heap[b]? = some (.cells (rg (sfV R n u v).1) tg) ∧ Only b w w')) (PP : Box (∀ (R : Nat → Nat) (b : Nat) (f n : Int) (u v : Nat) w, Bnd R → 0 ≤ f → f ≤ 255 → u < 18446744073709551616 → v < 18446744073709551616 → T w → w.heap[b]? = some (.cells (rg R) tg) → Calls Tryd.prog 27 #[.pointer (some ⟨b, 0, none⟩), .int .u8 f, .int .i64 n, .agg #[.int .u64 (u : Nat), .int .u64 (v : Nat)]] w fun r w' => r = .returned (.int .i64 (ptV R f n u v).2) ∧ w'.heap[b]? = some (.cells (rg (ptV R f n u v).1) tg) ∧ Only b w w')) (PC : Box (∀ (R : Nat → Nat) (b : Nat) (l : List Chg) (s1 : Value) w, Bnd R → ChOk l → l.length ≤ 1000000 → T w → w.heap[b]? = some (.cells (rg R) tg) → CS w s1 l → Calls Tryd.prog 28 #[.pointer (some ⟨b, 0, none⟩), s1] w fun r w' => r = .returned (.int .i64 (chgR R l).2) ∧ w'.heap[b]? = some (.cells (rg (chgR R l).1) tg) ∧ Only b w w'))
    (R : Nat → Nat) (b : Nat) (how on n fm : Int) (X u v : Nat) (sv : Value) (l : List Chg) (hR : Bnd R) (hX : X < 18446744073709551616) (hu : u < 18446744073709551616) (hv : v < 18446744073709551616) (f0 : 0 ≤ fm) (f1 : fm ≤ 255) (hl : ChOk l) (hL : l.length ≤ 1000000) (w : World) (hs : CLt w b sv l) (hT : T w) (hb : w.heap[b]? = some (.cells (rg R) tg)) :
    ∃ R', Bnd R' ∧ Calls Tryd.prog 11 #[.pointer (some ⟨b, 0, none⟩), .agg (rf R), .agg #[.int .i64 how, .int .i64 on, .int .i64 n, .int .u64 (X : Nat), .int .u64 (u : Nat), .int .u64 (v : Nat), .int .u8 fm, sv]] w fun r w' => r = .returned (.tuple #[.agg (rf R'), .bool true]) ∧ w'.heap[b]? = some (.cells (rg R') tg) ∧ Only b w w' := by
  have rd : ∀ V, (Calls Tryd.prog 11 #[.pointer (some ⟨b, 0, none⟩), .agg (rf R), .agg V] w fun r w' => r = .returned (.tuple #[.agg (rf R), .bool true]) ∧ Below w.heap.size w w') → Calls Tryd.prog 11 #[.pointer (some ⟨b, 0, none⟩), .agg (rf R), .agg V] w fun r w' => r = .returned (.tuple #[.agg (rf R), .bool true]) ∧ w'.heap[b]? = some (.cells (rg R) tg) ∧ Only b w w' :=
    fun V h => h.mono fun _ w' ⟨e, q⟩ => ⟨e, heap_of q _ _ _ hb, Only.ofBelow q (Nat.le_refl _)⟩
  by_cases ch : how = 0 ∨ how = 1 ∨ how = 2 ∨ how = 3 ∨ how = 4 ∨ how = 5 ∨ how = 6
  · obtain ⟨ao, L, cv, rfl⟩ : ∃ ao L cv, sv = .slice ao L cv := by
      rcases hs with ⟨rfl, _⟩ | ⟨ad, L, cv, rfl, _⟩ <;> exact ⟨_, _, _, rfl⟩
    rcases ch with rfl | rfl | rfl | rfl | rfl | rfl | rfl
    · exact ⟨_, bnd_sx hR n hX, bt_0 FB rg tg R _ b on n fm _ X u v ao L cv (by unfold sxV; split <;> rfl) (box (fun w => rSetX23 R n X w)) (box (fun w hT hb => PSX.out R b n X w hR hX hT hb)) w hT hb⟩
    · exact ⟨_, bnd_sf hR n hu hv, bt_1 FB rg tg R _ b on n fm _ X u v ao L cv (by unfold sfV; split <;> rfl) (box (fun w => rSetF23 R n u v w)) (box (fun w hT hb => PSF.out R b n u v w hR hu hv hT hb)) w hT hb⟩
    · exact ⟨_, bnd_pt hR fm n hu hv, bt_2 FB rg tg R _ b on n fm _ X u v ao L cv (by unfold ptV; split <;> rfl) (box (fun w => rPut23 R fm n u v hu hv w)) (box (fun w hT hb => PP.out R b fm n u v w hR f0 f1 hu hv hT hb)) w hT hb⟩
    · exact ⟨R, hR, rd _ (bt_3 FB rg tg R b on n fm _ X u v _ 0 ao L cv (by unfold xV; split <;> rfl) (box (fun w => rX23 R n w)) (box (fun w hT hb => PX.out R b n w hR hT hb)) w hT hb)⟩
    · exact ⟨R, hR, rd _ (bt_4 FB rg tg R b on n fm _ X u v _ _ ao L cv (by unfold fV; split <;> rfl) (box (fun w => rF23 R n w)) (box (fun w hT hb => PF.out R b n w hR hT hb)) w hT hb)⟩
    · exact ⟨R, hR, rd _ (bt_5 FB rg tg R b on n fm _ X u v _ _ ao L cv (by unfold gtV; split <;> rfl) (box (fun w => rGet23 R hR.1 fm n f0 w)) (box (fun w hT hb => PG.out R b fm n w hR f0 f1 hT hb)) w hT hb)⟩
    · exact ⟨R, hR, rd _ (bt_6 FB rg tg R b on n fm _ X u v _ _ ao L cv (by unfold lwV; split <;> rfl) (box (fun w => rLow23 R hR.1 fm n f0 w)) (box (fun w hT hb => PL.out R b fm n w hR f0 f1 hT hb)) w hT hb)⟩
  · have hq : Box ((how == 0) = false ∧ (how == 1) = false ∧ (how == 2) = false ∧ (how == 3) = false ∧ (how == 4) = false ∧ (how == 5) = false ∧ (how == 6) = false) := box (by simp only [beq_eq_false_iff_ne, ne_eq]; omega)
    have KD : Box (∀ W, Below w.heap.size w W → Calls Tryd.prog 37 #[.agg (rf R), sv] W fun r w' => r = .returned (.tuple #[.agg (rf (chgR R l).1), .int .i64 (chgR R l).2]) ∧ Below W.heap.size W w') := box (fun W bW => rChange23 R l sv hL W (hs.cs W bW))
    have KP : Box (∀ w s1, T w → w.heap[b]? = some (.cells (rg R) tg) → CS w s1 l → Calls Tryd.prog 28 #[.pointer (some ⟨b, 0, none⟩), s1] w fun r w' => r = .returned (.int .i64 (chgR R l).2) ∧ w'.heap[b]? = some (.cells (rg (chgR R l).1) tg) ∧ Only b w w') := box (fun w s1 hT hb hc => PC.out R b l s1 w hR hl hL hT hb hc)
    have he : IntKind.i64.wrap (chgR R l).2 = (chgR R l).2 := by unfold chgR; split <;> rfl
    refine ⟨_, bnd_ch hR hl, ?_⟩
    rcases hs with ⟨rfl, e⟩ | ⟨ad, L, cv, rfl, hlL, hc, hsp, HC⟩
    · exact bt_7n FB rg tg R _ b how on n fm _ X u v l e he hq w KD KP hT hb
    · rcases hsp with z | ⟨z, _⟩
      · exact bt_7z FB rg tg R _ b how on n fm _ X u v l ad L cv z hlL (by omega) hc he hq w HC KD KP hT hb
      · obtain ⟨g, za, sp⟩ := ad
        obtain rfl : sp = none := z
        exact bt_7s FB rg tg R _ b how on n fm _ X u v l g za L cv hlL (by omega) hc he hq w HC KD KP hT hb
end Go.Proofs.YtjbnifhpbdjonaaDoor
