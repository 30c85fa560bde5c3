/-
  Package shape: the formats one by one (a function that ranges are over).
-/
import Derived.RangeFuncNested
import Derived.RangeFuncBound
import Derived.RangeFuncCalls
import Derived.RangeFuncLeaves
import Derived.RangeFuncFrom
import Derived.Shelf.Abstract
import Derived.Shelf.RegionOpen
import Derived.WalkKit
import Derived.OwnWalkIn
import Derived.TacticsInMore
import Derived.LoopNIn
import Derived.LoopIn
import Derived.Test.YtjbefkceieklmaaDoorS6
namespace Go.Proofs.YtjbefkceieklmaaDoor
open Go.RowKit Go.Shelf WMath
set_option linter.unusedVariables false
set_option linter.unusedSimpArgs false
attribute [local go_sem] Oper.semAt_some

/-- A format. -/
abbrev F4 := { x : Int // Is4 x }
/-- The formats, in the order of their widths. -/
def fL : List F4 := [⟨2, Or.inr (Or.inr (Or.inl rfl))⟩, ⟨0, Or.inl rfl⟩, ⟨1, Or.inr (Or.inl rfl)⟩, ⟨3, Or.inr (Or.inr (Or.inr rfl))⟩]

theorem all_in (F : Fence) (n : Nat) (h : F.fn 41) (hro : F.round = none) (w : World) :
    CallsIn F n Tryd.prog 41 #[] w fun e w' => e = .returned (.func (.func 56) #[] #[]) ∧ w' = w := by
  refine callsIn_of_wp Tryd.func41 rfl h ?_ hro
  simp only [Tryd.ntmps41, List.size_toArray, List.length_cons, List.length_nil, Nat.reduceAdd, Nat.reduceSub, Array.replicate_succ, Array.replicate_zero, List.push_toArray, List.append_toArray, List.nil_append, List.cons_append]
  gi_wp2
  go_ret
  exact ⟨rfl, rfl⟩

set_option maxRecDepth 100000 in
set_option maxHeartbeats 2000000 in
theorem all1_stops (F : Fence) (n : Nat) (h : F.fn 56) (hro : F.round = none) (hn : 1 ≤ n) (w : World) :
    SeqStopsK F n Tryd.prog 56 #[] (fun x : F4 => #[Value.int .u8 x.1]) (fun _ _ => True) (fun ys => ys = fL) (fun pre => pre <+: fL) 4 w := fun l J Jx W hW hJ hJx hY h0 => by
  refine callsIn_of_wp Tryd.func56 rfl h ?_ hro
  simp only [Tryd.ntmps56, List.size_toArray, List.length_cons, List.length_nil, Nat.reduceAdd, Nat.reduceSub, Array.replicate_succ, Array.replicate_zero, List.push_toArray, List.append_toArray, List.nil_append, List.cons_append]
  gi_wp2
  gi_loopw [5] (fun i wr => ∃ k : Nat, k ≤ 4 ∧ i = .int .i64 k ∧ J (fL.take k) wr) (fun i _ => 4 - (intOf i).toNat)
  case atStart => exact ⟨0, by omega, rfl, h0⟩
  case round =>
    obtain ⟨k, hk, rfl, hJs⟩ := hrel
    by_cases hlt : k < 4
    · have h4 : k = 0 ∨ k = 1 ∨ k = 2 ∨ k = 3 := by omega
      rcases h4 with rfl | rfl | rfl | rfl
      · obtain ⟨fn, tmps, assign, body, hy, hR⟩ := hY _ ⟨2, Or.inr (Or.inr (Or.inl rfl))⟩ wr hJs (by decide)
        have hix : ∀ w : World, (Instr.index 74 (.agg #[.int .u8 2, .int .u8 0, .int .u8 1, .int .u8 3]) (.int .i64 0)).run Tryd.prog w = .ok (.int .u8 2) w := fun _ => by kernel_rfl
        try dsimp only at hy
        gi_wp2
        refine hR.mono ?_
        rintro e W3 (⟨rfl, hJ3, hk3⟩ | ⟨rfl, hJx3⟩)
        · gi_wp2
          go_roundw
          case rel => exact ⟨1, by omega, by simp, hJ3⟩
          case measure => simp [intOf]
        · gi_wp2
          refine bodyPost_ret (results_none rfl _ _ _) rfl ?_
          exact ⟨⟨_, rfl⟩, .inr ⟨_, List.take_prefix 1 fL, hJx3⟩⟩
      · obtain ⟨fn, tmps, assign, body, hy, hR⟩ := hY _ ⟨0, Or.inl rfl⟩ wr hJs (by decide)
        have hix : ∀ w : World, (Instr.index 74 (.agg #[.int .u8 2, .int .u8 0, .int .u8 1, .int .u8 3]) (.int .i64 1)).run Tryd.prog w = .ok (.int .u8 0) w := fun _ => by kernel_rfl
        try dsimp only at hy
        gi_wp2
        refine hR.mono ?_
        rintro e W3 (⟨rfl, hJ3, hk3⟩ | ⟨rfl, hJx3⟩)
        · gi_wp2
          go_roundw
          case rel => exact ⟨2, by omega, by simp, hJ3⟩
          case measure => simp [intOf]
        · gi_wp2
          refine bodyPost_ret (results_none rfl _ _ _) rfl ?_
          exact ⟨⟨_, rfl⟩, .inr ⟨_, List.take_prefix 2 fL, hJx3⟩⟩
      · obtain ⟨fn, tmps, assign, body, hy, hR⟩ := hY _ ⟨1, Or.inr (Or.inl rfl)⟩ wr hJs (by decide)
        have hix : ∀ w : World, (Instr.index 74 (.agg #[.int .u8 2, .int .u8 0, .int .u8 1, .int .u8 3]) (.int .i64 2)).run Tryd.prog w = .ok (.int .u8 1) w := fun _ => by kernel_rfl
        try dsimp only at hy
        gi_wp2
        refine hR.mono ?_
        rintro e W3 (⟨rfl, hJ3, hk3⟩ | ⟨rfl, hJx3⟩)
        · gi_wp2
          go_roundw
          case rel => exact ⟨3, by omega, by simp, hJ3⟩
          case measure => simp [intOf]
        · gi_wp2
          refine bodyPost_ret (results_none rfl _ _ _) rfl ?_
          exact ⟨⟨_, rfl⟩, .inr ⟨_, List.take_prefix 3 fL, hJx3⟩⟩
      · obtain ⟨fn, tmps, assign, body, hy, hR⟩ := hY _ ⟨3, Or.inr (Or.inr (Or.inr rfl))⟩ wr hJs (by decide)
        have hix : ∀ w : World, (Instr.index 74 (.agg #[.int .u8 2, .int .u8 0, .int .u8 1, .int .u8 3]) (.int .i64 3)).run Tryd.prog w = .ok (.int .u8 3) w := fun _ => by kernel_rfl
        try dsimp only at hy
        gi_wp2
        refine hR.mono ?_
        rintro e W3 (⟨rfl, hJ3, hk3⟩ | ⟨rfl, hJx3⟩)
        · gi_wp2
          go_roundw
          case rel => exact ⟨4, by omega, by simp, hJ3⟩
          case measure => simp [intOf]
        · gi_wp2
          refine bodyPost_ret (results_none rfl _ _ _) rfl ?_
          exact ⟨⟨_, rfl⟩, .inr ⟨_, List.take_prefix 4 fL, hJx3⟩⟩
    · obtain rfl : k = 4 := by omega
      gi_wp2
      first | go_end0 | go_ret
      exact ⟨⟨_, rfl⟩, .inl ⟨fL, rfl, hJs⟩⟩

theorem keep7 (W : World) (a b : Addr) (u v : Value) : KeepsOthers W ((W.setCell a u).setCell b v).drew :=
  ((KeepsOthers.setCell W a u).trans (KeepsOthers.setCell _ b v)).trans (KeepsOthers.drew _)
theorem set8a {W : World} {b : Nat} {u v u' v' : Value} (h : W.cell? ⟨b + 1, 0, none⟩ = some u) (k : W.cell? ⟨b + 1 + 1, 0, none⟩ = some v) : ((W.setCell ⟨b + 1, 0, none⟩ u').setCell ⟨b + 1 + 1, 0, none⟩ v').cell? ⟨b + 1, 0, none⟩ = some u' :=
  (World.cell?_setCell_other _ ⟨b + 1 + 1, 0, none⟩ ⟨b + 1, 0, none⟩ _ (by intro e; injection e with e1; omega)).trans (World.cell?_setCell_same _ _ _ h)
theorem set8b {W : World} {b : Nat} {u v u' v' : Value} (h : W.cell? ⟨b + 1, 0, none⟩ = some u) (k : W.cell? ⟨b + 1 + 1, 0, none⟩ = some v) : ((W.setCell ⟨b + 1, 0, none⟩ u').setCell ⟨b + 1 + 1, 0, none⟩ v').cell? ⟨b + 1 + 1, 0, none⟩ = some v' :=
  World.cell?_setCell_same _ _ _ (u := v) ((World.cell?_setCell_other _ ⟨b + 1, 0, none⟩ ⟨b + 1 + 1, 0, none⟩ _ (by intro e; injection e with e1; omega)).trans k)
theorem set7a {W : World} {b : Nat} {u v u' v' : Value} (h : W.cell? ⟨b + 1, 0, none⟩ = some u) (k : W.cell? ⟨b + 1 + 1, 0, none⟩ = some v) : ((W.setCell ⟨b + 1, 0, none⟩ u').setCell ⟨b + 1 + 1, 0, none⟩ v').drew.cell? ⟨b + 1, 0, none⟩ = some u' := set8a h k
theorem set7b {W : World} {b : Nat} {u v u' v' : Value} (h : W.cell? ⟨b + 1, 0, none⟩ = some u) (k : W.cell? ⟨b + 1 + 1, 0, none⟩ = some v) : ((W.setCell ⟨b + 1, 0, none⟩ u').setCell ⟨b + 1 + 1, 0, none⟩ v').drew.cell? ⟨b + 1 + 1, 0, none⟩ = some v' := set8b h k
theorem set7c {w W : World} {u v : Value} (hB : Below w.heap.size w W) : Below w.heap.size w ((W.setCell ⟨w.heap.size + 1, 0, none⟩ u).setCell ⟨w.heap.size + 1 + 1, 0, none⟩ v).drew :=
  bel_dr ((hB.setCell (p := ⟨w.heap.size + 1, 0, none⟩) (by simp) _).setCell (p := ⟨w.heap.size + 1 + 1, 0, none⟩) (by simp; omega) _)
theorem beq7 (l : List UInt8) (s : ByteArray) : (l == s.toList) = decide ((⟨l.toArray⟩ : ByteArray) = s) := by
  rw [Bool.eq_iff_iff, beq_iff_eq, decide_eq_true_iff, ByteArray.toList_eq]
  constructor
  · intro e
    subst e
    obtain ⟨⟨l⟩⟩ := s
    rfl
  · intro e
    subst e
    rfl
theorem nbeq7 (l : List UInt8) (s : ByteArray) (h : ¬ (⟨l.toArray⟩ : ByteArray) = s) : (l == s.toList) = false := by
  rw [beq7, decide_eq_false h]

/-- The format of that name, and the error. -/
def nV (s : ByteArray) : Int × Int := if s = fN 2 then (2, 0) else if s = fN 0 then (0, 0) else if s = fN 1 then (1, 0) else if s = fN 3 then (3, 0) else (0, 2)
theorem nV_some (x : F4) (s : ByteArray) (h : fN x.1 = s) : nV s = (x.1, 0) := by
  subst h
  obtain ⟨x, hx⟩ := x
  rcases hx with rfl | rfl | rfl | rfl <;> decide
theorem nV_none (s : ByteArray) (h : ∀ x ∈ fL, ¬ fN x.1 = s) : nV s = (0, 2) := by
  unfold nV
  rw [if_neg (fun e => h ⟨2, Or.inr (Or.inr (Or.inl rfl))⟩ (by simp [fL]) e.symm), if_neg (fun e => h ⟨0, Or.inl rfl⟩ (by simp [fL]) e.symm), if_neg (fun e => h ⟨1, Or.inr (Or.inl rfl)⟩ (by simp [fL]) e.symm), if_neg (fun e => h ⟨3, Or.inr (Or.inr (Or.inr rfl))⟩ (by simp [fL]) e.symm)]

set_option maxRecDepth 100000 in
set_option maxHeartbeats 2000000 in
theorem named_in (F : Fence) (n : Nat) (h1 : F.fn 38) (h2 : F.fn 41) (h3 : F.fn 56) (hro : F.round = none) (hn : 3 ≤ n) (s : ByteArray) (x0 e0 : Int) (hv : nV s = (x0, e0)) (w : World) (hT : FAt w) :
    CallsIn F n Tryd.prog 38 #[.string s] w fun e W' => e = .returned (.tuple #[.int .u8 x0, .int .i64 e0]) ∧ Below w.heap.size w W' := by
  have h1' : 1 ≤ n := by omega
  refine callsIn_of_wp_marks Tryd.func38 rfl h1 ?_ hro
  simp only [Tryd.ntmps38, List.size_toArray, List.length_cons, List.length_nil, Nat.reduceAdd, Nat.reduceSub, Array.replicate_succ, Array.replicate_zero, List.push_toArray, List.append_toArray, List.nil_append, List.cons_append]
  gi_wp2_with (gi_at_call 41; refine (all_in F (n - 1) h2 hro _).mono ?_; rintro e w' ⟨rfl, rfl⟩)
  have R0 := row_al (row_al (last7 w (.cells #[.string s] 9)) (.cells #[.int .u8 0] 22)) (.cells #[.int .i64 0] 27)
  have R1 : (((w.alloc (.cells #[.string s] 9)).alloc (.cells #[.int .u8 0] 22)).alloc (.cells #[.int .i64 0] 27)).heap[w.heap.size + 1]? = some (.cells #[.int .u8 0] 22) := row_al (row_last (by simp only [size_al])) _
  have R2 : (((w.alloc (.cells #[.string s] 9)).alloc (.cells #[.int .u8 0] 22)).alloc (.cells #[.int .i64 0] 27)).heap[w.heap.size + 1 + 1]? = some (.cells #[.int .i64 0] 27) := row_last (by simp only [size_al])
  have hB0 : Below w.heap.size w (((w.alloc (.cells #[.string s] 9)).alloc (.cells #[.int .u8 0] 22)).alloc (.cells #[.int .i64 0] 27)) := bel_al (bel_al (bal7 _ _) _) _
  refine wpIn_rangeFunc_ownF hro h1' (gf := 56) (lb := #[]) rfl h3 (enters_of Tryd.func56 (by kernel_rfl) rfl)
    (all1_stops F (n - 1) h3 hro (by omega) _) (fun _ _ => trivial) (fun _ _ _ _ _ _ _ _ => trivial) (Below.refl _ _) (fun _ => rfl)
    (fun pre W => ((∀ y ∈ pre, ¬ fN y.1 = s) ∧ W.cell? ⟨w.heap.size, 0, none⟩ = some (.string s) ∧ (W.cell? ⟨w.heap.size + 1, 0, none⟩ = some (.int .u8 0) ∧ W.frozen? ⟨w.heap.size + 1, 0, none⟩ = false) ∧ (W.cell? ⟨w.heap.size + 1 + 1, 0, none⟩ = some (.int .i64 0) ∧ W.frozen? ⟨w.heap.size + 1 + 1, 0, none⟩ = false)) ∧ Below w.heap.size w W)
    (fun c pre W => (c = .ret ∧ ∃ x : F4, fN x.1 = s ∧ W.cell? ⟨w.heap.size + 1, 0, none⟩ = some (.int .u8 x.1) ∧ W.cell? ⟨w.heap.size + 1 + 1, 0, none⟩ = some (.int .i64 0)) ∧ Below w.heap.size w W)
    (OwnFrom.and (Own.from (fun s A B row hs hg hr => ⟨hs.1, cell_kept hs.2.1 hg hr, ⟨cell_kept hs.2.2.1.1 hg hr, (frozen_kept hs.2.2.1.1 hg hr).trans hs.2.2.1.2⟩, cell_kept hs.2.2.2.1 hg hr, (frozen_kept hs.2.2.2.1 hg hr).trans hs.2.2.2.2⟩) _) (ownFrom_below (Nat.le_refl _) (by simp; omega)))
    (fun c => OwnFrom.and (Own.from (fun s A B row hs hg hr => ⟨hs.1, by obtain ⟨x, e, k1, k2⟩ := hs.2; exact ⟨x, e, cell_kept k1 hg hr, cell_kept k2 hg hr⟩⟩) _) (ownFrom_below (Nat.le_refl _) (by simp; omega)))
    ⟨⟨by simp, cell7 R0 0 _ rfl, ⟨cell7 R1 0 _ rfl, fz R1⟩, cell7 R2 0 _ rfl, fz R2⟩, hB0⟩
    (fun x => { tmps := #[.string s, .pointer (some ⟨w.heap.size, 0, none⟩), .pointer (some ⟨w.heap.size + 1, 0, none⟩), .pointer (some ⟨w.heap.size + 1 + 1, 0, none⟩), .int .u8 x.1, .func (.func 56) #[] #[], .int .u8 x.1, undef, undef, undef, undef, undef, undef, undef], defers := [] }) ?assign ?body ?done ?stop
  case assign =>
    intro l x W K hK
    gi_wp2
    exact hK
  case body =>
    rintro l pre ⟨x, hx⟩ W ⟨⟨hp, hcs, ⟨hcf, hff⟩, hce, hfe⟩, hB⟩ _
    have hT2 := fatB hT hB
    rcases hx with rfl | rfl | rfl | rfl
    · have ct := fat_at hT2 3 (.string ⟨#[115]⟩) (by decide) rfl
      have hmx : Tryd.prog.follows .mixedOrders = true := by kernel_rfl
      by_cases hs : fN 0 = s
      · have hb : ([115] == s.toList) = true := by rw [beq7]; exact decide_eq_true hs
        clear hT hT2
        gi_wp2
        gi_region_with_o fail
        all_goals gi_wp2
        all_goals exact ⟨keep7 _ _ _ _ _, ⟨rfl, ⟨0, Or.inl rfl⟩, hs, set7a hcf hce, set7b hcf hce⟩, set7c hB⟩
      · have hb : ([115] == s.toList) = false := nbeq7 _ _ hs
        clear hT hT2
        gi_wp2
        gi_region_with_o fail
        all_goals gi_wp2
        all_goals exact ⟨KeepsOthers.drew _, trivial, ⟨fun y hy => (List.mem_append.1 hy).elim (hp y) (fun e e2 => by simp at e; subst e; exact hs e2), hcs, ⟨hcf, hff⟩, hce, hfe⟩, bel_dr hB⟩
    · have ct := fat_at hT2 7 (.string ⟨#[100]⟩) (by decide) rfl
      have hmx : Tryd.prog.follows .mixedOrders = true := by kernel_rfl
      by_cases hs : fN 1 = s
      · have hb : ([100] == s.toList) = true := by rw [beq7]; exact decide_eq_true hs
        clear hT hT2
        gi_wp2
        gi_region_with_o fail
        all_goals gi_wp2
        all_goals exact ⟨keep7 _ _ _ _ _, ⟨rfl, ⟨1, Or.inr (Or.inl rfl)⟩, hs, set7a hcf hce, set7b hcf hce⟩, set7c hB⟩
      · have hb : ([100] == s.toList) = false := nbeq7 _ _ hs
        clear hT hT2
        gi_wp2
        gi_region_with_o fail
        all_goals gi_wp2
        all_goals exact ⟨KeepsOthers.drew _, trivial, ⟨fun y hy => (List.mem_append.1 hy).elim (hp y) (fun e e2 => by simp at e; subst e; exact hs e2), hcs, ⟨hcf, hff⟩, hce, hfe⟩, bel_dr hB⟩
    · have ct := fat_at hT2 11 (.string ⟨#[104]⟩) (by decide) rfl
      have hmx : Tryd.prog.follows .mixedOrders = true := by kernel_rfl
      by_cases hs : fN 2 = s
      · have hb : ([104] == s.toList) = true := by rw [beq7]; exact decide_eq_true hs
        clear hT hT2
        gi_wp2
        gi_region_with_o fail
        all_goals gi_wp2
        all_goals exact ⟨keep7 _ _ _ _ _, ⟨rfl, ⟨2, Or.inr (Or.inr (Or.inl rfl))⟩, hs, set7a hcf hce, set7b hcf hce⟩, set7c hB⟩
      · have hb : ([104] == s.toList) = false := nbeq7 _ _ hs
        clear hT hT2
        gi_wp2
        gi_region_with_o fail
        all_goals gi_wp2
        all_goals exact ⟨KeepsOthers.drew _, trivial, ⟨fun y hy => (List.mem_append.1 hy).elim (hp y) (fun e e2 => by simp at e; subst e; exact hs e2), hcs, ⟨hcf, hff⟩, hce, hfe⟩, bel_dr hB⟩
    · have ct := fat_at hT2 15 (.string ⟨#[113]⟩) (by decide) rfl
      have hmx : Tryd.prog.follows .mixedOrders = true := by kernel_rfl
      by_cases hs : fN 3 = s
      · have hb : ([113] == s.toList) = true := by rw [beq7]; exact decide_eq_true hs
        clear hT hT2
        gi_wp2
        gi_region_with_o fail
        all_goals gi_wp2
        all_goals exact ⟨keep7 _ _ _ _ _, ⟨rfl, ⟨3, Or.inr (Or.inr (Or.inr rfl))⟩, hs, set7a hcf hce, set7b hcf hce⟩, set7c hB⟩
      · have hb : ([113] == s.toList) = false := nbeq7 _ _ hs
        clear hT hT2
        gi_wp2
        gi_region_with_o fail
        all_goals gi_wp2
        all_goals exact ⟨KeepsOthers.drew _, trivial, ⟨fun y hy => (List.mem_append.1 hy).elim (hp y) (fun e e2 => by simp at e; subst e; exact hs e2), hcs, ⟨hcf, hff⟩, hce, hfe⟩, bel_dr hB⟩
  case done =>
    rintro D ys W hD rfl ⟨⟨hp, hcs, ⟨hcf, hff⟩, hce, hfe⟩, hB⟩ hK
    rw [nV_none s hp] at hv
    injection hv with v1 v2
    subst v1 v2
    gi_wp2
    have hK' := ((KeepsOthers.setCell W ⟨w.heap.size + 1, 0, none⟩ (.int .u8 0)).trans (KeepsOthers.setCell _ ⟨w.heap.size + 1 + 1, 0, none⟩ (.int .i64 2))).same D _ hK rfl
    refine ⟨by simp, .inl ⟨_, _, rfl, run_takeDeferred hK', ?_⟩⟩
    have hc5 := cell_kept (set8a (u' := .int .u8 0) (v' := .int .i64 2) hcf hce) (grownBy_putObj' _ D (.deferred none)) (fun r e => by cases e; exact ⟨_, hK', rfl⟩)
    have hc6 := cell_kept (set8b (u' := .int .u8 0) (v' := .int .i64 2) hcf hce) (grownBy_putObj' _ D (.deferred none)) (fun r e => by cases e; exact ⟨_, hK', rfl⟩)
    have hB2 : Below w.heap.size w ((W.setCell ⟨w.heap.size + 1, 0, none⟩ (.int .u8 0)).setCell ⟨w.heap.size + 1 + 1, 0, none⟩ (.int .i64 2)) := (hB.setCell (p := ⟨w.heap.size + 1, 0, none⟩) (by simp) _).setCell (p := ⟨w.heap.size + 1 + 1, 0, none⟩) (by simp; omega) _
    refine ⟨.tuple #[.int .u8 0, .int .i64 2], ?_, rfl, hB2.trans (belowK_b (w := w) (Nat.le_refl _) _ D _ _ (by simp at hD; omega) hK' rfl rfl)⟩
    simp [results, Tryd.f38, go_sem, hc5, hc6]
  case stop =>
    rintro D c pre W hD hpre ⟨⟨rfl, x, hx, hcf, hce⟩, hB⟩ hK
    rw [nV_some x s hx] at hv
    injection hv with v1 v2
    subst v1 v2
    gi_wp2
    refine ⟨by simp, .inl ⟨_, _, rfl, run_takeDeferred hK, ?_⟩⟩
    have hc5 := cell_kept hcf (grownBy_putObj' _ D (.deferred none)) (fun r e => by cases e; exact ⟨_, hK, rfl⟩)
    have hc6 := cell_kept hce (grownBy_putObj' _ D (.deferred none)) (fun r e => by cases e; exact ⟨_, hK, rfl⟩)
    refine ⟨.tuple #[.int .u8 x.1, .int .i64 0], ?_, rfl, hB.trans (belowK_b (w := w) (Nat.le_refl _) W D _ _ (by simp at hD; omega) hK rfl rfl)⟩
    simp [results, Tryd.f38, go_sem, hc5, hc6]

theorem s_named (s : ByteArray) (x0 e0 : Int) (hv : nV s = (x0, e0)) (w : World) (hT : FAt w) :
    Calls Tryd.prog 38 #[.string s] w fun e w' => e = .returned (.tuple #[.int .u8 x0, .int .i64 e0]) ∧ Below w.heap.size w w' :=
  callsIn_wide.1 (named_in Fence.wide 3 trivial trivial trivial rfl (Nat.le_refl _) s x0 e0 hv w hT)
end Go.Proofs.YtjbefkceieklmaaDoor
