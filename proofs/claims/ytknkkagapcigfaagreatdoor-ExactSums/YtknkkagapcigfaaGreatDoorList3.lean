/-
  What the functions sum, difference of package nat return.
-/
import Derived.Test.YtknkkagapcigfaaGreatDoorList2
namespace Go.Proofs.YtknkkagapcigfaaGreatDoor
open Go.RowKit WMath

theorem cw_made (L : Nat) : madeCells #[.int .u64 0] L = cw L 0 := by
  apply Array.ext_getElem?
  intro i
  by_cases h : i < L
  · rw [cw_at L 0 i h, wd_zero]
    simp [madeCells, h, Nat.mod_one]
  · rw [Array.getElem?_eq_none (by rw [size_madeCells]; omega), Array.getElem?_eq_none (by rw [cw_size]; omega)]
theorem cw_make (L : Nat) (k : Int) (hk : k = (L : Int)) (h : L ≤ 1000000) (w : World) : (Instr.makeSlice 85 (.int .i64 k) (.int .i64 k)).run Tryz.prog w = .ok (.slice (some ⟨w.heap.size, 0, none⟩) L L) (w.alloc (.cells (cw L 0) 92)) := by
  subst hk
  rw [← cw_made]
  exact run_make_row' (P := Tryz.prog) 85 92 (.int .u64 0) 8 Tryz.underlying85 (by kernel_rfl) rfl .i64 .i64 L (by omega) (by omega) w

/-- A copy of a list into a new row that is at least as long. -/
theorem copy_row {w : World} {g N X : Nat} {T : TypeId} (r : w.heap[g]? = some (.cells (cw N X) T)) (p : Option Addr) (L c a B : Nat) (h : SL B w p L c a) (hL : L ≤ N) (hX : X = 0) (ts : TypeId) (ty : TypeId) :
    (Builtin.copy_ #[85, ts] ty #[.slice (some ⟨g, 0, none⟩) N N, .slice p L c]).run Tryz.prog w = .ok (goInt L) (w.setRow g (cw N a)) := by
  subst hX
  have hsz : (Tryz.prog.info? 92).map (·.size) = some 1 := by kernel_rfl
  by_cases h0 : L = 0
  · subst h0
    have e : a = 0 := by have := h.1; rw [Nat.mul_zero, Nat.pow_zero] at this; omega
    subst e
    rw [setRow_self w g _ _ _ r]
    cases hq : Tryz.prog.info? 92 with
    | none => rw [hq] at hsz; simp at hsz
    | some i =>
      rcases p with _ | p
      · simp [Builtin.copy_, run_underlying Tryz.underlying85, Builtin.lenOf, Builtin.firstCells, sizeOf, typeInfo, hq, storeCells]
      · simp [Builtin.copy_, run_underlying Tryz.underlying85, Builtin.lenOf, Builtin.firstCells, sizeOf, typeInfo, hq, storeCells, loadCells, loadCellsFrom]
  · obtain ⟨b, o, rfl, hb⟩ := h.ptr (by omega)
    have hlen : (cw L a).toList.length = L := by simp [cw_size]
    have hadd : ∀ j, (⟨b, o, none⟩ : Addr).add j = ⟨b, o + j, none⟩ := fun j => by unfold Addr.add; split <;> simp_all
    have hrun := run_copy_row (P := Tryz.prog) w 85 ts ty 92 g 0 N N ⟨b, o, none⟩ L c (cw N 0) T (cw L a).toList Tryz.underlying85 hsz r (by rw [hlen]; exact (Nat.min_eq_left hL).symm)
      (fun j v hv => by
        have hj : j < L := by
          have := (List.getElem?_eq_some_iff.1 hv).1
          rwa [hlen] at this
        rw [hadd, h.cell j _ hj rfl, ← hv, Array.getElem?_toList, cw_at L a j hj]) (by rw [hlen, cw_size]; omega)
      (fun v hv => (Array.all_eq_true_iff_forall_mem.1 (cw_oneCell L a)) v (by simpa using hv))
    have e : ((cw N 0).toList.take 0 ++ (cw L a).toList ++ (cw N 0).toList.drop (0 + L)).toArray = cw N a := by
      apply Array.ext_getElem?
      intro k
      by_cases hk : k < N
      · rw [cw_at N a k hk]
        simp only [List.take_zero, List.nil_append, Nat.zero_add, List.getElem?_toArray]
        rw [List.getElem?_append, hlen]
        by_cases hk2 : k < L
        · rw [if_pos hk2, Array.getElem?_toList, cw_at L a k hk2]
        · rw [if_neg hk2, List.getElem?_drop, Array.getElem?_toList, show L + (k - L) = k by omega, cw_at N 0 k hk, wd_zero, wd_high h.1 (by omega)]
      · rw [Array.getElem?_eq_none (by simp [cw_size]; omega), Array.getElem?_eq_none (by rw [cw_size]; omega)]
    rw [hlen, e] at hrun
    exact hrun

theorem putw_whole (X N S : Nat) (hX : X < 2 ^ (64 * N)) : putw X 0 N S = S := by
  rw [putw_top X 0 N S (by rw [Nat.zero_add]; exact hX), Nat.mul_zero, Nat.pow_zero, Nat.mod_one]
  omega

set_option maxRecDepth 100000 in
set_option maxHeartbeats 1000000 in
theorem l_sum (w : World) (p q : Option Addr) (L c a M d b B K : Nat) (ha : SL B w p L c a) (hb : SL B w q M d b) (hB : B ≤ w.heap.size) (hL : L ≤ 50000) (hM : M ≤ 50000) (hK : wl (a + b) = K) :
    Calls Tryz.prog 81 #[.slice p L c, .slice q M d] w fun r w' => ∃ u e, r = .returned (.slice u K e) ∧ SL w'.heap.size w' u K e (a + b) ∧ Below w.heap.size w w' := by
  obtain ⟨n, hn⟩ : ∃ n, max L M = n := ⟨_, rfl⟩
  obtain ⟨N, hN⟩ : ∃ N, n + 1 = N := ⟨_, rfl⟩
  have hmk := cw_make N ((n : Int) + 1) (by omega) (by omega)
  have hcase : (L < M ∧ M = n) ∨ ((L < M) = False ∧ L = n) := by
    by_cases h : L < M
    · left; exact ⟨h, by omega⟩
    · right; exact ⟨eq_false h, by omega⟩
  have r0 : (w.alloc (.cells (cw N 0) 92)).heap[w.heap.size]? = some (.cells (cw N 0) 92) := heap_alloc_last _ _
  have b0 : Below w.heap.size w (w.alloc (.cells (cw N 0) 92)) := (Below.refl _ _).alloc (Nat.le_refl _) _
  have hcp := copy_row r0 p L c a B (ha.below b0 hB) (by omega) rfl 85 3
  obtain ⟨W1, hW1⟩ : ∃ W1, (w.alloc (.cells (cw N 0) 92)).setRow w.heap.size (cw N a) = W1 := ⟨_, rfl⟩
  rw [hW1] at hcp
  have r1 : W1.heap[w.heap.size]? = some (.cells (cw N a) 92) := by rw [← hW1]; exact setRow_row r0
  have b1 : Below w.heap.size w W1 := by rw [← hW1]; exact Below.setRow b0 (Nat.le_refl _)
  have sb := hb.below b1 hB
  have aN : a < 2 ^ (64 * n) := Nat.lt_of_lt_of_le ha.1 (pow64_le _ _ (by omega))
  have bN : b < 2 ^ (64 * n) := Nat.lt_of_lt_of_le hb.1 (pow64_le _ _ (by omega))
  have aN2 : a < 2 ^ (64 * N) := Nat.lt_of_lt_of_le aN (pow64_le _ _ (by omega))
  have abN : a + b < 2 ^ (64 * N) := by rw [← hN, pow64]; omega
  have A1 : Box (b * 1 < 2 ^ (64 * N)) := box (by omega)
  have A2 := box (vw_all a N aN2)
  have A3 : Box ((a + b * 1) % 2 ^ (64 * N) = a + b) := box (by rw [Nat.mul_one, Nat.mod_eq_of_lt abN])
  have A4 := box (putw_whole a N (a + b) aN2)
  have A5 := box abN
  have HK := box hK
  have hM2 : M ≤ N := by omega
  have hN2 : N ≤ 100000 := by omega
  clear hn r0 b0 hW1 aN bN aN2 abN ha hb hK
  rcases hcase with ⟨h1, hn⟩ | ⟨h1, hn⟩
  all_goals
    subst hn
    go_enter Tryz.func81, Tryz.ntmps81
    go_wp2_with fail
    refine (l_addTo W1 w.heap.size 0 N N N a 92 r1 (by omega) q M d b B sb hB 1 (by decide) hN2 hM2 A1.out a (a + b) _ A2.out A3.out rfl).mono ?_
    rintro e w2 ⟨rfl, r2, ho2⟩
    rw [A4.out] at r2
    have b2 : Below w.heap.size w w2 := ho2.toBelow b1 (Nat.le_refl _) b1.size
    have s2 : SL w2.heap.size w2 (some ⟨w.heap.size, 0, none⟩) N N (a + b) := SL.row r2 _ (Array.getElem?_eq_some_iff.1 r2).1 A5.out (Nat.le_refl _)
    clear hcp
    go_wp2_with fail
    refine (l_trim w2 _ N N (a + b) K _ s2 hN2 HK.out).mono ?_
    rintro e w3 ⟨u, v, rfl, s3, rfl⟩
    go_wp2
    go_ret
    exact ⟨u, v, rfl, s3, b2⟩
set_option maxRecDepth 100000 in
set_option maxHeartbeats 1000000 in
theorem l_diff_ok (w : World) (p q : Option Addr) (L c a M d b B K : Nat) (ha : SL B w p L c a) (hb : SL B w q M d b) (hB : B ≤ w.heap.size) (hL : L ≤ 50000) (hM : M ≤ 50000) (hba : b ≤ a) (hK : wl (a - b) = K) :
    Calls Tryz.prog 82 #[.slice p L c, .slice q M d] w fun r w' => ∃ u e, r = .returned (.tuple #[.slice u K e, .bool false]) ∧ SL w'.heap.size w' u K e (a - b) ∧ Below w.heap.size w w' := by
  obtain ⟨N, hN⟩ : ∃ N, max L M = N := ⟨_, rfl⟩
  have hcase : (L < M ∧ M = N) ∨ ((L < M) = False ∧ L = N) := by
    by_cases h : L < M
    · left; exact ⟨h, by omega⟩
    · right; exact ⟨eq_false h, by omega⟩
  have r0 : (w.alloc (.cells (cw N 0) 92)).heap[w.heap.size]? = some (.cells (cw N 0) 92) := heap_alloc_last _ _
  have b0 : Below w.heap.size w (w.alloc (.cells (cw N 0) 92)) := (Below.refl _ _).alloc (Nat.le_refl _) _
  have hcp := copy_row r0 p L c a B (ha.below b0 hB) (by omega) rfl 85 3
  obtain ⟨W1, hW1⟩ : ∃ W1, (w.alloc (.cells (cw N 0) 92)).setRow w.heap.size (cw N a) = W1 := ⟨_, rfl⟩
  rw [hW1] at hcp
  have r1 : W1.heap[w.heap.size]? = some (.cells (cw N a) 92) := by rw [← hW1]; exact setRow_row r0
  have b1 : Below w.heap.size w W1 := by rw [← hW1]; exact Below.setRow b0 (Nat.le_refl _)
  have sb := hb.below b1 hB
  have aN : a < 2 ^ (64 * N) := Nat.lt_of_lt_of_le ha.1 (pow64_le _ _ (by omega))
  have bN : b < 2 ^ (64 * N) := Nat.lt_of_lt_of_le hb.1 (pow64_le _ _ (by omega))
  have aN2 := aN
  have abN : a - b < 2 ^ (64 * N) := by omega
  have bN2 : b < 2 ^ (64 * N) := by omega
  have A1 : Box (b * 1 < 2 ^ (64 * N)) := box (by omega)
  have A2 := box (vw_all a N aN2)
  have A3 : Box (decide (a < b * 1) = false) := box (decide_eq_false (by omega))
  have A6 : Box (a - b + b * 1 = a + 2 ^ (64 * N) * false.toNat) := box (by rw [Bool.toNat_false]; omega)
  have A4 := box (putw_whole a N (a - b) aN2)
  have A5 := box abN
  have HK := box hK
  have hM2 : M ≤ N := by omega
  have hN2 : N ≤ 100000 := by omega
  clear hN r0 b0 hW1 aN bN aN2 abN bN2 ha hb hK
  rcases hcase with ⟨h1, hn⟩ | ⟨h1, hn⟩
  · have hmk := cw_make N (M : Int) (by omega) (by omega)
    clear hn
    go_enter Tryz.func82, Tryz.ntmps82
    go_wp2_with fail
    refine (l_takeFrom W1 w.heap.size 0 N N N a 92 r1 (by omega) q M d b B sb hB 1 (by decide) hN2 hM2 A1.out a (a - b) false A2.out A3.out A6.out).mono ?_
    rintro e w2 ⟨rfl, r2, ho2⟩
    rw [A4.out] at r2
    have b2 : Below w.heap.size w w2 := ho2.toBelow b1 (Nat.le_refl _) b1.size
    have s2 : SL w2.heap.size w2 (some ⟨w.heap.size, 0, none⟩) N N (a - b) := SL.row r2 _ (Array.getElem?_eq_some_iff.1 r2).1 A5.out (Nat.le_refl _)
    clear hcp
    go_wp2_with fail
    refine (l_trim w2 _ N N (a - b) K _ s2 hN2 HK.out).mono ?_
    rintro e w3 ⟨u, v, rfl, s3, rfl⟩
    go_wp2
    go_ret2
    exact ⟨u, v, rfl, s3, b2⟩
  · have hmk := cw_make N (L : Int) (by omega) (by omega)
    clear hn
    go_enter Tryz.func82, Tryz.ntmps82
    go_wp2_with fail
    refine (l_takeFrom W1 w.heap.size 0 N N N a 92 r1 (by omega) q M d b B sb hB 1 (by decide) hN2 hM2 A1.out a (a - b) false A2.out A3.out A6.out).mono ?_
    rintro e w2 ⟨rfl, r2, ho2⟩
    rw [A4.out] at r2
    have b2 : Below w.heap.size w w2 := ho2.toBelow b1 (Nat.le_refl _) b1.size
    have s2 : SL w2.heap.size w2 (some ⟨w.heap.size, 0, none⟩) N N (a - b) := SL.row r2 _ (Array.getElem?_eq_some_iff.1 r2).1 A5.out (Nat.le_refl _)
    clear hcp
    go_wp2_with fail
    refine (l_trim w2 _ N N (a - b) K _ s2 hN2 HK.out).mono ?_
    rintro e w3 ⟨u, v, rfl, s3, rfl⟩
    go_wp2
    go_ret2
    exact ⟨u, v, rfl, s3, b2⟩

set_option maxRecDepth 100000 in
set_option maxHeartbeats 1000000 in
theorem l_diff_no (w : World) (p q : Option Addr) (L c a M d b B : Nat) (ha : SL B w p L c a) (hb : SL B w q M d b) (hB : B ≤ w.heap.size) (hL : L ≤ 50000) (hM : M ≤ 50000) (hba : a < b) :
    Calls Tryz.prog 82 #[.slice p L c, .slice q M d] w fun r w' => r = .returned (.tuple #[.slice none 0 0, .bool true]) ∧ Below w.heap.size w w' := by
  obtain ⟨N, hN⟩ : ∃ N, max L M = N := ⟨_, rfl⟩
  have hcase : (L < M ∧ M = N) ∨ ((L < M) = False ∧ L = N) := by
    by_cases h : L < M
    · left; exact ⟨h, by omega⟩
    · right; exact ⟨eq_false h, by omega⟩
  have r0 : (w.alloc (.cells (cw N 0) 92)).heap[w.heap.size]? = some (.cells (cw N 0) 92) := heap_alloc_last _ _
  have b0 : Below w.heap.size w (w.alloc (.cells (cw N 0) 92)) := (Below.refl _ _).alloc (Nat.le_refl _) _
  have hcp := copy_row r0 p L c a B (ha.below b0 hB) (by omega) rfl 85 3
  obtain ⟨W1, hW1⟩ : ∃ W1, (w.alloc (.cells (cw N 0) 92)).setRow w.heap.size (cw N a) = W1 := ⟨_, rfl⟩
  rw [hW1] at hcp
  have r1 : W1.heap[w.heap.size]? = some (.cells (cw N a) 92) := by rw [← hW1]; exact setRow_row r0
  have b1 : Below w.heap.size w W1 := by rw [← hW1]; exact Below.setRow b0 (Nat.le_refl _)
  have sb := hb.below b1 hB
  have aN : a < 2 ^ (64 * N) := Nat.lt_of_lt_of_le ha.1 (pow64_le _ _ (by omega))
  have bN : b < 2 ^ (64 * N) := Nat.lt_of_lt_of_le hb.1 (pow64_le _ _ (by omega))
  have aN2 := aN
  have bN2 : b < 2 ^ (64 * N) := by omega
  have A1 : Box (b * 1 < 2 ^ (64 * N)) := box (by omega)
  have A2 := box (vw_all a N aN2)
  have A3 : Box (decide (a < b * 1) = true) := box (decide_eq_true (by omega))
  have A6 : Box (a + 2 ^ (64 * N) - b + b * 1 = a + 2 ^ (64 * N) * true.toNat) := box (by rw [Bool.toNat_true]; omega)
  have hM2 : M ≤ N := by omega
  have hN2 : N ≤ 100000 := by omega
  clear hN r0 b0 hW1 aN bN aN2 bN2 ha hb
  rcases hcase with ⟨h1, hn⟩ | ⟨h1, hn⟩
  · have hmk := cw_make N (M : Int) (by omega) (by omega)
    clear hn
    go_enter Tryz.func82, Tryz.ntmps82
    go_wp2_with fail
    refine (l_takeFrom W1 w.heap.size 0 N N N a 92 r1 (by omega) q M d b B sb hB 1 (by decide) hN2 hM2 A1.out a (a + 2 ^ (64 * N) - b) true A2.out A3.out A6.out).mono ?_
    rintro e w2 ⟨rfl, r2, ho2⟩
    have b2 : Below w.heap.size w w2 := ho2.toBelow b1 (Nat.le_refl _) b1.size
    clear hcp
    go_wp2
    go_ret2
    exact ⟨rfl, b2⟩
  · have hmk := cw_make N (L : Int) (by omega) (by omega)
    clear hn
    go_enter Tryz.func82, Tryz.ntmps82
    go_wp2_with fail
    refine (l_takeFrom W1 w.heap.size 0 N N N a 92 r1 (by omega) q M d b B sb hB 1 (by decide) hN2 hM2 A1.out a (a + 2 ^ (64 * N) - b) true A2.out A3.out A6.out).mono ?_
    rintro e w2 ⟨rfl, r2, ho2⟩
    have b2 : Below w.heap.size w w2 := ho2.toBelow b1 (Nat.le_refl _) b1.size
    clear hcp
    go_wp2
    go_ret2
    exact ⟨rfl, b2⟩
end Go.Proofs.YtknkkagapcigfaaGreatDoor
