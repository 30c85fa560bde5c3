/-
  What the functions that the statement reaches return: part 29 (F6).
-/
import Derived.ArgAppend
import Derived.Test.YtapikkbifdldfaaGreatDoorFd28
namespace Go.Proofs.YtapikkbifdldfaaGreatDoor
set_option maxRecDepth 100000
set_option maxHeartbeats 40000000
set_option maxRecDepth 100000
open Go.RowKit WMath
set_option linter.unusedSimpArgs false
set_option linter.unusedVariables false
theorem blsF_len (l : List (Nat × Nat)) : (l.flatMap fun p => [Value.int .u64 (p.1 : Nat), Value.int .u64 (p.2 : Nat)]).length = l.length * 2 := by
  induction l with
  | nil => rfl
  | cons a t ih => simp only [List.flatMap_cons, List.length_append, List.length_cons, List.length_nil]; omega
theorem blsF_cell (l : List (Nat × Nat)) (j : Nat) (u : Value) (h : (l.flatMap fun p => [Value.int .u64 (p.1 : Nat), Value.int .u64 (p.2 : Nat)])[j]? = some u) : ∃ p, l[j / 2]? = some p ∧ u = if j % 2 = 0 then .int .u64 (p.1 : Nat) else .int .u64 (p.2 : Nat) := by
  induction l generalizing j with
  | nil => simp at h
  | cons a t ih =>
    match j, h with
    | 0, h => simp at h; exact ⟨a, rfl, h.symm⟩
    | 1, h => simp at h; exact ⟨a, rfl, h.symm⟩
    | j + 2, h =>
      have := ih j (by simpa using h)
      rw [show (j + 2) / 2 = j / 2 + 1 by omega, show (j + 2) % 2 = j % 2 by omega, List.getElem?_cons_succ]
      exact this
def SV (l : List (Nat × Nat)) (L : Nat) (s : Value) (W : World) : Prop :=
  (∃ o c, L = 0 ∧ s = .slice o 0 c) ∨ (∃ g z c, 1 ≤ L ∧ L ≤ c ∧ s = .slice (some ⟨g, z, none⟩) L c ∧ ∀ V, Below W.heap.size W V → ∀ k p, l[k]? = some p → V.cell? ⟨g, z + k * 2, none⟩ = some (.int .u64 (p.1 : Nat)) ∧ V.cell? ⟨g, z + k * 2 + 1, none⟩ = some (.int .u64 (p.2 : Nat)))
theorem grown_cells {w' : World} {l : List (Nat × Nat)} {L gk : Nat} {cur : Array Value} {T : TypeId} (hl : l.length = L) (rowk : w'.heap[gk]? = some (.cells cur T)) (htk : List.take (L * 2) cur.toList = l.flatMap fun p => [Value.int .u64 (p.1 : Nat), Value.int .u64 (p.2 : Nat)]) : Box (∀ W, Below w'.heap.size w' W → ∀ k p, l[k]? = some p → W.cell? ⟨gk, 0 + k * 2, none⟩ = some (.int .u64 (p.1 : Nat)) ∧ W.cell? ⟨gk, 0 + k * 2 + 1, none⟩ = some (.int .u64 (p.2 : Nat))) := box (fun W bW k p hp => by
  have r2 := heap_of bW _ _ _ rowk
  obtain ⟨a1, a2⟩ := bls_at l k p hp
  unfold bls at a1 a2
  rw [List.getElem?_toArray] at a1 a2
  have kl : k < L := by
    rw [← hl]
    exact (List.getElem?_eq_some_iff.1 hp).1
  have tk : ∀ j v, j < L * 2 → (l.flatMap fun p => [Value.int .u64 (p.1 : Nat), Value.int .u64 (p.2 : Nat)])[j]? = some v → cur[j]? = some v := fun j v hj hv => by
    rw [← htk, List.getElem?_take_of_lt hj] at hv
    rw [← Array.getElem?_toList]
    exact hv
  rw [Nat.zero_add]
  exact ⟨(cell_of_row W gk (k * 2) _ _ _ r2).trans (tk _ _ (by omega) a1), (cell_of_row W gk (k * 2 + 1) _ _ _ r2).trans (tk _ _ (by omega) a2)⟩)
set_option maxRecDepth 100000 in
set_option maxHeartbeats 8000000 in
theorem fd_NN (f m : Int) (l1 l2 : List (Nat × Nat)) (L1 L2 : Nat) (w : World) (g1 z1 c1 : Nat) (hl1 : l1.length = L1) (p1 : 1 ≤ L1) (q1 : L1 ≤ 40) (hc1 : L1 ≤ c1)
    (HC1 : Box (∀ W, Below w.heap.size w W → ∀ k p, l1[k]? = some p → W.cell? ⟨g1, z1 + k * 2, none⟩ = some (.int .u64 (p.1 : Nat)) ∧ W.cell? ⟨g1, z1 + k * 2 + 1, none⟩ = some (.int .u64 (p.2 : Nat)))) (g2 z2 c2 : Nat) (hl2 : l2.length = L2) (p2 : 1 ≤ L2) (q2 : L2 ≤ 40) (hc2 : L2 ≤ c2)
    (HC2 : Box (∀ W, Below w.heap.size w W → ∀ k p, l2[k]? = some p → W.cell? ⟨g2, z2 + k * 2, none⟩ = some (.int .u64 (p.1 : Nat)) ∧ W.cell? ⟨g2, z2 + k * 2 + 1, none⟩ = some (.int .u64 (p.2 : Nat))))
    (u v : Nat) (fl e : Int) (he : IntKind.i64.wrap e = e)
    (KP : Box (∀ (W : World) (s1 s2 : Value), FAt W → SV l1 L1 s1 W → SV l2 L2 s2 W → Calls Tryz.prog 19 #[.int .u8 f, .int .u8 m, s1, s2] W fun r w' => r = .returned (.tuple #[.agg #[.int .u64 (u : Nat), .int .u64 (v : Nat)], .int .u8 fl, .int .i64 e]) ∧ Below W.heap.size W w'))
    (KQ : Box (∀ (W : World) (s1 s2 : Value), SV l1 L1 s1 W → SV l2 L2 s2 W → Calls Tryz.prog 20 #[.int .u8 f, .int .u8 m, s1, s2] W fun r w' => r = .returned (.tuple #[.agg #[.int .u64 (u : Nat), .int .u64 (v : Nat)], .int .u8 fl, .int .i64 e]) ∧ Below W.heap.size W w'))
    (KA : Box (∀ w, FAt w → Calls Tryz.prog 14 #[] w fun r w' => r = .returned (.bool true) ∧ Below w.heap.size w w')) (hT : FAt w) : Calls Tryz.prog 6 #[.int .u8 f, .int .u8 m, .slice (some ⟨g1, z1, none⟩) L1 c1, .slice (some ⟨g2, z2, none⟩) L2 c2] w fun r w' => r = .returned (.bool true) ∧ Below w.heap.size w w' := by
  have FF := box hT
  clear hT
  have HL1 := box hl1
  clear hl1
  have d1 : decide ((40 : Int) < (L1 : Int)) = false := decide_eq_false (by omega)
  have hlen1 := blsF_len l1
  rw [HL1.out] at hlen1
  have hb1 := fun j u (h : (l1.flatMap fun p => [Value.int .u64 (p.1 : Nat), Value.int .u64 (p.2 : Nat)])[j]? = some u) => blsF_cell l1 j u h
  have HL2 := box hl2
  clear hl2
  have d2 : decide ((40 : Int) < (L2 : Int)) = false := decide_eq_false (by omega)
  have hlen2 := blsF_len l2
  rw [HL2.out] at hlen2
  have hb2 := fun j u (h : (l2.flatMap fun p => [Value.int .u64 (p.1 : Nat), Value.int .u64 (p.2 : Nat)])[j]? = some u) => blsF_cell l2 j u h
  have info : (Tryz.prog.info? 26).map (fun i => (i.zero, i.size, i.bytes)) = some (some (.agg #[.int .u64 0, .int .u64 0]), 2, 16) := by kernel_rfl
  obtain ⟨i0, hi, hz0, hz1, hz2⟩ := info_parts info
  go_enter Tryz.func6, Tryz.ntmps6
  go_wp2_with (at_builtin; refine wpList_append_grows _ rfl (.const (.slice none 0 0)) (.tmp 28) 39 rfl 26 i0 (.agg #[.int .u64 0, .int .u64 0]) 2 16 Tryz.underlying39 hi hz0 hz1 hz2 rfl (by decide) none 0 0 [] rfl (fun _ => ⟨rfl, rfl⟩) rfl (by intro _ _ _ _ h; simp at h) ⟨g1, z1, none⟩ L1 c1 (l1.flatMap fun p => [Value.int .u64 (p.1 : Nat), Value.int .u64 (p.2 : Nat)]) rfl hlen1 ?c1 ?c2 ?full ?b1 ?b2 ?grow)
  case c1 =>
    intro j u hj
    obtain ⟨p, hp, rfl⟩ := hb1 j u hj
    obtain ⟨q0, q1⟩ := HC1.out w (Below.refl _ _) (j / 2) p hp
    rw [show ({ block := g1, off := z1, spot := none } : Addr).add j = ⟨g1, z1 + j, none⟩ by simp [Addr.add]]
    by_cases c0 : j % 2 = 0
    · rw [if_pos c0, show z1 + j = z1 + j / 2 * 2 by omega]
      exact q0
    · rw [if_neg c0, show z1 + j = z1 + j / 2 * 2 + 1 by omega]
      exact q1
  case c2 =>
    intro u hu
    obtain ⟨j, hj⟩ := List.mem_iff_getElem?.1 hu
    obtain ⟨p, hp, rfl⟩ := hb1 j u hj
    split <;> rfl
  case full => omega
  case b1 => unfold maxLen; omega
  case b2 => omega
  case grow =>
    intro v' wg1 hown hgrow
    obtain ⟨_, ⟨_, hn0⟩ | ⟨gk1, ck1, cur, rfl, hgk, rowk, hck1, _, hsz, htk⟩⟩ := hown
    · omega
    have bi1 : Below w.heap.size w wg1 := (Below.refl _ _).grown hgrow (Nat.le_refl _) (fun k h => by cases h)
    have bg1 := btr (Below.refl _ _) bi1
    have HK1 := grown_cells HL1.out rowk htk
    clear hgrow hsz htk rowk hgk
    go_wp2_with (at_builtin; refine wpList_append_grows _ rfl (.const (.slice none 0 0)) (.tmp 30) 39 rfl 26 i0 (.agg #[.int .u64 0, .int .u64 0]) 2 16 Tryz.underlying39 hi hz0 hz1 hz2 rfl (by decide) none 0 0 [] rfl (fun _ => ⟨rfl, rfl⟩) rfl (by intro _ _ _ _ h; simp at h) ⟨g2, z2, none⟩ L2 c2 (l2.flatMap fun p => [Value.int .u64 (p.1 : Nat), Value.int .u64 (p.2 : Nat)]) rfl hlen2 ?c1 ?c2 ?full ?b1 ?b2 ?grow)
    case c1 =>
      intro j u hj
      obtain ⟨p, hp, rfl⟩ := hb2 j u hj
      obtain ⟨q0, q1⟩ := HC2.out wg1 bg1 (j / 2) p hp
      rw [show ({ block := g2, off := z2, spot := none } : Addr).add j = ⟨g2, z2 + j, none⟩ by simp [Addr.add]]
      by_cases c0 : j % 2 = 0
      · rw [if_pos c0, show z2 + j = z2 + j / 2 * 2 by omega]
        exact q0
      · rw [if_neg c0, show z2 + j = z2 + j / 2 * 2 + 1 by omega]
        exact q1
    case c2 =>
      intro u hu
      obtain ⟨j, hj⟩ := List.mem_iff_getElem?.1 hu
      obtain ⟨p, hp, rfl⟩ := hb2 j u hj
      split <;> rfl
    case full => omega
    case b1 => unfold maxLen; omega
    case b2 => omega
    case grow =>
      intro v' wg2 hown hgrow
      obtain ⟨_, ⟨_, hn0⟩ | ⟨gk2, ck2, cur, rfl, hgk, rowk, hck2, _, hsz, htk⟩⟩ := hown
      · omega
      have bi2 : Below wg1.heap.size wg1 wg2 := (Below.refl _ _).grown hgrow (Nat.le_refl _) (fun k h => by cases h)
      have bg2 := btr bg1 bi2
      have HK2 := grown_cells HL2.out rowk htk
      clear hgrow hsz htk rowk hgk
      go_wp2_with fail
      refine (KP.out wg2 _ _ (fatB FF.out bg2) (Or.inr ⟨gk1, 0, ck1, p1, hck1, rfl, fun V bV => HK1.out V (btr bi2 bV)⟩) (Or.inr ⟨gk2, 0, ck2, p2, hck2, rfl, fun V bV => HK2.out V bV⟩)).mono ?_
      rintro r w1 ⟨rfl, b1⟩
      have b2 := bal w1 (.cells #[.int .u64 (u : Nat), .int .u64 (v : Nat)] 26)
      have Rx_2 := heap_alloc_last w1 (.cells #[.int .u64 (u : Nat), .int .u64 (v : Nat)] 26)
      have bx := btr b1 b2
      have bq := btr bg2 bx
      go_wp2_with fail
      refine (KQ.out _ _ _ (Or.inr ⟨g1, z1, c1, p1, hc1, rfl, fun V bV => HC1.out V (btr bq bV)⟩) (Or.inr ⟨g2, z2, c2, p2, hc2, rfl, fun V bV => HC2.out V (btr bq bV)⟩)).mono ?_
      rintro r w3 ⟨rfl, b3⟩
      have Rx_3 := heap_of b3 _ _ _ Rx_2
      have b4 := bal w3 (.cells #[.int .u64 (u : Nat), .int .u64 (v : Nat)] 26)
      have Ry_4 := heap_alloc_last w3 (.cells #[.int .u64 (u : Nat), .int .u64 (v : Nat)] 26)
      have Rx_4 := heap_of b4 _ _ _ Rx_3
      have by4 := btr bx (btr b3 b4)
      have B4 := btr bg2 by4
      have bk1 := btr bi2 by4
      have bk2 := by4
      obtain ⟨V, hV⟩ : ∃ V, w3.alloc (.cells #[.int .u64 (u : Nat), .int .u64 (v : Nat)] 26) = V := ⟨_, rfl⟩
      go_wp2
      rw [hV] at Rx_4 Ry_4 by4 B4 bk1 bk2
      clear hV Rx_3 Rx_2 b4 b3 b2 b1 bx bq KP KQ hlen1 hb1 hlen2 hb2 info hi hz0 hz1 hz2
      go_loopw [17] (fun iv wr => ∃ k : Nat, k ≤ L1 ∧ iv = .int .i64 k ∧ Below V.heap.size V wr) (fun iv _ => L1 - (intOf iv).toNat)
      case atStart => exact ⟨0, by omega, rfl, (Below.refl _ _)⟩
      case round =>
        obtain ⟨k, hk, rfl, B21⟩ := hrel
        by_cases hlt : k < L1
        · obtain ⟨p, hp⟩ : ∃ p, l1[k]? = some p := ⟨_, List.getElem?_eq_getElem (by rw [HL1.out]; exact hlt)⟩
          obtain ⟨a0, a1⟩ := HK1.out _ (btr bk1 B21) k p hp
          obtain ⟨q0, q1⟩ := HC1.out _ (btr B4 B21) k p hp
          rw [Nat.zero_add] at a0 a1
          have dl : decide ((k : Int) < (L1 : Int)) = true := decide_eq_true (by omega)
          have hb0 : (0 : Int) ≤ (k : Int) := by omega
          have hb1 : (k : Int) < (L1 : Int) := by omega
          clear hp
          go_wp2_with fail
          go_quiet (fail)
          obtain ⟨w21, hw, B31, hh⟩ := quiet_world B21 nq
          rw [hw]
          go_wp2
          go_roundw
          case rel => exact ⟨k + 1, by omega, by go_num, B31⟩
          case measure => simp [intOf] <;> omega
        · obtain rfl : k = L1 := by omega
          have dl : decide ((k : Int) < (k : Int)) = false := by rw [decide_eq_false_iff_not]; omega
          go_wp2
          go_loopw [18] (fun iv wr => ∃ k : Nat, k ≤ L2 ∧ iv = .int .i64 k ∧ Below V.heap.size V wr) (fun iv _ => L2 - (intOf iv).toNat)
          case atStart => exact ⟨0, by omega, rfl, B21⟩
          case round =>
            obtain ⟨k, hk, rfl, B22⟩ := hrel
            by_cases hlt : k < L2
            · obtain ⟨p, hp⟩ : ∃ p, l2[k]? = some p := ⟨_, List.getElem?_eq_getElem (by rw [HL2.out]; exact hlt)⟩
              obtain ⟨a0, a1⟩ := HK2.out _ (btr bk2 B22) k p hp
              obtain ⟨q0, q1⟩ := HC2.out _ (btr B4 B22) k p hp
              rw [Nat.zero_add] at a0 a1
              have dl : decide ((k : Int) < (L2 : Int)) = true := decide_eq_true (by omega)
              have hb0 : (0 : Int) ≤ (k : Int) := by omega
              have hb1 : (k : Int) < (L2 : Int) := by omega
              clear hp
              go_wp2_with fail
              go_quiet (fail)
              obtain ⟨w21, hw, B31, hh⟩ := quiet_world B22 nq
              rw [hw]
              go_wp2
              go_roundw
              case rel => exact ⟨k + 1, by omega, by go_num, B31⟩
              case measure => simp [intOf] <;> omega
            · obtain rfl : k = L2 := by omega
              have dl : decide ((k : Int) < (k : Int)) = false := by rw [decide_eq_false_iff_not]; omega
              obtain ⟨x0, x1⟩ := cells2s (heap_of B22 _ _ _ Rx_4)
              obtain ⟨y0, y1⟩ := cells2s (heap_of B22 _ _ _ Ry_4)
              go_wp2_with fail
              refine (KA.out _ (fatB FF.out (btr B4 B22))).mono ?_
              rintro r w5 ⟨rfl, b5⟩
              go_wp2
              go_ret
              exact ⟨rfl, btr (btr B4 B22) b5⟩
set_option maxRecDepth 100000 in
set_option maxHeartbeats 8000000 in
theorem fd_NZ (f m : Int) (l1 l2 : List (Nat × Nat)) (L1 L2 : Nat) (w : World) (g1 z1 c1 : Nat) (hl1 : l1.length = L1) (p1 : 1 ≤ L1) (q1 : L1 ≤ 40) (hc1 : L1 ≤ c1)
    (HC1 : Box (∀ W, Below w.heap.size w W → ∀ k p, l1[k]? = some p → W.cell? ⟨g1, z1 + k * 2, none⟩ = some (.int .u64 (p.1 : Nat)) ∧ W.cell? ⟨g1, z1 + k * 2 + 1, none⟩ = some (.int .u64 (p.2 : Nat)))) (hl2 : L2 = 0)
    (u v : Nat) (fl e : Int) (he : IntKind.i64.wrap e = e)
    (KP : Box (∀ (W : World) (s1 s2 : Value), FAt W → SV l1 L1 s1 W → SV l2 L2 s2 W → Calls Tryz.prog 19 #[.int .u8 f, .int .u8 m, s1, s2] W fun r w' => r = .returned (.tuple #[.agg #[.int .u64 (u : Nat), .int .u64 (v : Nat)], .int .u8 fl, .int .i64 e]) ∧ Below W.heap.size W w'))
    (KQ : Box (∀ (W : World) (s1 s2 : Value), SV l1 L1 s1 W → SV l2 L2 s2 W → Calls Tryz.prog 20 #[.int .u8 f, .int .u8 m, s1, s2] W fun r w' => r = .returned (.tuple #[.agg #[.int .u64 (u : Nat), .int .u64 (v : Nat)], .int .u8 fl, .int .i64 e]) ∧ Below W.heap.size W w'))
    (KA : Box (∀ w, FAt w → Calls Tryz.prog 14 #[] w fun r w' => r = .returned (.bool true) ∧ Below w.heap.size w w')) (hT : FAt w) : Calls Tryz.prog 6 #[.int .u8 f, .int .u8 m, .slice (some ⟨g1, z1, none⟩) L1 c1, .slice none 0 0] w fun r w' => r = .returned (.bool true) ∧ Below w.heap.size w w' := by
  have FF := box hT
  clear hT
  have HL1 := box hl1
  clear hl1
  have d1 : decide ((40 : Int) < (L1 : Int)) = false := decide_eq_false (by omega)
  have hlen1 := blsF_len l1
  rw [HL1.out] at hlen1
  have hb1 := fun j u (h : (l1.flatMap fun p => [Value.int .u64 (p.1 : Nat), Value.int .u64 (p.2 : Nat)])[j]? = some u) => blsF_cell l1 j u h
  have HZ2 := box hl2
  clear hl2
  have info : (Tryz.prog.info? 26).map (fun i => (i.zero, i.size, i.bytes)) = some (some (.agg #[.int .u64 0, .int .u64 0]), 2, 16) := by kernel_rfl
  obtain ⟨i0, hi, hz0, hz1, hz2⟩ := info_parts info
  go_enter Tryz.func6, Tryz.ntmps6
  go_wp2_with (at_builtin; refine wpList_append_grows _ rfl (.const (.slice none 0 0)) (.tmp 28) 39 rfl 26 i0 (.agg #[.int .u64 0, .int .u64 0]) 2 16 Tryz.underlying39 hi hz0 hz1 hz2 rfl (by decide) none 0 0 [] rfl (fun _ => ⟨rfl, rfl⟩) rfl (by intro _ _ _ _ h; simp at h) ⟨g1, z1, none⟩ L1 c1 (l1.flatMap fun p => [Value.int .u64 (p.1 : Nat), Value.int .u64 (p.2 : Nat)]) rfl hlen1 ?c1 ?c2 ?full ?b1 ?b2 ?grow)
  case c1 =>
    intro j u hj
    obtain ⟨p, hp, rfl⟩ := hb1 j u hj
    obtain ⟨q0, q1⟩ := HC1.out w (Below.refl _ _) (j / 2) p hp
    rw [show ({ block := g1, off := z1, spot := none } : Addr).add j = ⟨g1, z1 + j, none⟩ by simp [Addr.add]]
    by_cases c0 : j % 2 = 0
    · rw [if_pos c0, show z1 + j = z1 + j / 2 * 2 by omega]
      exact q0
    · rw [if_neg c0, show z1 + j = z1 + j / 2 * 2 + 1 by omega]
      exact q1
  case c2 =>
    intro u hu
    obtain ⟨j, hj⟩ := List.mem_iff_getElem?.1 hu
    obtain ⟨p, hp, rfl⟩ := hb1 j u hj
    split <;> rfl
  case full => omega
  case b1 => unfold maxLen; omega
  case b2 => omega
  case grow =>
    intro v' wg1 hown hgrow
    obtain ⟨_, ⟨_, hn0⟩ | ⟨gk1, ck1, cur, rfl, hgk, rowk, hck1, _, hsz, htk⟩⟩ := hown
    · omega
    have bi1 : Below w.heap.size w wg1 := (Below.refl _ _).grown hgrow (Nat.le_refl _) (fun k h => by cases h)
    have bg1 := btr (Below.refl _ _) bi1
    have HK1 := grown_cells HL1.out rowk htk
    clear hgrow hsz htk rowk hgk
    go_wp2_with fail
    refine (KP.out wg1 _ _ (fatB FF.out bg1) (Or.inr ⟨gk1, 0, ck1, p1, hck1, rfl, fun V bV => HK1.out V bV⟩) (Or.inl ⟨_, _, HZ2.out, rfl⟩)).mono ?_
    rintro r w1 ⟨rfl, b1⟩
    have b2 := bal w1 (.cells #[.int .u64 (u : Nat), .int .u64 (v : Nat)] 26)
    have Rx_2 := heap_alloc_last w1 (.cells #[.int .u64 (u : Nat), .int .u64 (v : Nat)] 26)
    have bx := btr b1 b2
    have bq := btr bg1 bx
    go_wp2_with fail
    refine (KQ.out _ _ _ (Or.inr ⟨g1, z1, c1, p1, hc1, rfl, fun V bV => HC1.out V (btr bq bV)⟩) (Or.inl ⟨_, _, HZ2.out, rfl⟩)).mono ?_
    rintro r w3 ⟨rfl, b3⟩
    have Rx_3 := heap_of b3 _ _ _ Rx_2
    have b4 := bal w3 (.cells #[.int .u64 (u : Nat), .int .u64 (v : Nat)] 26)
    have Ry_4 := heap_alloc_last w3 (.cells #[.int .u64 (u : Nat), .int .u64 (v : Nat)] 26)
    have Rx_4 := heap_of b4 _ _ _ Rx_3
    have by4 := btr bx (btr b3 b4)
    have B4 := btr bg1 by4
    have bk1 := by4
    obtain ⟨V, hV⟩ : ∃ V, w3.alloc (.cells #[.int .u64 (u : Nat), .int .u64 (v : Nat)] 26) = V := ⟨_, rfl⟩
    go_wp2
    rw [hV] at Rx_4 Ry_4 by4 B4 bk1
    clear hV Rx_3 Rx_2 b4 b3 b2 b1 bx bq KP KQ hlen1 hb1 info hi hz0 hz1 hz2
    go_loopw [17] (fun iv wr => ∃ k : Nat, k ≤ L1 ∧ iv = .int .i64 k ∧ Below V.heap.size V wr) (fun iv _ => L1 - (intOf iv).toNat)
    case atStart => exact ⟨0, by omega, rfl, (Below.refl _ _)⟩
    case round =>
      obtain ⟨k, hk, rfl, B21⟩ := hrel
      by_cases hlt : k < L1
      · obtain ⟨p, hp⟩ : ∃ p, l1[k]? = some p := ⟨_, List.getElem?_eq_getElem (by rw [HL1.out]; exact hlt)⟩
        obtain ⟨a0, a1⟩ := HK1.out _ (btr bk1 B21) k p hp
        obtain ⟨q0, q1⟩ := HC1.out _ (btr B4 B21) k p hp
        rw [Nat.zero_add] at a0 a1
        have dl : decide ((k : Int) < (L1 : Int)) = true := decide_eq_true (by omega)
        have hb0 : (0 : Int) ≤ (k : Int) := by omega
        have hb1 : (k : Int) < (L1 : Int) := by omega
        clear hp
        go_wp2_with fail
        go_quiet (fail)
        obtain ⟨w21, hw, B31, hh⟩ := quiet_world B21 nq
        rw [hw]
        go_wp2
        go_roundw
        case rel => exact ⟨k + 1, by omega, by go_num, B31⟩
        case measure => simp [intOf] <;> omega
      · obtain rfl : k = L1 := by omega
        have dl : decide ((k : Int) < (k : Int)) = false := by rw [decide_eq_false_iff_not]; omega
        go_wp2
        go_loopw [18] (fun iv wr => iv = .int .i64 0 ∧ Below V.heap.size V wr) (fun _ _ => 0)
        case atStart => exact ⟨rfl, B21⟩
        case round =>
          obtain ⟨rfl, B22⟩ := hrel
          obtain ⟨x0, x1⟩ := cells2s (heap_of B22 _ _ _ Rx_4)
          obtain ⟨y0, y1⟩ := cells2s (heap_of B22 _ _ _ Ry_4)
          go_wp2_with fail
          refine (KA.out _ (fatB FF.out (btr B4 B22))).mono ?_
          rintro r w5 ⟨rfl, b5⟩
          go_wp2
          go_ret
          exact ⟨rfl, btr (btr B4 B22) b5⟩
set_option maxRecDepth 100000 in
set_option maxHeartbeats 8000000 in
theorem fd_NS (f m : Int) (l1 l2 : List (Nat × Nat)) (L1 L2 : Nat) (w : World) (g1 z1 c1 : Nat) (hl1 : l1.length = L1) (p1 : 1 ≤ L1) (q1 : L1 ≤ 40) (hc1 : L1 ≤ c1)
    (HC1 : Box (∀ W, Below w.heap.size w W → ∀ k p, l1[k]? = some p → W.cell? ⟨g1, z1 + k * 2, none⟩ = some (.int .u64 (p.1 : Nat)) ∧ W.cell? ⟨g1, z1 + k * 2 + 1, none⟩ = some (.int .u64 (p.2 : Nat)))) (o2 : Addr) (c2 : Nat) (hl2 : L2 = 0)
    (u v : Nat) (fl e : Int) (he : IntKind.i64.wrap e = e)
    (KP : Box (∀ (W : World) (s1 s2 : Value), FAt W → SV l1 L1 s1 W → SV l2 L2 s2 W → Calls Tryz.prog 19 #[.int .u8 f, .int .u8 m, s1, s2] W fun r w' => r = .returned (.tuple #[.agg #[.int .u64 (u : Nat), .int .u64 (v : Nat)], .int .u8 fl, .int .i64 e]) ∧ Below W.heap.size W w'))
    (KQ : Box (∀ (W : World) (s1 s2 : Value), SV l1 L1 s1 W → SV l2 L2 s2 W → Calls Tryz.prog 20 #[.int .u8 f, .int .u8 m, s1, s2] W fun r w' => r = .returned (.tuple #[.agg #[.int .u64 (u : Nat), .int .u64 (v : Nat)], .int .u8 fl, .int .i64 e]) ∧ Below W.heap.size W w'))
    (KA : Box (∀ w, FAt w → Calls Tryz.prog 14 #[] w fun r w' => r = .returned (.bool true) ∧ Below w.heap.size w w')) (hT : FAt w) : Calls Tryz.prog 6 #[.int .u8 f, .int .u8 m, .slice (some ⟨g1, z1, none⟩) L1 c1, .slice (some o2) 0 c2] w fun r w' => r = .returned (.bool true) ∧ Below w.heap.size w w' := by
  have FF := box hT
  clear hT
  have HL1 := box hl1
  clear hl1
  have d1 : decide ((40 : Int) < (L1 : Int)) = false := decide_eq_false (by omega)
  have hlen1 := blsF_len l1
  rw [HL1.out] at hlen1
  have hb1 := fun j u (h : (l1.flatMap fun p => [Value.int .u64 (p.1 : Nat), Value.int .u64 (p.2 : Nat)])[j]? = some u) => blsF_cell l1 j u h
  have HZ2 := box hl2
  clear hl2
  have info : (Tryz.prog.info? 26).map (fun i => (i.zero, i.size, i.bytes)) = some (some (.agg #[.int .u64 0, .int .u64 0]), 2, 16) := by kernel_rfl
  obtain ⟨i0, hi, hz0, hz1, hz2⟩ := info_parts info
  go_enter Tryz.func6, Tryz.ntmps6
  go_wp2_with (at_builtin; refine wpList_append_grows _ rfl (.const (.slice none 0 0)) (.tmp 28) 39 rfl 26 i0 (.agg #[.int .u64 0, .int .u64 0]) 2 16 Tryz.underlying39 hi hz0 hz1 hz2 rfl (by decide) none 0 0 [] rfl (fun _ => ⟨rfl, rfl⟩) rfl (by intro _ _ _ _ h; simp at h) ⟨g1, z1, none⟩ L1 c1 (l1.flatMap fun p => [Value.int .u64 (p.1 : Nat), Value.int .u64 (p.2 : Nat)]) rfl hlen1 ?c1 ?c2 ?full ?b1 ?b2 ?grow)
  case c1 =>
    intro j u hj
    obtain ⟨p, hp, rfl⟩ := hb1 j u hj
    obtain ⟨q0, q1⟩ := HC1.out w (Below.refl _ _) (j / 2) p hp
    rw [show ({ block := g1, off := z1, spot := none } : Addr).add j = ⟨g1, z1 + j, none⟩ by simp [Addr.add]]
    by_cases c0 : j % 2 = 0
    · rw [if_pos c0, show z1 + j = z1 + j / 2 * 2 by omega]
      exact q0
    · rw [if_neg c0, show z1 + j = z1 + j / 2 * 2 + 1 by omega]
      exact q1
  case c2 =>
    intro u hu
    obtain ⟨j, hj⟩ := List.mem_iff_getElem?.1 hu
    obtain ⟨p, hp, rfl⟩ := hb1 j u hj
    split <;> rfl
  case full => omega
  case b1 => unfold maxLen; omega
  case b2 => omega
  case grow =>
    intro v' wg1 hown hgrow
    obtain ⟨_, ⟨_, hn0⟩ | ⟨gk1, ck1, cur, rfl, hgk, rowk, hck1, _, hsz, htk⟩⟩ := hown
    · omega
    have bi1 : Below w.heap.size w wg1 := (Below.refl _ _).grown hgrow (Nat.le_refl _) (fun k h => by cases h)
    have bg1 := btr (Below.refl _ _) bi1
    have HK1 := grown_cells HL1.out rowk htk
    clear hgrow hsz htk rowk hgk
    go_wp2_with fail
    refine (KP.out wg1 _ _ (fatB FF.out bg1) (Or.inr ⟨gk1, 0, ck1, p1, hck1, rfl, fun V bV => HK1.out V bV⟩) (Or.inl ⟨_, _, HZ2.out, rfl⟩)).mono ?_
    rintro r w1 ⟨rfl, b1⟩
    have b2 := bal w1 (.cells #[.int .u64 (u : Nat), .int .u64 (v : Nat)] 26)
    have Rx_2 := heap_alloc_last w1 (.cells #[.int .u64 (u : Nat), .int .u64 (v : Nat)] 26)
    have bx := btr b1 b2
    have bq := btr bg1 bx
    go_wp2_with fail
    refine (KQ.out _ _ _ (Or.inr ⟨g1, z1, c1, p1, hc1, rfl, fun V bV => HC1.out V (btr bq bV)⟩) (Or.inl ⟨_, _, HZ2.out, rfl⟩)).mono ?_
    rintro r w3 ⟨rfl, b3⟩
    have Rx_3 := heap_of b3 _ _ _ Rx_2
    have b4 := bal w3 (.cells #[.int .u64 (u : Nat), .int .u64 (v : Nat)] 26)
    have Ry_4 := heap_alloc_last w3 (.cells #[.int .u64 (u : Nat), .int .u64 (v : Nat)] 26)
    have Rx_4 := heap_of b4 _ _ _ Rx_3
    have by4 := btr bx (btr b3 b4)
    have B4 := btr bg1 by4
    have bk1 := by4
    obtain ⟨V, hV⟩ : ∃ V, w3.alloc (.cells #[.int .u64 (u : Nat), .int .u64 (v : Nat)] 26) = V := ⟨_, rfl⟩
    go_wp2
    rw [hV] at Rx_4 Ry_4 by4 B4 bk1
    clear hV Rx_3 Rx_2 b4 b3 b2 b1 bx bq KP KQ hlen1 hb1 info hi hz0 hz1 hz2
    go_loopw [17] (fun iv wr => ∃ k : Nat, k ≤ L1 ∧ iv = .int .i64 k ∧ Below V.heap.size V wr) (fun iv _ => L1 - (intOf iv).toNat)
    case atStart => exact ⟨0, by omega, rfl, (Below.refl _ _)⟩
    case round =>
      obtain ⟨k, hk, rfl, B21⟩ := hrel
      by_cases hlt : k < L1
      · obtain ⟨p, hp⟩ : ∃ p, l1[k]? = some p := ⟨_, List.getElem?_eq_getElem (by rw [HL1.out]; exact hlt)⟩
        obtain ⟨a0, a1⟩ := HK1.out _ (btr bk1 B21) k p hp
        obtain ⟨q0, q1⟩ := HC1.out _ (btr B4 B21) k p hp
        rw [Nat.zero_add] at a0 a1
        have dl : decide ((k : Int) < (L1 : Int)) = true := decide_eq_true (by omega)
        have hb0 : (0 : Int) ≤ (k : Int) := by omega
        have hb1 : (k : Int) < (L1 : Int) := by omega
        clear hp
        go_wp2_with fail
        go_quiet (fail)
        obtain ⟨w21, hw, B31, hh⟩ := quiet_world B21 nq
        rw [hw]
        go_wp2
        go_roundw
        case rel => exact ⟨k + 1, by omega, by go_num, B31⟩
        case measure => simp [intOf] <;> omega
      · obtain rfl : k = L1 := by omega
        have dl : decide ((k : Int) < (k : Int)) = false := by rw [decide_eq_false_iff_not]; omega
        go_wp2
        go_loopw [18] (fun iv wr => iv = .int .i64 0 ∧ Below V.heap.size V wr) (fun _ _ => 0)
        case atStart => exact ⟨rfl, B21⟩
        case round =>
          obtain ⟨rfl, B22⟩ := hrel
          obtain ⟨x0, x1⟩ := cells2s (heap_of B22 _ _ _ Rx_4)
          obtain ⟨y0, y1⟩ := cells2s (heap_of B22 _ _ _ Ry_4)
          go_wp2_with fail
          refine (KA.out _ (fatB FF.out (btr B4 B22))).mono ?_
          rintro r w5 ⟨rfl, b5⟩
          go_wp2
          go_ret
          exact ⟨rfl, btr (btr B4 B22) b5⟩
set_option maxRecDepth 100000 in
set_option maxHeartbeats 8000000 in
theorem fd_ZN (f m : Int) (l1 l2 : List (Nat × Nat)) (L1 L2 : Nat) (w : World) (hl1 : L1 = 0) (g2 z2 c2 : Nat) (hl2 : l2.length = L2) (p2 : 1 ≤ L2) (q2 : L2 ≤ 40) (hc2 : L2 ≤ c2)
    (HC2 : Box (∀ W, Below w.heap.size w W → ∀ k p, l2[k]? = some p → W.cell? ⟨g2, z2 + k * 2, none⟩ = some (.int .u64 (p.1 : Nat)) ∧ W.cell? ⟨g2, z2 + k * 2 + 1, none⟩ = some (.int .u64 (p.2 : Nat))))
    (u v : Nat) (fl e : Int) (he : IntKind.i64.wrap e = e)
    (KP : Box (∀ (W : World) (s1 s2 : Value), FAt W → SV l1 L1 s1 W → SV l2 L2 s2 W → Calls Tryz.prog 19 #[.int .u8 f, .int .u8 m, s1, s2] W fun r w' => r = .returned (.tuple #[.agg #[.int .u64 (u : Nat), .int .u64 (v : Nat)], .int .u8 fl, .int .i64 e]) ∧ Below W.heap.size W w'))
    (KQ : Box (∀ (W : World) (s1 s2 : Value), SV l1 L1 s1 W → SV l2 L2 s2 W → Calls Tryz.prog 20 #[.int .u8 f, .int .u8 m, s1, s2] W fun r w' => r = .returned (.tuple #[.agg #[.int .u64 (u : Nat), .int .u64 (v : Nat)], .int .u8 fl, .int .i64 e]) ∧ Below W.heap.size W w'))
    (KA : Box (∀ w, FAt w → Calls Tryz.prog 14 #[] w fun r w' => r = .returned (.bool true) ∧ Below w.heap.size w w')) (hT : FAt w) : Calls Tryz.prog 6 #[.int .u8 f, .int .u8 m, .slice none 0 0, .slice (some ⟨g2, z2, none⟩) L2 c2] w fun r w' => r = .returned (.bool true) ∧ Below w.heap.size w w' := by
  have FF := box hT
  clear hT
  have HZ1 := box hl1
  clear hl1
  have HL2 := box hl2
  clear hl2
  have d2 : decide ((40 : Int) < (L2 : Int)) = false := decide_eq_false (by omega)
  have hlen2 := blsF_len l2
  rw [HL2.out] at hlen2
  have hb2 := fun j u (h : (l2.flatMap fun p => [Value.int .u64 (p.1 : Nat), Value.int .u64 (p.2 : Nat)])[j]? = some u) => blsF_cell l2 j u h
  have info : (Tryz.prog.info? 26).map (fun i => (i.zero, i.size, i.bytes)) = some (some (.agg #[.int .u64 0, .int .u64 0]), 2, 16) := by kernel_rfl
  obtain ⟨i0, hi, hz0, hz1, hz2⟩ := info_parts info
  go_enter Tryz.func6, Tryz.ntmps6
  go_wp2_with (at_builtin; refine wpList_append_grows _ rfl (.const (.slice none 0 0)) (.tmp 30) 39 rfl 26 i0 (.agg #[.int .u64 0, .int .u64 0]) 2 16 Tryz.underlying39 hi hz0 hz1 hz2 rfl (by decide) none 0 0 [] rfl (fun _ => ⟨rfl, rfl⟩) rfl (by intro _ _ _ _ h; simp at h) ⟨g2, z2, none⟩ L2 c2 (l2.flatMap fun p => [Value.int .u64 (p.1 : Nat), Value.int .u64 (p.2 : Nat)]) rfl hlen2 ?c1 ?c2 ?full ?b1 ?b2 ?grow)
  case c1 =>
    intro j u hj
    obtain ⟨p, hp, rfl⟩ := hb2 j u hj
    obtain ⟨q0, q1⟩ := HC2.out w (Below.refl _ _) (j / 2) p hp
    rw [show ({ block := g2, off := z2, spot := none } : Addr).add j = ⟨g2, z2 + j, none⟩ by simp [Addr.add]]
    by_cases c0 : j % 2 = 0
    · rw [if_pos c0, show z2 + j = z2 + j / 2 * 2 by omega]
      exact q0
    · rw [if_neg c0, show z2 + j = z2 + j / 2 * 2 + 1 by omega]
      exact q1
  case c2 =>
    intro u hu
    obtain ⟨j, hj⟩ := List.mem_iff_getElem?.1 hu
    obtain ⟨p, hp, rfl⟩ := hb2 j u hj
    split <;> rfl
  case full => omega
  case b1 => unfold maxLen; omega
  case b2 => omega
  case grow =>
    intro v' wg2 hown hgrow
    obtain ⟨_, ⟨_, hn0⟩ | ⟨gk2, ck2, cur, rfl, hgk, rowk, hck2, _, hsz, htk⟩⟩ := hown
    · omega
    have bi2 : Below w.heap.size w wg2 := (Below.refl _ _).grown hgrow (Nat.le_refl _) (fun k h => by cases h)
    have bg2 := btr (Below.refl _ _) bi2
    have HK2 := grown_cells HL2.out rowk htk
    clear hgrow hsz htk rowk hgk
    go_wp2_with fail
    refine (KP.out wg2 _ _ (fatB FF.out bg2) (Or.inl ⟨_, _, HZ1.out, rfl⟩) (Or.inr ⟨gk2, 0, ck2, p2, hck2, rfl, fun V bV => HK2.out V bV⟩)).mono ?_
    rintro r w1 ⟨rfl, b1⟩
    have b2 := bal w1 (.cells #[.int .u64 (u : Nat), .int .u64 (v : Nat)] 26)
    have Rx_2 := heap_alloc_last w1 (.cells #[.int .u64 (u : Nat), .int .u64 (v : Nat)] 26)
    have bx := btr b1 b2
    have bq := btr bg2 bx
    go_wp2_with fail
    refine (KQ.out _ _ _ (Or.inl ⟨_, _, HZ1.out, rfl⟩) (Or.inr ⟨g2, z2, c2, p2, hc2, rfl, fun V bV => HC2.out V (btr bq bV)⟩)).mono ?_
    rintro r w3 ⟨rfl, b3⟩
    have Rx_3 := heap_of b3 _ _ _ Rx_2
    have b4 := bal w3 (.cells #[.int .u64 (u : Nat), .int .u64 (v : Nat)] 26)
    have Ry_4 := heap_alloc_last w3 (.cells #[.int .u64 (u : Nat), .int .u64 (v : Nat)] 26)
    have Rx_4 := heap_of b4 _ _ _ Rx_3
    have by4 := btr bx (btr b3 b4)
    have B4 := btr bg2 by4
    have bk2 := by4
    obtain ⟨V, hV⟩ : ∃ V, w3.alloc (.cells #[.int .u64 (u : Nat), .int .u64 (v : Nat)] 26) = V := ⟨_, rfl⟩
    go_wp2
    rw [hV] at Rx_4 Ry_4 by4 B4 bk2
    clear hV Rx_3 Rx_2 b4 b3 b2 b1 bx bq KP KQ hlen2 hb2 info hi hz0 hz1 hz2
    go_loopw [17] (fun iv wr => iv = .int .i64 0 ∧ Below V.heap.size V wr) (fun _ _ => 0)
    case atStart => exact ⟨rfl, (Below.refl _ _)⟩
    case round =>
      obtain ⟨rfl, B21⟩ := hrel
      go_wp2
      go_loopw [18] (fun iv wr => ∃ k : Nat, k ≤ L2 ∧ iv = .int .i64 k ∧ Below V.heap.size V wr) (fun iv _ => L2 - (intOf iv).toNat)
      case atStart => exact ⟨0, by omega, rfl, B21⟩
      case round =>
        obtain ⟨k, hk, rfl, B22⟩ := hrel
        by_cases hlt : k < L2
        · obtain ⟨p, hp⟩ : ∃ p, l2[k]? = some p := ⟨_, List.getElem?_eq_getElem (by rw [HL2.out]; exact hlt)⟩
          obtain ⟨a0, a1⟩ := HK2.out _ (btr bk2 B22) k p hp
          obtain ⟨q0, q1⟩ := HC2.out _ (btr B4 B22) k p hp
          rw [Nat.zero_add] at a0 a1
          have dl : decide ((k : Int) < (L2 : Int)) = true := decide_eq_true (by omega)
          have hb0 : (0 : Int) ≤ (k : Int) := by omega
          have hb1 : (k : Int) < (L2 : Int) := by omega
          clear hp
          go_wp2_with fail
          go_quiet (fail)
          obtain ⟨w21, hw, B31, hh⟩ := quiet_world B22 nq
          rw [hw]
          go_wp2
          go_roundw
          case rel => exact ⟨k + 1, by omega, by go_num, B31⟩
          case measure => simp [intOf] <;> omega
        · obtain rfl : k = L2 := by omega
          have dl : decide ((k : Int) < (k : Int)) = false := by rw [decide_eq_false_iff_not]; omega
          obtain ⟨x0, x1⟩ := cells2s (heap_of B22 _ _ _ Rx_4)
          obtain ⟨y0, y1⟩ := cells2s (heap_of B22 _ _ _ Ry_4)
          go_wp2_with fail
          refine (KA.out _ (fatB FF.out (btr B4 B22))).mono ?_
          rintro r w5 ⟨rfl, b5⟩
          go_wp2
          go_ret
          exact ⟨rfl, btr (btr B4 B22) b5⟩
set_option maxRecDepth 100000 in
set_option maxHeartbeats 8000000 in
theorem fd_ZZ (f m : Int) (l1 l2 : List (Nat × Nat)) (L1 L2 : Nat) (w : World) (hl1 : L1 = 0) (hl2 : L2 = 0)
    (u v : Nat) (fl e : Int) (he : IntKind.i64.wrap e = e)
    (KP : Box (∀ (W : World) (s1 s2 : Value), FAt W → SV l1 L1 s1 W → SV l2 L2 s2 W → Calls Tryz.prog 19 #[.int .u8 f, .int .u8 m, s1, s2] W fun r w' => r = .returned (.tuple #[.agg #[.int .u64 (u : Nat), .int .u64 (v : Nat)], .int .u8 fl, .int .i64 e]) ∧ Below W.heap.size W w'))
    (KQ : Box (∀ (W : World) (s1 s2 : Value), SV l1 L1 s1 W → SV l2 L2 s2 W → Calls Tryz.prog 20 #[.int .u8 f, .int .u8 m, s1, s2] W fun r w' => r = .returned (.tuple #[.agg #[.int .u64 (u : Nat), .int .u64 (v : Nat)], .int .u8 fl, .int .i64 e]) ∧ Below W.heap.size W w'))
    (KA : Box (∀ w, FAt w → Calls Tryz.prog 14 #[] w fun r w' => r = .returned (.bool true) ∧ Below w.heap.size w w')) (hT : FAt w) : Calls Tryz.prog 6 #[.int .u8 f, .int .u8 m, .slice none 0 0, .slice none 0 0] w fun r w' => r = .returned (.bool true) ∧ Below w.heap.size w w' := by
  have FF := box hT
  clear hT
  have HZ1 := box hl1
  clear hl1
  have HZ2 := box hl2
  clear hl2
  go_enter Tryz.func6, Tryz.ntmps6
  go_wp2_with fail
  refine (KP.out w _ _ (fatB FF.out (Below.refl _ _)) (Or.inl ⟨_, _, HZ1.out, rfl⟩) (Or.inl ⟨_, _, HZ2.out, rfl⟩)).mono ?_
  rintro r w1 ⟨rfl, b1⟩
  have b2 := bal w1 (.cells #[.int .u64 (u : Nat), .int .u64 (v : Nat)] 26)
  have Rx_2 := heap_alloc_last w1 (.cells #[.int .u64 (u : Nat), .int .u64 (v : Nat)] 26)
  have bx := btr b1 b2
  have bq := btr (Below.refl _ _) bx
  go_wp2_with fail
  refine (KQ.out _ _ _ (Or.inl ⟨_, _, HZ1.out, rfl⟩) (Or.inl ⟨_, _, HZ2.out, rfl⟩)).mono ?_
  rintro r w3 ⟨rfl, b3⟩
  have Rx_3 := heap_of b3 _ _ _ Rx_2
  have b4 := bal w3 (.cells #[.int .u64 (u : Nat), .int .u64 (v : Nat)] 26)
  have Ry_4 := heap_alloc_last w3 (.cells #[.int .u64 (u : Nat), .int .u64 (v : Nat)] 26)
  have Rx_4 := heap_of b4 _ _ _ Rx_3
  have by4 := btr bx (btr b3 b4)
  have B4 := btr (Below.refl _ _) by4
  obtain ⟨V, hV⟩ : ∃ V, w3.alloc (.cells #[.int .u64 (u : Nat), .int .u64 (v : Nat)] 26) = V := ⟨_, rfl⟩
  go_wp2
  rw [hV] at Rx_4 Ry_4 by4 B4
  clear hV Rx_3 Rx_2 b4 b3 b2 b1 bx bq KP KQ
  go_loopw [17] (fun iv wr => iv = .int .i64 0 ∧ Below V.heap.size V wr) (fun _ _ => 0)
  case atStart => exact ⟨rfl, (Below.refl _ _)⟩
  case round =>
    obtain ⟨rfl, B21⟩ := hrel
    go_wp2
    go_loopw [18] (fun iv wr => iv = .int .i64 0 ∧ Below V.heap.size V wr) (fun _ _ => 0)
    case atStart => exact ⟨rfl, B21⟩
    case round =>
      obtain ⟨rfl, B22⟩ := hrel
      obtain ⟨x0, x1⟩ := cells2s (heap_of B22 _ _ _ Rx_4)
      obtain ⟨y0, y1⟩ := cells2s (heap_of B22 _ _ _ Ry_4)
      go_wp2_with fail
      refine (KA.out _ (fatB FF.out (btr B4 B22))).mono ?_
      rintro r w5 ⟨rfl, b5⟩
      go_wp2
      go_ret
      exact ⟨rfl, btr (btr B4 B22) b5⟩
set_option maxRecDepth 100000 in
set_option maxHeartbeats 8000000 in
theorem fd_ZS (f m : Int) (l1 l2 : List (Nat × Nat)) (L1 L2 : Nat) (w : World) (hl1 : L1 = 0) (o2 : Addr) (c2 : Nat) (hl2 : L2 = 0)
    (u v : Nat) (fl e : Int) (he : IntKind.i64.wrap e = e)
    (KP : Box (∀ (W : World) (s1 s2 : Value), FAt W → SV l1 L1 s1 W → SV l2 L2 s2 W → Calls Tryz.prog 19 #[.int .u8 f, .int .u8 m, s1, s2] W fun r w' => r = .returned (.tuple #[.agg #[.int .u64 (u : Nat), .int .u64 (v : Nat)], .int .u8 fl, .int .i64 e]) ∧ Below W.heap.size W w'))
    (KQ : Box (∀ (W : World) (s1 s2 : Value), SV l1 L1 s1 W → SV l2 L2 s2 W → Calls Tryz.prog 20 #[.int .u8 f, .int .u8 m, s1, s2] W fun r w' => r = .returned (.tuple #[.agg #[.int .u64 (u : Nat), .int .u64 (v : Nat)], .int .u8 fl, .int .i64 e]) ∧ Below W.heap.size W w'))
    (KA : Box (∀ w, FAt w → Calls Tryz.prog 14 #[] w fun r w' => r = .returned (.bool true) ∧ Below w.heap.size w w')) (hT : FAt w) : Calls Tryz.prog 6 #[.int .u8 f, .int .u8 m, .slice none 0 0, .slice (some o2) 0 c2] w fun r w' => r = .returned (.bool true) ∧ Below w.heap.size w w' := by
  have FF := box hT
  clear hT
  have HZ1 := box hl1
  clear hl1
  have HZ2 := box hl2
  clear hl2
  go_enter Tryz.func6, Tryz.ntmps6
  go_wp2_with fail
  refine (KP.out w _ _ (fatB FF.out (Below.refl _ _)) (Or.inl ⟨_, _, HZ1.out, rfl⟩) (Or.inl ⟨_, _, HZ2.out, rfl⟩)).mono ?_
  rintro r w1 ⟨rfl, b1⟩
  have b2 := bal w1 (.cells #[.int .u64 (u : Nat), .int .u64 (v : Nat)] 26)
  have Rx_2 := heap_alloc_last w1 (.cells #[.int .u64 (u : Nat), .int .u64 (v : Nat)] 26)
  have bx := btr b1 b2
  have bq := btr (Below.refl _ _) bx
  go_wp2_with fail
  refine (KQ.out _ _ _ (Or.inl ⟨_, _, HZ1.out, rfl⟩) (Or.inl ⟨_, _, HZ2.out, rfl⟩)).mono ?_
  rintro r w3 ⟨rfl, b3⟩
  have Rx_3 := heap_of b3 _ _ _ Rx_2
  have b4 := bal w3 (.cells #[.int .u64 (u : Nat), .int .u64 (v : Nat)] 26)
  have Ry_4 := heap_alloc_last w3 (.cells #[.int .u64 (u : Nat), .int .u64 (v : Nat)] 26)
  have Rx_4 := heap_of b4 _ _ _ Rx_3
  have by4 := btr bx (btr b3 b4)
  have B4 := btr (Below.refl _ _) by4
  obtain ⟨V, hV⟩ : ∃ V, w3.alloc (.cells #[.int .u64 (u : Nat), .int .u64 (v : Nat)] 26) = V := ⟨_, rfl⟩
  go_wp2
  rw [hV] at Rx_4 Ry_4 by4 B4
  clear hV Rx_3 Rx_2 b4 b3 b2 b1 bx bq KP KQ
  go_loopw [17] (fun iv wr => iv = .int .i64 0 ∧ Below V.heap.size V wr) (fun _ _ => 0)
  case atStart => exact ⟨rfl, (Below.refl _ _)⟩
  case round =>
    obtain ⟨rfl, B21⟩ := hrel
    go_wp2
    go_loopw [18] (fun iv wr => iv = .int .i64 0 ∧ Below V.heap.size V wr) (fun _ _ => 0)
    case atStart => exact ⟨rfl, B21⟩
    case round =>
      obtain ⟨rfl, B22⟩ := hrel
      obtain ⟨x0, x1⟩ := cells2s (heap_of B22 _ _ _ Rx_4)
      obtain ⟨y0, y1⟩ := cells2s (heap_of B22 _ _ _ Ry_4)
      go_wp2_with fail
      refine (KA.out _ (fatB FF.out (btr B4 B22))).mono ?_
      rintro r w5 ⟨rfl, b5⟩
      go_wp2
      go_ret
      exact ⟨rfl, btr (btr B4 B22) b5⟩
set_option maxRecDepth 100000 in
set_option maxHeartbeats 8000000 in
theorem fd_SN (f m : Int) (l1 l2 : List (Nat × Nat)) (L1 L2 : Nat) (w : World) (o1 : Addr) (c1 : Nat) (hl1 : L1 = 0) (g2 z2 c2 : Nat) (hl2 : l2.length = L2) (p2 : 1 ≤ L2) (q2 : L2 ≤ 40) (hc2 : L2 ≤ c2)
    (HC2 : Box (∀ W, Below w.heap.size w W → ∀ k p, l2[k]? = some p → W.cell? ⟨g2, z2 + k * 2, none⟩ = some (.int .u64 (p.1 : Nat)) ∧ W.cell? ⟨g2, z2 + k * 2 + 1, none⟩ = some (.int .u64 (p.2 : Nat))))
    (u v : Nat) (fl e : Int) (he : IntKind.i64.wrap e = e)
    (KP : Box (∀ (W : World) (s1 s2 : Value), FAt W → SV l1 L1 s1 W → SV l2 L2 s2 W → Calls Tryz.prog 19 #[.int .u8 f, .int .u8 m, s1, s2] W fun r w' => r = .returned (.tuple #[.agg #[.int .u64 (u : Nat), .int .u64 (v : Nat)], .int .u8 fl, .int .i64 e]) ∧ Below W.heap.size W w'))
    (KQ : Box (∀ (W : World) (s1 s2 : Value), SV l1 L1 s1 W → SV l2 L2 s2 W → Calls Tryz.prog 20 #[.int .u8 f, .int .u8 m, s1, s2] W fun r w' => r = .returned (.tuple #[.agg #[.int .u64 (u : Nat), .int .u64 (v : Nat)], .int .u8 fl, .int .i64 e]) ∧ Below W.heap.size W w'))
    (KA : Box (∀ w, FAt w → Calls Tryz.prog 14 #[] w fun r w' => r = .returned (.bool true) ∧ Below w.heap.size w w')) (hT : FAt w) : Calls Tryz.prog 6 #[.int .u8 f, .int .u8 m, .slice (some o1) 0 c1, .slice (some ⟨g2, z2, none⟩) L2 c2] w fun r w' => r = .returned (.bool true) ∧ Below w.heap.size w w' := by
  have FF := box hT
  clear hT
  have HZ1 := box hl1
  clear hl1
  have HL2 := box hl2
  clear hl2
  have d2 : decide ((40 : Int) < (L2 : Int)) = false := decide_eq_false (by omega)
  have hlen2 := blsF_len l2
  rw [HL2.out] at hlen2
  have hb2 := fun j u (h : (l2.flatMap fun p => [Value.int .u64 (p.1 : Nat), Value.int .u64 (p.2 : Nat)])[j]? = some u) => blsF_cell l2 j u h
  have info : (Tryz.prog.info? 26).map (fun i => (i.zero, i.size, i.bytes)) = some (some (.agg #[.int .u64 0, .int .u64 0]), 2, 16) := by kernel_rfl
  obtain ⟨i0, hi, hz0, hz1, hz2⟩ := info_parts info
  go_enter Tryz.func6, Tryz.ntmps6
  go_wp2_with (at_builtin; refine wpList_append_grows _ rfl (.const (.slice none 0 0)) (.tmp 30) 39 rfl 26 i0 (.agg #[.int .u64 0, .int .u64 0]) 2 16 Tryz.underlying39 hi hz0 hz1 hz2 rfl (by decide) none 0 0 [] rfl (fun _ => ⟨rfl, rfl⟩) rfl (by intro _ _ _ _ h; simp at h) ⟨g2, z2, none⟩ L2 c2 (l2.flatMap fun p => [Value.int .u64 (p.1 : Nat), Value.int .u64 (p.2 : Nat)]) rfl hlen2 ?c1 ?c2 ?full ?b1 ?b2 ?grow)
  case c1 =>
    intro j u hj
    obtain ⟨p, hp, rfl⟩ := hb2 j u hj
    obtain ⟨q0, q1⟩ := HC2.out w (Below.refl _ _) (j / 2) p hp
    rw [show ({ block := g2, off := z2, spot := none } : Addr).add j = ⟨g2, z2 + j, none⟩ by simp [Addr.add]]
    by_cases c0 : j % 2 = 0
    · rw [if_pos c0, show z2 + j = z2 + j / 2 * 2 by omega]
      exact q0
    · rw [if_neg c0, show z2 + j = z2 + j / 2 * 2 + 1 by omega]
      exact q1
  case c2 =>
    intro u hu
    obtain ⟨j, hj⟩ := List.mem_iff_getElem?.1 hu
    obtain ⟨p, hp, rfl⟩ := hb2 j u hj
    split <;> rfl
  case full => omega
  case b1 => unfold maxLen; omega
  case b2 => omega
  case grow =>
    intro v' wg2 hown hgrow
    obtain ⟨_, ⟨_, hn0⟩ | ⟨gk2, ck2, cur, rfl, hgk, rowk, hck2, _, hsz, htk⟩⟩ := hown
    · omega
    have bi2 : Below w.heap.size w wg2 := (Below.refl _ _).grown hgrow (Nat.le_refl _) (fun k h => by cases h)
    have bg2 := btr (Below.refl _ _) bi2
    have HK2 := grown_cells HL2.out rowk htk
    clear hgrow hsz htk rowk hgk
    go_wp2_with fail
    refine (KP.out wg2 _ _ (fatB FF.out bg2) (Or.inl ⟨_, _, HZ1.out, rfl⟩) (Or.inr ⟨gk2, 0, ck2, p2, hck2, rfl, fun V bV => HK2.out V bV⟩)).mono ?_
    rintro r w1 ⟨rfl, b1⟩
    have b2 := bal w1 (.cells #[.int .u64 (u : Nat), .int .u64 (v : Nat)] 26)
    have Rx_2 := heap_alloc_last w1 (.cells #[.int .u64 (u : Nat), .int .u64 (v : Nat)] 26)
    have bx := btr b1 b2
    have bq := btr bg2 bx
    go_wp2_with fail
    refine (KQ.out _ _ _ (Or.inl ⟨_, _, HZ1.out, rfl⟩) (Or.inr ⟨g2, z2, c2, p2, hc2, rfl, fun V bV => HC2.out V (btr bq bV)⟩)).mono ?_
    rintro r w3 ⟨rfl, b3⟩
    have Rx_3 := heap_of b3 _ _ _ Rx_2
    have b4 := bal w3 (.cells #[.int .u64 (u : Nat), .int .u64 (v : Nat)] 26)
    have Ry_4 := heap_alloc_last w3 (.cells #[.int .u64 (u : Nat), .int .u64 (v : Nat)] 26)
    have Rx_4 := heap_of b4 _ _ _ Rx_3
    have by4 := btr bx (btr b3 b4)
    have B4 := btr bg2 by4
    have bk2 := by4
    obtain ⟨V, hV⟩ : ∃ V, w3.alloc (.cells #[.int .u64 (u : Nat), .int .u64 (v : Nat)] 26) = V := ⟨_, rfl⟩
    go_wp2
    rw [hV] at Rx_4 Ry_4 by4 B4 bk2
    clear hV Rx_3 Rx_2 b4 b3 b2 b1 bx bq KP KQ hlen2 hb2 info hi hz0 hz1 hz2
    go_loopw [17] (fun iv wr => iv = .int .i64 0 ∧ Below V.heap.size V wr) (fun _ _ => 0)
    case atStart => exact ⟨rfl, (Below.refl _ _)⟩
    case round =>
      obtain ⟨rfl, B21⟩ := hrel
      go_wp2
      go_loopw [18] (fun iv wr => ∃ k : Nat, k ≤ L2 ∧ iv = .int .i64 k ∧ Below V.heap.size V wr) (fun iv _ => L2 - (intOf iv).toNat)
      case atStart => exact ⟨0, by omega, rfl, B21⟩
      case round =>
        obtain ⟨k, hk, rfl, B22⟩ := hrel
        by_cases hlt : k < L2
        · obtain ⟨p, hp⟩ : ∃ p, l2[k]? = some p := ⟨_, List.getElem?_eq_getElem (by rw [HL2.out]; exact hlt)⟩
          obtain ⟨a0, a1⟩ := HK2.out _ (btr bk2 B22) k p hp
          obtain ⟨q0, q1⟩ := HC2.out _ (btr B4 B22) k p hp
          rw [Nat.zero_add] at a0 a1
          have dl : decide ((k : Int) < (L2 : Int)) = true := decide_eq_true (by omega)
          have hb0 : (0 : Int) ≤ (k : Int) := by omega
          have hb1 : (k : Int) < (L2 : Int) := by omega
          clear hp
          go_wp2_with fail
          go_quiet (fail)
          obtain ⟨w21, hw, B31, hh⟩ := quiet_world B22 nq
          rw [hw]
          go_wp2
          go_roundw
          case rel => exact ⟨k + 1, by omega, by go_num, B31⟩
          case measure => simp [intOf] <;> omega
        · obtain rfl : k = L2 := by omega
          have dl : decide ((k : Int) < (k : Int)) = false := by rw [decide_eq_false_iff_not]; omega
          obtain ⟨x0, x1⟩ := cells2s (heap_of B22 _ _ _ Rx_4)
          obtain ⟨y0, y1⟩ := cells2s (heap_of B22 _ _ _ Ry_4)
          go_wp2_with fail
          refine (KA.out _ (fatB FF.out (btr B4 B22))).mono ?_
          rintro r w5 ⟨rfl, b5⟩
          go_wp2
          go_ret
          exact ⟨rfl, btr (btr B4 B22) b5⟩
set_option maxRecDepth 100000 in
set_option maxHeartbeats 8000000 in
theorem fd_SZ (f m : Int) (l1 l2 : List (Nat × Nat)) (L1 L2 : Nat) (w : World) (o1 : Addr) (c1 : Nat) (hl1 : L1 = 0) (hl2 : L2 = 0)
    (u v : Nat) (fl e : Int) (he : IntKind.i64.wrap e = e)
    (KP : Box (∀ (W : World) (s1 s2 : Value), FAt W → SV l1 L1 s1 W → SV l2 L2 s2 W → Calls Tryz.prog 19 #[.int .u8 f, .int .u8 m, s1, s2] W fun r w' => r = .returned (.tuple #[.agg #[.int .u64 (u : Nat), .int .u64 (v : Nat)], .int .u8 fl, .int .i64 e]) ∧ Below W.heap.size W w'))
    (KQ : Box (∀ (W : World) (s1 s2 : Value), SV l1 L1 s1 W → SV l2 L2 s2 W → Calls Tryz.prog 20 #[.int .u8 f, .int .u8 m, s1, s2] W fun r w' => r = .returned (.tuple #[.agg #[.int .u64 (u : Nat), .int .u64 (v : Nat)], .int .u8 fl, .int .i64 e]) ∧ Below W.heap.size W w'))
    (KA : Box (∀ w, FAt w → Calls Tryz.prog 14 #[] w fun r w' => r = .returned (.bool true) ∧ Below w.heap.size w w')) (hT : FAt w) : Calls Tryz.prog 6 #[.int .u8 f, .int .u8 m, .slice (some o1) 0 c1, .slice none 0 0] w fun r w' => r = .returned (.bool true) ∧ Below w.heap.size w w' := by
  have FF := box hT
  clear hT
  have HZ1 := box hl1
  clear hl1
  have HZ2 := box hl2
  clear hl2
  go_enter Tryz.func6, Tryz.ntmps6
  go_wp2_with fail
  refine (KP.out w _ _ (fatB FF.out (Below.refl _ _)) (Or.inl ⟨_, _, HZ1.out, rfl⟩) (Or.inl ⟨_, _, HZ2.out, rfl⟩)).mono ?_
  rintro r w1 ⟨rfl, b1⟩
  have b2 := bal w1 (.cells #[.int .u64 (u : Nat), .int .u64 (v : Nat)] 26)
  have Rx_2 := heap_alloc_last w1 (.cells #[.int .u64 (u : Nat), .int .u64 (v : Nat)] 26)
  have bx := btr b1 b2
  have bq := btr (Below.refl _ _) bx
  go_wp2_with fail
  refine (KQ.out _ _ _ (Or.inl ⟨_, _, HZ1.out, rfl⟩) (Or.inl ⟨_, _, HZ2.out, rfl⟩)).mono ?_
  rintro r w3 ⟨rfl, b3⟩
  have Rx_3 := heap_of b3 _ _ _ Rx_2
  have b4 := bal w3 (.cells #[.int .u64 (u : Nat), .int .u64 (v : Nat)] 26)
  have Ry_4 := heap_alloc_last w3 (.cells #[.int .u64 (u : Nat), .int .u64 (v : Nat)] 26)
  have Rx_4 := heap_of b4 _ _ _ Rx_3
  have by4 := btr bx (btr b3 b4)
  have B4 := btr (Below.refl _ _) by4
  obtain ⟨V, hV⟩ : ∃ V, w3.alloc (.cells #[.int .u64 (u : Nat), .int .u64 (v : Nat)] 26) = V := ⟨_, rfl⟩
  go_wp2
  rw [hV] at Rx_4 Ry_4 by4 B4
  clear hV Rx_3 Rx_2 b4 b3 b2 b1 bx bq KP KQ
  go_loopw [17] (fun iv wr => iv = .int .i64 0 ∧ Below V.heap.size V wr) (fun _ _ => 0)
  case atStart => exact ⟨rfl, (Below.refl _ _)⟩
  case round =>
    obtain ⟨rfl, B21⟩ := hrel
    go_wp2
    go_loopw [18] (fun iv wr => iv = .int .i64 0 ∧ Below V.heap.size V wr) (fun _ _ => 0)
    case atStart => exact ⟨rfl, B21⟩
    case round =>
      obtain ⟨rfl, B22⟩ := hrel
      obtain ⟨x0, x1⟩ := cells2s (heap_of B22 _ _ _ Rx_4)
      obtain ⟨y0, y1⟩ := cells2s (heap_of B22 _ _ _ Ry_4)
      go_wp2_with fail
      refine (KA.out _ (fatB FF.out (btr B4 B22))).mono ?_
      rintro r w5 ⟨rfl, b5⟩
      go_wp2
      go_ret
      exact ⟨rfl, btr (btr B4 B22) b5⟩
set_option maxRecDepth 100000 in
set_option maxHeartbeats 8000000 in
theorem fd_SS (f m : Int) (l1 l2 : List (Nat × Nat)) (L1 L2 : Nat) (w : World) (o1 : Addr) (c1 : Nat) (hl1 : L1 = 0) (o2 : Addr) (c2 : Nat) (hl2 : L2 = 0)
    (u v : Nat) (fl e : Int) (he : IntKind.i64.wrap e = e)
    (KP : Box (∀ (W : World) (s1 s2 : Value), FAt W → SV l1 L1 s1 W → SV l2 L2 s2 W → Calls Tryz.prog 19 #[.int .u8 f, .int .u8 m, s1, s2] W fun r w' => r = .returned (.tuple #[.agg #[.int .u64 (u : Nat), .int .u64 (v : Nat)], .int .u8 fl, .int .i64 e]) ∧ Below W.heap.size W w'))
    (KQ : Box (∀ (W : World) (s1 s2 : Value), SV l1 L1 s1 W → SV l2 L2 s2 W → Calls Tryz.prog 20 #[.int .u8 f, .int .u8 m, s1, s2] W fun r w' => r = .returned (.tuple #[.agg #[.int .u64 (u : Nat), .int .u64 (v : Nat)], .int .u8 fl, .int .i64 e]) ∧ Below W.heap.size W w'))
    (KA : Box (∀ w, FAt w → Calls Tryz.prog 14 #[] w fun r w' => r = .returned (.bool true) ∧ Below w.heap.size w w')) (hT : FAt w) : Calls Tryz.prog 6 #[.int .u8 f, .int .u8 m, .slice (some o1) 0 c1, .slice (some o2) 0 c2] w fun r w' => r = .returned (.bool true) ∧ Below w.heap.size w w' := by
  have FF := box hT
  clear hT
  have HZ1 := box hl1
  clear hl1
  have HZ2 := box hl2
  clear hl2
  go_enter Tryz.func6, Tryz.ntmps6
  go_wp2_with fail
  refine (KP.out w _ _ (fatB FF.out (Below.refl _ _)) (Or.inl ⟨_, _, HZ1.out, rfl⟩) (Or.inl ⟨_, _, HZ2.out, rfl⟩)).mono ?_
  rintro r w1 ⟨rfl, b1⟩
  have b2 := bal w1 (.cells #[.int .u64 (u : Nat), .int .u64 (v : Nat)] 26)
  have Rx_2 := heap_alloc_last w1 (.cells #[.int .u64 (u : Nat), .int .u64 (v : Nat)] 26)
  have bx := btr b1 b2
  have bq := btr (Below.refl _ _) bx
  go_wp2_with fail
  refine (KQ.out _ _ _ (Or.inl ⟨_, _, HZ1.out, rfl⟩) (Or.inl ⟨_, _, HZ2.out, rfl⟩)).mono ?_
  rintro r w3 ⟨rfl, b3⟩
  have Rx_3 := heap_of b3 _ _ _ Rx_2
  have b4 := bal w3 (.cells #[.int .u64 (u : Nat), .int .u64 (v : Nat)] 26)
  have Ry_4 := heap_alloc_last w3 (.cells #[.int .u64 (u : Nat), .int .u64 (v : Nat)] 26)
  have Rx_4 := heap_of b4 _ _ _ Rx_3
  have by4 := btr bx (btr b3 b4)
  have B4 := btr (Below.refl _ _) by4
  obtain ⟨V, hV⟩ : ∃ V, w3.alloc (.cells #[.int .u64 (u : Nat), .int .u64 (v : Nat)] 26) = V := ⟨_, rfl⟩
  go_wp2
  rw [hV] at Rx_4 Ry_4 by4 B4
  clear hV Rx_3 Rx_2 b4 b3 b2 b1 bx bq KP KQ
  go_loopw [17] (fun iv wr => iv = .int .i64 0 ∧ Below V.heap.size V wr) (fun _ _ => 0)
  case atStart => exact ⟨rfl, (Below.refl _ _)⟩
  case round =>
    obtain ⟨rfl, B21⟩ := hrel
    go_wp2
    go_loopw [18] (fun iv wr => iv = .int .i64 0 ∧ Below V.heap.size V wr) (fun _ _ => 0)
    case atStart => exact ⟨rfl, B21⟩
    case round =>
      obtain ⟨rfl, B22⟩ := hrel
      obtain ⟨x0, x1⟩ := cells2s (heap_of B22 _ _ _ Rx_4)
      obtain ⟨y0, y1⟩ := cells2s (heap_of B22 _ _ _ Ry_4)
      go_wp2_with fail
      refine (KA.out _ (fatB FF.out (btr B4 B22))).mono ?_
      rintro r w5 ⟨rfl, b5⟩
      go_wp2
      go_ret
      exact ⟨rfl, btr (btr B4 B22) b5⟩
set_option maxRecDepth 100000 in
set_option maxHeartbeats 8000000 in
theorem fd_long1 (f m : Int) (o1 o2 : Option Addr) (L1 c1 L2 c2 : Nat) (w : World) (h : 40 < L1) (KA : Box (∀ w, FAt w → Calls Tryz.prog 14 #[] w fun r w' => r = .returned (.bool true) ∧ Below w.heap.size w w')) (hT : FAt w) : Calls Tryz.prog 6 #[.int .u8 f, .int .u8 m, .slice o1 L1 c1, .slice o2 L2 c2] w fun r w' => r = .returned (.bool true) ∧ Below w.heap.size w w' := by
  have FF := box hT
  have d1 : decide ((40 : Int) < (L1 : Int)) = true := decide_eq_true (by omega)
  clear hT h
  have B0 : Below w.heap.size w w := (Below.refl _ _)
  go_enter Tryz.func6, Tryz.ntmps6
  go_wp2_with fail
  refine (KA.out _ (fatB FF.out B0)).mono ?_
  rintro r w1 ⟨rfl, b1⟩
  have B1 : Below w.heap.size w w1 := btr B0 b1
  clear b1 B0 
  go_wp2
  go_ret
  exact ⟨rfl, B1⟩
set_option maxRecDepth 100000 in
set_option maxHeartbeats 8000000 in
theorem fd_long2 (f m : Int) (o1 o2 : Option Addr) (L1 c1 L2 c2 : Nat) (w : World) (h1 : L1 ≤ 40) (h : 40 < L2) (KA : Box (∀ w, FAt w → Calls Tryz.prog 14 #[] w fun r w' => r = .returned (.bool true) ∧ Below w.heap.size w w')) (hT : FAt w) : Calls Tryz.prog 6 #[.int .u8 f, .int .u8 m, .slice o1 L1 c1, .slice o2 L2 c2] w fun r w' => r = .returned (.bool true) ∧ Below w.heap.size w w' := by
  have FF := box hT
  have d1 : decide ((40 : Int) < (L1 : Int)) = false := decide_eq_false (by omega)
  have d2 : decide ((40 : Int) < (L2 : Int)) = true := decide_eq_true (by omega)
  clear hT h h1
  have B0 : Below w.heap.size w w := (Below.refl _ _)
  go_enter Tryz.func6, Tryz.ntmps6
  go_wp2_with fail
  refine (KA.out _ (fatB FF.out B0)).mono ?_
  rintro r w1 ⟨rfl, b1⟩
  have B1 : Below w.heap.size w w1 := btr B0 b1
  clear b1 B0 
  go_wp2
  go_ret
  exact ⟨rfl, B1⟩
end Go.Proofs.YtapikkbifdldfaaGreatDoor
