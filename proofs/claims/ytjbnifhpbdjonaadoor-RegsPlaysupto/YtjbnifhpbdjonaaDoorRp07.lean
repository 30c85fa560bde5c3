/-
  What the functions that the statement reaches return: part 7 (C9, CA).
-/
import Derived.Laws.AppendOwn
import Derived.DeepKeys
import Derived.Test.YtjbnifhpbdjonaaDoorRp06
namespace Go.Proofs.YtjbnifhpbdjonaaDoor
set_option maxRecDepth 100000
set_option maxHeartbeats 40000000
set_option maxRecDepth 100000
open Go.RowKit WMath
set_option linter.unusedSimpArgs false
set_option linter.unusedVariables false
theorem own_chs {wb : World} {b L : Nat} {l : List Chg} {v : Value} (hl : l.length = L) (h : wb.ownsRow b 50 5 v (L + 1) (chsC l ++ chC ⟨false, 77, 0, 0, 0⟩)) : ∃ gi ci, v = .slice (some ⟨gi, 0, none⟩) (L + 1) ci ∧ b ≤ gi ∧ L + 1 ≤ ci ∧ Box (∀ W : World, (∀ c T, wb.heap[gi]? = some (.cells c T) → W.heap[gi]? = some (.cells c T)) → ∀ j u, (chsC l ++ chC ⟨false, 77, 0, 0, 0⟩)[j]? = some u → W.cell? ⟨gi, j, none⟩ = some u) ∧ gi < wb.heap.size := by
  obtain ⟨_, ⟨_, h0⟩ | ⟨gi, ci, cur, rfl, hb, row, hc, _, hsz, ht⟩⟩ := h
  · omega
  refine ⟨gi, ci, rfl, hb, hc, box (fun W bW j u hu => ?_), (Array.getElem?_eq_some_iff.1 row).1⟩
  have r2 := bW _ _ row
  have len : (chsC l ++ chC ⟨false, 77, 0, 0, 0⟩).length = (L + 1) * 5 := by rw [List.length_append, chsC_len, hl]; simp [chC]; omega
  have hj : j < (L + 1) * 5 := by rw [← len]; exact (List.getElem?_eq_some_iff.1 hu).1
  refine (cell_of_row W gi j _ _ _ r2).trans ?_
  rw [← ht, List.getElem?_take_of_lt hj] at hu
  rw [← Array.getElem?_toList]
  exact hu
theorem cell_set {w : World} {b g k : Nat} {c : Array Value} (h : b ≠ g) : (w.setRow b c).cell? ⟨g, k, none⟩ = w.cell? ⟨g, k, none⟩ := by
  unfold World.cell?
  rw [setRow_other h]
theorem row_blw {B : Nat} {a b : World} (h : Below B a b) {k : Nat} {c : Array Value} {T : TypeId} (hk : k < B) (r : a.heap[k]? = some (.cells c T)) : b.heap[k]? = some (.cells c T) := (h.block k hk).trans r
theorem st_cells {w : World} {b : Nat} {a0 a1 a2 a3 a4 a5 a6 a7 : Value} {T : TypeId} (h : w.heap[b]? = some (.cells #[a0, a1, a2, a3, a4, a5, a6, a7] T)) : w.cell? ⟨b, 0, none⟩ = some a0 ∧ w.cell? ⟨b, 1, none⟩ = some a1 ∧ w.cell? ⟨b, 2, none⟩ = some a2 ∧ w.cell? ⟨b, 3, none⟩ = some a3 ∧ w.cell? ⟨b, 4, none⟩ = some a4 ∧ w.cell? ⟨b, 5, none⟩ = some a5 ∧ w.cell? ⟨b, 6, none⟩ = some a6 ∧ w.cell? ⟨b, 7, none⟩ = some a7 :=
  ⟨cell7 h 0 _ rfl, cell7 h 1 _ rfl, cell7 h 2 _ rfl, cell7 h 3 _ rfl, cell7 h 4 _ rfl, cell7 h 5 _ rfl, cell7 h 6 _ rfl, cell7 h 7 _ rfl⟩
set_option maxRecDepth 100000 in
set_option maxHeartbeats 8000000 in
theorem bt_7s {T : World → Prop} (FB : Box (∀ {w w' : World}, T w → Below w.heap.size w w' → T w')) (rg : (Nat → Nat) → Array Value) (tg : TypeId) (R R' : Nat → Nat) (b : Nat) (how on n fm e : Int) (X u v : Nat) (l : List Chg) (g za : Nat) (L cv : Nat) (hl : l.length = L) (hL2 : L ≤ 1000000) (hcv : L ≤ cv) (he : IntKind.i64.wrap e = e) (hq : Box ((how == 0) = false ∧ (how == 1) = false ∧ (how == 2) = false ∧ (how == 3) = false ∧ (how == 4) = false ∧ (how == 5) = false ∧ (how == 6) = false)) (w : World)
    (HC : Box (∀ W, Only b w W → ∀ j u, (chsC l)[j]? = some u → W.cell? ((⟨g, za, none⟩ : Addr).add j) = some u))
    (KD : Box (∀ W, Below w.heap.size w W → Calls Tryd.prog 37 #[.agg (rf R), .slice (some ⟨g, za, none⟩) L cv] W fun r w' => r = .returned (.tuple #[.agg (rf R'), .int .i64 e]) ∧ Below W.heap.size W w'))
    (KP : Box (∀ w s1, T w → w.heap[b]? = some (.cells (rg R) tg) → CS w s1 l → Calls Tryd.prog 28 #[.pointer (some ⟨b, 0, none⟩), s1] w fun r w' => r = .returned (.int .i64 e) ∧ w'.heap[b]? = some (.cells (rg R') tg) ∧ Only b w w'))
    (hT : T w) (hb : w.heap[b]? = some (.cells (rg R) tg)) :
    Calls Tryd.prog 11 #[.pointer (some ⟨b, 0, none⟩), .agg (rf R), .agg #[.int .i64 how, .int .i64 on, .int .i64 n, .int .u64 (X : Nat), .int .u64 (u : Nat), .int .u64 (v : Nat), .int .u8 fm, .slice (some ⟨g, za, none⟩) L cv]] w fun r w' => r = .returned (.tuple #[.agg (rf R'), .bool true]) ∧ w'.heap[b]? = some (.cells (rg R') tg) ∧ Only b w w' := by
  have FF := box hT
  have hlt : Box (b < w.heap.size) := box (Array.getElem?_eq_some_iff.1 hb).1
  have HB := box hb
  obtain ⟨d0, d1, d2, d3, d4, d5, d6⟩ := hq.out
  have HL := box hl
  clear hT hb hq hl
  have hrz := rf_zero
  have hrs : ∀ R, ((rf R).size = 96) = True := fun R => eq_true (rf_size R)
  have hra := rf_at
  have hsn := rf_stn
  obtain ⟨Rx_0, Rs_0, Rz_0, B0⟩ := opn3 w (Obj.cells (rf R) 28) (Obj.cells #[.int .i64 how, .int .i64 on, .int .i64 n, .int .u64 (X : Nat), .int .u64 (u : Nat), .int .u64 (v : Nat), .int .u8 fm, .slice (some ⟨g, za, none⟩) L cv] 39) (Obj.cells (rf fun _ => 0) 28)
  go_enter Tryd.func11, Tryd.ntmps11
  have cs_0_0 := cells4 Rs_0 0 _ rfl
  have cs_0_1 := cells4 Rs_0 1 _ rfl
  have cs_0_2 := cells4 Rs_0 2 _ rfl
  have cs_0_3 := cells4 Rs_0 3 _ rfl
  have cs_0_4 := cells4 Rs_0 4 _ rfl
  have cs_0_5 := cells4 Rs_0 5 _ rfl
  have cs_0_6 := cells4 Rs_0 6 _ rfl
  have cs_0_7 := cells4 Rs_0 7 _ rfl
  go_wp2_with (first | ((with_reducible (refine wpl_rf rfl _ rfl ?_ Rx_0 ?_)); rfl) | ((with_reducible (refine wp_rf _ rfl ?_ Rx_0 ?_)); rfl) | ((with_reducible (refine wpl_rf rfl _ rfl ?_ Rz_0 ?_)); rfl) | ((with_reducible (refine wp_rf _ rfl ?_ Rz_0 ?_)); rfl) | fail)
  refine (KD.out _ B0).mono ?_
  rintro r w1 ⟨rfl, b1⟩
  have B1 : Below w.heap.size w w1 := btr B0 b1
  have Rx_1 := heap_of b1 _ _ _ Rx_0
  have Rs_1 := heap_of b1 _ _ _ Rs_0
  have Rz_1 := heap_of b1 _ _ _ Rz_0
  clear b1 B0 Rx_0 Rs_0 cs_0_0 cs_0_1 cs_0_2 cs_0_3 cs_0_4 cs_0_5 cs_0_6 cs_0_7 Rz_0
  have cs_1_0 := cells4 Rs_1 0 _ rfl
  have cs_1_1 := cells4 Rs_1 1 _ rfl
  have cs_1_2 := cells4 Rs_1 2 _ rfl
  have cs_1_3 := cells4 Rs_1 3 _ rfl
  have cs_1_4 := cells4 Rs_1 4 _ rfl
  have cs_1_5 := cells4 Rs_1 5 _ rfl
  have cs_1_6 := cells4 Rs_1 6 _ rfl
  have cs_1_7 := cells4 Rs_1 7 _ rfl
  have S2 := box B1.size
  have Lx_2 : Box (w.heap.size < w1.heap.size) := box (Array.getElem?_eq_some_iff.1 Rx_1).1
  have Ls_2 : Box (w.heap.size + 1 < w1.heap.size) := box (Array.getElem?_eq_some_iff.1 Rs_1).1
  have Lz_2 : Box (w.heap.size + 1 + 1 < w1.heap.size) := box (Array.getElem?_eq_some_iff.1 Rz_1).1
  have Ry_2 := heap_alloc_last w1 (Obj.cells (rf R') 28)
  have B2 := btr B1 (bal w1 (Obj.cells (rf R') 28))
  have Rx_2 := heap_of (bal w1 (Obj.cells (rf R') 28)) _ _ _ Rx_1
  have Rs_2 := heap_of (bal w1 (Obj.cells (rf R') 28)) _ _ _ Rs_1
  have Rz_2 := heap_of (bal w1 (Obj.cells (rf R') 28)) _ _ _ Rz_1
  clear B1 Rx_1 Rs_1 cs_1_0 cs_1_1 cs_1_2 cs_1_3 cs_1_4 cs_1_5 cs_1_6 cs_1_7 Rz_1
  have cs_2_0 := cells4 Rs_2 0 _ rfl
  have cs_2_1 := cells4 Rs_2 1 _ rfl
  have cs_2_2 := cells4 Rs_2 2 _ rfl
  have cs_2_3 := cells4 Rs_2 3 _ rfl
  have cs_2_4 := cells4 Rs_2 4 _ rfl
  have cs_2_5 := cells4 Rs_2 5 _ rfl
  have cs_2_6 := cells4 Rs_2 6 _ rfl
  have cs_2_7 := cells4 Rs_2 7 _ rfl
  have cy_2_0 := rf_cell Ry_2
  have cy_2_1 := rf_load Ry_2
  clear cy_2_0 cy_2_1
  have e1 : Box (b ≠ w.heap.size ∧ b ≠ w.heap.size + 1 ∧ b ≠ w.heap.size + 1 + 1 ∧ b ≠ w1.heap.size ∧ w.heap.size + 1 + 1 < w1.heap.size) := box ⟨by have := hlt.out; omega, by have := hlt.out; omega, by have := hlt.out; omega, by have := hlt.out; have := S2.out; omega, Lz_2.out⟩
  obtain ⟨i0, hi, hz0, hz1, hz2⟩ := info_parts (show (Tryd.prog.info? 50).map (fun i => (i.zero, i.size, i.bytes)) = some (some (.agg #[.bool false, .int .i64 0, .int .u64 0, .int .u64 0, .int .u64 0]), 5, 40) by kernel_rfl)
  have hlen : (chsC l).length = L * 5 := by rw [chsC_len, HL.out]
  have h1c : ∀ u ∈ chsC l, u.oneCell' = true := fun u hu => by
    unfold chsC at hu
    obtain ⟨c, _, hc⟩ := List.mem_flatMap.1 hu
    simp [chC] at hc
    rcases hc with rfl | rfl | rfl | rfl | rfl <;> rfl
  have B2s : Box (w1.heap.size + 1 = (w1.alloc (Obj.cells (rf R') 28)).heap.size) := box (by simp only [size_al])
  go_wp2_with (at_builtin; refine wpList_append_own _ rfl (.const (.slice none 0 0)) _ 37 rfl (w1.heap.size + 1) 50 i0 (.agg #[.bool false, .int .i64 0, .int .u64 0, .int .u64 0, .int .u64 0]) 5 40 Tryd.underlying37 hi hz0 hz1 hz2 rfl (by decide) (.slice none 0 0) 0 [] rfl (World.ownsRow_nil _ _ _ _) ⟨g, za, none⟩ L cv (chsC l) rfl hlen ?c1 h1c ?b1 ?b2 ?b3 ?grow)
  case c1 => exact HC.out _ (Only.ofBelow B2 (Nat.le_refl _))
  case b1 => unfold maxLen; omega
  case b2 => omega
  case b3 => rw [← B2s.out]; exact Nat.le_refl _
  case grow =>
    intro v1 wa hown1 hgrow1 hnil1
    have ba : Below (w1.heap.size + 1) (w1.alloc (Obj.cells (rf R') 28)) wa := (Below.refl _ _).grown hgrow1 (by rw [← B2s.out]; exact Nat.le_refl _) (fun k h => by cases h)
    have Rs_3 := row_blw ba (by have := S2.out; have := e1.out; omega) Rs_2
    obtain ⟨g0, g1, g2, g3, g4, g5, g6, g7⟩ := st_cells Rs_3
    have hsa := ba.size
    rw [← B2s.out] at hsa
    clear hgrow1 hnil1 cs_2_0 cs_2_1 cs_2_2 cs_2_3 cs_2_4 cs_2_5 cs_2_6 cs_2_7 Rs_3
    go_wp2_with (at_builtin; refine wpList_append_own _ rfl _ _ 37 rfl (w1.heap.size + 1) 50 i0 (.agg #[.bool false, .int .i64 0, .int .u64 0, .int .u64 0, .int .u64 0]) 5 40 Tryd.underlying37 hi hz0 hz1 hz2 rfl (by decide) v1 L (chsC l) rfl ?ow ⟨wa.heap.size, 0, none⟩ 1 1 (chC ⟨false, 77, 0, 0, 0⟩) rfl rfl ?nc (fun x hx => by simp [chC] at hx; rcases hx with rfl | rfl | rfl | rfl | rfl <;> rfl) (by unfold maxLen; omega) (by omega) ?sz ?grow2)
    case ow => exact hown1.alloc _
    case nc => exact new_cells _ (chC ⟨false, 77, 0, 0, 0⟩) _
    case sz => simp only [size_al]; omega
    case grow2 =>
    intro v2 wb hown2 hgrow2 hnil2
    have bb : Below (w1.heap.size + 1) (w1.alloc (Obj.cells (rf R') 28)) wb := (ba.alloc hsa _).grown hgrow2 (by simp only [size_al]; omega) (fun q hq => (hown1.lt q hq).1)
    obtain ⟨gi, ci, rfl, hgi, hci, HK, hgl⟩ := own_chs HL.out hown2
    have Rs_4 := row_blw bb (by have := S2.out; have := e1.out; omega) Rs_2
    have Rz_4 := row_blw bb (by have := S2.out; have := e1.out; omega) Rz_2
    have Ry_4 := row_blw bb (by omega) Ry_2
    have B4 : Below w.heap.size w wb := B2.trans (bb.mono (by have := S2.out; omega))
    obtain ⟨g0, g1, g2, g3, g4, g5, g6, g7⟩ := st_cells Rs_4
    have H4 := box (heap_of B4 _ _ _ HB.out)
    have T4 := box (FB.out FF.out B4)
    have hs0 : (0 : Int) ≤ (L : Int) := by omega
    have hs1 : (L : Int) ≤ (ci : Int) := by omega
    have hs2 : ((L : Int)).toNat = L := by omega
    have hs3 : (L : Int) ≤ ((L + 1 : Nat) : Int) := by omega
    have gne : Box (gi ≠ b ∧ w1.heap.size + 1 ≤ gi ∧ gi < wb.heap.size) := box ⟨by have := hlt.out; have := S2.out; omega, hgi, hgl⟩
    have SS : CS wb (.slice (some ⟨gi, 0, none⟩) L ci) l := ⟨_, ci, by rw [HL.out], fun _ => ⟨gi, 0, rfl, hgl, fun j u hj => by rw [Nat.zero_add]; exact HK.out wb (fun _ _ h => h) j u (by rw [List.getElem?_append_left (List.getElem?_eq_some_iff.1 hj).1]; exact hj)⟩⟩
    clear hown1 hown2 hgrow2 hnil2 ba hi hz0 hz1 hz2 hlen h1c Rx_2 Rs_2 Rz_2 Ry_2 hsa hgi hgl B2
    go_wp2_with fail
    refine (KP.out wb _ T4.out H4.out SS).mono ?_
    rintro r wq ⟨rfl, rb, oq⟩
    have Rs_5 := Only.row oq (Ne.symm e1.out.2.1) Rs_4
    have Rz_5 := Only.row oq (Ne.symm e1.out.2.2.1) Rz_4
    have Ry_5 := Only.row oq (Ne.symm e1.out.2.2.2.1) Ry_4
    have OO := box (only_below B4 oq)
    have HK5 : Box (∀ W, Below wq.heap.size wq W → ∀ j u, (chsC l ++ chC ⟨false, 77, 0, 0, 0⟩)[j]? = some u → W.cell? ⟨gi, j, none⟩ = some u) := box (fun W bW j u hu => HK.out W (fun c T h => heap_of bW _ _ _ (Only.row oq gne.out.1 h)) j u hu)
    have rb5 := box rb
    clear rb SS HK hs0 hs1 hs2 hs3 Rs_4 Rz_4 Ry_4 g0 g1 g2 g3 g4 g5 g6 g7
    obtain ⟨g0, g1, g2, g3, g4, g5, g6, g7⟩ := st_cells Rs_5
    go_wp2_with fail
    go_loopw [34] (fun iv wr => ∃ k : Nat, k ≤ L ∧ iv = .int .i64 (k : Int) ∧ Below wq.heap.size wq wr) (fun iv _ => L - (intOf iv).toNat)
    case atStart => exact ⟨0, Nat.zero_le _, rfl, Below.refl _ _⟩
    case round =>
      obtain ⟨k, hk, rfl, bR⟩ := hrel
      have Rs_6 := heap_of bR _ _ _ Rs_5
      have Rz_6 := heap_of bR _ _ _ Rz_5
      have Ry_6 := heap_of bR _ _ _ Ry_5
      clear g0 g1 g2 g3 g4 g5 g6 g7
      obtain ⟨g0, g1, g2, g3, g4, g5, g6, g7⟩ := st_cells Rs_6
      by_cases hlt : k < L
      · obtain ⟨c, hs⟩ : ∃ c, l[k]? = some c := ⟨_, List.getElem?_eq_getElem (by rw [HL.out]; exact hlt)⟩
        have hel := fun i (hi : i < 5) u (hu : (chC c)[i]? = some u) => HC.out wr (OO.out.trans (Only.ofBelow bR (Nat.le_refl _))) (k * 5 + i) u ((chs_at l k i c hs hi).trans hu)
        have hel2 := fun i (hi : i < 5) u (hu : (chC c)[i]? = some u) => HK5.out wr bR (k * 5 + i) u (by
          have q := (chs_at l k i c hs hi).trans hu
          rw [List.getElem?_append_left (List.getElem?_eq_some_iff.1 q).1]
          exact q)
        have had : ∀ j, (⟨g, za, none⟩ : Addr).add j = ⟨g, za + j, none⟩ := fun j => by unfold Addr.add; split <;> simp_all
        simp only [had, ← Nat.add_assoc] at hel
        obtain ⟨fl, cn, cx, c1, c2⟩ := c
        have x0 := hel 0 (by decide) _ rfl
        have x1 := hel 1 (by decide) _ rfl
        have x2 := hel 2 (by decide) _ rfl
        have x3 := hel 3 (by decide) _ rfl
        have x4 := hel 4 (by decide) _ rfl
        have y0 := hel2 0 (by decide) _ rfl
        have y1 := hel2 1 (by decide) _ rfl
        have y2 := hel2 2 (by decide) _ rfl
        have y3 := hel2 3 (by decide) _ rfl
        have y4 := hel2 4 (by decide) _ rfl
        simp only [Nat.add_zero] at x0 y0
        clear hel hel2 had hs
        have dl : decide ((k : Int) < (L : Int)) = true := decide_eq_true (by omega)
        have hw1 : IntKind.i64.wrap ((k : Int) + 1) = ((k + 1 : Nat) : Int) := by rw [IntKind.wrap_i64]; omega
        have hb0 : (0 : Int) ≤ (k : Int) := by omega
        have hb1 : (k : Int) < (L : Int) := by omega
        have hb2 : (k : Int) < ((L + 1 : Nat) : Int) := by omega
        have hb3 : (k : Int) < (L : Int) + 1 := by omega
        have heq := eqb
        have heb := ebb_own (c1 : Nat) (c2 : Nat)
        have hself : (fl == fl) = true := by simp
        go_wp2_with fail
        go_quiet (fail)
        obtain ⟨w21, hw, B31, hh⟩ := quiet_world bR nq
        rw [hw]
        go_wp2
        go_roundw
        case rel => exact ⟨k + 1, by omega, by first | rfl | simp, B31⟩
        case measure => simp [intOf]; omega
      · obtain rfl : k = L := by omega
        have y1 := HK5.out wr bR (k * 5 + 1) (.int .i64 77) (by rw [List.getElem?_append_right (by rw [chsC_len, HL.out]; omega), chsC_len, HL.out, show k * 5 + 1 - k * 5 = 1 by omega]; rfl)
        have dl : decide ((k : Int) < (k : Int)) = false := by rw [decide_eq_false_iff_not]; omega
        have hb0 : (0 : Int) ≤ (k : Int) := by omega
        have hb2 : (k : Int) < ((k + 1 : Nat) : Int) := by omega
        have hb3 : (k : Int) < (k : Int) + 1 := by omega
        go_wp2_with fail
        have e9 : Box (w.heap.size + 1 + 1 ≠ w1.heap.size ∧ w.heap.size + 1 + 1 ≠ gi) := box ⟨by have := e1.out; omega, by have := e1.out; have := gne.out; omega⟩
        have s0 : wr.drew.heap[w1.heap.size]? = some (.cells (rf R') 28) ∧ wr.drew.cell? ⟨w.heap.size + 1, 7, none⟩ = some (.slice (some ⟨g, za, none⟩) k cv) ∧ wr.drew.cell? ⟨gi, k * 5 + 1, none⟩ = some (.int .i64 77) := ⟨Ry_6, g7, y1⟩
        have s1 : (wr.drew.setRow (w.heap.size + 1 + 1) (rf R')).heap[w1.heap.size]? = some (.cells (rf R') 28) ∧ (wr.drew.setRow (w.heap.size + 1 + 1) (rf R')).cell? ⟨w.heap.size + 1, 7, none⟩ = some (.slice (some ⟨g, za, none⟩) k cv) ∧ (wr.drew.setRow (w.heap.size + 1 + 1) (rf R')).cell? ⟨gi, k * 5 + 1, none⟩ = some (.int .i64 77) := ⟨(setRow_other e9.out.1).trans Ry_6, cell7 ((setRow_other (by omega)).trans Rs_6) 7 _ rfl, (cell_set e9.out.2).trans y1⟩
        have rz : wr.drew.heap[w.heap.size + 1 + 1]? = some (.cells (rf fun _ => 0) 28) := Rz_6
        have hst := rf_store (R := R') rz
        have OB := box (OO.out.trans (Only.ofBelow bR.drew (Nat.le_refl _)))
        have rb6 : Box (wr.drew.heap[b]? = some (.cells (rg R') tg)) := box (heap_of bR.drew _ _ _ rb5.out)
        have hu := Tryd.underlying28
        have hi : (Tryd.prog.info? 28).map (·.size) = some (rf R').toList.length := by rw [Array.length_toList, rf_size]; kernel_rfl
        clear Rs_6 Rz_6 Ry_6 g0 g1 g2 g3 g4 g5 g6 g7 y1 bR dl
        refine wp_region_held_drew (S := fun W => W.heap[w1.heap.size]? = some (.cells (rf R') 28) ∧ W.cell? ⟨w.heap.size + 1, 7, none⟩ = some (.slice (some ⟨g, za, none⟩) k cv) ∧ W.cell? ⟨gi, k * 5 + 1, none⟩ = some (.int .i64 77)) (by kernel_rfl) s0 (fun hHeld => ?_)
        refine wpAnyH_take (i := 0) rfl (by kernel_rfl) (by kernel_rfl) (by kernel_rfl) (fun _ _ _ h => h) (yieldsIf_load_mid (by rfl) _ _ rfl _ _ rfl (rf R').toList _ (fun W h => rf_range h.1) hu rfl hi) (by assumption) ?_
        simp only [Array.toArray_toList]
        (try simp only [Act.put, List.getElem_toArray, List.getElem_cons_zero, List.getElem_cons_succ, List.setIfInBounds_toArray, List.set_cons_zero, List.set_cons_succ])
        refine wpAnyH_take (i := 1) (v := ?_) rfl (by kernel_rfl) (by kernel_rfl) (by kernel_rfl) (fun _ _ _ h => h) (Or.inl ⟨by rfl, ?_⟩) (by assumption) ?_
        rotate_left 1
        · intro W hSw
          try dsimp only at hSw
          go_simp
          try with_reducible rfl
        (try simp only [Act.put, List.getElem_toArray, List.getElem_cons_zero, List.getElem_cons_succ, List.setIfInBounds_toArray, List.set_cons_zero, List.set_cons_succ])
        refine wpAnyH_take (i := 2) (v := ?_) rfl (by kernel_rfl) (by kernel_rfl) (by kernel_rfl) (fun _ _ _ h => h) (Or.inl ⟨by rfl, ?_⟩) (by assumption) ?_
        rotate_left 1
        · intro W hSw
          try dsimp only at hSw
          go_simp
          try with_reducible rfl
        (try simp only [Act.put, List.getElem_toArray, List.getElem_cons_zero, List.getElem_cons_succ, List.setIfInBounds_toArray, List.set_cons_zero, List.set_cons_succ])
        refine wpAnyH_take (i := 3) (v := ?_) rfl (by kernel_rfl) (by kernel_rfl) (by kernel_rfl) (fun _ _ _ h => h) (Or.inl ⟨by rfl, ?_⟩) (by assumption) ?_
        rotate_left 1
        · intro W hSw
          try dsimp only at hSw
          go_simp
          try with_reducible rfl
        (try simp only [Act.put, List.getElem_toArray, List.getElem_cons_zero, List.getElem_cons_succ, List.setIfInBounds_toArray, List.set_cons_zero, List.set_cons_succ])
        refine wpAnyH_take (i := 4) (v := ?_) rfl (by kernel_rfl) (by kernel_rfl) (by kernel_rfl) (fun _ _ _ h => h) (Or.inl ⟨by rfl, ?_⟩) (by assumption) ?_
        rotate_left 1
        · intro W hSw
          try dsimp only at hSw
          go_simp
          try with_reducible rfl
        (try simp only [Act.put, List.getElem_toArray, List.getElem_cons_zero, List.getElem_cons_succ, List.setIfInBounds_toArray, List.set_cons_zero, List.set_cons_succ])
        refine wpAnyH_take (i := 5) (v := ?_) rfl (by kernel_rfl) (by kernel_rfl) (by kernel_rfl) (fun _ _ _ h => h) (Or.inl ⟨by rfl, ?_⟩) (by assumption) ?_
        rotate_left 1
        · intro W hSw
          try dsimp only at hSw
          go_simp
          try with_reducible rfl
        (try simp only [Act.put, List.getElem_toArray, List.getElem_cons_zero, List.getElem_cons_succ, List.setIfInBounds_toArray, List.set_cons_zero, List.set_cons_succ])
        refine wpAnyH_take (i := 6) (v := ?_) rfl (by kernel_rfl) (by kernel_rfl) (by kernel_rfl) (fun _ _ _ h => h) (Or.inl ⟨by rfl, ?_⟩) (by assumption) ?_
        rotate_left 1
        · intro W hSw
          try dsimp only at hSw
          go_simp
          try with_reducible rfl
        (try simp only [Act.put, List.getElem_toArray, List.getElem_cons_zero, List.getElem_cons_succ, List.setIfInBounds_toArray, List.set_cons_zero, List.set_cons_succ])
        refine wpAnyH_take (i := 7) (v := ?_) rfl (by kernel_rfl) (by kernel_rfl) (by kernel_rfl) (fun _ _ _ h => h) (Or.inl ⟨by rfl, ?_⟩) (by assumption) ?_
        rotate_left 1
        · intro W hSw
          try dsimp only at hSw
          go_simp
          try with_reducible rfl
        (try simp only [Act.put, List.getElem_toArray, List.getElem_cons_zero, List.getElem_cons_succ, List.setIfInBounds_toArray, List.set_cons_zero, List.set_cons_succ])
        refine wpAnyH_take (i := 8) (v := ?_) rfl (by kernel_rfl) (by kernel_rfl) (by kernel_rfl) (fun _ _ _ h => h) (Or.inl ⟨by rfl, ?_⟩) (by assumption) ?_
        rotate_left 1
        · intro W hSw
          try dsimp only at hSw
          go_simp
          try with_reducible rfl
        (try simp only [Act.put, List.getElem_toArray, List.getElem_cons_zero, List.getElem_cons_succ, List.setIfInBounds_toArray, List.set_cons_zero, List.set_cons_succ])
        refine wpAnyH_take (i := 9) (v := ?_) rfl (by kernel_rfl) (by kernel_rfl) (by kernel_rfl) (fun _ _ _ h => h) (Or.inl ⟨by rfl, ?_⟩) (by assumption) ?_
        rotate_left 1
        · intro W hSw
          try dsimp only at hSw
          go_simp
          try with_reducible rfl
        (try simp only [Act.put, List.getElem_toArray, List.getElem_cons_zero, List.getElem_cons_succ, List.setIfInBounds_toArray, List.set_cons_zero, List.set_cons_succ])
        refine wpAnyH_take (i := 10) (v := ?_) rfl (by kernel_rfl) (by kernel_rfl) (by kernel_rfl) (fun _ _ _ h => h) (Or.inl ⟨by rfl, ?_⟩) (by assumption) ?_
        rotate_left 1
        · intro W hSw
          try dsimp only at hSw
          go_simp
          try with_reducible rfl
        (try simp only [Act.put, List.getElem_toArray, List.getElem_cons_zero, List.getElem_cons_succ, List.setIfInBounds_toArray, List.set_cons_zero, List.set_cons_succ])
        refine wpAnyH_take (i := 11) (v := ?_) rfl (by kernel_rfl) (by kernel_rfl) (by kernel_rfl) (fun _ _ _ h => h) (Or.inl ⟨by rfl, ?_⟩) (by assumption) ?_
        rotate_left 1
        · intro W hSw
          try dsimp only at hSw
          go_simp
          try with_reducible rfl
        (try simp only [Act.put, List.getElem_toArray, List.getElem_cons_zero, List.getElem_cons_succ, List.setIfInBounds_toArray, List.set_cons_zero, List.set_cons_succ])
        refine wpAnyH_take (i := 12) (v := ?_) rfl (by kernel_rfl) (by kernel_rfl) (by kernel_rfl) (fun _ _ _ h => h) (Or.inl ⟨by rfl, ?_⟩) (by assumption) ?_
        rotate_left 1
        · intro W hSw
          try dsimp only at hSw
          go_simp
          try with_reducible rfl
        (try simp only [Act.put, List.getElem_toArray, List.getElem_cons_zero, List.getElem_cons_succ, List.setIfInBounds_toArray, List.set_cons_zero, List.set_cons_succ])
        refine wpAnyH_take (i := 13) (v := ?_) rfl (by kernel_rfl) (by kernel_rfl) (by kernel_rfl) (fun _ _ _ h => h) (Or.inl ⟨by rfl, ?_⟩) (by assumption) ?_
        rotate_left 1
        · intro W hSw
          try dsimp only at hSw
          go_simp
          try with_reducible rfl
        (try simp only [Act.put, List.getElem_toArray, List.getElem_cons_zero, List.getElem_cons_succ, List.setIfInBounds_toArray, List.set_cons_zero, List.set_cons_succ])
        refine wpAnyH_ready (rs := [14]) (by kernel_rfl) (by simp) ?_
        refine AllReadyH.cons rfl (fun K hK => ?_) AllReadyH.nil
        go_simp
        refine hK.out _ _ s1 (fun hHeld => ?_)
        clear hK K
        (try simp only [Act.put, List.getElem_toArray, List.getElem_cons_zero, List.getElem_cons_succ, List.setIfInBounds_toArray, List.set_cons_zero, List.set_cons_succ])
        refine wpAnyH_take (i := 15) (v := ?_) rfl (by kernel_rfl) (by kernel_rfl) (by kernel_rfl) (fun _ _ _ h => h) (Or.inl ⟨by rfl, ?_⟩) (by assumption) ?_
        rotate_left 1
        · intro W hSw
          try dsimp only at hSw
          go_simp
          try with_reducible rfl
        (try simp only [Act.put, List.getElem_toArray, List.getElem_cons_zero, List.getElem_cons_succ, List.setIfInBounds_toArray, List.set_cons_zero, List.set_cons_succ])
        refine wpAnyH_done (by kernel_rfl) ?_ _
        go_wp2
        exact bodyPost_ret (v := .tuple #[.agg (rf R'), .bool true]) (res_rf2 Tryd.results11 (T := 28) rfl (setRow_row rz)) rfl ⟨rfl, (setRow_other (Ne.symm e1.out.2.2.1)).trans rb6.out, OB.out.setRow (by omega)⟩
set_option maxRecDepth 100000 in
set_option maxHeartbeats 8000000 in
theorem bt_7z {T : World → Prop} (FB : Box (∀ {w w' : World}, T w → Below w.heap.size w w' → T w')) (rg : (Nat → Nat) → Array Value) (tg : TypeId) (R R' : Nat → Nat) (b : Nat) (how on n fm e : Int) (X u v : Nat) (l : List Chg) (ad : Addr) (L cv : Nat) (h0 : L = 0) (hl : l.length = L) (hL2 : L ≤ 1000000) (hcv : L ≤ cv) (he : IntKind.i64.wrap e = e) (hq : Box ((how == 0) = false ∧ (how == 1) = false ∧ (how == 2) = false ∧ (how == 3) = false ∧ (how == 4) = false ∧ (how == 5) = false ∧ (how == 6) = false)) (w : World)
    (HC : Box (∀ W, Only b w W → ∀ j u, (chsC l)[j]? = some u → W.cell? (ad.add j) = some u))
    (KD : Box (∀ W, Below w.heap.size w W → Calls Tryd.prog 37 #[.agg (rf R), .slice (some ad) L cv] W fun r w' => r = .returned (.tuple #[.agg (rf R'), .int .i64 e]) ∧ Below W.heap.size W w'))
    (KP : Box (∀ w s1, T w → w.heap[b]? = some (.cells (rg R) tg) → CS w s1 l → Calls Tryd.prog 28 #[.pointer (some ⟨b, 0, none⟩), s1] w fun r w' => r = .returned (.int .i64 e) ∧ w'.heap[b]? = some (.cells (rg R') tg) ∧ Only b w w'))
    (hT : T w) (hb : w.heap[b]? = some (.cells (rg R) tg)) :
    Calls Tryd.prog 11 #[.pointer (some ⟨b, 0, none⟩), .agg (rf R), .agg #[.int .i64 how, .int .i64 on, .int .i64 n, .int .u64 (X : Nat), .int .u64 (u : Nat), .int .u64 (v : Nat), .int .u8 fm, .slice (some ad) L cv]] w fun r w' => r = .returned (.tuple #[.agg (rf R'), .bool true]) ∧ w'.heap[b]? = some (.cells (rg R') tg) ∧ Only b w w' := by
  have FF := box hT
  have hlt : Box (b < w.heap.size) := box (Array.getElem?_eq_some_iff.1 hb).1
  have HB := box hb
  obtain ⟨d0, d1, d2, d3, d4, d5, d6⟩ := hq.out
  have HL := box hl
  have H0 := box h0
  clear h0
  clear hT hb hq hl
  have hrz := rf_zero
  have hrs : ∀ R, ((rf R).size = 96) = True := fun R => eq_true (rf_size R)
  have hra := rf_at
  have hsn := rf_stn
  obtain ⟨Rx_0, Rs_0, Rz_0, B0⟩ := opn3 w (Obj.cells (rf R) 28) (Obj.cells #[.int .i64 how, .int .i64 on, .int .i64 n, .int .u64 (X : Nat), .int .u64 (u : Nat), .int .u64 (v : Nat), .int .u8 fm, .slice (some ad) L cv] 39) (Obj.cells (rf fun _ => 0) 28)
  go_enter Tryd.func11, Tryd.ntmps11
  have cs_0_0 := cells4 Rs_0 0 _ rfl
  have cs_0_1 := cells4 Rs_0 1 _ rfl
  have cs_0_2 := cells4 Rs_0 2 _ rfl
  have cs_0_3 := cells4 Rs_0 3 _ rfl
  have cs_0_4 := cells4 Rs_0 4 _ rfl
  have cs_0_5 := cells4 Rs_0 5 _ rfl
  have cs_0_6 := cells4 Rs_0 6 _ rfl
  have cs_0_7 := cells4 Rs_0 7 _ rfl
  go_wp2_with (first | ((with_reducible (refine wpl_rf rfl _ rfl ?_ Rx_0 ?_)); rfl) | ((with_reducible (refine wp_rf _ rfl ?_ Rx_0 ?_)); rfl) | ((with_reducible (refine wpl_rf rfl _ rfl ?_ Rz_0 ?_)); rfl) | ((with_reducible (refine wp_rf _ rfl ?_ Rz_0 ?_)); rfl) | fail)
  refine (KD.out _ B0).mono ?_
  rintro r w1 ⟨rfl, b1⟩
  have B1 : Below w.heap.size w w1 := btr B0 b1
  have Rx_1 := heap_of b1 _ _ _ Rx_0
  have Rs_1 := heap_of b1 _ _ _ Rs_0
  have Rz_1 := heap_of b1 _ _ _ Rz_0
  clear b1 B0 Rx_0 Rs_0 cs_0_0 cs_0_1 cs_0_2 cs_0_3 cs_0_4 cs_0_5 cs_0_6 cs_0_7 Rz_0
  have cs_1_0 := cells4 Rs_1 0 _ rfl
  have cs_1_1 := cells4 Rs_1 1 _ rfl
  have cs_1_2 := cells4 Rs_1 2 _ rfl
  have cs_1_3 := cells4 Rs_1 3 _ rfl
  have cs_1_4 := cells4 Rs_1 4 _ rfl
  have cs_1_5 := cells4 Rs_1 5 _ rfl
  have cs_1_6 := cells4 Rs_1 6 _ rfl
  have cs_1_7 := cells4 Rs_1 7 _ rfl
  have S2 := box B1.size
  have Lx_2 : Box (w.heap.size < w1.heap.size) := box (Array.getElem?_eq_some_iff.1 Rx_1).1
  have Ls_2 : Box (w.heap.size + 1 < w1.heap.size) := box (Array.getElem?_eq_some_iff.1 Rs_1).1
  have Lz_2 : Box (w.heap.size + 1 + 1 < w1.heap.size) := box (Array.getElem?_eq_some_iff.1 Rz_1).1
  have Ry_2 := heap_alloc_last w1 (Obj.cells (rf R') 28)
  have B2 := btr B1 (bal w1 (Obj.cells (rf R') 28))
  have Rx_2 := heap_of (bal w1 (Obj.cells (rf R') 28)) _ _ _ Rx_1
  have Rs_2 := heap_of (bal w1 (Obj.cells (rf R') 28)) _ _ _ Rs_1
  have Rz_2 := heap_of (bal w1 (Obj.cells (rf R') 28)) _ _ _ Rz_1
  clear B1 Rx_1 Rs_1 cs_1_0 cs_1_1 cs_1_2 cs_1_3 cs_1_4 cs_1_5 cs_1_6 cs_1_7 Rz_1
  have cs_2_0 := cells4 Rs_2 0 _ rfl
  have cs_2_1 := cells4 Rs_2 1 _ rfl
  have cs_2_2 := cells4 Rs_2 2 _ rfl
  have cs_2_3 := cells4 Rs_2 3 _ rfl
  have cs_2_4 := cells4 Rs_2 4 _ rfl
  have cs_2_5 := cells4 Rs_2 5 _ rfl
  have cs_2_6 := cells4 Rs_2 6 _ rfl
  have cs_2_7 := cells4 Rs_2 7 _ rfl
  have cy_2_0 := rf_cell Ry_2
  have cy_2_1 := rf_load Ry_2
  clear cy_2_0 cy_2_1
  have e1 : Box (b ≠ w.heap.size ∧ b ≠ w.heap.size + 1 ∧ b ≠ w.heap.size + 1 + 1 ∧ b ≠ w1.heap.size ∧ w.heap.size + 1 + 1 < w1.heap.size) := box ⟨by have := hlt.out; omega, by have := hlt.out; omega, by have := hlt.out; omega, by have := hlt.out; have := S2.out; omega, Lz_2.out⟩
  obtain ⟨i0, hi, hz0, hz1, hz2⟩ := info_parts (show (Tryd.prog.info? 50).map (fun i => (i.zero, i.size, i.bytes)) = some (some (.agg #[.bool false, .int .i64 0, .int .u64 0, .int .u64 0, .int .u64 0]), 5, 40) by kernel_rfl)
  have hlen : (chsC l).length = L * 5 := by rw [chsC_len, HL.out]
  have h1c : ∀ u ∈ chsC l, u.oneCell' = true := fun u hu => by
    unfold chsC at hu
    obtain ⟨c, _, hc⟩ := List.mem_flatMap.1 hu
    simp [chC] at hc
    rcases hc with rfl | rfl | rfl | rfl | rfl <;> rfl
  have B2s : Box (w1.heap.size + 1 = (w1.alloc (Obj.cells (rf R') 28)).heap.size) := box (by simp only [size_al])
  go_wp2_with (at_builtin; refine wpList_append_own _ rfl (.const (.slice none 0 0)) _ 37 rfl (w1.heap.size + 1) 50 i0 (.agg #[.bool false, .int .i64 0, .int .u64 0, .int .u64 0, .int .u64 0]) 5 40 Tryd.underlying37 hi hz0 hz1 hz2 rfl (by decide) (.slice none 0 0) 0 [] rfl (World.ownsRow_nil _ _ _ _) ad L cv (chsC l) rfl hlen ?c1 h1c ?b1 ?b2 ?b3 ?grow)
  case c1 => exact HC.out _ (Only.ofBelow B2 (Nat.le_refl _))
  case b1 => unfold maxLen; omega
  case b2 => omega
  case b3 => rw [← B2s.out]; exact Nat.le_refl _
  case grow =>
    intro v1 wa hown1 hgrow1 hnil1
    have ba : Below (w1.heap.size + 1) (w1.alloc (Obj.cells (rf R') 28)) wa := (Below.refl _ _).grown hgrow1 (by rw [← B2s.out]; exact Nat.le_refl _) (fun k h => by cases h)
    have Rs_3 := row_blw ba (by have := S2.out; have := e1.out; omega) Rs_2
    obtain ⟨g0, g1, g2, g3, g4, g5, g6, g7⟩ := st_cells Rs_3
    have hsa := ba.size
    rw [← B2s.out] at hsa
    clear hgrow1 hnil1 cs_2_0 cs_2_1 cs_2_2 cs_2_3 cs_2_4 cs_2_5 cs_2_6 cs_2_7 Rs_3
    go_wp2_with (at_builtin; refine wpList_append_own _ rfl _ _ 37 rfl (w1.heap.size + 1) 50 i0 (.agg #[.bool false, .int .i64 0, .int .u64 0, .int .u64 0, .int .u64 0]) 5 40 Tryd.underlying37 hi hz0 hz1 hz2 rfl (by decide) v1 L (chsC l) rfl ?ow ⟨wa.heap.size, 0, none⟩ 1 1 (chC ⟨false, 77, 0, 0, 0⟩) rfl rfl ?nc (fun x hx => by simp [chC] at hx; rcases hx with rfl | rfl | rfl | rfl | rfl <;> rfl) (by unfold maxLen; omega) (by omega) ?sz ?grow2)
    case ow => exact hown1.alloc _
    case nc => exact new_cells _ (chC ⟨false, 77, 0, 0, 0⟩) _
    case sz => simp only [size_al]; omega
    case grow2 =>
    intro v2 wb hown2 hgrow2 hnil2
    have bb : Below (w1.heap.size + 1) (w1.alloc (Obj.cells (rf R') 28)) wb := (ba.alloc hsa _).grown hgrow2 (by simp only [size_al]; omega) (fun q hq => (hown1.lt q hq).1)
    obtain ⟨gi, ci, rfl, hgi, hci, HK, hgl⟩ := own_chs HL.out hown2
    have Rs_4 := row_blw bb (by have := S2.out; have := e1.out; omega) Rs_2
    have Rz_4 := row_blw bb (by have := S2.out; have := e1.out; omega) Rz_2
    have Ry_4 := row_blw bb (by omega) Ry_2
    have B4 : Below w.heap.size w wb := B2.trans (bb.mono (by have := S2.out; omega))
    obtain ⟨g0, g1, g2, g3, g4, g5, g6, g7⟩ := st_cells Rs_4
    have H4 := box (heap_of B4 _ _ _ HB.out)
    have T4 := box (FB.out FF.out B4)
    have hs0 : (0 : Int) ≤ (L : Int) := by omega
    have hs1 : (L : Int) ≤ (ci : Int) := by omega
    have hs2 : ((L : Int)).toNat = L := by omega
    have hs3 : (L : Int) ≤ ((L + 1 : Nat) : Int) := by omega
    have gne : Box (gi ≠ b ∧ w1.heap.size + 1 ≤ gi ∧ gi < wb.heap.size) := box ⟨by have := hlt.out; have := S2.out; omega, hgi, hgl⟩
    have SS : CS wb (.slice (some ⟨gi, 0, none⟩) L ci) l := ⟨_, ci, by rw [HL.out], fun _ => ⟨gi, 0, rfl, hgl, fun j u hj => by rw [Nat.zero_add]; exact HK.out wb (fun _ _ h => h) j u (by rw [List.getElem?_append_left (List.getElem?_eq_some_iff.1 hj).1]; exact hj)⟩⟩
    clear hown1 hown2 hgrow2 hnil2 ba hi hz0 hz1 hz2 hlen h1c Rx_2 Rs_2 Rz_2 Ry_2 hsa hgi hgl B2
    go_wp2_with fail
    refine (KP.out wb _ T4.out H4.out SS).mono ?_
    rintro r wq ⟨rfl, rb, oq⟩
    have Rs_5 := Only.row oq (Ne.symm e1.out.2.1) Rs_4
    have Rz_5 := Only.row oq (Ne.symm e1.out.2.2.1) Rz_4
    have Ry_5 := Only.row oq (Ne.symm e1.out.2.2.2.1) Ry_4
    have OO := box (only_below B4 oq)
    have HK5 : Box (∀ W, Below wq.heap.size wq W → ∀ j u, (chsC l ++ chC ⟨false, 77, 0, 0, 0⟩)[j]? = some u → W.cell? ⟨gi, j, none⟩ = some u) := box (fun W bW j u hu => HK.out W (fun c T h => heap_of bW _ _ _ (Only.row oq gne.out.1 h)) j u hu)
    have rb5 := box rb
    clear rb SS HK hs0 hs1 hs2 hs3 Rs_4 Rz_4 Ry_4 g0 g1 g2 g3 g4 g5 g6 g7
    obtain ⟨g0, g1, g2, g3, g4, g5, g6, g7⟩ := st_cells Rs_5
    go_wp2_with fail
    go_loopw [34] (fun iv wr => ∃ k : Nat, k ≤ L ∧ iv = .int .i64 (k : Int) ∧ Below wq.heap.size wq wr) (fun iv _ => L - (intOf iv).toNat)
    case atStart => exact ⟨0, Nat.zero_le _, rfl, Below.refl _ _⟩
    case round =>
      obtain ⟨k, hk, rfl, bR⟩ := hrel
      have Rs_6 := heap_of bR _ _ _ Rs_5
      have Rz_6 := heap_of bR _ _ _ Rz_5
      have Ry_6 := heap_of bR _ _ _ Ry_5
      clear g0 g1 g2 g3 g4 g5 g6 g7
      obtain ⟨g0, g1, g2, g3, g4, g5, g6, g7⟩ := st_cells Rs_6
      by_cases hlt : k < L
      · exact absurd hlt (by have := H0.out; omega)
      · obtain rfl : k = L := by omega
        have y1 := HK5.out wr bR (k * 5 + 1) (.int .i64 77) (by rw [List.getElem?_append_right (by rw [chsC_len, HL.out]; omega), chsC_len, HL.out, show k * 5 + 1 - k * 5 = 1 by omega]; rfl)
        have dl : decide ((k : Int) < (k : Int)) = false := by rw [decide_eq_false_iff_not]; omega
        have hb0 : (0 : Int) ≤ (k : Int) := by omega
        have hb2 : (k : Int) < ((k + 1 : Nat) : Int) := by omega
        have hb3 : (k : Int) < (k : Int) + 1 := by omega
        go_wp2_with fail
        have e9 : Box (w.heap.size + 1 + 1 ≠ w1.heap.size ∧ w.heap.size + 1 + 1 ≠ gi) := box ⟨by have := e1.out; omega, by have := e1.out; have := gne.out; omega⟩
        have s0 : wr.drew.heap[w1.heap.size]? = some (.cells (rf R') 28) ∧ wr.drew.cell? ⟨w.heap.size + 1, 7, none⟩ = some (.slice (some ad) k cv) ∧ wr.drew.cell? ⟨gi, k * 5 + 1, none⟩ = some (.int .i64 77) := ⟨Ry_6, g7, y1⟩
        have s1 : (wr.drew.setRow (w.heap.size + 1 + 1) (rf R')).heap[w1.heap.size]? = some (.cells (rf R') 28) ∧ (wr.drew.setRow (w.heap.size + 1 + 1) (rf R')).cell? ⟨w.heap.size + 1, 7, none⟩ = some (.slice (some ad) k cv) ∧ (wr.drew.setRow (w.heap.size + 1 + 1) (rf R')).cell? ⟨gi, k * 5 + 1, none⟩ = some (.int .i64 77) := ⟨(setRow_other e9.out.1).trans Ry_6, cell7 ((setRow_other (by omega)).trans Rs_6) 7 _ rfl, (cell_set e9.out.2).trans y1⟩
        have rz : wr.drew.heap[w.heap.size + 1 + 1]? = some (.cells (rf fun _ => 0) 28) := Rz_6
        have hst := rf_store (R := R') rz
        have OB := box (OO.out.trans (Only.ofBelow bR.drew (Nat.le_refl _)))
        have rb6 : Box (wr.drew.heap[b]? = some (.cells (rg R') tg)) := box (heap_of bR.drew _ _ _ rb5.out)
        have hu := Tryd.underlying28
        have hi : (Tryd.prog.info? 28).map (·.size) = some (rf R').toList.length := by rw [Array.length_toList, rf_size]; kernel_rfl
        clear Rs_6 Rz_6 Ry_6 g0 g1 g2 g3 g4 g5 g6 g7 y1 bR dl
        refine wp_region_held_drew (S := fun W => W.heap[w1.heap.size]? = some (.cells (rf R') 28) ∧ W.cell? ⟨w.heap.size + 1, 7, none⟩ = some (.slice (some ad) k cv) ∧ W.cell? ⟨gi, k * 5 + 1, none⟩ = some (.int .i64 77)) (by kernel_rfl) s0 (fun hHeld => ?_)
        refine wpAnyH_take (i := 0) rfl (by kernel_rfl) (by kernel_rfl) (by kernel_rfl) (fun _ _ _ h => h) (yieldsIf_load_mid (by rfl) _ _ rfl _ _ rfl (rf R').toList _ (fun W h => rf_range h.1) hu rfl hi) (by assumption) ?_
        simp only [Array.toArray_toList]
        (try simp only [Act.put, List.getElem_toArray, List.getElem_cons_zero, List.getElem_cons_succ, List.setIfInBounds_toArray, List.set_cons_zero, List.set_cons_succ])
        refine wpAnyH_take (i := 1) (v := ?_) rfl (by kernel_rfl) (by kernel_rfl) (by kernel_rfl) (fun _ _ _ h => h) (Or.inl ⟨by rfl, ?_⟩) (by assumption) ?_
        rotate_left 1
        · intro W hSw
          try dsimp only at hSw
          go_simp
          try with_reducible rfl
        (try simp only [Act.put, List.getElem_toArray, List.getElem_cons_zero, List.getElem_cons_succ, List.setIfInBounds_toArray, List.set_cons_zero, List.set_cons_succ])
        refine wpAnyH_take (i := 2) (v := ?_) rfl (by kernel_rfl) (by kernel_rfl) (by kernel_rfl) (fun _ _ _ h => h) (Or.inl ⟨by rfl, ?_⟩) (by assumption) ?_
        rotate_left 1
        · intro W hSw
          try dsimp only at hSw
          go_simp
          try with_reducible rfl
        (try simp only [Act.put, List.getElem_toArray, List.getElem_cons_zero, List.getElem_cons_succ, List.setIfInBounds_toArray, List.set_cons_zero, List.set_cons_succ])
        refine wpAnyH_take (i := 3) (v := ?_) rfl (by kernel_rfl) (by kernel_rfl) (by kernel_rfl) (fun _ _ _ h => h) (Or.inl ⟨by rfl, ?_⟩) (by assumption) ?_
        rotate_left 1
        · intro W hSw
          try dsimp only at hSw
          go_simp
          try with_reducible rfl
        (try simp only [Act.put, List.getElem_toArray, List.getElem_cons_zero, List.getElem_cons_succ, List.setIfInBounds_toArray, List.set_cons_zero, List.set_cons_succ])
        refine wpAnyH_take (i := 4) (v := ?_) rfl (by kernel_rfl) (by kernel_rfl) (by kernel_rfl) (fun _ _ _ h => h) (Or.inl ⟨by rfl, ?_⟩) (by assumption) ?_
        rotate_left 1
        · intro W hSw
          try dsimp only at hSw
          go_simp
          try with_reducible rfl
        (try simp only [Act.put, List.getElem_toArray, List.getElem_cons_zero, List.getElem_cons_succ, List.setIfInBounds_toArray, List.set_cons_zero, List.set_cons_succ])
        refine wpAnyH_take (i := 5) (v := ?_) rfl (by kernel_rfl) (by kernel_rfl) (by kernel_rfl) (fun _ _ _ h => h) (Or.inl ⟨by rfl, ?_⟩) (by assumption) ?_
        rotate_left 1
        · intro W hSw
          try dsimp only at hSw
          go_simp
          try with_reducible rfl
        (try simp only [Act.put, List.getElem_toArray, List.getElem_cons_zero, List.getElem_cons_succ, List.setIfInBounds_toArray, List.set_cons_zero, List.set_cons_succ])
        refine wpAnyH_take (i := 6) (v := ?_) rfl (by kernel_rfl) (by kernel_rfl) (by kernel_rfl) (fun _ _ _ h => h) (Or.inl ⟨by rfl, ?_⟩) (by assumption) ?_
        rotate_left 1
        · intro W hSw
          try dsimp only at hSw
          go_simp
          try with_reducible rfl
        (try simp only [Act.put, List.getElem_toArray, List.getElem_cons_zero, List.getElem_cons_succ, List.setIfInBounds_toArray, List.set_cons_zero, List.set_cons_succ])
        refine wpAnyH_take (i := 7) (v := ?_) rfl (by kernel_rfl) (by kernel_rfl) (by kernel_rfl) (fun _ _ _ h => h) (Or.inl ⟨by rfl, ?_⟩) (by assumption) ?_
        rotate_left 1
        · intro W hSw
          try dsimp only at hSw
          go_simp
          try with_reducible rfl
        (try simp only [Act.put, List.getElem_toArray, List.getElem_cons_zero, List.getElem_cons_succ, List.setIfInBounds_toArray, List.set_cons_zero, List.set_cons_succ])
        refine wpAnyH_take (i := 8) (v := ?_) rfl (by kernel_rfl) (by kernel_rfl) (by kernel_rfl) (fun _ _ _ h => h) (Or.inl ⟨by rfl, ?_⟩) (by assumption) ?_
        rotate_left 1
        · intro W hSw
          try dsimp only at hSw
          go_simp
          try with_reducible rfl
        (try simp only [Act.put, List.getElem_toArray, List.getElem_cons_zero, List.getElem_cons_succ, List.setIfInBounds_toArray, List.set_cons_zero, List.set_cons_succ])
        refine wpAnyH_take (i := 9) (v := ?_) rfl (by kernel_rfl) (by kernel_rfl) (by kernel_rfl) (fun _ _ _ h => h) (Or.inl ⟨by rfl, ?_⟩) (by assumption) ?_
        rotate_left 1
        · intro W hSw
          try dsimp only at hSw
          go_simp
          try with_reducible rfl
        (try simp only [Act.put, List.getElem_toArray, List.getElem_cons_zero, List.getElem_cons_succ, List.setIfInBounds_toArray, List.set_cons_zero, List.set_cons_succ])
        refine wpAnyH_take (i := 10) (v := ?_) rfl (by kernel_rfl) (by kernel_rfl) (by kernel_rfl) (fun _ _ _ h => h) (Or.inl ⟨by rfl, ?_⟩) (by assumption) ?_
        rotate_left 1
        · intro W hSw
          try dsimp only at hSw
          go_simp
          try with_reducible rfl
        (try simp only [Act.put, List.getElem_toArray, List.getElem_cons_zero, List.getElem_cons_succ, List.setIfInBounds_toArray, List.set_cons_zero, List.set_cons_succ])
        refine wpAnyH_take (i := 11) (v := ?_) rfl (by kernel_rfl) (by kernel_rfl) (by kernel_rfl) (fun _ _ _ h => h) (Or.inl ⟨by rfl, ?_⟩) (by assumption) ?_
        rotate_left 1
        · intro W hSw
          try dsimp only at hSw
          go_simp
          try with_reducible rfl
        (try simp only [Act.put, List.getElem_toArray, List.getElem_cons_zero, List.getElem_cons_succ, List.setIfInBounds_toArray, List.set_cons_zero, List.set_cons_succ])
        refine wpAnyH_take (i := 12) (v := ?_) rfl (by kernel_rfl) (by kernel_rfl) (by kernel_rfl) (fun _ _ _ h => h) (Or.inl ⟨by rfl, ?_⟩) (by assumption) ?_
        rotate_left 1
        · intro W hSw
          try dsimp only at hSw
          go_simp
          try with_reducible rfl
        (try simp only [Act.put, List.getElem_toArray, List.getElem_cons_zero, List.getElem_cons_succ, List.setIfInBounds_toArray, List.set_cons_zero, List.set_cons_succ])
        refine wpAnyH_take (i := 13) (v := ?_) rfl (by kernel_rfl) (by kernel_rfl) (by kernel_rfl) (fun _ _ _ h => h) (Or.inl ⟨by rfl, ?_⟩) (by assumption) ?_
        rotate_left 1
        · intro W hSw
          try dsimp only at hSw
          go_simp
          try with_reducible rfl
        (try simp only [Act.put, List.getElem_toArray, List.getElem_cons_zero, List.getElem_cons_succ, List.setIfInBounds_toArray, List.set_cons_zero, List.set_cons_succ])
        refine wpAnyH_ready (rs := [14]) (by kernel_rfl) (by simp) ?_
        refine AllReadyH.cons rfl (fun K hK => ?_) AllReadyH.nil
        go_simp
        refine hK.out _ _ s1 (fun hHeld => ?_)
        clear hK K
        (try simp only [Act.put, List.getElem_toArray, List.getElem_cons_zero, List.getElem_cons_succ, List.setIfInBounds_toArray, List.set_cons_zero, List.set_cons_succ])
        refine wpAnyH_take (i := 15) (v := ?_) rfl (by kernel_rfl) (by kernel_rfl) (by kernel_rfl) (fun _ _ _ h => h) (Or.inl ⟨by rfl, ?_⟩) (by assumption) ?_
        rotate_left 1
        · intro W hSw
          try dsimp only at hSw
          go_simp
          try with_reducible rfl
        (try simp only [Act.put, List.getElem_toArray, List.getElem_cons_zero, List.getElem_cons_succ, List.setIfInBounds_toArray, List.set_cons_zero, List.set_cons_succ])
        refine wpAnyH_done (by kernel_rfl) ?_ _
        go_wp2
        exact bodyPost_ret (v := .tuple #[.agg (rf R'), .bool true]) (res_rf2 Tryd.results11 (T := 28) rfl (setRow_row rz)) rfl ⟨rfl, (setRow_other (Ne.symm e1.out.2.2.1)).trans rb6.out, OB.out.setRow (by omega)⟩
set_option maxRecDepth 100000 in
set_option maxHeartbeats 8000000 in
theorem bt_7n {T : World → Prop} (FB : Box (∀ {w w' : World}, T w → Below w.heap.size w w' → T w')) (rg : (Nat → Nat) → Array Value) (tg : TypeId) (R R' : Nat → Nat) (b : Nat) (how on n fm e : Int) (X u v : Nat) (l : List Chg) (hl : l = []) (he : IntKind.i64.wrap e = e) (hq : Box ((how == 0) = false ∧ (how == 1) = false ∧ (how == 2) = false ∧ (how == 3) = false ∧ (how == 4) = false ∧ (how == 5) = false ∧ (how == 6) = false)) (w : World)
    (KD : Box (∀ W, Below w.heap.size w W → Calls Tryd.prog 37 #[.agg (rf R), .slice none 0 0] W fun r w' => r = .returned (.tuple #[.agg (rf R'), .int .i64 e]) ∧ Below W.heap.size W w'))
    (KP : Box (∀ w s1, T w → w.heap[b]? = some (.cells (rg R) tg) → CS w s1 l → Calls Tryd.prog 28 #[.pointer (some ⟨b, 0, none⟩), s1] w fun r w' => r = .returned (.int .i64 e) ∧ w'.heap[b]? = some (.cells (rg R') tg) ∧ Only b w w'))
    (hT : T w) (hb : w.heap[b]? = some (.cells (rg R) tg)) :
    Calls Tryd.prog 11 #[.pointer (some ⟨b, 0, none⟩), .agg (rf R), .agg #[.int .i64 how, .int .i64 on, .int .i64 n, .int .u64 (X : Nat), .int .u64 (u : Nat), .int .u64 (v : Nat), .int .u8 fm, .slice none 0 0]] w fun r w' => r = .returned (.tuple #[.agg (rf R'), .bool true]) ∧ w'.heap[b]? = some (.cells (rg R') tg) ∧ Only b w w' := by
  have FF := box hT
  have hlt : Box (b < w.heap.size) := box (Array.getElem?_eq_some_iff.1 hb).1
  have HB := box hb
  obtain ⟨d0, d1, d2, d3, d4, d5, d6⟩ := hq.out
  subst hl
  clear hT hb hq
  have hrz := rf_zero
  have hrs : ∀ R, ((rf R).size = 96) = True := fun R => eq_true (rf_size R)
  have hra := rf_at
  have hsn := rf_stn
  obtain ⟨Rx_0, Rs_0, Rz_0, B0⟩ := opn3 w (Obj.cells (rf R) 28) (Obj.cells #[.int .i64 how, .int .i64 on, .int .i64 n, .int .u64 (X : Nat), .int .u64 (u : Nat), .int .u64 (v : Nat), .int .u8 fm, .slice none 0 0] 39) (Obj.cells (rf fun _ => 0) 28)
  go_enter Tryd.func11, Tryd.ntmps11
  have cs_0_0 := cells4 Rs_0 0 _ rfl
  have cs_0_1 := cells4 Rs_0 1 _ rfl
  have cs_0_2 := cells4 Rs_0 2 _ rfl
  have cs_0_3 := cells4 Rs_0 3 _ rfl
  have cs_0_4 := cells4 Rs_0 4 _ rfl
  have cs_0_5 := cells4 Rs_0 5 _ rfl
  have cs_0_6 := cells4 Rs_0 6 _ rfl
  have cs_0_7 := cells4 Rs_0 7 _ rfl
  go_wp2_with (first | ((with_reducible (refine wpl_rf rfl _ rfl ?_ Rx_0 ?_)); rfl) | ((with_reducible (refine wp_rf _ rfl ?_ Rx_0 ?_)); rfl) | ((with_reducible (refine wpl_rf rfl _ rfl ?_ Rz_0 ?_)); rfl) | ((with_reducible (refine wp_rf _ rfl ?_ Rz_0 ?_)); rfl) | fail)
  refine (KD.out _ B0).mono ?_
  rintro r w1 ⟨rfl, b1⟩
  have B1 : Below w.heap.size w w1 := btr B0 b1
  have Rx_1 := heap_of b1 _ _ _ Rx_0
  have Rs_1 := heap_of b1 _ _ _ Rs_0
  have Rz_1 := heap_of b1 _ _ _ Rz_0
  clear b1 B0 Rx_0 Rs_0 cs_0_0 cs_0_1 cs_0_2 cs_0_3 cs_0_4 cs_0_5 cs_0_6 cs_0_7 Rz_0
  have cs_1_0 := cells4 Rs_1 0 _ rfl
  have cs_1_1 := cells4 Rs_1 1 _ rfl
  have cs_1_2 := cells4 Rs_1 2 _ rfl
  have cs_1_3 := cells4 Rs_1 3 _ rfl
  have cs_1_4 := cells4 Rs_1 4 _ rfl
  have cs_1_5 := cells4 Rs_1 5 _ rfl
  have cs_1_6 := cells4 Rs_1 6 _ rfl
  have cs_1_7 := cells4 Rs_1 7 _ rfl
  have S2 := box B1.size
  have Lx_2 : Box (w.heap.size < w1.heap.size) := box (Array.getElem?_eq_some_iff.1 Rx_1).1
  have Ls_2 : Box (w.heap.size + 1 < w1.heap.size) := box (Array.getElem?_eq_some_iff.1 Rs_1).1
  have Lz_2 : Box (w.heap.size + 1 + 1 < w1.heap.size) := box (Array.getElem?_eq_some_iff.1 Rz_1).1
  have Ry_2 := heap_alloc_last w1 (Obj.cells (rf R') 28)
  have B2 := btr B1 (bal w1 (Obj.cells (rf R') 28))
  have Rx_2 := heap_of (bal w1 (Obj.cells (rf R') 28)) _ _ _ Rx_1
  have Rs_2 := heap_of (bal w1 (Obj.cells (rf R') 28)) _ _ _ Rs_1
  have Rz_2 := heap_of (bal w1 (Obj.cells (rf R') 28)) _ _ _ Rz_1
  clear B1 Rx_1 Rs_1 cs_1_0 cs_1_1 cs_1_2 cs_1_3 cs_1_4 cs_1_5 cs_1_6 cs_1_7 Rz_1
  have cs_2_0 := cells4 Rs_2 0 _ rfl
  have cs_2_1 := cells4 Rs_2 1 _ rfl
  have cs_2_2 := cells4 Rs_2 2 _ rfl
  have cs_2_3 := cells4 Rs_2 3 _ rfl
  have cs_2_4 := cells4 Rs_2 4 _ rfl
  have cs_2_5 := cells4 Rs_2 5 _ rfl
  have cs_2_6 := cells4 Rs_2 6 _ rfl
  have cs_2_7 := cells4 Rs_2 7 _ rfl
  have cy_2_0 := rf_cell Ry_2
  have cy_2_1 := rf_load Ry_2
  clear cy_2_0 cy_2_1
  have e1 : Box (b ≠ w.heap.size ∧ b ≠ w.heap.size + 1 ∧ b ≠ w.heap.size + 1 + 1 ∧ b ≠ w1.heap.size ∧ w.heap.size + 1 + 1 < w1.heap.size) := box ⟨by have := hlt.out; omega, by have := hlt.out; omega, by have := hlt.out; omega, by have := hlt.out; have := S2.out; omega, Lz_2.out⟩
  obtain ⟨i0, hi, hz0, hz1, hz2⟩ := info_parts (show (Tryd.prog.info? 50).map (fun i => (i.zero, i.size, i.bytes)) = some (some (.agg #[.bool false, .int .i64 0, .int .u64 0, .int .u64 0, .int .u64 0]), 5, 40) by kernel_rfl)
  have B2s : Box (w1.heap.size + 1 = (w1.alloc (Obj.cells (rf R') 28)).heap.size) := box (by simp only [size_al])
  go_wp2_with (at_builtin; refine wpList_append_own _ rfl _ _ 37 rfl (w1.heap.size + 1) 50 i0 (.agg #[.bool false, .int .i64 0, .int .u64 0, .int .u64 0, .int .u64 0]) 5 40 Tryd.underlying37 hi hz0 hz1 hz2 rfl (by decide) (.slice none 0 0) 0 [] rfl (World.ownsRow_nil _ _ _ _) ⟨w1.heap.size + 1, 0, none⟩ 1 1 (chC ⟨false, 77, 0, 0, 0⟩) rfl rfl ?nc (fun x hx => by simp [chC] at hx; rcases hx with rfl | rfl | rfl | rfl | rfl <;> rfl) (by unfold maxLen; omega) (by omega) ?sz ?grow2)
  case nc => have := new_cells (w1.alloc (Obj.cells (rf R') 28)) (chC ⟨false, 77, 0, 0, 0⟩) 50; rw [← B2s.out] at this; exact this
  case sz => simp only [size_al]; omega
  case grow2 =>
    have ba : Below (w1.heap.size + 1) (w1.alloc (Obj.cells (rf R') 28)) (w1.alloc (Obj.cells (rf R') 28)) := Below.refl _ _
    have hsa : w1.heap.size + 1 ≤ (w1.alloc (Obj.cells (rf R') 28)).heap.size := by rw [← B2s.out]; exact Nat.le_refl _
    intro v2 wb hown2 hgrow2 hnil2
    have bb : Below (w1.heap.size + 1) (w1.alloc (Obj.cells (rf R') 28)) wb := (ba.alloc hsa _).grown hgrow2 (by simp only [size_al]; omega) (fun q hq => by cases hq)
    obtain ⟨gi, ci, rfl, hgi, hci, HK, hgl⟩ := own_chs (l := []) (L := 0) rfl hown2
    have Rs_4 := row_blw bb (by have := S2.out; have := e1.out; omega) Rs_2
    have Rz_4 := row_blw bb (by have := S2.out; have := e1.out; omega) Rz_2
    have Ry_4 := row_blw bb (by omega) Ry_2
    have B4 : Below w.heap.size w wb := B2.trans (bb.mono (by have := S2.out; omega))
    obtain ⟨g0, g1, g2, g3, g4, g5, g6, g7⟩ := st_cells Rs_4
    have H4 := box (heap_of B4 _ _ _ HB.out)
    have T4 := box (FB.out FF.out B4)
    have hs1 : (0 : Int) ≤ (ci : Int) := by omega
    have gne : Box (gi ≠ b ∧ w1.heap.size + 1 ≤ gi ∧ gi < wb.heap.size) := box ⟨by have := hlt.out; have := S2.out; omega, hgi, hgl⟩
    have SS : CS wb (.slice (some ⟨gi, 0, none⟩) 0 ci) [] := ⟨_, ci, rfl, fun _ => ⟨gi, 0, rfl, hgl, fun j u hj => by rw [Nat.zero_add]; exact HK.out wb (fun _ _ h => h) j u (by rw [List.getElem?_append_left (List.getElem?_eq_some_iff.1 hj).1]; exact hj)⟩⟩
    clear hown2 hgrow2 hnil2 ba hi hz0 hz1 hz2 Rx_2 Rs_2 Rz_2 Ry_2 hsa hgi hgl B2
    go_wp2_with fail
    refine (KP.out wb _ T4.out H4.out SS).mono ?_
    rintro r wq ⟨rfl, rb, oq⟩
    have Rs_5 := Only.row oq (Ne.symm e1.out.2.1) Rs_4
    have Rz_5 := Only.row oq (Ne.symm e1.out.2.2.1) Rz_4
    have Ry_5 := Only.row oq (Ne.symm e1.out.2.2.2.1) Ry_4
    have OO := box (only_below B4 oq)
    have HK5 : Box (∀ W, Below wq.heap.size wq W → ∀ j u, (chsC [] ++ chC ⟨false, 77, 0, 0, 0⟩)[j]? = some u → W.cell? ⟨gi, j, none⟩ = some u) := box (fun W bW j u hu => HK.out W (fun c T h => heap_of bW _ _ _ (Only.row oq gne.out.1 h)) j u hu)
    have rb5 := box rb
    clear rb SS HK hs1 Rs_4 Rz_4 Ry_4 g0 g1 g2 g3 g4 g5 g6 g7
    obtain ⟨g0, g1, g2, g3, g4, g5, g6, g7⟩ := st_cells Rs_5
    go_wp2_with fail
    go_loopw [34] (fun iv wr => iv = .int .i64 0 ∧ Below wq.heap.size wq wr) (fun _ _ => 0)
    case atStart => exact ⟨rfl, Below.refl _ _⟩
    case round =>
      obtain ⟨rfl, bR⟩ := hrel
      have Rs_6 := heap_of bR _ _ _ Rs_5
      have Rz_6 := heap_of bR _ _ _ Rz_5
      have Ry_6 := heap_of bR _ _ _ Ry_5
      clear g0 g1 g2 g3 g4 g5 g6 g7
      obtain ⟨g0, g1, g2, g3, g4, g5, g6, g7⟩ := st_cells Rs_6
      have y1 := HK5.out wr bR 1 (.int .i64 77) rfl
      go_wp2_with fail
      have e9 : Box (w.heap.size + 1 + 1 ≠ w1.heap.size ∧ w.heap.size + 1 + 1 ≠ gi) := box ⟨by have := e1.out; omega, by have := e1.out; have := gne.out; omega⟩
      have s0 : wr.drew.heap[w1.heap.size]? = some (.cells (rf R') 28) ∧ wr.drew.cell? ⟨w.heap.size + 1, 7, none⟩ = some (.slice none 0 0) ∧ wr.drew.cell? ⟨gi, 1, none⟩ = some (.int .i64 77) := ⟨Ry_6, g7, y1⟩
      have s1 : (wr.drew.setRow (w.heap.size + 1 + 1) (rf R')).heap[w1.heap.size]? = some (.cells (rf R') 28) ∧ (wr.drew.setRow (w.heap.size + 1 + 1) (rf R')).cell? ⟨w.heap.size + 1, 7, none⟩ = some (.slice none 0 0) ∧ (wr.drew.setRow (w.heap.size + 1 + 1) (rf R')).cell? ⟨gi, 1, none⟩ = some (.int .i64 77) := ⟨(setRow_other e9.out.1).trans Ry_6, cell7 ((setRow_other (by omega)).trans Rs_6) 7 _ rfl, (cell_set e9.out.2).trans y1⟩
      have rz : wr.drew.heap[w.heap.size + 1 + 1]? = some (.cells (rf fun _ => 0) 28) := Rz_6
      have hst := rf_store (R := R') rz
      have OB := box (OO.out.trans (Only.ofBelow bR.drew (Nat.le_refl _)))
      have rb6 : Box (wr.drew.heap[b]? = some (.cells (rg R') tg)) := box (heap_of bR.drew _ _ _ rb5.out)
      have hu := Tryd.underlying28
      have hi : (Tryd.prog.info? 28).map (·.size) = some (rf R').toList.length := by rw [Array.length_toList, rf_size]; kernel_rfl
      clear Rs_6 Rz_6 Ry_6 g0 g1 g2 g3 g4 g5 g6 g7 y1 bR
      refine wp_region_held_drew (S := fun W => W.heap[w1.heap.size]? = some (.cells (rf R') 28) ∧ W.cell? ⟨w.heap.size + 1, 7, none⟩ = some (.slice none 0 0) ∧ W.cell? ⟨gi, 1, none⟩ = some (.int .i64 77)) (by kernel_rfl) s0 (fun hHeld => ?_)
      refine wpAnyH_take (i := 0) rfl (by kernel_rfl) (by kernel_rfl) (by kernel_rfl) (fun _ _ _ h => h) (yieldsIf_load_mid (by rfl) _ _ rfl _ _ rfl (rf R').toList _ (fun W h => rf_range h.1) hu rfl hi) (by assumption) ?_
      simp only [Array.toArray_toList]
      (try simp only [Act.put, List.getElem_toArray, List.getElem_cons_zero, List.getElem_cons_succ, List.setIfInBounds_toArray, List.set_cons_zero, List.set_cons_succ])
      refine wpAnyH_take (i := 1) (v := ?_) rfl (by kernel_rfl) (by kernel_rfl) (by kernel_rfl) (fun _ _ _ h => h) (Or.inl ⟨by rfl, ?_⟩) (by assumption) ?_
      rotate_left 1
      · intro W hSw
        try dsimp only at hSw
        go_simp
        try with_reducible rfl
      (try simp only [Act.put, List.getElem_toArray, List.getElem_cons_zero, List.getElem_cons_succ, List.setIfInBounds_toArray, List.set_cons_zero, List.set_cons_succ])
      refine wpAnyH_take (i := 2) (v := ?_) rfl (by kernel_rfl) (by kernel_rfl) (by kernel_rfl) (fun _ _ _ h => h) (Or.inl ⟨by rfl, ?_⟩) (by assumption) ?_
      rotate_left 1
      · intro W hSw
        try dsimp only at hSw
        go_simp
        try with_reducible rfl
      (try simp only [Act.put, List.getElem_toArray, List.getElem_cons_zero, List.getElem_cons_succ, List.setIfInBounds_toArray, List.set_cons_zero, List.set_cons_succ])
      refine wpAnyH_take (i := 3) (v := ?_) rfl (by kernel_rfl) (by kernel_rfl) (by kernel_rfl) (fun _ _ _ h => h) (Or.inl ⟨by rfl, ?_⟩) (by assumption) ?_
      rotate_left 1
      · intro W hSw
        try dsimp only at hSw
        go_simp
        try with_reducible rfl
      (try simp only [Act.put, List.getElem_toArray, List.getElem_cons_zero, List.getElem_cons_succ, List.setIfInBounds_toArray, List.set_cons_zero, List.set_cons_succ])
      refine wpAnyH_take (i := 4) (v := ?_) rfl (by kernel_rfl) (by kernel_rfl) (by kernel_rfl) (fun _ _ _ h => h) (Or.inl ⟨by rfl, ?_⟩) (by assumption) ?_
      rotate_left 1
      · intro W hSw
        try dsimp only at hSw
        go_simp
        try with_reducible rfl
      (try simp only [Act.put, List.getElem_toArray, List.getElem_cons_zero, List.getElem_cons_succ, List.setIfInBounds_toArray, List.set_cons_zero, List.set_cons_succ])
      refine wpAnyH_take (i := 5) (v := ?_) rfl (by kernel_rfl) (by kernel_rfl) (by kernel_rfl) (fun _ _ _ h => h) (Or.inl ⟨by rfl, ?_⟩) (by assumption) ?_
      rotate_left 1
      · intro W hSw
        try dsimp only at hSw
        go_simp
        try with_reducible rfl
      (try simp only [Act.put, List.getElem_toArray, List.getElem_cons_zero, List.getElem_cons_succ, List.setIfInBounds_toArray, List.set_cons_zero, List.set_cons_succ])
      refine wpAnyH_take (i := 6) (v := ?_) rfl (by kernel_rfl) (by kernel_rfl) (by kernel_rfl) (fun _ _ _ h => h) (Or.inl ⟨by rfl, ?_⟩) (by assumption) ?_
      rotate_left 1
      · intro W hSw
        try dsimp only at hSw
        go_simp
        try with_reducible rfl
      (try simp only [Act.put, List.getElem_toArray, List.getElem_cons_zero, List.getElem_cons_succ, List.setIfInBounds_toArray, List.set_cons_zero, List.set_cons_succ])
      refine wpAnyH_take (i := 7) (v := ?_) rfl (by kernel_rfl) (by kernel_rfl) (by kernel_rfl) (fun _ _ _ h => h) (Or.inl ⟨by rfl, ?_⟩) (by assumption) ?_
      rotate_left 1
      · intro W hSw
        try dsimp only at hSw
        go_simp
        try with_reducible rfl
      (try simp only [Act.put, List.getElem_toArray, List.getElem_cons_zero, List.getElem_cons_succ, List.setIfInBounds_toArray, List.set_cons_zero, List.set_cons_succ])
      refine wpAnyH_take (i := 8) (v := ?_) rfl (by kernel_rfl) (by kernel_rfl) (by kernel_rfl) (fun _ _ _ h => h) (Or.inl ⟨by rfl, ?_⟩) (by assumption) ?_
      rotate_left 1
      · intro W hSw
        try dsimp only at hSw
        go_simp
        try with_reducible rfl
      (try simp only [Act.put, List.getElem_toArray, List.getElem_cons_zero, List.getElem_cons_succ, List.setIfInBounds_toArray, List.set_cons_zero, List.set_cons_succ])
      refine wpAnyH_take (i := 9) (v := ?_) rfl (by kernel_rfl) (by kernel_rfl) (by kernel_rfl) (fun _ _ _ h => h) (Or.inl ⟨by rfl, ?_⟩) (by assumption) ?_
      rotate_left 1
      · intro W hSw
        try dsimp only at hSw
        go_simp
        try with_reducible rfl
      (try simp only [Act.put, List.getElem_toArray, List.getElem_cons_zero, List.getElem_cons_succ, List.setIfInBounds_toArray, List.set_cons_zero, List.set_cons_succ])
      refine wpAnyH_take (i := 10) (v := ?_) rfl (by kernel_rfl) (by kernel_rfl) (by kernel_rfl) (fun _ _ _ h => h) (Or.inl ⟨by rfl, ?_⟩) (by assumption) ?_
      rotate_left 1
      · intro W hSw
        try dsimp only at hSw
        go_simp
        try with_reducible rfl
      (try simp only [Act.put, List.getElem_toArray, List.getElem_cons_zero, List.getElem_cons_succ, List.setIfInBounds_toArray, List.set_cons_zero, List.set_cons_succ])
      refine wpAnyH_take (i := 11) (v := ?_) rfl (by kernel_rfl) (by kernel_rfl) (by kernel_rfl) (fun _ _ _ h => h) (Or.inl ⟨by rfl, ?_⟩) (by assumption) ?_
      rotate_left 1
      · intro W hSw
        try dsimp only at hSw
        go_simp
        try with_reducible rfl
      (try simp only [Act.put, List.getElem_toArray, List.getElem_cons_zero, List.getElem_cons_succ, List.setIfInBounds_toArray, List.set_cons_zero, List.set_cons_succ])
      refine wpAnyH_take (i := 12) (v := ?_) rfl (by kernel_rfl) (by kernel_rfl) (by kernel_rfl) (fun _ _ _ h => h) (Or.inl ⟨by rfl, ?_⟩) (by assumption) ?_
      rotate_left 1
      · intro W hSw
        try dsimp only at hSw
        go_simp
        try with_reducible rfl
      (try simp only [Act.put, List.getElem_toArray, List.getElem_cons_zero, List.getElem_cons_succ, List.setIfInBounds_toArray, List.set_cons_zero, List.set_cons_succ])
      refine wpAnyH_take (i := 13) (v := ?_) rfl (by kernel_rfl) (by kernel_rfl) (by kernel_rfl) (fun _ _ _ h => h) (Or.inl ⟨by rfl, ?_⟩) (by assumption) ?_
      rotate_left 1
      · intro W hSw
        try dsimp only at hSw
        go_simp
        try with_reducible rfl
      (try simp only [Act.put, List.getElem_toArray, List.getElem_cons_zero, List.getElem_cons_succ, List.setIfInBounds_toArray, List.set_cons_zero, List.set_cons_succ])
      refine wpAnyH_ready (rs := [14]) (by kernel_rfl) (by simp) ?_
      refine AllReadyH.cons rfl (fun K hK => ?_) AllReadyH.nil
      go_simp
      refine hK.out _ _ s1 (fun hHeld => ?_)
      clear hK K
      (try simp only [Act.put, List.getElem_toArray, List.getElem_cons_zero, List.getElem_cons_succ, List.setIfInBounds_toArray, List.set_cons_zero, List.set_cons_succ])
      refine wpAnyH_take (i := 15) (v := ?_) rfl (by kernel_rfl) (by kernel_rfl) (by kernel_rfl) (fun _ _ _ h => h) (Or.inl ⟨by rfl, ?_⟩) (by assumption) ?_
      rotate_left 1
      · intro W hSw
        try dsimp only at hSw
        go_simp
        try with_reducible rfl
      (try simp only [Act.put, List.getElem_toArray, List.getElem_cons_zero, List.getElem_cons_succ, List.setIfInBounds_toArray, List.set_cons_zero, List.set_cons_succ])
      refine wpAnyH_done (by kernel_rfl) ?_ _
      go_wp2
      exact bodyPost_ret (v := .tuple #[.agg (rf R'), .bool true]) (res_rf2 Tryd.results11 (T := 28) rfl (setRow_row rz)) rfl ⟨rfl, (setRow_other (Ne.symm e1.out.2.2.1)).trans rb6.out, OB.out.setRow (by omega)⟩
theorem mapM_some {α β : Type} (f : α → Option β) (g : α → β) : ∀ l : List α, (∀ x ∈ l, f x = some (g x)) → l.mapM f = some (l.map g)
  | [], _ => rfl
  | a :: l, h => by
    rw [List.mapM_cons, h a (by simp), mapM_some f g l (fun x hx => h x (by simp [hx]))]
    rfl
theorem rf_drop (R : Nat → Nat) (a n : Nat) (h : a + n ≤ 96) : (((rf R).toList.drop a).take n) = (List.range n).map fun i => Value.int .u64 (R (a + i) : Nat) := by
  apply List.ext_getElem?
  intro i
  by_cases c : i < n
  · rw [List.getElem?_take, if_pos c, List.getElem?_drop, Array.getElem?_toList, rf_at R (a + i) (by omega), List.getElem?_map, List.getElem?_range c]
    rfl
  · rw [List.getElem?_take, if_neg c, List.getElem?_map, List.getElem?_eq_none (by simpa using c)]
    rfl
def rfE (R S : Nat → Nat) : Bool := (List.range 96).all fun k => R k == S k
theorem rfE_iff {R S : Nat → Nat} : rfE R S = true ↔ ∀ k, k < 96 → R k = S k := by
  unfold rfE
  rw [List.all_eq_true]
  simp only [List.mem_range, beq_iff_eq]
def ltN (R : Nat → Nat) (k : Nat) : Lit := .int .u64 (R k : Nat)
def ltsN (R : Nat → Nat) : List Lit := ((List.range 32).map fun i => [ltN R i]).flatten ++ ((List.range 32).map fun i => [ltN R (32 + i * 2), ltN R (32 + i * 2 + 1)]).flatten
theorem ltsN_eq {R S : Nat → Nat} : ltsN R = ltsN S ↔ ∀ k, k < 96 → R k = S k := by
  constructor
  · intro h k hk
    have e : ∀ R : Nat → Nat, ltsN R = (List.range 96).map (ltN R) := fun R => by rfl
    rw [e, e] at h
    have := congrArg (fun l => l[k]?) h
    simp only [List.getElem?_map, List.getElem?_range hk, Option.map_some] at this
    injection this with q
    unfold ltN at q
    injection q with _ q2
    omega
  · intro h
    have e : ∀ R : Nat → Nat, ltsN R = (List.range 96).map (ltN R) := fun R => by rfl
    rw [e, e]
    apply List.map_congr_left
    intro k hk
    unfold ltN
    rw [h k (List.mem_range.1 hk)]
theorem kl_struct {P : Program} {d : Nat} {t : TypeId} {cs : List Value} {fs : Array Field} (hu : P.underlying t = some (.struct fs)) (h : cs.length = P.cellsOf t ∧ fs.all (·.name != "_") = true) : P.keyLits (d + 1) t cs = (fs.toList.mapM fun f => P.keyLits d f.type ((cs.drop f.offset).take (P.cellsOf f.type))).map List.flatten := by
  simp only [Program.keyLits, hu]
  rw [if_pos h]
theorem kl_array {P : Program} {d : Nat} {t e : TypeId} {n : Nat} {cs : List Value} (hu : P.underlying t = some (.array n e)) (h : cs.length = P.cellsOf t) : P.keyLits (d + 1) t cs = ((List.range n).mapM fun i => P.keyLits d e ((cs.drop (i * P.cellsOf e)).take (P.cellsOf e))).map List.flatten := by
  simp only [Program.keyLits, hu]
  rw [if_pos h]
theorem take_one {R : Nat → Nat} {n i : Nat} (h : i < n) : ((((List.range n).map fun i => Value.int .u64 (R i : Nat)).drop i).take 1) = [Value.int .u64 (R i : Nat)] := by
  rw [List.drop_eq_getElem_cons (by simpa using h)]
  simp
theorem take_two {R : Nat → Nat} {n i : Nat} (h : i + 1 < n) : ((((List.range n).map fun i => Value.int .u64 (R i : Nat)).drop i).take 2) = [Value.int .u64 (R i : Nat), Value.int .u64 (R (i + 1) : Nat)] := by
  rw [List.drop_eq_getElem_cons (by simp; omega), List.drop_eq_getElem_cons (by simp; omega)]
  simp
set_option maxRecDepth 100000 in
theorem rf_lits (R : Nat → Nat) (h : ∀ k, R k < 18446744073709551616) : Tryd.prog.keyLits 4 28 (rf R).toList = some (ltsN R) := by
  have w64 : ∀ k, (Lit.int .u64 (R k : Nat)).wf = true := fun k => u64_nat _ (h k)
  have c1 : Tryd.prog.cellsOf 28 = 96 := by kernel_rfl
  have c2 : Tryd.prog.cellsOf 23 = 32 := by kernel_rfl
  have c3 : Tryd.prog.cellsOf 26 = 64 := by kernel_rfl
  have c4 : Tryd.prog.cellsOf 22 = 1 := by kernel_rfl
  have c5 : Tryd.prog.cellsOf 25 = 2 := by kernel_rfl
  have one : ∀ d k, Tryd.prog.keyLits (d + 1) 22 [Value.int .u64 (R k : Nat)] = some [ltN R k] := fun d k => by
    simp only [Program.keyLits, Tryd.underlying22, w64 k, and_self, if_true]
    rfl
  have two : ∀ d k, Tryd.prog.keyLits (d + 2) 25 [Value.int .u64 (R k : Nat), Value.int .u64 (R (k + 1) : Nat)] = some [ltN R k, ltN R (k + 1)] := fun d k => by
    rw [kl_struct Tryd.underlying25 ⟨by rw [c5]; rfl, by kernel_rfl⟩]
    simp only [List.mapM_cons, List.mapM_nil, c4, List.drop_zero, List.drop_succ_cons, List.take_succ_cons, List.take_zero, one d k, one d (k + 1)]
    rfl
  have a1 : Tryd.prog.keyLits 3 23 ((List.range 32).map fun i => Value.int .u64 (R (0 + i) : Nat)) = some ((List.range 32).map fun i => [ltN R i]).flatten := by
    rw [kl_array Tryd.underlying23 (by rw [c2]; simp), mapM_some _ (fun i => [ltN R i]) _ (fun i hi => ?_)]
    · rfl
    · have hi := List.mem_range.1 hi
      rw [c4, Nat.mul_one, take_one (R := fun i => R (0 + i)) hi, Nat.zero_add]
      exact one 1 i
  have a2 : Tryd.prog.keyLits 3 26 ((List.range 64).map fun i => Value.int .u64 (R (32 + i) : Nat)) = some ((List.range 32).map fun i => [ltN R (32 + i * 2), ltN R (32 + i * 2 + 1)]).flatten := by
    rw [kl_array Tryd.underlying26 (by rw [c3]; simp), mapM_some _ (fun i => [ltN R (32 + i * 2), ltN R (32 + i * 2 + 1)]) _ (fun i hi => ?_)]
    · rfl
    · have hi := List.mem_range.1 hi
      rw [c5, take_two (R := fun i => R (32 + i)) (by omega : i * 2 + 1 < 64)]
      exact two 0 (32 + i * 2)
  rw [kl_struct Tryd.underlying28 ⟨by rw [c1, Array.length_toList, rf_size], by kernel_rfl⟩]
  simp only [List.mapM_cons, List.mapM_nil, c2, c3, rf_drop R 0 32 (by decide), rf_drop R 32 64 (by decide), a1, a2]
  rfl
set_option maxRecDepth 100000 in
theorem eqrf (R S : Nat → Nat) (hR : ∀ k, R k < 18446744073709551616) (hS : ∀ k, S k < 18446744073709551616) (w : World) : (Op.equalIn 10000 28 (.agg (rf R)) (.agg (rf S))).run Tryd.prog w = .ok (rfE R S) w := by
  have f : ∀ R, (Value.agg (rf R)).formed Tryd.prog 28 = true := fun R => by
    have c1 : Tryd.prog.cellsOf 28 = 96 := by kernel_rfl
    simp only [Value.formed, Tryd.underlying28, rf_size, c1]
    rfl
  have E := run_equalIn_deep (P := Tryd.prog) 9996 4 28 (by kernel_rfl)
  obtain ⟨r, h1, h2⟩ := E w 4 4 (.agg (rf R)) (.agg (rf S)) (ltsN R) (ltsN S) (f R) (f S) (rf_lits R hR) (rf_lits S hS)
  rw [show rfE R S = r by rw [Bool.eq_iff_iff, rfE_iff, ← ltsN_eq]; exact h2.symm]
  exact h1
theorem rfE_self (R : Nat → Nat) : rfE R R = true := rfE_iff.2 (fun _ _ => rfl)
end Go.Proofs.YtjbnifhpbdjonaaDoor
