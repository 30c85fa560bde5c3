/-
  What the functions wordDivisor, sure and turns of package nat return.
-/
import Derived.Test.YtknkkagapcigfaaDoorList15
import Derived.Test.YtknkkagapcigfaaDoorGmath
namespace Go.Proofs.YtknkkagapcigfaaDoor
open Go.RowKit WMath

theorem l_wordDivisor (a b g : Nat) (ha : a < 18446744073709551616) (hb : b < 18446744073709551616) (hg : Nat.gcd a b = g) (w : World) :
    Calls Tryd.prog 72 #[.int .u64 (a : Nat), .int .u64 (b : Nat)] w fun r w' => r = .returned (.int .u64 (g : Nat)) ∧ Below w.heap.size w w' := by
  have HG := box hg
  clear hg
  go_enter Tryd.func72, Tryd.ntmps72
  go_wp2
  go_loopw [0, 1] (fun av bv wr => ∃ (x y : Nat), av = .int .u64 x ∧ bv = .int .u64 y ∧ x < 18446744073709551616 ∧ y < 18446744073709551616 ∧ Below w.heap.size w wr ∧ Box (Nat.gcd x y = g)) (fun _ bv _ => (intOf bv).toNat)
  case atStart => exact ⟨a, b, rfl, rfl, ha, hb, Below.refl _ _, HG⟩
  case round =>
    obtain ⟨x, y, rfl, rfl, hx, hy, hbw, HE⟩ := hrel
    by_cases h0 : y = 0
    · subst h0
      have e := HE.out
      rw [Nat.gcd_zero_right] at e
      subst e
      go_wp2
      go_ret
      exact ⟨rfl, hbw⟩
    · have d1 : ((y : Int) != 0) = true := by simp; omega
      have d2 : ¬ (y : Int) = 0 := by omega
      obtain ⟨z, hz⟩ : ∃ z, x % y = z := ⟨_, rfl⟩
      have hzy : z < y := by rw [← hz]; exact Nat.mod_lt _ (by omega)
      have n1 : (x : Int).tmod (y : Int) = (z : Int) := by rw [← hz]; rfl
      have n2 : (x : Int) % (y : Int) = (z : Int) := by rw [← hz]; rfl
      have n3 : IntKind.u64.wrap (z : Int) = (z : Int) := by rw [IntKind.wrap_u64]; omega
      have NE : Box (Nat.gcd y z = g) := box (by rw [← HE.out, ← hz, Nat.gcd_comm x y, Nat.gcd_rec y x, Nat.gcd_comm])
      clear hz HE
      go_wp2
      go_region
      all_goals go_wp2
      all_goals exact ⟨⟨y, z, rfl, rfl, hy, by omega, hbw.drew, NE⟩, by simp [intOf]; omega⟩

/-- A turn as a struct of three words. -/
def tn (r A B : Nat) : Value := .agg #[.int .u64 (r : Nat), .int .u64 (A : Nat), .int .u64 (B : Nat)]

theorem l_sure (r1 A1 B1 n A B : Nat) (o : Bool) (h1 : r1 < 18446744073709551616) (hn : n < r1) (hB : B < 18446744073709551616) (hw : B ≤ n → B1 + B < 18446744073709551616) (ho : (decide (B ≤ n) && decide (B1 + B ≤ r1 - n)) = o) (w : World) :
    Calls Tryd.prog 91 #[tn r1 A1 B1, tn n A B] w fun r w' => r = .returned (.bool o) ∧ Below w.heap.size w w' := by
  unfold tn
  by_cases h : B ≤ n
  · have d1 : decide (B ≤ n) = true := decide_eq_true h
    have hw2 := hw h
    rw [d1, Bool.true_and] at ho
    obtain ⟨z, hz⟩ : ∃ z, r1 - n = z := ⟨_, rfl⟩
    rw [hz] at ho
    have n1 : (r1 : Int) - (n : Int) = (z : Int) := by omega
    have n2 : IntKind.u64.wrap (z : Int) = (z : Int) := by rw [IntKind.wrap_u64]; omega
    have n3 : IntKind.u64.wrap ((B1 : Int) + (B : Int)) = (B1 : Int) + (B : Int) := by rw [IntKind.wrap_u64]; omega
    have ho2 : decide ((B1 : Int) + (B : Int) ≤ (z : Int)) = o := by rw [← ho, decide_eq_decide]; omega
    clear hz ho hw
    go_enter Tryd.func91, Tryd.ntmps91
    go_wp2
    go_ret
    exact ⟨rfl, btr (bal _ _) (bal _ _)⟩
  · have d1 : decide (B ≤ n) = false := decide_eq_false h
    rw [d1, Bool.false_and] at ho
    subst ho
    clear hw
    go_enter Tryd.func91, Tryd.ntmps91
    go_wp2
    go_ret
    exact ⟨rfl, btr (bal _ _) (bal _ _)⟩

theorem drew_heap (W : World) : W.drew.heap = W.heap := rfl
theorem drew_cellN (W : World) (b o : Nat) : ((W.drew.cell? ⟨b, o, none⟩).elim 0 fun v => (intOf v).toNat) = ((W.cell? ⟨b, o, none⟩).elim 0 fun v => (intOf v).toNat) := rfl
/-- A cell as a number. -/
def cellN (w : World) (b o : Nat) : Nat := ((w.cell? ⟨b, o, none⟩).elim 0 fun v => (intOf v).toNat)
/-- The cells of a turn. -/
def tc (r A B : Nat) : Array Value := #[.int .u64 (r : Nat), .int .u64 (A : Nat), .int .u64 (B : Nat)]
theorem tc_cell {w : World} {b r A B : Nat} {T : TypeId} (h : w.heap[b]? = some (.cells (tc r A B) T)) : w.cell? ⟨b, 0, none⟩ = some (.int .u64 (r : Nat)) ∧ w.cell? ⟨b, 1, none⟩ = some (.int .u64 (A : Nat)) ∧ w.cell? ⟨b, 2, none⟩ = some (.int .u64 (B : Nat)) :=
  ⟨by rw [cell_of_row w b 0 _ _ _ h]; rfl, by rw [cell_of_row w b 1 _ _ _ h]; rfl, by rw [cell_of_row w b 2 _ _ _ h]; rfl⟩
theorem cellN_is {w : World} {b r A B : Nat} {T : TypeId} (h : w.heap[b]? = some (.cells (tc r A B) T)) : cellN w b 0 = r := by
  unfold cellN
  rw [(tc_cell h).1]
  simp [intOf]

/-- The three cells of a turn, written one by one. -/
def set3 (w : World) (b r A B : Nat) : World := ((w.setCell ⟨b, 0, none⟩ (.int .u64 (r : Nat))).setCell ⟨b, 1, none⟩ (.int .u64 (A : Nat))).setCell ⟨b, 2, none⟩ (.int .u64 (B : Nat))
theorem set3_row {w : World} {b r A B : Nat} (r' A' B' : Nat) {T : TypeId} (h : w.heap[b]? = some (.cells (tc r A B) T)) : (set3 w b r' A' B').heap[b]? = some (.cells (tc r' A' B') T) := by
  unfold set3
  rw [setCell_row (setCell_row (setCell_row h))]
  rfl
theorem set3_other {w : World} {b b' r A B : Nat} (h : b ≠ b') : (set3 w b r A B).heap[b']? = w.heap[b']? := by
  unfold set3
  rw [setCell_other h, setCell_other h, setCell_other h]
theorem set3_below {w wr : World} {b r A B n : Nat} (h : Below n w wr) (hb : n ≤ b) : Below n w (set3 wr b r A B) := ((h.setCell hb _).setCell hb _).setCell hb _

set_option maxRecDepth 100000 in
set_option maxHeartbeats 600000 in
theorem l_turns (a b x y K a0 b0 : Nat) (hx : x < 18446744073709551616) (hxy : y ≤ x) (ha : a = K * x + a0) (hb : b = K * y + b0) (a1 : a0 < K) (b1 : b0 < K) (hab : b ≤ a) (w : World) :
    Calls Tryd.prog 83 #[.int .u64 (x : Nat), .int .u64 (y : Nat)] w fun r w' => ∃ (r1 A1 B1 r2 A2 B2 F S : Nat) (sw : Bool), r = .returned (.tuple #[tn r1 A1 B1, tn r2 A2 B2, .bool sw]) ∧ A1 < 18446744073709551616 ∧ B1 < 18446744073709551616 ∧ A2 < 18446744073709551616 ∧ B2 < 18446744073709551616 ∧ TurnSt a b x y r1 A1 B1 r2 A2 B2 F S (if sw then -1 else 1) ∧ Below w.heap.size w w' := by
  have T0 := box (turnSt_start a b x y hab hxy)
  have HA := box ha
  have HB := box hb
  have y64 : y < 18446744073709551616 := by omega
  clear ha hb hab
  go_enter Tryd.func83, Tryd.ntmps83
  go_wp2
  obtain ⟨g, hg⟩ : ∃ g, w.heap.size = g := ⟨_, rfl⟩
  have r0 : ((w.alloc (.cells (tc x 1 0) 106)).alloc (.cells (tc y 0 1) 106)).heap[g]? = some (.cells (tc x 1 0) 106) := by
    rw [heap_below _ _ _ (by rw [size_al]; omega), ← hg]; exact heap_alloc_last _ _
  have q0 : ((w.alloc (.cells (tc x 1 0) 106)).alloc (.cells (tc y 0 1) 106)).heap[g + 1]? = some (.cells (tc y 0 1) 106) := by
    have e : g + 1 = (w.alloc (.cells (tc x 1 0) 106)).heap.size := by rw [size_al, hg]
    rw [e]; exact heap_alloc_last _ _
  have b0 : Below w.heap.size w ((w.alloc (.cells (tc x 1 0) 106)).alloc (.cells (tc y 0 1) 106)) := btr (bal _ _) (bal _ _)
  rw [hg]
  go_loopw [6] (fun sv wr => ∃ (r1 A1 B1 r2 A2 B2 F S : Nat) (sw : Bool), sv = .bool sw ∧ r1 < 18446744073709551616 ∧ A1 < 18446744073709551616 ∧ B1 < 18446744073709551616 ∧ r2 < 18446744073709551616 ∧ A2 < 18446744073709551616 ∧ B2 < 18446744073709551616 ∧ wr.heap[g]? = some (.cells (tc r1 A1 B1) 106) ∧ wr.heap[g + 1]? = some (.cells (tc r2 A2 B2) 106) ∧ Below w.heap.size w wr ∧ Box (TurnSt a b x y r1 A1 B1 r2 A2 B2 F S (if sw then -1 else 1))) (fun _ wr => cellN wr (g + 1) 0)
  case atStart => exact ⟨x, 1, 0, y, 0, 1, a, b, false, rfl, hx, by decide, by decide, y64, by decide, by decide, r0, q0, b0, T0⟩
  case round =>
    clear r0 q0 b0 T0
    obtain ⟨r1, A1, B1, r2, A2, B2, F, S, sw, rfl, i1, i2, i3, i4, i5, i6, r5, q5, hbw, HT⟩ := hrel
    obtain ⟨e1, e2, e3⟩ := tc_cell r5
    obtain ⟨e4, e5, e6⟩ := tc_cell q5
    by_cases h0 : r2 = 0
    · have d0 : ((r2 : Int) != 0) = false := by simp; omega
      clear h0
      have f1 := fz (k := 0) r5
      have f2 := fz (k := 1) r5
      have f3 := fz (k := 2) r5
      have f4 := fz (k := 0) q5
      have f5 := fz (k := 1) q5
      have f6 := fz (k := 2) q5
      have R9 : (set3 (set3 wr g r1 A1 B1) (g + 1) r2 A2 B2).heap[g]? = some (.cells (tc r1 A1 B1) 106) := by rw [set3_other (by omega)]; exact set3_row r1 A1 B1 r5
      have Q9 : (set3 (set3 wr g r1 A1 B1) (g + 1) r2 A2 B2).heap[g + 1]? = some (.cells (tc r2 A2 B2) 106) := set3_row r2 A2 B2 (by rw [set3_other (by omega)]; exact q5)
      have B9 : Below w.heap.size w (set3 (set3 wr g r1 A1 B1) (g + 1) r2 A2 B2) := set3_below (set3_below hbw (by omega)) (by omega)
      have T9 := box (tc_cell R9)
      have U9 := box (tc_cell Q9)
      have V9 := box B9
      clear R9 Q9 B9
      go_wp2
      go_region
      go_wp2
      obtain ⟨k1, k2, k3⟩ := T9.out
      obtain ⟨k4, k5, k6⟩ := U9.out
      unfold set3 at k1 k2 k3 k4 k5 k6
      refine bodyPost_ret (v := .tuple #[tn r1 A1 B1, tn r2 A2 B2, .bool sw]) (by simp [results, Tryd.results83, go_sem, k1, k2, k3, k4, k5, k6, tn]) rfl ?_
      exact ⟨r1, A1, B1, r2, A2, B2, F, S, sw, rfl, i2, i3, i5, i6, HT.out, V9.out.drew⟩
    · obtain ⟨t, ht⟩ : ∃ t, r1 / r2 = t := ⟨_, rfl⟩
      obtain ⟨n, hn⟩ : ∃ n, r1 - t * r2 = n := ⟨_, rfl⟩
      obtain ⟨c1, c2, c3, c4, c5, c6, c7, c8⟩ := turnSt_count HT.out h0 ht hn
      obtain ⟨An, hAn⟩ : ∃ An, A1 + t * A2 = An := ⟨_, rfl⟩
      obtain ⟨Bn, hBn⟩ : ∃ Bn, B1 + t * B2 = Bn := ⟨_, rfl⟩
      have hN := fun s1 s2 => turnSt_next HT.out h0 ht hn HA.out HB.out a1 b1 s1 s2
      rw [hAn, hBn] at hN
      have HN := box hN
      clear hN
      rw [hAn] at c5 c6 c8
      rw [hBn] at c4 c6 c7
      obtain ⟨z1, hz1⟩ : ∃ z1, t * r2 = z1 := ⟨_, rfl⟩
      obtain ⟨z2, hz2⟩ : ∃ z2, t * A2 = z2 := ⟨_, rfl⟩
      obtain ⟨z3, hz3⟩ : ∃ z3, t * B2 = z3 := ⟨_, rfl⟩
      rw [hz2] at hAn
      rw [hz3] at hBn
      rw [hz1] at hn c2
      have l1 : An ≤ y := by
        have : An ≤ r2 * An := Nat.le_mul_of_pos_left An (by omega)
        omega
      have l2 : r2 * Bn ≤ x := by omega
      have l3 : Bn ≤ x := Nat.le_trans (Nat.le_mul_of_pos_left Bn (by omega)) l2
      have t64 : t ≤ r1 := by rw [← ht]; exact Nat.div_le_self _ _
      have m1 : (r1 : Int) / (r2 : Int) = (t : Int) := by rw [← ht]; rfl
      have m2 : (r1 : Int).tdiv (r2 : Int) = (t : Int) := by rw [← ht]; rfl
      have m3 : IntKind.u64.wrap (t : Int) = (t : Int) := by rw [IntKind.wrap_u64]; omega
      have m4 : (t : Int) * (r2 : Int) = (z1 : Int) := by rw [← hz1]; rfl
      have m5 : (t : Int) * (A2 : Int) = (z2 : Int) := by rw [← hz2]; rfl
      have m6 : (t : Int) * (B2 : Int) = (z3 : Int) := by rw [← hz3]; rfl
      have m7 : IntKind.u64.wrap (z1 : Int) = (z1 : Int) := by rw [IntKind.wrap_u64]; omega
      have m8 : IntKind.u64.wrap (z2 : Int) = (z2 : Int) := by rw [IntKind.wrap_u64]; omega
      have m9 : IntKind.u64.wrap (z3 : Int) = (z3 : Int) := by rw [IntKind.wrap_u64]; omega
      have p1 : (r1 : Int) - (z1 : Int) = (n : Int) := by omega
      have p2 : (A1 : Int) + (z2 : Int) = (An : Int) := by omega
      have p3 : (B1 : Int) + (z3 : Int) = (Bn : Int) := by omega
      have p4 : IntKind.u64.wrap (n : Int) = (n : Int) := by rw [IntKind.wrap_u64]; omega
      have p5 : IntKind.u64.wrap (An : Int) = (An : Int) := by rw [IntKind.wrap_u64]; omega
      have p6 : IntKind.u64.wrap (Bn : Int) = (Bn : Int) := by rw [IntKind.wrap_u64]; omega
      have d0 : ((r2 : Int) != 0) = true := by simp; omega
      have d1 : ¬ (r2 : Int) = 0 := by omega
      obtain ⟨o, ho⟩ : ∃ o, (decide (Bn ≤ n) && decide (B2 + Bn ≤ r2 - n)) = o := ⟨_, rfl⟩
      have hw : Bn ≤ n → B2 + Bn < 18446744073709551616 := by
        intro h
        have h2 : 2 * Bn ≤ r2 * Bn := Nat.mul_le_mul_right _ (by omega)
        omega
      have SU := box (l_sure r2 A2 B2 n An Bn o i4 c3 (by omega) hw ho)
      have HOO := box ho
      have HZ2 := box hAn
      have HZ3 := box hBn
      obtain ⟨h, hh⟩ : ∃ h, wr.heap.size = h := ⟨_, rfl⟩
      have gh : g + 1 < h := by rw [← hh]; exact (Array.getElem?_eq_some_iff.1 q5).1
      have r6 : (wr.alloc (.cells (tc n An Bn) 106)).heap[g]? = some (.cells (tc r1 A1 B1) 106) := by rw [heap_below _ _ _ (by omega)]; exact r5
      have q6 : (wr.alloc (.cells (tc n An Bn) 106)).heap[g + 1]? = some (.cells (tc r2 A2 B2) 106) := by rw [heap_below _ _ _ (by omega)]; exact q5
      have x6 : (wr.alloc (.cells (tc n An Bn) 106)).heap[h]? = some (.cells (tc n An Bn) 106) := by rw [← hh]; exact heap_alloc_last _ _
      have b6 : Below w.heap.size w (wr.alloc (.cells (tc n An Bn) 106)) := hbw.alloc hbw.size _
      have R6 := box r6
      have Q6 := box q6
      have X6 := box x6
      have B6 := box b6
      have CN := box (cellN_is q5)
      have DA : (decide (1 ≤ An)) = true := decide_eq_true c8
      clear ht hn hz1 hz2 hz3 hAn hBn c1 c2 c4 c5 c6 c7 hw ho r6 q6 x6 b6 l2 DA
      go_wp2_with fail
      refine (SU.out _).mono ?_
      rintro e w3 ⟨rfl, b3⟩
      have r7 := heap_of b3 _ _ _ R6.out
      have q7 := heap_of b3 _ _ _ Q6.out
      have x7 := heap_of b3 _ _ _ X6.out
      have b7 : Below w.heap.size w w3 := B6.out.trans (b3.mono B6.out.size)
      clear e1 e2 e3 e4 e5 e6 r5 q5 hbw b3
      obtain ⟨e1, e2, e3⟩ := tc_cell r7
      obtain ⟨e4, e5, e6⟩ := tc_cell q7
      obtain ⟨e7, e8, e9⟩ := tc_cell x7
      cases o
      · skip
        have f1 := fz (k := 0) r7
        have f2 := fz (k := 1) r7
        have f3 := fz (k := 2) r7
        have f4 := fz (k := 0) q7
        have f5 := fz (k := 1) q7
        have f6 := fz (k := 2) q7
        have R9 : (set3 (set3 w3 g r1 A1 B1) (g + 1) r2 A2 B2).heap[g]? = some (.cells (tc r1 A1 B1) 106) := by rw [set3_other (by omega)]; exact set3_row r1 A1 B1 r7
        have Q9 : (set3 (set3 w3 g r1 A1 B1) (g + 1) r2 A2 B2).heap[g + 1]? = some (.cells (tc r2 A2 B2) 106) := set3_row r2 A2 B2 (by rw [set3_other (by omega)]; exact q7)
        have B9 : Below w.heap.size w (set3 (set3 w3 g r1 A1 B1) (g + 1) r2 A2 B2) := set3_below (set3_below b7 (by omega)) (by omega)
        have T9 := box (tc_cell R9)
        have U9 := box (tc_cell Q9)
        have V9 := box B9
        clear R9 Q9 B9
        go_wp2
        go_region
        go_wp2
        obtain ⟨k1, k2, k3⟩ := T9.out
        obtain ⟨k4, k5, k6⟩ := U9.out
        unfold set3 at k1 k2 k3 k4 k5 k6
        refine bodyPost_ret (v := .tuple #[tn r1 A1 B1, tn r2 A2 B2, .bool sw]) (by simp [results, Tryd.results83, go_sem, k1, k2, k3, k4, k5, k6, tn]) rfl ?_
        exact ⟨r1, A1, B1, r2, A2, B2, F, S, sw, rfl, i2, i3, i5, i6, HT.out, V9.out.drew⟩
      · have hoo := HOO.out
        rw [Bool.and_eq_true, decide_eq_true_iff, decide_eq_true_iff] at hoo
        obtain ⟨N, TN, _, _⟩ := HN.out hoo.1 hoo.2
        have es : -(if sw then (-1 : Int) else 1) = if !sw then (-1 : Int) else 1 := by cases sw <;> rfl
        rw [es] at TN
        have f1 := fz (k := 0) r7
        have f2 := fz (k := 1) r7
        have f3 := fz (k := 2) r7
        have f4 := fz (k := 0) q7
        have f5 := fz (k := 1) q7
        have f6 := fz (k := 2) q7
        have R9 : (set3 (set3 w3 g r2 A2 B2) (g + 1) n An Bn).heap[g]? = some (.cells (tc r2 A2 B2) 106) := by rw [set3_other (by omega)]; exact set3_row r2 A2 B2 r7
        have Q9 : (set3 (set3 w3 g r2 A2 B2) (g + 1) n An Bn).heap[g + 1]? = some (.cells (tc n An Bn) 106) := set3_row n An Bn (by rw [set3_other (by omega)]; exact q7)
        have B9 : Below w.heap.size w (set3 (set3 w3 g r2 A2 B2) (g + 1) n An Bn) := set3_below (set3_below b7 (by omega)) (by omega)
        have CM := box (cellN_is Q9)
        unfold set3 at R9 Q9 B9 CM
        have T9 := box R9
        have U9 := box Q9
        have V9 := box B9
        have TT := box TN
        have N3 := box c3
        have A64 : An < 18446744073709551616 := by omega
        have B64 : Bn < 18446744073709551616 := by omega
        have n64 : n < 18446744073709551616 := by omega
        clear R9 Q9 B9 TN es hoo
        go_wp2
        go_region
        go_wp2
        refine ⟨⟨r2, A2, B2, n, An, Bn, S, N, !sw, ?_, i4, i5, i6, n64, A64, B64, ?_, ?_, ?_, TT⟩, ?_⟩
        · rfl
        · rw [drew_heap]; exact T9.out
        · rw [drew_heap]; exact U9.out
        · exact V9.out.drew
        rw [CN.out]
        refine Nat.lt_of_le_of_lt (Nat.le_of_eq ?_) N3.out
        unfold cellN
        rw [drew_cellN]
        exact CM.out
end Go.Proofs.YtknkkagapcigfaaDoor
