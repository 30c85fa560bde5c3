/-
  What the functions Count, Bit, Left and Right of the document's answer for layer 2 return.
-/
import Derived.Test.YtkmlbjlaahcahaaDoorWide2
import Derived.Test.YtkmlbjlaahcahaaDoorGx
import Derived.Test.YtkmlbjlaahcahaaDoorMx
namespace Go.Proofs.YtkmlbjlaahcahaaDoor
open Go.RowKit WMath

theorem rwcount_any (n : Int) (w : World) :
    Calls Tryd.prog 53 #[.int .i64 n] w fun e w' => e = .returned (.int .i64 (cnt6 n : Nat)) ∧ w' = w := by
  go_enter Tryd.func53, Tryd.ntmps53
  go_wp2
  all_goals go_ret
  all_goals
    refine ⟨ret_int ?_, rfl⟩
    unfold cnt6
    omega

theorem rwbit_any (n i : Nat) (hi : i < 384) (w : World) :
    Calls Tryd.prog 19 #[.agg (cw 6 n), .int .i64 i] w fun e w' => e = .returned (.bool (n.testBit i)) ∧ Below w.heap.size w w' := by
  have hat := cw_at 6
  obtain ⟨q, hq⟩ : ∃ q, q = i / 64 := ⟨_, rfl⟩
  obtain ⟨r, hr⟩ : ∃ r, r = i % 64 := ⟨_, rfl⟩
  have hq1 : (i : Int) / 64 = (q : Int) := by omega
  have hr1 : (i : Int) % 64 = (r : Int) := by omega
  have hq2 : q < 6 := by omega
  have hr2 : r < 64 := by omega
  have hi1 : decide ((i : Int) < 384) = true := by simp; omega
  have hi0 : decide ((0 : Int) ≤ (i : Int)) = true := by simp
  have HB := box (bit_of_wd n i)
  rw [← hq, ← hr] at HB
  clear hq hr
  go_enter Tryd.func19, Tryd.ntmps19
  go_wp2_with (go_at_call 52; refine (bit_any (wd n q) r (wd_lt _ _) hr2 _).mono ?_; rintro e w' ⟨rfl, rfl⟩)
  go_ret
  exact ⟨by rw [HB.out]; rfl, (Below.refl _ _).alloc (Nat.le_refl _) _⟩

set_option maxRecDepth 100000 in
set_option maxHeartbeats 1000000 in
theorem rwleft_is (n v : Nat) (s : Int) (o : Bool) (hn : n < Q) (hv : n * 2 ^ cnt6 s % Q = v) (ho : decide (Q ≤ n * 2 ^ cnt6 s) = o) (w : World) :
    Calls Tryd.prog 22 #[.agg (cw 6 n), .int .i64 s] w fun e w' => e = .returned (.tuple #[.agg (cw 6 v), .bool o]) ∧ Below w.heap.size w w' := by
  obtain ⟨c, hc⟩ : ∃ c, c = cnt6 s := ⟨_, rfl⟩
  have hc6 : c ≤ 384 := by rw [hc]; unfold cnt6; omega
  rw [← hc] at hv ho
  have HV := box hv
  have HW := box ho
  have HC := box hc
  clear hv ho hc
  have hat := cw_at 6
  have hz := cw6z
  have hf := cw6f
  go_enter Tryd.func22, Tryd.ntmps22
  go_wp2_with fail
  refine (rwcount_any _ _).mono ?_
  rw [← HC.out]
  rintro e w' ⟨rfl, rfl⟩
  go_wp2
  go_loopw [7, 8] (fun lv iv wr => ∃ (i B : Nat) (l : Bool), i ≤ 384 ∧ iv = .int .i64 i ∧ lv = .bool l ∧ wr.heap[w.heap.size]? = some (.cells (cw 6 n) 28) ∧ wr.heap[w.heap.size + 1]? = some (.cells (cw 6 0) 28) ∧ wr.heap[w.heap.size + 1 + 1]? = some (.cells (cw 6 B) 28) ∧ Below w.heap.size w wr ∧ Box (B = (n % 2 ^ i) * 2 ^ c % Q) ∧ Box (l = decide (Q ≤ (n % 2 ^ i) * 2 ^ c))) (fun _ i _ => 384 - (intOf i).toNat)
  case atStart =>
    refine ⟨0, 0, false, by omega, rfl, rfl, ?_, ?_, ?_, ?_, box (by simp [Nat.mod_one]), box ?_⟩
    · rw [heap_below _ _ _ (by simp only [size_al]; omega), heap_below _ _ _ (by simp only [size_al]; omega)]
      exact heap_alloc_last _ _
    · rw [heap_below _ _ _ (by simp only [size_al]; omega)]
      have := heap_alloc_last (w.alloc (.cells (cw 6 n) 28)) (.cells (cw 6 0) 28)
      simpa only [size_al] using this
    · have := heap_alloc_last ((w.alloc (.cells (cw 6 n) 28)).alloc (.cells (cw 6 0) 28)) (.cells (cw 6 0) 28)
      simpa only [size_al] using this
    · exact (((Below.refl _ _).alloc (Nat.le_refl _) _).alloc (by simp only [size_al]; omega) _).alloc (by simp only [size_al]; omega) _
    · have := Q_pos
      symm
      rw [decide_eq_false_iff_not]
      simp [Nat.mod_one]
      omega
  case round =>
    obtain ⟨i, B, l, hi, rfl, rfl, r0, r1, r2, hbw, HB, HL⟩ := hrel
    by_cases hlt : i < 384
    · have c0 := row_cell r0
      go_wp2_with fail
      refine (rwbit_any n i hlt _).mono ?_
      cases hbit : n.testBit i
      · rintro e w2 ⟨rfl, hb2⟩
        have HB0 := box (left_bit0 n i hbit)
        go_wp2
        go_roundw
        case rel => exact ⟨i + 1, B, l, by omega, by go_num, rfl, heap_of hb2 _ _ _ r0, heap_of hb2 _ _ _ r1, heap_of hb2 _ _ _ r2, hbw.trans (hb2.mono hbw.size), box (by rw [HB0.out]; exact HB.out), box (by rw [HB0.out]; exact HL.out)⟩
        case measure => simp [intOf] <;> omega
      · rintro e w2 ⟨rfl, hb2⟩
        have q0 := heap_of hb2 _ _ _ r0
        have q1 := heap_of hb2 _ _ _ r1
        have q2 := heap_of hb2 _ _ _ r2
        have bw2 := hbw.trans (hb2.mono hbw.size)
        have sz : w.heap.size + 1 + 1 < w2.heap.size := (Array.getElem?_eq_some_iff.1 q2).1
        clear hb2 r0 r1 r2 hbw c0
        by_cases hin : i + c < 384
        · obtain ⟨t, ht⟩ : ∃ t, t = i + c := ⟨i + c, by omega⟩
          obtain ⟨q, hq⟩ : ∃ q, q = t / 64 := ⟨_, rfl⟩
          obtain ⟨r, hr⟩ : ∃ r, r = t % 64 := ⟨_, rfl⟩
          have t1 : (i : Int) + (c : Int) = (t : Int) := by omega
          have t2 : (t : Int) / 64 = (q : Int) := by omega
          have t3 : (t : Int) % 64 = (r : Int) := by omega
          have t4 : q < 6 := by omega
          have t5 : r < 64 := by omega
          have t6 : t < 384 := by omega
          have ST := box (left_in n i c t q r B hbit ht (by omega) (by omega) HB.out)
          obtain ⟨x, hx⟩ : ∃ x, x = 2 ^ r := ⟨_, rfl⟩
          have x1 : x < 18446744073709551616 := by rw [hx]; exact v_word r t5
          have x2 : IntKind.u64.wrap ((2 : Int) ^ r) = (x : Int) := by rw [pow_cast, wrap_nat _ (v_word r t5), hx]
          have x3 := bor B q x x1
          have HX := box hx
          have C2 := row_cell q2 q t4
          have F2 := fz (k := q) q2
          have HT := box ht
          clear hx ht hq hr
          go_wp2
          go_roundw
          case rel => exact ⟨i + 1, B ||| x * 2 ^ (64 * q), l, by omega, by go_num, rfl, by rw [setCell_other (by omega)]; exact q0, by rw [setCell_other (by omega)]; exact q1, by rw [setCell_row q2, cw_or 6 B q x _ t4 x1 rfl], bw2.setCell (by show w.heap.size ≤ w.heap.size + 1 + 1; omega) _, box (by rw [ST.out.1, HX.out]), box (by rw [HL.out]; rw [decide_eq_false ST.out.2.1, decide_eq_false ST.out.2.2])⟩
          case measure => simp [intOf] <;> omega
        · have ST := box (left_out n i c (i + c) B hbit rfl (by omega) HB.out)
          go_wp2
          go_roundw
          case rel => exact ⟨i + 1, B, true, by omega, by go_num, rfl, q0, q1, q2, bw2, box ST.out.1.symm, box (by rw [decide_eq_true ST.out.2])⟩
          case measure => simp [intOf] <;> omega
    · have c2 := row_cell r2
      have hs : (storeCells ⟨w.heap.size + 1, 0, none⟩ (cw 6 B).toList 0).run Tryd.prog wr = .ok () (wr.setRow (w.heap.size + 1) (cw 6 B)) := st_any wr _ B 0 r1
      have e1 := HB.out
      have e2 := HL.out
      rw [mod384 n i hn (by omega)] at e1 e2
      rw [HV.out] at e1
      rw [HW.out] at e2
      subst e1
      subst e2
      have z1 : (wr.setRow (w.heap.size + 1) (cw 6 B)).heap[w.heap.size + 1]? = some (.cells (cw 6 B) 28) := setRow_row r1
      have c3 := row_cell z1
      have bz : Below w.heap.size w (wr.setRow (w.heap.size + 1) (cw 6 B)) := Below.setRow hbw (by omega)
      go_wp2
      exact bodyPost_ret (v := .tuple #[.agg (cw 6 B), .bool l]) (by simp [results, Tryd.results22, go_sem, c3, hf]) rfl ⟨rfl, bz⟩

set_option maxRecDepth 100000 in
set_option maxHeartbeats 1000000 in
theorem rwright_is (n v : Nat) (s : Int) (o : Bool) (hn : n < Q) (hv : n / 2 ^ cnt6 s = v) (ho : decide (n % 2 ^ cnt6 s ≠ 0) = o) (w : World) :
    Calls Tryd.prog 51 #[.agg (cw 6 n), .int .i64 s] w fun e w' => e = .returned (.tuple #[.agg (cw 6 v), .bool o]) ∧ Below w.heap.size w w' := by
  obtain ⟨c, hc⟩ : ∃ c, c = cnt6 s := ⟨_, rfl⟩
  have hc6 : c ≤ 384 := by rw [hc]; unfold cnt6; omega
  rw [← hc] at hv ho
  have HV := box hv
  have HW := box ho
  have HC := box hc
  clear hv ho hc
  have hat := cw_at 6
  have hz := cw6z
  have hf := cw6f
  go_enter Tryd.func51, Tryd.ntmps51
  go_wp2_with fail
  refine (rwcount_any _ _).mono ?_
  rw [← HC.out]
  rintro e w' ⟨rfl, rfl⟩
  go_wp2
  go_loopw [7, 8] (fun lv iv wr => ∃ (i B : Nat) (l : Bool), i ≤ 384 ∧ iv = .int .i64 i ∧ lv = .bool l ∧ wr.heap[w.heap.size]? = some (.cells (cw 6 n) 28) ∧ wr.heap[w.heap.size + 1]? = some (.cells (cw 6 0) 28) ∧ wr.heap[w.heap.size + 1 + 1]? = some (.cells (cw 6 B) 28) ∧ Below w.heap.size w wr ∧ Box (B = (n % 2 ^ i) / 2 ^ c) ∧ Box (l = decide ((n % 2 ^ i) % 2 ^ c ≠ 0))) (fun _ i _ => 384 - (intOf i).toNat)
  case atStart =>
    refine ⟨0, 0, false, by omega, rfl, rfl, ?_, ?_, ?_, ?_, box (by simp [Nat.mod_one]), box ?_⟩
    · rw [heap_below _ _ _ (by simp only [size_al]; omega), heap_below _ _ _ (by simp only [size_al]; omega)]
      exact heap_alloc_last _ _
    · rw [heap_below _ _ _ (by simp only [size_al]; omega)]
      have := heap_alloc_last (w.alloc (.cells (cw 6 n) 28)) (.cells (cw 6 0) 28)
      simpa only [size_al] using this
    · have := heap_alloc_last ((w.alloc (.cells (cw 6 n) 28)).alloc (.cells (cw 6 0) 28)) (.cells (cw 6 0) 28)
      simpa only [size_al] using this
    · exact (((Below.refl _ _).alloc (Nat.le_refl _) _).alloc (by simp only [size_al]; omega) _).alloc (by simp only [size_al]; omega) _
    · have := Q_pos
      symm
      rw [decide_eq_false_iff_not]
      simp [Nat.mod_one]
  case round =>
    obtain ⟨i, B, l, hi, rfl, rfl, r0, r1, r2, hbw, HB, HL⟩ := hrel
    by_cases hlt : i < 384
    · have c0 := row_cell r0
      go_wp2_with fail
      refine (rwbit_any n i hlt _).mono ?_
      cases hbit : n.testBit i
      · rintro e w2 ⟨rfl, hb2⟩
        have HB0 := box (left_bit0 n i hbit)
        go_wp2
        go_roundw
        case rel => exact ⟨i + 1, B, l, by omega, by go_num, rfl, heap_of hb2 _ _ _ r0, heap_of hb2 _ _ _ r1, heap_of hb2 _ _ _ r2, hbw.trans (hb2.mono hbw.size), box (by rw [HB0.out]; exact HB.out), box (by rw [HB0.out]; exact HL.out)⟩
        case measure => simp [intOf] <;> omega
      · rintro e w2 ⟨rfl, hb2⟩
        have q0 := heap_of hb2 _ _ _ r0
        have q1 := heap_of hb2 _ _ _ r1
        have q2 := heap_of hb2 _ _ _ r2
        have bw2 := hbw.trans (hb2.mono hbw.size)
        have sz : w.heap.size + 1 + 1 < w2.heap.size := (Array.getElem?_eq_some_iff.1 q2).1
        clear hb2 r0 r1 r2 hbw c0
        by_cases hin : c ≤ i
        · obtain ⟨t, ht⟩ : ∃ t, i = t + c := ⟨i - c, by omega⟩
          obtain ⟨q, hq⟩ : ∃ q, q = t / 64 := ⟨_, rfl⟩
          obtain ⟨r, hr⟩ : ∃ r, r = t % 64 := ⟨_, rfl⟩
          have t1 : (i : Int) - (c : Int) = (t : Int) := by omega
          have t2 : (t : Int) / 64 = (q : Int) := by omega
          have t3 : (t : Int) % 64 = (r : Int) := by omega
          have t4 : q < 6 := by omega
          have t5 : r < 64 := by omega
          have ST := box (right_in n i c t q r B hbit ht (by omega) HB.out)
          obtain ⟨x, hx⟩ : ∃ x, x = 2 ^ r := ⟨_, rfl⟩
          have x1 : x < 18446744073709551616 := by rw [hx]; exact v_word r t5
          have x2 : IntKind.u64.wrap ((2 : Int) ^ r) = (x : Int) := by rw [pow_cast, wrap_nat _ (v_word r t5), hx]
          have x3 := bor B q x x1
          have HX := box hx
          have C2 := row_cell q2 q t4
          have F2 := fz (k := q) q2
          have HT := box ht
          clear hx ht hq hr
          go_wp2
          go_roundw
          case rel => exact ⟨i + 1, B ||| x * 2 ^ (64 * q), l, by omega, by go_num, rfl, by rw [setCell_other (by omega)]; exact q0, by rw [setCell_other (by omega)]; exact q1, by rw [setCell_row q2, cw_or 6 B q x _ t4 x1 rfl], bw2.setCell (by show w.heap.size ≤ w.heap.size + 1 + 1; omega) _, box (by rw [ST.out.1, HX.out]), box (by rw [HL.out]; rw [ST.out.2])⟩
          case measure => simp [intOf] <;> omega
        · have ST := box (right_out n i c B hbit (by omega) HB.out)
          go_wp2
          go_roundw
          case rel => exact ⟨i + 1, B, true, by omega, by go_num, rfl, q0, q1, q2, bw2, box ST.out.1.symm, box (by rw [decide_eq_true ST.out.2])⟩
          case measure => simp [intOf] <;> omega
    · have c2 := row_cell r2
      have hs : (storeCells ⟨w.heap.size + 1, 0, none⟩ (cw 6 B).toList 0).run Tryd.prog wr = .ok () (wr.setRow (w.heap.size + 1) (cw 6 B)) := st_any wr _ B 0 r1
      have e1 := HB.out
      have e2 := HL.out
      rw [mod384 n i hn (by omega)] at e1 e2
      rw [HV.out] at e1
      rw [HW.out] at e2
      subst e1
      subst e2
      have z1 : (wr.setRow (w.heap.size + 1) (cw 6 B)).heap[w.heap.size + 1]? = some (.cells (cw 6 B) 28) := setRow_row r1
      have c3 := row_cell z1
      have bz : Below w.heap.size w (wr.setRow (w.heap.size + 1) (cw 6 B)) := Below.setRow hbw (by omega)
      go_wp2
      exact bodyPost_ret (v := .tuple #[.agg (cw 6 B), .bool l]) (by simp [results, Tryd.results51, go_sem, c3, hf]) rfl ⟨rfl, bz⟩
end Go.Proofs.YtkmlbjlaahcahaaDoor
