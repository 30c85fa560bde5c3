/-
  What the functions that the statement reaches return: part 2 (Rwide2, Wide12, Frame6, FrameB, Quot2, Rlen, Jmath, Nat0, Nat1, Nat2, Nat3, Nat4).
-/
import Derived.RegionTactic
import Derived.Test.YtmndjhcmomejjaaDoorRows
import Derived.WalkKit
import Derived.ProofKit
import Derived.OpenShut
import Derived.Laws.IdiomArrays
import Derived.Below
import Derived.Carry
import Derived.Deep.RegionWith
import Derived.Lib.BitFns
import Derived.Laws.Cover1
import Derived.Test.YtmndjhcmomejjaaDoorOc01
namespace Go.Proofs.YtmndjhcmomejjaaDoor
set_option maxRecDepth 100000
set_option maxHeartbeats 40000000
set_option maxRecDepth 100000
open Go.RowKit WMath
theorem rwcount_any (n : Int) (w : World) :
    Calls Tryd.prog 97 #[.int .i64 n] w fun e w' => e = .returned (.int .i64 (cnt6 n : Nat)) ∧ w' = w := by
  go_enter Tryd.func97, Tryd.ntmps97
  go_wp2
  all_goals go_ret
  all_goals
    refine ⟨ret_int ?_, rfl⟩
    unfold cnt6
    omega

theorem rwbit_any (n i : Nat) (hi : i < 384) (w : World) :
    Calls Tryd.prog 80 #[.agg (cw 6 n), .int .i64 i] w fun e w' => e = .returned (.bool (n.testBit i)) ∧ Below w.heap.size w w' := by
  have hat := cw_at 6
  obtain ⟨q, hq⟩ : ∃ q, q = i / 64 := ⟨_, rfl⟩
  obtain ⟨r, hr⟩ : ∃ r, r = i % 64 := ⟨_, rfl⟩
  have hq1 : (i : Int) / 64 = (q : Int) := by omega
  have hr1 : (i : Int) % 64 = (r : Int) := by omega
  have hq2 : q < 6 := by omega
  have hr2 : r < 64 := by omega
  have hi1 : decide ((i : Int) < 384) = true := by simp; omega
  have hi0 : decide ((0 : Int) ≤ (i : Int)) = true := by simp
  have HB := box (bit_of_wd n i)
  rw [← hq, ← hr] at HB
  clear hq hr
  go_enter Tryd.func80, Tryd.ntmps80
  go_wp2_with (go_at_call 119; refine (bit_any (wd n q) r (wd_lt _ _) hr2 _).mono ?_; rintro e w' ⟨rfl, rfl⟩)
  go_ret
  exact ⟨by rw [HB.out]; rfl, (Below.refl _ _).alloc (Nat.le_refl _) _⟩

set_option maxRecDepth 100000 in
set_option maxHeartbeats 1000000 in
theorem rwleft_is (n v : Nat) (s : Int) (o : Bool) (hn : n < Q) (hv : n * 2 ^ cnt6 s % Q = v) (ho : decide (Q ≤ n * 2 ^ cnt6 s) = o) (w : World) :
    Calls Tryd.prog 60 #[.agg (cw 6 n), .int .i64 s] w fun e w' => e = .returned (.tuple #[.agg (cw 6 v), .bool o]) ∧ Below w.heap.size w w' := by
  obtain ⟨c, hc⟩ : ∃ c, c = cnt6 s := ⟨_, rfl⟩
  have hc6 : c ≤ 384 := by rw [hc]; unfold cnt6; omega
  rw [← hc] at hv ho
  have HV := box hv
  have HW := box ho
  have HC := box hc
  clear hv ho hc
  have hat := cw_at 6
  have hz := cw6z
  have hf := cw6f
  go_enter Tryd.func60, Tryd.ntmps60
  go_wp2_with fail
  refine (rwcount_any _ _).mono ?_
  rw [← HC.out]
  rintro e w' ⟨rfl, rfl⟩
  go_wp2
  go_loopw [7, 8] (fun lv iv wr => ∃ (i B : Nat) (l : Bool), i ≤ 384 ∧ iv = .int .i64 i ∧ lv = .bool l ∧ wr.heap[w.heap.size]? = some (.cells (cw 6 n) 72) ∧ wr.heap[w.heap.size + 1]? = some (.cells (cw 6 0) 72) ∧ wr.heap[w.heap.size + 1 + 1]? = some (.cells (cw 6 B) 72) ∧ Below w.heap.size w wr ∧ Box (B = (n % 2 ^ i) * 2 ^ c % Q) ∧ Box (l = decide (Q ≤ (n % 2 ^ i) * 2 ^ c))) (fun _ i _ => 384 - (intOf i).toNat)
  case atStart =>
    refine ⟨0, 0, false, by omega, rfl, rfl, ?_, ?_, ?_, ?_, box (by simp [Nat.mod_one]), box ?_⟩
    · rw [heap_below _ _ _ (by simp only [size_al]; omega), heap_below _ _ _ (by simp only [size_al]; omega)]
      exact heap_alloc_last _ _
    · rw [heap_below _ _ _ (by simp only [size_al]; omega)]
      have := heap_alloc_last (w.alloc (.cells (cw 6 n) 72)) (.cells (cw 6 0) 72)
      simpa only [size_al] using this
    · have := heap_alloc_last ((w.alloc (.cells (cw 6 n) 72)).alloc (.cells (cw 6 0) 72)) (.cells (cw 6 0) 72)
      simpa only [size_al] using this
    · exact (((Below.refl _ _).alloc (Nat.le_refl _) _).alloc (by simp only [size_al]; omega) _).alloc (by simp only [size_al]; omega) _
    · have := Q_pos
      symm
      rw [decide_eq_false_iff_not]
      simp [Nat.mod_one]
      omega
  case round =>
    obtain ⟨i, B, l, hi, rfl, rfl, r0, r1, r2, hbw, HB, HL⟩ := hrel
    by_cases hlt : i < 384
    · have c0 := row_cell r0
      go_wp2_with fail
      refine (rwbit_any n i hlt _).mono ?_
      cases hbit : n.testBit i
      · rintro e w2 ⟨rfl, hb2⟩
        have HB0 := box (left_bit0 n i hbit)
        go_wp2
        go_roundw
        case rel => exact ⟨i + 1, B, l, by omega, by go_num, rfl, heap_of hb2 _ _ _ r0, heap_of hb2 _ _ _ r1, heap_of hb2 _ _ _ r2, hbw.trans (hb2.mono hbw.size), box (by rw [HB0.out]; exact HB.out), box (by rw [HB0.out]; exact HL.out)⟩
        case measure => simp [intOf] <;> omega
      · rintro e w2 ⟨rfl, hb2⟩
        have q0 := heap_of hb2 _ _ _ r0
        have q1 := heap_of hb2 _ _ _ r1
        have q2 := heap_of hb2 _ _ _ r2
        have bw2 := hbw.trans (hb2.mono hbw.size)
        have sz : w.heap.size + 1 + 1 < w2.heap.size := (Array.getElem?_eq_some_iff.1 q2).1
        clear hb2 r0 r1 r2 hbw c0
        by_cases hin : i + c < 384
        · obtain ⟨t, ht⟩ : ∃ t, t = i + c := ⟨i + c, by omega⟩
          obtain ⟨q, hq⟩ : ∃ q, q = t / 64 := ⟨_, rfl⟩
          obtain ⟨r, hr⟩ : ∃ r, r = t % 64 := ⟨_, rfl⟩
          have t1 : (i : Int) + (c : Int) = (t : Int) := by omega
          have t2 : (t : Int) / 64 = (q : Int) := by omega
          have t3 : (t : Int) % 64 = (r : Int) := by omega
          have t4 : q < 6 := by omega
          have t5 : r < 64 := by omega
          have t6 : t < 384 := by omega
          have ST := box (left_in n i c t q r B hbit ht (by omega) (by omega) HB.out)
          obtain ⟨x, hx⟩ : ∃ x, x = 2 ^ r := ⟨_, rfl⟩
          have x1 : x < 18446744073709551616 := by rw [hx]; exact v_word r t5
          have x2 : IntKind.u64.wrap ((2 : Int) ^ r) = (x : Int) := by rw [pow_cast, wrap_nat _ (v_word r t5), hx]
          have x3 := bor B q x x1
          have HX := box hx
          have C2 := row_cell q2 q t4
          have F2 := fz (k := q) q2
          have HT := box ht
          clear hx ht hq hr
          go_wp2
          go_roundw
          case rel => exact ⟨i + 1, B ||| x * 2 ^ (64 * q), l, by omega, by go_num, rfl, by rw [setCell_other (by omega)]; exact q0, by rw [setCell_other (by omega)]; exact q1, by rw [setCell_row q2, cw_or 6 B q x _ t4 x1 rfl], bw2.setCell (by show w.heap.size ≤ w.heap.size + 1 + 1; omega) _, box (by rw [ST.out.1, HX.out]), box (by rw [HL.out]; rw [decide_eq_false ST.out.2.1, decide_eq_false ST.out.2.2])⟩
          case measure => simp [intOf] <;> omega
        · have ST := box (left_out n i c (i + c) B hbit rfl (by omega) HB.out)
          go_wp2
          go_roundw
          case rel => exact ⟨i + 1, B, true, by omega, by go_num, rfl, q0, q1, q2, bw2, box ST.out.1.symm, box (by rw [decide_eq_true ST.out.2])⟩
          case measure => simp [intOf] <;> omega
    · have c2 := row_cell r2
      have hs : (storeCells ⟨w.heap.size + 1, 0, none⟩ (cw 6 B).toList 0).run Tryd.prog wr = .ok () (wr.setRow (w.heap.size + 1) (cw 6 B)) := st_any wr _ B 0 r1
      have e1 := HB.out
      have e2 := HL.out
      rw [mod384 n i hn (by omega)] at e1 e2
      rw [HV.out] at e1
      rw [HW.out] at e2
      subst e1
      subst e2
      have z1 : (wr.setRow (w.heap.size + 1) (cw 6 B)).heap[w.heap.size + 1]? = some (.cells (cw 6 B) 72) := setRow_row r1
      have c3 := row_cell z1
      have bz : Below w.heap.size w (wr.setRow (w.heap.size + 1) (cw 6 B)) := Below.setRow hbw (by omega)
      go_wp2
      exact bodyPost_ret (v := .tuple #[.agg (cw 6 B), .bool l]) (by simp [results, Tryd.results60, go_sem, c3, hf]) rfl ⟨rfl, bz⟩

set_option maxRecDepth 100000 in
set_option maxHeartbeats 1000000 in
theorem rwright_is (n v : Nat) (s : Int) (o : Bool) (hn : n < Q) (hv : n / 2 ^ cnt6 s = v) (ho : decide (n % 2 ^ cnt6 s ≠ 0) = o) (w : World) :
    Calls Tryd.prog 115 #[.agg (cw 6 n), .int .i64 s] w fun e w' => e = .returned (.tuple #[.agg (cw 6 v), .bool o]) ∧ Below w.heap.size w w' := by
  obtain ⟨c, hc⟩ : ∃ c, c = cnt6 s := ⟨_, rfl⟩
  have hc6 : c ≤ 384 := by rw [hc]; unfold cnt6; omega
  rw [← hc] at hv ho
  have HV := box hv
  have HW := box ho
  have HC := box hc
  clear hv ho hc
  have hat := cw_at 6
  have hz := cw6z
  have hf := cw6f
  go_enter Tryd.func115, Tryd.ntmps115
  go_wp2_with fail
  refine (rwcount_any _ _).mono ?_
  rw [← HC.out]
  rintro e w' ⟨rfl, rfl⟩
  go_wp2
  go_loopw [7, 8] (fun lv iv wr => ∃ (i B : Nat) (l : Bool), i ≤ 384 ∧ iv = .int .i64 i ∧ lv = .bool l ∧ wr.heap[w.heap.size]? = some (.cells (cw 6 n) 72) ∧ wr.heap[w.heap.size + 1]? = some (.cells (cw 6 0) 72) ∧ wr.heap[w.heap.size + 1 + 1]? = some (.cells (cw 6 B) 72) ∧ Below w.heap.size w wr ∧ Box (B = (n % 2 ^ i) / 2 ^ c) ∧ Box (l = decide ((n % 2 ^ i) % 2 ^ c ≠ 0))) (fun _ i _ => 384 - (intOf i).toNat)
  case atStart =>
    refine ⟨0, 0, false, by omega, rfl, rfl, ?_, ?_, ?_, ?_, box (by simp [Nat.mod_one]), box ?_⟩
    · rw [heap_below _ _ _ (by simp only [size_al]; omega), heap_below _ _ _ (by simp only [size_al]; omega)]
      exact heap_alloc_last _ _
    · rw [heap_below _ _ _ (by simp only [size_al]; omega)]
      have := heap_alloc_last (w.alloc (.cells (cw 6 n) 72)) (.cells (cw 6 0) 72)
      simpa only [size_al] using this
    · have := heap_alloc_last ((w.alloc (.cells (cw 6 n) 72)).alloc (.cells (cw 6 0) 72)) (.cells (cw 6 0) 72)
      simpa only [size_al] using this
    · exact (((Below.refl _ _).alloc (Nat.le_refl _) _).alloc (by simp only [size_al]; omega) _).alloc (by simp only [size_al]; omega) _
    · have := Q_pos
      symm
      rw [decide_eq_false_iff_not]
      simp [Nat.mod_one]
  case round =>
    obtain ⟨i, B, l, hi, rfl, rfl, r0, r1, r2, hbw, HB, HL⟩ := hrel
    by_cases hlt : i < 384
    · have c0 := row_cell r0
      go_wp2_with fail
      refine (rwbit_any n i hlt _).mono ?_
      cases hbit : n.testBit i
      · rintro e w2 ⟨rfl, hb2⟩
        have HB0 := box (left_bit0 n i hbit)
        go_wp2
        go_roundw
        case rel => exact ⟨i + 1, B, l, by omega, by go_num, rfl, heap_of hb2 _ _ _ r0, heap_of hb2 _ _ _ r1, heap_of hb2 _ _ _ r2, hbw.trans (hb2.mono hbw.size), box (by rw [HB0.out]; exact HB.out), box (by rw [HB0.out]; exact HL.out)⟩
        case measure => simp [intOf] <;> omega
      · rintro e w2 ⟨rfl, hb2⟩
        have q0 := heap_of hb2 _ _ _ r0
        have q1 := heap_of hb2 _ _ _ r1
        have q2 := heap_of hb2 _ _ _ r2
        have bw2 := hbw.trans (hb2.mono hbw.size)
        have sz : w.heap.size + 1 + 1 < w2.heap.size := (Array.getElem?_eq_some_iff.1 q2).1
        clear hb2 r0 r1 r2 hbw c0
        by_cases hin : c ≤ i
        · obtain ⟨t, ht⟩ : ∃ t, i = t + c := ⟨i - c, by omega⟩
          obtain ⟨q, hq⟩ : ∃ q, q = t / 64 := ⟨_, rfl⟩
          obtain ⟨r, hr⟩ : ∃ r, r = t % 64 := ⟨_, rfl⟩
          have t1 : (i : Int) - (c : Int) = (t : Int) := by omega
          have t2 : (t : Int) / 64 = (q : Int) := by omega
          have t3 : (t : Int) % 64 = (r : Int) := by omega
          have t4 : q < 6 := by omega
          have t5 : r < 64 := by omega
          have ST := box (right_in n i c t q r B hbit ht (by omega) HB.out)
          obtain ⟨x, hx⟩ : ∃ x, x = 2 ^ r := ⟨_, rfl⟩
          have x1 : x < 18446744073709551616 := by rw [hx]; exact v_word r t5
          have x2 : IntKind.u64.wrap ((2 : Int) ^ r) = (x : Int) := by rw [pow_cast, wrap_nat _ (v_word r t5), hx]
          have x3 := bor B q x x1
          have HX := box hx
          have C2 := row_cell q2 q t4
          have F2 := fz (k := q) q2
          have HT := box ht
          clear hx ht hq hr
          go_wp2
          go_roundw
          case rel => exact ⟨i + 1, B ||| x * 2 ^ (64 * q), l, by omega, by go_num, rfl, by rw [setCell_other (by omega)]; exact q0, by rw [setCell_other (by omega)]; exact q1, by rw [setCell_row q2, cw_or 6 B q x _ t4 x1 rfl], bw2.setCell (by show w.heap.size ≤ w.heap.size + 1 + 1; omega) _, box (by rw [ST.out.1, HX.out]), box (by rw [HL.out]; rw [ST.out.2])⟩
          case measure => simp [intOf] <;> omega
        · have ST := box (right_out n i c B hbit (by omega) HB.out)
          go_wp2
          go_roundw
          case rel => exact ⟨i + 1, B, true, by omega, by go_num, rfl, q0, q1, q2, bw2, box ST.out.1.symm, box (by rw [decide_eq_true ST.out.2])⟩
          case measure => simp [intOf] <;> omega
    · have c2 := row_cell r2
      have hs : (storeCells ⟨w.heap.size + 1, 0, none⟩ (cw 6 B).toList 0).run Tryd.prog wr = .ok () (wr.setRow (w.heap.size + 1) (cw 6 B)) := st_any wr _ B 0 r1
      have e1 := HB.out
      have e2 := HL.out
      rw [mod384 n i hn (by omega)] at e1 e2
      rw [HV.out] at e1
      rw [HW.out] at e2
      subst e1
      subst e2
      have z1 : (wr.setRow (w.heap.size + 1) (cw 6 B)).heap[w.heap.size + 1]? = some (.cells (cw 6 B) 72) := setRow_row r1
      have c3 := row_cell z1
      have bz : Below w.heap.size w (wr.setRow (w.heap.size + 1) (cw 6 B)) := Below.setRow hbw (by omega)
      go_wp2
      exact bodyPost_ret (v := .tuple #[.agg (cw 6 B), .bool l]) (by simp [results, Tryd.results115, go_sem, c3, hf]) rfl ⟨rfl, bz⟩
end Go.Proofs.YtmndjhcmomejjaaDoor
namespace Go.Proofs.YtmndjhcmomejjaaDoor
set_option maxRecDepth 100000
set_option maxHeartbeats 40000000
set_option maxRecDepth 100000
open Go.RowKit WMath
set_option maxHeartbeats 1000000 in
theorem rwand_is (n m v : Nat) (hn : n < Q) (hv : n &&& m = v) (w : World) :
    Calls Tryd.prog 113 #[.agg (cw 6 n), .agg (cw 6 m)] w fun e w' => e = .returned (.agg (cw 6 v)) ∧ Below w.heap.size w w' := by
  have HV := box hv
  clear hv
  have hat := cw_at 6
  have hz := cw6z
  have hf := cw6f
  go_enter Tryd.func113, Tryd.ntmps113
  go_wp2
  go_loopw [5] (fun i wr => ∃ (k X : Nat), k ≤ 6 ∧ i = .int .i64 k ∧ wr.heap[w.heap.size]? = some (.cells (cw 6 X) 72) ∧ wr.heap[w.heap.size + 1]? = some (.cells (cw 6 m) 72) ∧ wr.heap[w.heap.size + 1 + 1]? = some (.cells (cw 6 0) 72) ∧ Below w.heap.size w wr ∧ Box (Part X n k fun j => wd n j &&& wd m j)) (fun i _ => 6 - (intOf i).toNat)
  case atStart =>
    refine ⟨0, n, by omega, rfl, ?_, ?_, ?_, ?_, box (part_start n _ hn)⟩
    · rw [heap_below _ _ _ (by simp only [size_al]; omega), heap_below _ _ _ (by simp only [size_al]; omega)]
      exact heap_alloc_last _ _
    · rw [heap_below _ _ _ (by simp only [size_al]; omega)]
      have := heap_alloc_last (w.alloc (.cells (cw 6 n) 72)) (.cells (cw 6 m) 72)
      simpa only [size_al] using this
    · have := heap_alloc_last ((w.alloc (.cells (cw 6 n) 72)).alloc (.cells (cw 6 m) 72)) (.cells (cw 6 0) 72)
      simpa only [size_al] using this
    · exact (((Below.refl _ _).alloc (Nat.le_refl _) _).alloc (by simp only [size_al]; omega) _).alloc (by simp only [size_al]; omega) _
  case round =>
    obtain ⟨k, X, hk, rfl, r0, r1, r2, hbw, HE⟩ := hrel
    by_cases hlt : k < 6
    · have hki : (k : Int) < 6 := by omega
      have hw := part_wd HE.out hlt
      have ho := bits_and_u64_nat (wd n k) (wd m k) (wd_lt _ _) (wd_lt _ _)
      have hb : wd n k &&& wd m k < 18446744073709551616 := Nat.lt_of_le_of_lt Nat.and_le_left (wd_lt n k)
      have c0 := row_cell r0 k hlt
      rw [hw] at c0
      have c1 := row_cell r1 k hlt
      have f0 := fz (k := k) r0
      have PS := box (part_step HE.out hlt _ hb rfl)
      have RS : Box ((wr.setCell ⟨w.heap.size, k, none⟩ (.int .u64 ((wd n k &&& wd m k : Nat) : Int))).heap[w.heap.size]? = some (.cells (cw 6 (setw X k (wd n k &&& wd m k))) 72)) := box (by rw [setCell_row r0, cw_seti 6 X k _ _ hlt hb rfl])
      clear hw
      go_wp2
      go_region
      all_goals go_wp2
      all_goals go_roundw
      all_goals first | (show (_ : Nat) < _; simp [intOf]; omega) | exact ⟨k + 1, _, by omega, by go_num, RS.out, (setCell_other (w := wr) (by omega)).trans r1, (setCell_other (w := wr) (by omega)).trans r2, (hbw.setCell (by show w.heap.size ≤ w.heap.size; omega) _).drew, PS⟩
    · have e := part_end HE.out (by omega) (n &&& m) (and_ltQ n m hn) (fun j hj => wd_and n m j)
      rw [HV.out] at e
      subst e
      have c0 := row_cell r0
      have hst := st_any wr _ X 0 r2
      have z2 : (wr.setRow (w.heap.size + 1 + 1) (cw 6 X)).heap[w.heap.size + 1 + 1]? = some (.cells (cw 6 X) 72) := setRow_row r2
      have c3 := row_cell z2
      go_wp2
      exact bodyPost_ret (v := .agg (cw 6 X)) (by simp [results, Tryd.results113, go_sem, c3, hf]) rfl ⟨rfl, Below.setRow hbw (by omega)⟩
set_option maxRecDepth 100000 in
set_option maxHeartbeats 1000000 in
theorem rwmask_is (s : Int) (v : Nat) (hv : 2 ^ cnt6 s - 1 = v) (w : World) :
    Calls Tryd.prog 114 #[.int .i64 s] w fun e w' => e = .returned (.agg (cw 6 v)) ∧ Below w.heap.size w w' := by
  obtain ⟨c, hc⟩ : ∃ c, c = cnt6 s := ⟨_, rfl⟩
  have hc6 : c ≤ 384 := by rw [hc]; unfold cnt6; omega
  rw [← hc] at hv
  have HV := box hv
  have HC := box hc
  clear hv hc
  have hat := cw_at 6
  have hz := cw6z
  have hf := cw6f
  have hs1 := st1
  go_enter Tryd.func114, Tryd.ntmps114
  go_wp2_with fail
  refine (rwcount_any _ _).mono ?_
  rw [← HC.out]
  rintro e w' ⟨rfl, rfl⟩
  go_wp2
  go_loopw [4] (fun iv wr => ∃ (i X : Nat), i ≤ c ∧ iv = .int .i64 i ∧ wr = (w.alloc (.cells (cw 6 0) 72)).alloc (.cells (cw 6 X) 72) ∧ Box (X = 2 ^ i - 1)) (fun iv _ => c - (intOf iv).toNat)
  case atStart => exact ⟨0, 0, by omega, rfl, rfl, box rfl⟩
  case round =>
    obtain ⟨i, X, hi, rfl, rfl, HE⟩ := hrel
    by_cases hlt : i < c
    · obtain ⟨q, hq⟩ : ∃ q, q = i / 64 := ⟨_, rfl⟩
      obtain ⟨r, hr⟩ : ∃ r, r = i % 64 := ⟨_, rfl⟩
      have t2 : (i : Int) / 64 = (q : Int) := by omega
      have t3 : (i : Int) % 64 = (r : Int) := by omega
      have t4 : q < 6 := by omega
      have t5 : r < 64 := by omega
      obtain ⟨x, hx⟩ : ∃ x, x = 2 ^ r := ⟨_, rfl⟩
      have x1 : x < 18446744073709551616 := by rw [hx]; exact v_word r t5
      have x2 : IntKind.u64.wrap ((2 : Int) ^ r) = (x : Int) := by rw [pow_cast, wrap_nat _ (v_word r t5), hx]
      have x3 := bor X q x x1
      obtain ⟨X2, hX2⟩ : ∃ X2, X2 = X ||| x * 2 ^ (64 * q) := ⟨_, rfl⟩
      have x4 := cw_or 6 X q x X2 t4 x1 hX2
      have EX : Box (X2 = 2 ^ (i + 1) - 1) := box (by rw [hX2, hx, HE.out]; exact mask_or i q r (by omega))
      clear hX2 hx hq hr
      go_wp2
      go_roundw
      case rel => exact ⟨i + 1, X2, by omega, by go_num, rfl, EX⟩
      case measure => simp [intOf] <;> omega
    · have e := HE.out
      rw [show i = c by omega, HV.out] at e
      subst e
      go_wp2
      exact bodyPost_ret (v := .agg (cw 6 X)) (by simp [results, Tryd.results114, go_sem, hat, hf]) rfl ⟨rfl, ((Below.refl _ _).alloc (Nat.le_refl _) _).alloc (by simp <;> omega) _⟩
end Go.Proofs.YtmndjhcmomejjaaDoor
namespace Go.Proofs.YtmndjhcmomejjaaDoor
set_option maxRecDepth 100000
set_option maxHeartbeats 40000000
set_option maxRecDepth 100000
open WMath
open Go.ChangeShapes Go.WideShapes Go.ChangeAt Go.RowKit
theorem nat_u64 {x : Int} (h : (Lit.int .u64 x).wf = true) : ∃ n : Nat, n < 18446744073709551616 ∧ x = (n : Int) := by
  have hb := bounds_u64 h
  obtain ⟨n, rfl⟩ := Int.eq_ofNat_of_zero_le hb.1
  exact ⟨n, by omega, rfl⟩
theorem u64_nat (n : Nat) (h : n < 18446744073709551616) : (Lit.int .u64 (n : Int)).wf = true := by
  first
    | exact WalkArith.wf_u64 (by omega)
    | exact WalkArith.wf_u64 (by omega) (by omega)

theorem post_plain {H : Type} {enc : TypeId × Value → H} {P : Program} {f : Func} {s : ChangeSpec} {apart fresh handsOn again : Bool} {W W' : World} {args : Array Value} {v : Value} {ds gs : List (DataW H)}
    (hW : DataW.Whole enc P f.params.toList s.vars apart W args.toList ds gs [])
    (hres : ∀ (b : Nat) (sp : Nat → Bool) (hd : Bool), DataW.TrodAll enc P W' b sp hd f.resultTypes.toList (v.resultList f.resultTypes.size) (s.fn H (ds ++ gs)).results [])
    (hargs : ∀ sp : Nat → Bool, DataW.TrodAll enc P W' 0 sp true f.params.toList args.toList (s.fn H (ds ++ gs)).args [])
    (hvars : ∀ sp : Nat → Bool, DataW.TrodVars enc P W' sp s.vars (s.fn H (ds ++ gs)).vars [])
    (hk : Below W.heap.size W W')
    (hok : ∀ (j : Nat) (t : TypeId) (r : Value), f.resultTypes[j]? = some t → (v.resultList f.resultTypes.size)[j]? = some r → Value.okWide P W' .any 0 t r) :
    s.post enc P f apart fresh handsOn again W args v W' := by
  refine ⟨ds, gs, [], [], [], [], hW, hres _ _ _, hargs _, hvars _, hk.frame _, fun _ => ⟨hok, _, _, [], ⟨[], [], trodAll_append (hargs _) (hres _ _ _), hvars _, rfl, ?_, ?_⟩, ?_⟩⟩
  · intro _ _ hp
    cases hp
  · intro _
    exact List.Pairwise.nil
  · intro _ hp
    cases hp
def dB (H : Type) (b : Nat × Nat) : DataW H := .agg [.lit (.int .u64 (b.1 : Nat)), .lit (.int .u64 (b.2 : Nat))]

theorem list2 {α : Type} (l : List α) (h : (⟨l⟩ : Array α).size = 2) : ∃ a b, l = [a, b] := by
  match l, h with
  | [a, b], _ => exact ⟨a, b, rfl⟩

theorem open_bits {H : Type} {enc : TypeId × Value → H} {w : World} {base b : Nat} {spare : Nat → Bool} {held : Bool} {v : Value} {d : DataW H} {p : List MemPlace}
    (hok : Value.okWide Tryd.prog w .any base 25 v) (h : DataW.Trod enc Tryd.prog w b spare held 25 v d p) : ∃ a : Nat × Nat, (a.1 < 18446744073709551616 ∧ a.2 < 18446744073709551616) ∧ v = bitsV a ∧ d = dB H a ∧ p = [] := by
  have hc : Tryd.prog.cellsOf 25 = 2 := by kernel_rfl
  have hce : Tryd.prog.cellsOf 23 = 1 := by kernel_rfl
  obtain ⟨cs, rfl, hsz⟩ := okWide_struct Tryd.underlying25 hok
  rw [hc] at hsz
  obtain ⟨l⟩ := cs
  obtain ⟨c0, c1, rfl⟩ := list2 l hsz
  obtain ⟨fuel, hf⟩ := h
  obtain ⟨y0, y1, n, hx, _, h0, h1⟩ := trod_struct2 Tryd.underlying25 hf
  simp only [hce] at h0 h1
  obtain ⟨x0, e0, g0, w0⟩ := DataW.trod_int Tryd.underlying23 h0
  obtain ⟨x1, e1, g1, w1⟩ := DataW.trod_int Tryd.underlying23 h1
  simp [Value.cells] at e0 e1
  subst e0 e1
  obtain ⟨a0, b0, rfl⟩ := nat_u64 w0
  obtain ⟨a1, b1, rfl⟩ := nat_u64 w1
  simp only [Prod.mk.injEq] at hx
  refine ⟨(a0, a1), ⟨b0, b1⟩, rfl, ?_, ?_⟩
  · rw [hx.1, g0, g1]; rfl
  · rw [hx.2, g0, g1]; rfl

theorem shut_bits {H : Type} {enc : TypeId × Value → H} {w : World} {b : Nat} {spare : Nat → Bool} {held : Bool} (a : Nat × Nat) (h : a.1 < 18446744073709551616 ∧ a.2 < 18446744073709551616) : DataW.Trod enc Tryd.prog w b spare held 25 (bitsV a) (dB H a) [] := by
  have hc : Tryd.prog.cellsOf 25 = 2 := by kernel_rfl
  have hce : Tryd.prog.cellsOf 23 = 1 := by kernel_rfl
  have k0 := u64_nat _ h.1
  have k1 := u64_nat _ h.2
  refine ⟨2, ?_⟩
  simp [DataW.trod, Value.cells, bitsV, Tryd.underlying25, Tryd.underlying23, hc, hce, k0, k1, dB]

end Go.Proofs.YtmndjhcmomejjaaDoor
namespace Go.Proofs.YtmndjhcmomejjaaDoor
set_option maxRecDepth 100000
set_option maxHeartbeats 40000000
set_option maxRecDepth 100000
open Go.RowKit WMath
theorem wrap_i64_is (n : Int) (h1 : -9223372036854775808 ≤ n) (h2 : n ≤ 9223372036854775807) : IntKind.i64.wrap n = n := by
  simp [IntKind.wrap, IntKind.bits, IntKind.signed]; omega

theorem rlen_is (x l : Nat) (hx : x < 18446744073709551616) (hl : blen x = l) (w : World) :
    Calls Tryd.prog 79 #[.int .u64 x] w fun e w' => e = .returned (.int .i64 (l : Nat)) ∧ w' = w := by
  subst hl; rw [← bitLen_blen x hx]; exact rlen_any x hx w

theorem nzf {x : Nat} (h : x = 0) : (((x : Nat) : Int) != 0) = false := by subst h; rfl
theorem nzt {x : Nat} (h : ¬ x = 0) : (((x : Nat) : Int) != 0) = true := by simp; omega

theorem rwlen_any (n : Nat) (hn : n < Q) (w : World) :
    Calls Tryd.prog 49 #[.agg (cw 6 n)] w fun e w' => e = .returned (.int .i64 (blen n : Nat)) ∧ Below w.heap.size w w' := by
  have hat := cw_at 6
  have bz : Below w.heap.size w (w.alloc (.cells (cw 6 n) 72)) := (Below.refl _ _).alloc (Nat.le_refl _) _
  go_enter Tryd.func49, Tryd.ntmps49
  go_wp2
  go_loop [3] (fun iv => ∃ k : Nat, k ≤ 6 ∧ iv = .int .i64 ((k : Int) - 1) ∧ Box (n < 2 ^ (64 * k))) (fun iv => (intOf iv + 1).toNat)
  case atStart => exact ⟨6, by omega, rfl, box (by rw [pwQ 6 rfl]; exact hn)⟩
  case round =>
    obtain ⟨k, hk, rfl, HE⟩ := hrel
    by_cases h0 : k = 0
    · subst h0
      have e : n = 0 := by have := HE.out; rw [Nat.mul_zero, Nat.pow_zero] at this; omega
      subst e
      go_wp2
      go_ret
      exact ⟨rfl, bz⟩
    · obtain ⟨j, rfl⟩ : ∃ j, k = j + 1 := ⟨k - 1, by omega⟩
      have ej : (((j + 1 : Nat) : Int) - 1) = (j : Int) := by omega
      rw [ej]
      have hj6 : j < 6 := by omega
      have hji : (j : Int) < 6 := by omega
      have ST := box (rlen_step n j HE.out)
      by_cases hw : wd n j = 0
      · have y := nzf hw
        have NX := box (ST.out.2 hw)
        clear hw
        go_wp2
        go_round
        case rel => exact ⟨j, by omega, rfl, NX⟩
        case measure => simp [intOf] <;> omega
      · have y := nzt hw
        obtain ⟨b, hb⟩ : ∃ b, blen (wd n j) = b := ⟨_, rfl⟩
        have hb64 : b ≤ 64 := by rw [← hb]; exact blen_le_of _ 64 (by rw [← two64]; exact wd_lt n j)
        have EN : Box (blen n = 64 * j + b) := box (by rw [ST.out.1 hw, hb])
        have HB := box hb
        clear hw hb
        go_wp2_with (go_at_call 79; refine (rlen_is _ b (wd_lt n j) HB.out _).mono ?_; rintro e w' ⟨rfl, rfl⟩)
        go_ret
        exact ⟨ret_int (by rw [EN.out]; simp), bz⟩
theorem mod_pow_zero (a n k : Nat) : a % 2 ^ (n + k) = 0 ↔ a % 2 ^ n = 0 ∧ a / 2 ^ n % 2 ^ k = 0 := by
  rw [Nat.pow_add, Nat.mod_mul]
  have hp := Nat.two_pow_pos n
  constructor
  · intro h
    have h1 : a % 2 ^ n = 0 := by omega
    have h2 : 2 ^ n * (a / 2 ^ n % 2 ^ k) = 0 := by omega
    rcases Nat.mul_eq_zero.1 h2 with h3 | h3
    · omega
    · exact ⟨h1, h3⟩
  · rintro ⟨h1, h2⟩
    rw [h1, h2, Nat.mul_zero]

theorem c8_made (L : Nat) : madeCells #[.int .u8 0] L = c8 L 0 := by
  apply Array.ext_getElem?
  intro i
  by_cases h : i < L
  · rw [c8_at L 0 i h, d8_zero]
    simp [madeCells, h, Nat.mod_one]
  · rw [Array.getElem?_eq_none (by rw [size_madeCells]; omega), Array.getElem?_eq_none (by rw [c8_size]; omega)]
theorem c8_cell {w : World} {b k L n : Nat} {t : TypeId} (h : w.heap[b]? = some (.cells (c8 L n) t)) (hk : k < L) : w.cell? ⟨b, k, none⟩ = some (.int .u8 (d8 n k : Nat)) := by
  rw [cell_of_row w b k _ _ _ h, c8_at L n k hk]
theorem c8_make (L : Nat) (h : L ≤ 1000000) (w : World) : (Instr.makeSlice 115 (.int .i64 (L : Int)) (.int .i64 (L : Int))).run Tryd.prog w = .ok (.slice (some ⟨w.heap.size, 0, none⟩) L L) (w.alloc (.cells (c8 L 0) 5)) := by
  rw [← c8_made]
  exact run_make_row' (P := Tryd.prog) 115 5 (.int .u8 0) 1 Tryd.underlying115 (by kernel_rfl) rfl .i64 .i64 L (by omega) (by omega) w
theorem c8_makeI (L : Nat) (k : Int) (hk : k = (L : Int)) (h : L ≤ 1000000) (w : World) : (Instr.makeSlice 115 (.int .i64 k) (.int .i64 k)).run Tryd.prog w = .ok (.slice (some ⟨w.heap.size, 0, none⟩) L L) (w.alloc (.cells (c8 L 0) 5)) := by
  subst hk; exact c8_make L h w
theorem c8_str {w : World} {b c L X : Nat} {t : TypeId} (v : ByteArray) (h : w.heap[b]? = some (.cells (c8 L X) t)) (hL : v.size = L) (hv : ∀ (k : Nat) (h1 : k < v.size), (v[k]'h1).toNat = d8 X k) :
    (convert 115 9 (.slice (some ⟨b, 0, none⟩) L c)).run Tryd.prog w = .ok (.string v) w := by
  have e : c8 L X = cb v.data.toList := by
    apply Array.ext_getElem?
    intro i
    by_cases hi : i < L
    · have hi2 : i < v.size := by rw [hL]; exact hi
      have hi3 : i < v.data.toList.length := by rw [Array.length_toList]; exact hi2
      rw [c8_at L X i hi, cb_at _ i (v[i]'hi2) (by rw [List.getElem?_eq_getElem hi3]; rfl), hv i hi2]
    · rw [Array.getElem?_eq_none (by rw [c8_size]; omega), Array.getElem?_eq_none (by rw [cb_size, Array.length_toList]; show v.size ≤ i; omega)]
  rw [e] at h
  have := str_of (c := c) h
  rw [Array.length_toList, show v.data.size = L from hL] at this
  simpa using this

theorem idx_run (s : ByteArray) (k : Nat) (i : Int) (d : Nat) (hi : i = (k : Int)) (hk : k < s.size) (hd : (s[k]'hk).toNat = d) (w : World) :
    (Instr.index 9 (.string s) (.int .i64 i)).run Tryd.prog w = .ok (.int .u8 (d : Nat)) w := by
  subst hi hd
  rw [run_index_string (P := Tryd.prog) w 9 s _ _ Tryd.underlying9, dif_pos ⟨by omega, by omega⟩]
  simp

theorem nat_at (n i d : Nat) (s : ByteArray) (hs : nbA n = s) (hd : d8 n i = d) (hn : nl n ≤ 100000) (w : World) :
    Calls Tryd.prog 121 #[.string s, .int .i64 (i : Nat)] w fun e w' => e = .returned (.int .i64 (d : Nat)) ∧ w' = w := by
  obtain ⟨L, hL⟩ : ∃ L, nl n = L := ⟨_, rfl⟩
  have hz : s.size = L := by rw [← hs, nbA_size, hL]
  rw [hL] at hn
  by_cases h : L ≤ i
  · have e : d = 0 := by rw [← hd]; exact d8_nl n i (by omega)
    subst e
    have h1 : decide (L ≤ i) = true := by rw [decide_eq_true_iff]; omega
    clear hs hd hL h
    go_enter Tryd.func121, Tryd.ntmps121
    go_wp2
    go_ret
    exact ⟨rfl, rfl⟩
  · have h1 : decide (L ≤ i) = false := by rw [decide_eq_false_iff_not]; omega
    have hk : L - 1 - i < s.size := by omega
    have hg : (s[L - 1 - i]'hk).toNat = d := by
      subst hs
      rw [nbA_get, hL, show L - 1 - (L - 1 - i) = i by omega, hd]
    have hx := idx_run s (L - 1 - i) ((L : Int) - 1 - (i : Int)) d (by omega) hk hg
    have n1 : IntKind.i64.wrap ((L : Int) - 1) = (L : Int) - 1 := wrap_i64_is _ (by omega) (by omega)
    have n2 : IntKind.i64.wrap ((L : Int) - 1 - (i : Int)) = (L : Int) - 1 - (i : Int) := wrap_i64_is _ (by omega) (by omega)
    have d256 : d < 256 := by rw [← hd]; exact d8_lt n i
    clear hs hd hL h hg hk
    go_enter Tryd.func121, Tryd.ntmps121
    go_wp2
    go_ret
    exact ⟨rfl, rfl⟩
theorem fit_low (X m : Nat) (h : X < 2 ^ (8 * (m + 1))) (hd : d8 X m = 0) : X < 2 ^ (8 * m) := by
  have := mod_d8 X m
  rw [Nat.mod_eq_of_lt h, hd, Nat.mul_zero, Nat.add_zero] at this
  rw [this]
  exact Nat.mod_lt _ (Nat.two_pow_pos _)

set_option maxHeartbeats 1000000 in
theorem nat_fit (L X b c : Nat) (v : ByteArray) (hL : L ≤ 100000) (hX : X < 2 ^ (8 * L)) (hv : nbA X = v) (w : World) (row : w.heap[b]? = some (.cells (c8 L X) 5)) :
    Calls Tryd.prog 90 #[.slice (some ⟨b, 0, none⟩) L c] w fun e w' => e = .returned (.string v) ∧ Below w.heap.size w w' := by
  have hb : b < w.heap.size := (Array.getElem?_eq_some_iff.1 row).1
  have HV := box hv
  have HX := box hX
  clear hv hX
  go_enter Tryd.func90, Tryd.ntmps90
  go_wp2
  go_loop [3] (fun iv => ∃ k : Nat, k ≤ L ∧ iv = .int .i64 k ∧ Box (X < 2 ^ (8 * k))) (fun iv => (intOf iv).toNat)
  case atStart => exact ⟨L, by omega, rfl, HX⟩
  case round =>
    obtain ⟨m, hm, rfl, HM⟩ := hrel
    have hmk := c8_make m (by omega)
    by_cases hst : m ≠ 0 ∧ d8 X (m - 1) = 0
    · obtain ⟨k, rfl⟩ : ∃ k, m = k + 1 := ⟨m - 1, by omega⟩
      have hd : d8 X k = 0 := hst.2
      have c0 := c8_cell row (show k < L by omega)
      rw [hd] at c0
      have NX := box (fit_low X k HM.out hd)
      clear hst hmk
      go_wp2
      go_round
      case rel => exact ⟨k, by omega, by go_num, NX⟩
      case measure => simp [intOf] <;> omega
    · have hnl : nl X = m := nl_is X m HM.out (by omega)
      have HN := box hnl
      have hcase : decide (0 < m) = false ∨ (decide (0 < m) = true ∧ 0 < m ∧ ((d8 X (m - 1) : Int) == 0) = false) := by
        by_cases e : m = 0
        · left; rw [decide_eq_false_iff_not]; omega
        · right
          refine ⟨by rw [decide_eq_true_iff]; omega, by omega, ?_⟩
          simp only [beq_eq_false_iff_ne]
          omega
      clear hst hnl
      rcases hcase with h0 | ⟨h0, h1, hd⟩
      all_goals
        try (have c0 := c8_cell row (show m - 1 < L by omega))
        go_wp2
        clear hmk h0
        try (clear hd c0)
        go_loopw [5] (fun iv wr => ∃ (i Y : Nat), i ≤ m ∧ iv = .int .i64 i ∧ wr.heap[w.heap.size]? = some (.cells (c8 m Y) 5) ∧ Below w.heap.size w wr ∧ Box (∀ j, j < m → m - 1 - i < j + 1 → (i = 0 → False) → (m - 1 - j < i) → d8 Y j = d8 X (m - 1 - j))) (fun iv _ => m - (intOf iv).toNat)
        case atStart => exact ⟨0, 0, by omega, rfl, heap_alloc_last _ _, (Below.refl _ _).alloc (Nat.le_refl _) _, box (fun j _ _ h => absurd rfl h)⟩
        case round =>
          obtain ⟨i, Y, hi, rfl, r0, hbw, HY⟩ := hrel
          by_cases hlt : i < m
          · have rb : wr.heap[b]? = some (.cells (c8 L X) 5) := by rw [hbw.block b hb]; exact row
            have c1 := c8_cell rb (show i < L by omega)
            have c2 := c8_cell r0 (show m - 1 - i < m by omega)
            have f0 := fz (k := m - 1 - i) r0
            have hx := d8_lt X i
            have RS : Box ((wr.setCell ⟨w.heap.size, m - 1 - i, none⟩ (.int .u8 ((d8 X i : Nat) : Int))).heap[w.heap.size]? = some (.cells (c8 m (set8 Y (m - 1 - i) (d8 X i))) 5)) := box (by rw [setCell_row r0, c8_seti m Y (m - 1 - i) _ _ (by omega) hx rfl])
            have NY : Box (∀ j, j < m → m - 1 - (i + 1) < j + 1 → (i + 1 = 0 → False) → (m - 1 - j < i + 1) → d8 (set8 Y (m - 1 - i) (d8 X i)) j = d8 X (m - 1 - j)) := box (fun j hj _ _ hji => by
              rw [d8_set8 _ _ _ _ hx]
              by_cases e : j = m - 1 - i
              · rw [if_pos e, e, show m - 1 - (m - 1 - i) = i by omega]
              · rw [if_neg e]
                exact HY.out j hj (by omega) (by omega) (by omega))
            have t1 : ((m : Int) - 1 - (i : Int)).toNat = m - 1 - i := by omega
            go_wp2
            go_roundw
            case rel => exact ⟨i + 1, _, by omega, by go_num, RS.out, hbw.setCell (Nat.le_refl _) _, NY⟩
            case measure => simp [intOf] <;> omega
          · obtain rfl : i = m := by omega
            have hsv := c8_str (c := i) v r0 (by rw [← HV.out, nbA_size]; exact HN.out) (fun k hk => by
              have hz : v.size = i := by rw [← HV.out, nbA_size]; exact HN.out
              have e := HY.out k (by omega) (by omega) (by omega) (by omega)
              rw [e]
              have hV := HV.out
              subst hV
              rw [nbA_get, HN.out])
            go_wp2
            go_ret
            exact ⟨rfl, hbw⟩

theorem nat_long_ok (s : ByteArray) (h : s.size ≤ 16384) (w : World) :
    Calls Tryd.prog 127 #[.string s] w fun e w' => e = .returned (.tuple #[.string s, .int .i64 0]) ∧ w' = w := by
  have h1 : decide ((16384 : Int) < (s.size : Int)) = false := by rw [decide_eq_false_iff_not]; omega
  have h2 : decide (16384 < s.size) = false := by rw [decide_eq_false_iff_not]; omega
  clear h
  go_enter Tryd.func127, Tryd.ntmps127
  go_wp2
  go_ret2
  exact ⟨rfl, rfl⟩
theorem nat_long_no (s : ByteArray) (h : ¬ s.size ≤ 16384) (w : World) :
    Calls Tryd.prog 127 #[.string s] w fun e w' => e = .returned (.tuple #[.string ⟨#[]⟩, .int .i64 4]) ∧ w' = w := by
  have h1 : decide ((16384 : Int) < (s.size : Int)) = true := by rw [decide_eq_true_iff]; omega
  have h2 : decide (16384 < s.size) = true := by rw [decide_eq_true_iff]; omega
  clear h
  go_enter Tryd.func127, Tryd.ntmps127
  go_wp2
  go_ret2
  exact ⟨rfl, rfl⟩

def mayB (s : ByteArray) : Bool := decide (s.size ≤ 16384) && (decide (s.size = 0) || decide (∃ h : 0 < s.size, (s[0]'h).toNat ≠ 0))

theorem toList_len (s : ByteArray) : s.toList.length = s.size := by rw [ByteArray.toList_eq, Array.length_toList]; rfl
theorem eq_empty (s : ByteArray) : (s.toList == []) = decide (s.size = 0) := by
  rw [← toList_len]
  cases s.toList with
  | nil => rfl
  | cons x l => simp

theorem nat_may (s : ByteArray) (o : Bool) (ho : mayB s = o) (w : World) :
    Calls Tryd.prog 84 #[.string s] w fun e w' => e = .returned (.bool o) ∧ w' = w := by
  have d2 := eq_empty s
  by_cases h1 : s.size ≤ 16384
  · have d1 : decide ((s.size : Int) ≤ 16384) = true := by rw [decide_eq_true_iff]; omega
    by_cases h2 : s.size = 0
    · have e : o = true := by rw [← ho]; unfold mayB; rw [decide_eq_true h1, decide_eq_true h2]; rfl
      subst e
      rw [decide_eq_true h2] at d2
      clear h1 h2 ho
      go_enter Tryd.func84, Tryd.ntmps84
      go_wp2
      go_ret
      exact ⟨rfl, rfl⟩
    · rw [decide_eq_false h2] at d2
      have hp : 0 < s.size := by omega
      obtain ⟨x, hx⟩ : ∃ x, (s[0]'hp).toNat = x := ⟨_, rfl⟩
      have e : ((x : Int) != 0) = o := by
        rw [← ho]; unfold mayB
        rw [decide_eq_true h1, decide_eq_false h2, Bool.true_and, Bool.false_or]
        by_cases h0 : x = 0
        · rw [decide_eq_false (fun ⟨a, b⟩ => b (hx.trans h0)), h0]; rfl
        · rw [decide_eq_true ⟨hp, fun c => h0 (hx.symm.trans c)⟩]
          simp; omega
      have hi := idx_run s 0 0 x rfl hp hx
      clear h1 h2 ho hx
      go_enter Tryd.func84, Tryd.ntmps84
      go_wp2
      go_ret
      exact ⟨rfl, rfl⟩
  · have d1 : decide ((s.size : Int) ≤ 16384) = false := by rw [decide_eq_false_iff_not]; omega
    have e : o = false := by rw [← ho]; unfold mayB; rw [decide_eq_false h1]; rfl
    subst e
    clear h1 ho d2
    go_enter Tryd.func84, Tryd.ntmps84
    go_wp2
    go_ret
    exact ⟨rfl, rfl⟩

theorem mayB_nb (n : Nat) (h : nl n ≤ 16384) : mayB (nbA n) = true := by
  have hz := nbA_size n
  unfold mayB
  rw [show decide ((nbA n).size ≤ 16384) = true from decide_eq_true (by omega), Bool.true_and]
  by_cases h0 : (nbA n).size = 0
  · rw [decide_eq_true h0]; rfl
  · rw [decide_eq_false h0, Bool.false_or, decide_eq_true]
    exact ⟨by omega, nbA_first n _⟩
theorem bless_pre : ∀ (x y : List UInt8), x.length = y.length → (Op.bytesLess x y = decide (bvl x < bvl y))
  | [], [], _ => by rfl
  | [], _ :: _, h => by simp at h
  | _ :: _, [], h => by simp at h
  | a :: x, b :: y, h => by
    have hl : x.length = y.length := by simpa using h
    have ih := bless_pre x y hl
    have e : ∀ (c : UInt8) (z : List UInt8), bvl (c :: z) = c.toNat * 2 ^ (8 * z.length) + bvl z := by
      intro c z
      refine rev_ind (P := fun z => bvl (c :: z) = c.toNat * 2 ^ (8 * z.length) + bvl z) ?_ (fun l d ih => ?_) z
      · show 256 * 0 + c.toNat = c.toNat * 2 ^ (8 * 0) + 0
        simp
      · rw [← List.cons_append, bvl_snoc, ih, bvl_snoc, List.length_append, List.length_singleton, pow8, Nat.mul_add, ← Nat.mul_assoc (c.toNat)]
        omega
    have hx := bvl_lt x
    have hy := bvl_lt y
    rw [Op.bytesLess, ih, e a x, e b y, hl]
    rw [hl] at hx
    rcases Nat.lt_trichotomy a.toNat b.toNat with h1 | h1 | h1
    · have h2 : a < b := UInt8.lt_iff_toNat_lt.2 h1
      have h3 : (a.toNat + 1) * 2 ^ (8 * y.length) ≤ b.toNat * 2 ^ (8 * y.length) := Nat.mul_le_mul_right _ h1
      rw [Nat.add_mul, Nat.one_mul] at h3
      rw [decide_eq_true h2, Bool.true_or, decide_eq_true (by omega)]
    · have h2 : a = b := UInt8.toNat_inj.1 h1
      subst h2
      have h3 : ¬ a < a := fun h => Nat.lt_irrefl _ (UInt8.lt_iff_toNat_lt.1 h)
      rw [decide_eq_false h3, Bool.false_or, beq_self_eq_true, Bool.true_and]
      rw [Bool.eq_iff_iff, decide_eq_true_iff, decide_eq_true_iff]
      omega
    · have h2 : ¬ a < b := fun h => by have := UInt8.lt_iff_toNat_lt.1 h; omega
      have h3 : (b.toNat + 1) * 2 ^ (8 * y.length) ≤ a.toNat * 2 ^ (8 * y.length) := Nat.mul_le_mul_right _ h1
      rw [Nat.add_mul, Nat.one_mul] at h3
      have h4 : (a == b) = false := by simp only [beq_eq_false_iff_ne]; intro c; rw [c] at h1; omega
      rw [decide_eq_false h2, Bool.false_or, h4, Bool.false_and, decide_eq_false (by omega)]
theorem bvl_nbL (n : Nat) : bvl (nbL n) = n := by
  have h1 := bvl_lt (nbL n)
  rw [nbL_len] at h1
  refine d8_ext h1 (nl_lt n) (fun k hk => ?_)
  have h2 := bvl_d8 (nbL n) (nl n - 1 - k) (by rw [nbL_len]; omega)
  have hk2 : (nbL n).length - 1 - (nl n - 1 - k) = k := by rw [nbL_len]; omega
  rw [hk2] at h2
  rw [h2]
  have h3 := nbA_get n (nl n - 1 - k) (by rw [nbA_size]; omega)
  rw [show nl n - 1 - (nl n - 1 - k) = k by omega] at h3
  exact h3
theorem toList_nb (n : Nat) : (nbA n).toList = nbL n := by rw [ByteArray.toList_eq]; rfl
theorem bless_nb (a b : Nat) (h : nl a = nl b) : Op.bytesLess (nbA a).toList (nbA b).toList = decide (a < b) := by
  rw [toList_nb, toList_nb, bless_pre _ _ (by rw [nbL_len, nbL_len, h]), bvl_nbL, bvl_nbL]
theorem beq_nb (a b : Nat) : ((nbA a).toList == (nbA b).toList) = decide (a = b) := by
  rw [toList_nb, toList_nb, Bool.eq_iff_iff, beq_iff_eq, decide_eq_true_iff]
  constructor
  · intro h
    rw [← bvl_nbL a, h, bvl_nbL]
  · intro h; rw [h]

theorem nat_cmp (a b : Nat) (s t : ByteArray) (c : Int) (hs : nbA a = s) (ht : nbA b = t) (hc : cmpv a b = c) (w : World) :
    Calls Tryd.prog 58 #[.string s, .string t] w fun e w' => e = .returned (.int .i64 c) ∧ w' = w := by
  obtain ⟨L, hL⟩ : ∃ L, nl a = L := ⟨_, rfl⟩
  obtain ⟨M, hM⟩ : ∃ M, nl b = M := ⟨_, rfl⟩
  have hz : s.size = L := by rw [← hs, nbA_size, hL]
  have hy : t.size = M := by rw [← ht, nbA_size, hM]
  by_cases h : L = M
  · subst h
    have e1 := bless_nb a b (by rw [hL, hM])
    have e2 := beq_nb a b
    rw [hs, ht] at e1 e2
    have n1 : ((L : Int) != (L : Int)) = false := by simp
    unfold cmpv at hc
    by_cases h1 : a = b
    · rw [if_pos h1] at hc
      subst hc
      rw [decide_eq_false (by omega)] at e1
      rw [decide_eq_true h1] at e2
      clear hs ht hL hM h1
      go_enter Tryd.func58, Tryd.ntmps58
      go_wp2
      go_ret
      exact ⟨rfl, rfl⟩
    · rw [if_neg h1] at hc
      rw [decide_eq_false h1] at e2
      by_cases h2 : a < b
      · rw [if_pos h2] at hc
        subst hc
        rw [decide_eq_true h2] at e1
        clear hs ht hL hM h1 h2
        go_enter Tryd.func58, Tryd.ntmps58
        go_wp2
        go_ret
        exact ⟨rfl, rfl⟩
      · rw [if_neg h2] at hc
        subst hc
        rw [decide_eq_false h2] at e1
        clear hs ht hL hM h1 h2
        go_enter Tryd.func58, Tryd.ntmps58
        go_wp2
        go_ret
        exact ⟨rfl, rfl⟩
  · have n1 : ((L : Int) != (M : Int)) = true := by simp; omega
    have n2 : ¬ a = b := fun e => h (by rw [← hL, ← hM, e])
    unfold cmpv at hc
    rw [if_neg n2] at hc
    by_cases h2 : L < M
    · have h3 : a < b := by
        rcases Nat.lt_or_ge a b with h3 | h3
        · exact h3
        · have := nl_mono b a h3; omega
      rw [if_pos h3] at hc
      subst hc
      have n3 : decide (L < M) = true := decide_eq_true h2
      clear hs ht hL hM h n2 h2 h3
      go_enter Tryd.func58, Tryd.ntmps58
      go_wp2
      go_ret
      exact ⟨rfl, rfl⟩
    · have h3 : ¬ a < b := fun e => by have := nl_mono a b (Nat.le_of_lt e); omega
      rw [if_neg h3] at hc
      subst hc
      have n3 : decide (L < M) = false := decide_eq_false h2
      clear hs ht hL hM h n2 h2 h3
      go_enter Tryd.func58, Tryd.ntmps58
      go_wp2
      go_ret
      exact ⟨rfl, rfl⟩
theorem carry_step (S P t : Nat) : S + P * (t % 256) + P * 256 * (t / 256) = S + P * t := by
  have h := Nat.div_add_mod t 256
  have : P * t = P * (256 * (t / 256) + t % 256) := by rw [h]
  rw [this, Nat.mul_add, Nat.mul_assoc]
  omega

theorem pow8_le (i j : Nat) (h : i ≤ j) : 2 ^ (8 * i) ≤ 2 ^ (8 * j) := Nat.pow_le_pow_right (by decide) (by omega)
theorem wrap_u8_is (t x : Nat) (h : t % 256 = x) : IntKind.u8.wrap (t : Int) = (x : Int) := by
  rw [← h, IntKind.wrap_u8]; omega

theorem nsub_step (a b S i c x y z g : Nat) (hE : S + b % 2 ^ (8 * i) = a % 2 ^ (8 * i) + 2 ^ (8 * i) * c) (hx : d8 a i = x) (hy : d8 b i = y) (hz : z + y + c = x + 256 * g) :
    S + 2 ^ (8 * i) * z + b % 2 ^ (8 * (i + 1)) = a % 2 ^ (8 * (i + 1)) + 2 ^ (8 * (i + 1)) * g := by
  rw [mod_d8, mod_d8, hx, hy, pow8, Nat.mul_assoc]
  have e := congrArg (fun t => 2 ^ (8 * i) * t) hz
  simp only [Nat.mul_add] at e
  omega
theorem nsub_end (a b S i c : Nat) (hba : b ≤ a) (ha : a < 2 ^ (8 * i)) (hS : S < 2 ^ (8 * i)) (hE : S + b % 2 ^ (8 * i) = a % 2 ^ (8 * i) + 2 ^ (8 * i) * c) : S = a - b := by
  rw [Nat.mod_eq_of_lt ha, Nat.mod_eq_of_lt (show b < 2 ^ (8 * i) by omega)] at hE
  by_cases h : c = 0
  · rw [h] at hE; omega
  · have : 2 ^ (8 * i) * 1 ≤ 2 ^ (8 * i) * c := Nat.mul_le_mul_left _ (by omega)
    omega

set_option maxHeartbeats 1000000 in
theorem nat_sub (a b : Nat) (s t v : ByteArray) (hs : nbA a = s) (ht : nbA b = t) (hv : nbA (a - b) = v) (hba : b ≤ a) (ha : nl a ≤ 20000) (w : World) :
    Calls Tryd.prog 126 #[.string s, .string t] w fun e w' => e = .returned (.string v) ∧ Below w.heap.size w w' := by
  obtain ⟨L, hL⟩ : ∃ L, nl a = L := ⟨_, rfl⟩
  have hz : s.size = L := by rw [← hs, nbA_size, hL]
  have la := nl_lt a
  have hb := nl_mono b a hba
  rw [hL] at la ha hb
  have LA := box la
  have HBA := box hba
  have HS := box hs
  have HT := box ht
  have HV := box hv
  have NA : Box (nl a ≤ 100000) := box (by omega)
  have NB : Box (nl b ≤ 100000) := box (by omega)
  have hmk := c8_make L (by omega)
  clear hs ht hv hL la hba hb
  go_enter Tryd.func126, Tryd.ntmps126
  go_wp2
  clear hmk
  go_loopw [6, 7] (fun cv iv wr => ∃ (i c S : Nat), i ≤ L ∧ c < 2 ∧ cv = .int .i64 c ∧ iv = .int .i64 i ∧ wr.heap[w.heap.size]? = some (.cells (c8 L S) 5) ∧ Below w.heap.size w wr ∧ Box (S < 2 ^ (8 * i) ∧ S + b % 2 ^ (8 * i) = a % 2 ^ (8 * i) + 2 ^ (8 * i) * c)) (fun _ iv _ => L - (intOf iv).toNat)
  case atStart => exact ⟨0, 0, 0, by omega, by omega, rfl, rfl, heap_alloc_last _ _, (Below.refl _ _).alloc (Nat.le_refl _) _, box ⟨by decide, by simp [Nat.mod_one]⟩⟩
  case round =>
    obtain ⟨i, c, S, hi, hc, rfl, rfl, r0, hbw, HE⟩ := hrel
    by_cases hlt : i < L
    · obtain ⟨x, hx⟩ : ∃ x, d8 a i = x := ⟨_, rfl⟩
      obtain ⟨y, hy2⟩ : ∃ y, d8 b i = y := ⟨_, rfl⟩
      have x256 : x < 256 := by rw [← hx]; exact d8_lt a i
      have y256 : y < 256 := by rw [← hy2]; exact d8_lt b i
      obtain ⟨q, hq⟩ : ∃ q : Int, (x : Int) - (y : Int) - (c : Int) = q := ⟨_, rfl⟩
      obtain ⟨g, hg⟩ : ∃ g, (if x < y + c then 1 else 0) = g := ⟨_, rfl⟩
      obtain ⟨z, hz2⟩ : ∃ z, x + 256 * g - y - c = z := ⟨_, rfl⟩
      have hzz : z + y + c = x + 256 * g ∧ z < 256 ∧ g < 2 := by split at hg <;> omega
      have NE := nsub_step a b S i c x y z g HE.out.2 hx hy2 hzz.1
      have NX : Box (S + 2 ^ (8 * i) * z < 2 ^ (8 * (i + 1)) ∧ S + 2 ^ (8 * i) * z + b % 2 ^ (8 * (i + 1)) = a % 2 ^ (8 * (i + 1)) + 2 ^ (8 * (i + 1)) * g) := box ⟨push8_lt S i z HE.out.1 hzz.2.1, NE⟩
      have n1 : IntKind.i64.wrap ((x : Int) - (y : Int)) = (x : Int) - (y : Int) := wrap_i64_is _ (by omega) (by omega)
      have n3 : IntKind.i64.wrap ((x : Int) - (y : Int) - (c : Int)) = q := by rw [wrap_i64_is _ (by omega) (by omega)]; omega
      have n4 : IntKind.u8.wrap q = (z : Int) := by rw [IntKind.wrap_u8]; omega
      have c1 := c8_cell r0 hlt
      have f0 := fz (k := i) r0
      have z256 := hzz.2.1
      have RS : Box ((wr.setCell ⟨w.heap.size, i, none⟩ (.int .u8 (z : Int))).heap[w.heap.size]? = some (.cells (c8 L (S + 2 ^ (8 * i) * z)) 5)) := box (by rw [setCell_row r0, c8_push L S i z _ hlt HE.out.1 z256 rfl])
      have HX := box hx
      have HY := box hy2
      have dl : decide (i < L) = true := decide_eq_true hlt
      have hcase : (decide (q < 0) = true ∧ g = 1) ∨ (decide (q < 0) = false ∧ g = 0) := by
        rw [decide_eq_true_iff, decide_eq_false_iff_not]
        split at hg <;> omega
      clear hx hy2 hq hz2 hg NE hzz
      rcases hcase with ⟨dq, rfl⟩ | ⟨dq, rfl⟩
      all_goals
        go_wp2_with fail
        refine (nat_at a i x s HS.out HX.out NA.out _).mono ?_
        rintro e w' ⟨rfl, rfl⟩
        go_wp2_with fail
        refine (nat_at b i y t HT.out HY.out NB.out _).mono ?_
        rintro e w' ⟨rfl, rfl⟩
        go_wp2
        go_roundw
        case rel => exact ⟨i + 1, _, _, by omega, (by first | exact (by decide : 1 < 2) | exact (by decide : 0 < 2)), by first | rfl | go_num, by go_num, RS.out, hbw.setCell (Nat.le_refl _) _, NX⟩
        case measure => simp [intOf] <;> omega
    · obtain rfl : i = L := by omega
      have e := nsub_end a b S i c HBA.out LA.out HE.out.1 HE.out.2
      subst e
      have FX := box HE.out.1
      clear HE
      have dl : decide (i < i) = false := by rw [decide_eq_false_iff_not]; omega
      go_wp2_with fail
      refine (nat_fit i (a - b) w.heap.size i v (by omega) FX.out HV.out _ r0).mono ?_
      rintro e w' ⟨rfl, hb2⟩
      go_wp2
      go_ret
      exact ⟨rfl, hbw.trans (hb2.mono hbw.size)⟩

theorem ndbl_step (a o S i c t : Nat) (hE : S + 2 ^ (8 * i) * c = 2 * (a % 2 ^ (8 * i)) + o) (ht : c + 2 * d8 a i = t) :
    S + 2 ^ (8 * i) * (t % 256) + 2 ^ (8 * (i + 1)) * (t / 256) = 2 * (a % 2 ^ (8 * (i + 1))) + o := by
  rw [pow8, carry_step, ← pow8, mod_d8, ← ht, Nat.mul_add, Nat.mul_add 2, Nat.mul_left_comm]
  omega

set_option maxHeartbeats 1000000 in
theorem nat_double (a o : Nat) (s v : ByteArray) (hs : nbA a = s) (ho : o < 2) (hv : nbA (2 * a + o) = v) (ha : nl a ≤ 20000) (w : World) :
    Calls Tryd.prog 124 #[.string s, .int .i64 (o : Nat)] w fun e w' => e = .returned (.string v) ∧ Below w.heap.size w w' := by
  obtain ⟨L, hL⟩ : ∃ L, nl a = L := ⟨_, rfl⟩
  obtain ⟨N, hN⟩ : ∃ N, L + 1 = N := ⟨_, rfl⟩
  have hz : s.size = L := by rw [← hs, nbA_size, hL]
  have la := nl_lt a
  rw [hL] at la ha
  have LA : Box (a < 2 ^ (8 * N)) := box (Nat.lt_of_lt_of_le la (pow8_le _ _ (by omega)))
  have LAB : Box (2 * a + o < 2 ^ (8 * N)) := box (by rw [← hN, pow8]; omega)
  have HS := box hs
  have HV := box hv
  have NA : Box (nl a ≤ 100000) := box (by omega)
  have hmk := c8_makeI N ((L : Int) + 1) (by omega) (by omega)
  clear hs hv hL la
  go_enter Tryd.func124, Tryd.ntmps124
  go_wp2
  clear hmk
  go_loopw [6, 7] (fun cv iv wr => ∃ (i c S : Nat), i ≤ N ∧ c < 2 ∧ cv = .int .i64 c ∧ iv = .int .i64 i ∧ wr.heap[w.heap.size]? = some (.cells (c8 N S) 5) ∧ Below w.heap.size w wr ∧ Box (S < 2 ^ (8 * i) ∧ S + 2 ^ (8 * i) * c = 2 * (a % 2 ^ (8 * i)) + o)) (fun _ iv _ => N - (intOf iv).toNat)
  case atStart => exact ⟨0, o, 0, by omega, ho, rfl, rfl, heap_alloc_last _ _, (Below.refl _ _).alloc (Nat.le_refl _) _, box ⟨by decide, by simp [Nat.mod_one]⟩⟩
  case round =>
    obtain ⟨i, c, S, hi, hc, rfl, rfl, r0, hbw, HE⟩ := hrel
    by_cases hlt : i < N
    · obtain ⟨x, hx⟩ : ∃ x, d8 a i = x := ⟨_, rfl⟩
      have x256 : x < 256 := by rw [← hx]; exact d8_lt a i
      obtain ⟨q, hq⟩ : ∃ q, c + 2 * x = q := ⟨_, rfl⟩
      obtain ⟨z, hz2⟩ : ∃ z, q % 256 = z := ⟨_, rfl⟩
      obtain ⟨g, hg⟩ : ∃ g, q / 256 = g := ⟨_, rfl⟩
      have NE := ndbl_step a o S i c q HE.out.2 (by rw [hx]; exact hq)
      rw [hz2, hg] at NE
      have z256 : z < 256 := by omega
      have NX : Box (S + 2 ^ (8 * i) * z < 2 ^ (8 * (i + 1)) ∧ S + 2 ^ (8 * i) * z + 2 ^ (8 * (i + 1)) * g = 2 * (a % 2 ^ (8 * (i + 1))) + o) := box ⟨push8_lt S i z HE.out.1 z256, NE⟩
      have g2 : g < 2 := by omega
      have n1 : IntKind.i64.wrap (2 * (x : Int)) = 2 * (x : Int) := wrap_i64_is _ (by omega) (by omega)
      have n3 : IntKind.i64.wrap ((c : Int) + 2 * (x : Int)) = (q : Int) := by rw [wrap_i64_is _ (by omega) (by omega)]; omega
      have n4 := wrap_u8_is q z hz2
      have n5 : (q : Int) / 256 = (g : Int) := by omega
      have c1 := c8_cell r0 hlt
      have f0 := fz (k := i) r0
      have RS : Box ((wr.setCell ⟨w.heap.size, i, none⟩ (.int .u8 (z : Int))).heap[w.heap.size]? = some (.cells (c8 N (S + 2 ^ (8 * i) * z)) 5)) := box (by rw [setCell_row r0, c8_push N S i z _ hlt HE.out.1 z256 rfl])
      have HX := box hx
      have dl : decide (i ≤ L) = true := by rw [decide_eq_true_iff]; omega
      clear hx hq hz2 hg NE
      go_wp2_with fail
      refine (nat_at a i x s HS.out HX.out NA.out _).mono ?_
      rintro e w' ⟨rfl, rfl⟩
      go_wp2
      go_roundw
      case rel => exact ⟨i + 1, g, _, by omega, g2, by first | rfl | go_num, by go_num, RS.out, hbw.setCell (Nat.le_refl _) _, NX⟩
      case measure => simp [intOf] <;> omega
    · obtain rfl : i = N := by omega
      have e : S = 2 * a + o := by
        have h := HE.out.2
        rw [Nat.mod_eq_of_lt LA.out] at h
        have h2 := LAB.out
        by_cases hc0 : c = 0
        · rw [hc0] at h; omega
        · have : 2 ^ (8 * i) * 1 ≤ 2 ^ (8 * i) * c := Nat.mul_le_mul_left _ (by omega)
          omega
      subst e
      have FX := box HE.out.1
      clear HE
      have dl : decide (i ≤ L) = false := by rw [decide_eq_false_iff_not]; omega
      go_wp2_with fail
      refine (nat_fit i (2 * a + o) w.heap.size i v (by omega) FX.out HV.out _ r0).mono ?_
      rintro e w' ⟨rfl, hb2⟩
      go_wp2
      go_ret
      exact ⟨rfl, hbw.trans (hb2.mono hbw.size)⟩

theorem nat_bit (a i : Nat) (s : ByteArray) (o : Nat) (hs : nbA a = s) (ho : (a.testBit i).toNat = o) (ha : nl a ≤ 100000) (hi : i ≤ 10000000) (w : World) :
    Calls Tryd.prog 125 #[.string s, .int .i64 (i : Nat)] w fun e w' => e = .returned (.int .i64 (o : Nat)) ∧ w' = w := by
  obtain ⟨q, hq⟩ : ∃ q, q = i / 8 := ⟨_, rfl⟩
  obtain ⟨r, hr⟩ : ∃ r, r = i % 8 := ⟨_, rfl⟩
  have q1 : (i : Int) / 8 = (q : Int) := by omega
  have r1 : (i : Int) % 8 = (r : Int) := by omega
  have r8 : r < 8 := by omega
  obtain ⟨x, hx⟩ : ∃ x, d8 a q = x := ⟨_, rfl⟩
  have x256 : x < 256 := by rw [← hx]; exact d8_lt a q
  have e : x / 2 ^ r % 2 = o := by rw [← ho, ← hx, hq, hr, bit_of_d8, testBit_toNat]
  have hb : bits .and .i64 ((x : Int) / 2 ^ r) 1 = (o : Int) := by
    obtain ⟨y, hy⟩ : ∃ y, x / 2 ^ r = y := ⟨_, rfl⟩
    have e2 : (x : Int) / 2 ^ r = (y : Int) := by rw [← hy]; exact div_cast x r
    have y256 : y < 256 := by rw [← hy]; exact Nat.lt_of_le_of_lt (Nat.div_le_self _ _) x256
    rw [e2]
    show IntKind.i64.wrap ((BitVec.ofInt 64 (y : Int) &&& BitVec.ofInt 64 1).toNat : Int) = _
    have h1 : (BitVec.ofInt 64 1).toNat = 2 ^ 1 - 1 := by decide
    have h2 : (BitVec.ofInt 64 (y : Int)).toNat = y := by simp; omega
    rw [BitVec.toNat_and, h1, Nat.and_two_pow_sub_one_eq_mod, h2, wrap_i64_is _ (by omega) (by omega), ← e, hy]
  have HX := box hx
  clear hq hr hx e ho
  go_enter Tryd.func125, Tryd.ntmps125
  go_wp2_with fail
  refine (nat_at a q x s hs HX.out ha _).mono ?_
  rintro e w' ⟨rfl, rfl⟩
  go_wp2
  go_ret
  exact ⟨rfl, rfl⟩
def lg (x : Nat) : ByteArray × Int := if nl x ≤ 16384 then (nbA x, 0) else (⟨#[]⟩, 4)
def sb (a b : Nat) : ByteArray × Int := if a < b then (⟨#[]⟩, 2) else (nbA (a - b), 0)

theorem nat_long (x : Nat) (s v : ByteArray) (e : Int) (hs : nbA x = s) (hr : lg x = (v, e)) (w : World) :
    Calls Tryd.prog 127 #[.string s] w fun r w' => r = .returned (.tuple #[.string v, .int .i64 e]) ∧ w' = w := by
  have hz : s.size = nl x := by rw [← hs, nbA_size]
  unfold lg at hr
  by_cases h : nl x ≤ 16384
  · rw [if_pos h] at hr
    injection hr with h1 h2
    subst h2
    rw [← h1, hs]
    exact nat_long_ok s (by omega) w
  · rw [if_neg h] at hr
    injection hr with h1 h2
    subst h2 h1
    exact nat_long_no s (by omega) w

theorem blen_nl (n L x : Nat) (h : n ≠ 0) (hL : nl n = L) (hx : d8 n (L - 1) = x) : 8 * (L - 1) + blen x = blen n := by
  have hp := nl_pos n h
  have ht := nl_top n h
  have hl := nl_lt n
  rw [hL] at hp ht hl
  rw [hx] at ht
  obtain ⟨k, rfl⟩ : ∃ k, L = k + 1 := ⟨L - 1, by omega⟩
  rw [Nat.add_sub_cancel] at hx ⊢
  have e := mod_d8 n k
  rw [Nat.mod_eq_of_lt hl, hx] at e
  rw [e, blen_push _ _ _ (Nat.mod_lt _ (Nat.two_pow_pos _)) ht]

theorem nat_Len (n l : Nat) (s : ByteArray) (hs : nbA n = s) (h : nl n ≤ 16384) (hl : blen n = l) (w : World) :
    Calls Tryd.prog 123 #[.string s] w fun r w' => r = .returned (.int .i64 (l : Nat)) ∧ w' = w := by
  obtain ⟨L, hL⟩ : ∃ L, nl n = L := ⟨_, rfl⟩
  have hz : s.size = L := by rw [← hs, nbA_size, hL]
  have hm : mayB s = true := by rw [← hs]; exact mayB_nb n h
  have HM := box hm
  have d2 := eq_empty s
  rw [hL] at h
  by_cases h0 : n = 0
  · have e : l = 0 := by rw [← hl, h0]; rfl
    have e2 : L = 0 := by rw [← hL, h0]; exact nl_zero
    subst e
    rw [decide_eq_true (by omega)] at d2
    clear hs hl hL hm h0
    go_enter Tryd.func123, Tryd.ntmps123
    go_wp2_with fail
    refine (nat_may s true HM.out _).mono ?_
    rintro r w' ⟨rfl, rfl⟩
    go_wp2
    go_ret
    exact ⟨rfl, rfl⟩
  · have hp := nl_pos n h0
    rw [hL] at hp
    rw [decide_eq_false (by omega)] at d2
    have hp2 : 0 < s.size := by omega
    obtain ⟨x, hx⟩ : ∃ x, (s[0]'hp2).toNat = x := ⟨_, rfl⟩
    have hxd : d8 n (L - 1) = x := by
      rw [← hx]
      subst hs
      rw [nbA_get, hL]
      rfl
    have x256 : x < 256 := by rw [← hxd]; exact d8_lt _ _
    have hb := blen_nl n L x h0 hL hxd
    obtain ⟨y, hy⟩ : ∃ y, blen x = y := ⟨_, rfl⟩
    rw [hy, hl] at hb
    have y8 : y ≤ 8 := by rw [← hy]; exact blen_le_of x 8 (by rw [← two8]; exact x256)
    have HY := box hy
    have hi := idx_run s 0 0 x rfl hp2 hx
    have n1 : IntKind.i64.wrap ((L : Int) - 1) = (L : Int) - 1 := wrap_i64_is _ (by omega) (by omega)
    have n2 : IntKind.i64.wrap (8 * ((L : Int) - 1)) = 8 * ((L : Int) - 1) := wrap_i64_is _ (by omega) (by omega)
    have n3 : IntKind.i64.wrap (8 * ((L : Int) - 1) + (y : Int)) = (l : Int) := by rw [wrap_i64_is _ (by omega) (by omega)]; omega
    have n4 : IntKind.u64.wrap (x : Int) = (x : Int) := by rw [IntKind.wrap_u64]; omega
    have X64 : Box (x < 18446744073709551616) := box (by omega)
    clear hs hl hL hm h0 hxd hb hy hx
    go_enter Tryd.func123, Tryd.ntmps123
    go_wp2_with fail
    refine (nat_may s true HM.out _).mono ?_
    rintro r w' ⟨rfl, rfl⟩
    go_wp2_with fail
    refine (rlen_is x y X64.out HY.out _).mono ?_
    rintro r w' ⟨rfl, rfl⟩
    go_wp2
    go_ret
    exact ⟨rfl, rfl⟩

def LowB (n t : Nat) : Prop := n % 2 ^ t = 0 ∧ n.testBit t = true
theorem lowB_one (n s t : Nat) (h : LowB n s) (g : LowB n t) : s = t := by
  have hlt : ∀ a b, LowB n a → LowB n b → ¬ a < b := by
    intro a b ha hb hab
    have h1 := Nat.testBit_mod_two_pow n b a
    rw [hb.1, ha.2] at h1
    simp [hab] at h1
  have h1 := hlt s t h g
  have h2 := hlt t s g h
  omega
theorem lowB_ex : ∀ (k n : Nat), n ≠ 0 → n < 2 ^ k → ∃ t, t < k ∧ LowB n t
  | 0, n, h, hn => by rw [Nat.pow_zero] at hn; omega
  | k + 1, n, h, hn => by
    by_cases h2 : n % 2 = 0
    · obtain ⟨t, h3, h4, h5⟩ := lowB_ex k (n / 2) (by omega) (by rw [Nat.pow_succ] at hn; omega)
      refine ⟨t + 1, by omega, ?_, ?_⟩
      · rw [Nat.pow_succ, Nat.mul_comm, Nat.mod_mul, h2, h4]
      · rw [Nat.testBit_succ]; exact h5
    · exact ⟨0, by omega, by rw [Nat.pow_zero, Nat.mod_one], by rw [Nat.testBit_zero]; simp; omega⟩
theorem lowB_any (n : Nat) (h : n ≠ 0) : ∃ t, LowB n t := by
  obtain ⟨t, _, ht⟩ := lowB_ex _ n h (blen_lt n)
  exact ⟨t, ht⟩
theorem lowB_d8 (n i r : Nat) (h0 : n % 2 ^ (8 * i) = 0) (h : LowB (d8 n i) r) (hr : r < 8) : LowB n (8 * i + r) := by
  have hb := d8_bit n i r
  refine ⟨?_, ?_⟩
  · rw [Nat.pow_add, Nat.mod_mul, h0, Nat.zero_add]
    have h1 := h.1
    unfold d8 at h1
    rw [two8, Nat.mod_mod_of_dvd _ (Nat.pow_dvd_pow 2 (by omega : r ≤ 8))] at h1
    rw [h1, Nat.mul_zero]
  · rw [h.2, decide_eq_true hr, Bool.true_and] at hb
    exact hb.symm

def LowN (n t : Nat) : Prop := (n = 0 ∧ t = 0) ∨ (n ≠ 0 ∧ LowB n t)
theorem nat_Low (n t : Nat) (s : ByteArray) (hs : nbA n = s) (h : nl n ≤ 16384) (ht : LowN n t) (w : World) :
    Calls Tryd.prog 86 #[.string s] w fun r w' => r = .returned (.int .i64 (t : Nat)) ∧ w' = w := by
  obtain ⟨L, hL⟩ : ∃ L, nl n = L := ⟨_, rfl⟩
  have hz : s.size = L := by rw [← hs, nbA_size, hL]
  have hm : mayB s = true := by rw [← hs]; exact mayB_nb n h
  have HM := box hm
  rw [hL] at h
  have HS := box hs
  have HT := box ht
  have HL := box hL
  have NA : Box (nl n ≤ 100000) := box (by omega)
  clear hs hL hm ht
  go_enter Tryd.func86, Tryd.ntmps86
  go_wp2_with fail
  refine (nat_may s true HM.out _).mono ?_
  rintro r w' ⟨rfl, rfl⟩
  go_wp2
  go_loop [3] (fun iv => ∃ i : Nat, i ≤ L ∧ iv = .int .i64 i ∧ Box (n % 2 ^ (8 * i) = 0)) (fun iv => L - (intOf iv).toNat)
  case atStart => exact ⟨0, by omega, rfl, box (by rw [Nat.mul_zero, Nat.pow_zero, Nat.mod_one])⟩
  case round =>
    obtain ⟨i, hi, rfl, HE⟩ := hrel
    by_cases hlt : i < L
    · obtain ⟨x, hx⟩ : ∃ x, d8 n i = x := ⟨_, rfl⟩
      have x256 : x < 256 := by rw [← hx]; exact d8_lt _ _
      have dl : decide (i < L) = true := decide_eq_true hlt
      have HX := box hx
      by_cases h0 : x = 0
      · have y : ((x : Int) != 0) = false := by rw [h0]; rfl
        have NX : Box (n % 2 ^ (8 * (i + 1)) = 0) := box (by rw [mod_d8, HE.out, hx, h0, Nat.mul_zero])
        clear hx h0
        go_wp2_with fail
        refine (nat_at n i x s HS.out HX.out NA.out _).mono ?_
        rintro r w' ⟨rfl, rfl⟩
        go_wp2
        go_round
        case rel => exact ⟨i + 1, by omega, by go_num, NX⟩
        case measure => simp [intOf] <;> omega
      · have y : ((x : Int) != 0) = true := by simp; omega
        obtain ⟨r, hr8, hr⟩ := lowB_ex 8 x h0 (by rw [← two8]; exact x256)
        have LI : Box (LowIs x r) := box ⟨by omega, hr.1, hr.2⟩
        have e : 8 * i + r = t := by
          have h1 := lowB_d8 n i r HE.out (by rw [hx]; exact hr) hr8
          rcases HT.out with ⟨h2, h3⟩ | ⟨h2, h3⟩
          · exact absurd (show x = 0 by rw [← hx, h2, d8_zero]) h0
          · exact lowB_one n _ _ h1 h3
        have n2 : IntKind.i64.wrap (8 * (i : Int)) = 8 * (i : Int) := wrap_i64_is _ (by omega) (by omega)
        have n3 : IntKind.i64.wrap (8 * (i : Int) + (r : Int)) = (t : Int) := by rw [wrap_i64_is _ (by omega) (by omega)]; omega
        have n4 : IntKind.u64.wrap (x : Int) = (x : Int) := by rw [IntKind.wrap_u64]; omega
        have X64 : Box (x < 18446744073709551616) := box (by omega)
        clear hx hr e h0
        go_wp2_with fail
        refine (nat_at n i x s HS.out HX.out NA.out _).mono ?_
        rintro r w' ⟨rfl, rfl⟩
        go_wp2_with fail
        refine (nat_at n i x s HS.out HX.out NA.out _).mono ?_
        rintro r w' ⟨rfl, rfl⟩
        go_wp2_with fail
        refine (rlow_any x r X64.out LI.out _).mono ?_
        rintro r w' ⟨rfl, rfl⟩
        go_wp2
        go_ret
        exact ⟨rfl, rfl⟩
    · obtain rfl : i = L := by omega
      have e : t = 0 := by
        have h1 := HE.out
        rw [Nat.mod_eq_of_lt (by rw [← HL.out]; exact nl_lt n)] at h1
        rcases HT.out with ⟨h2, h3⟩ | ⟨h2, h3⟩
        · exact h3
        · exact absurd h1 h2
      subst e
      have dl : decide (i < i) = false := by rw [decide_eq_false_iff_not]; omega
      go_wp2
      go_ret
      exact ⟨rfl, rfl⟩

theorem d8_wd (n i q r : Nat) (hq : q = i / 8) (hr : r = 8 * (i % 8)) : wd n q / 2 ^ r % 256 = d8 n i := by
  rw [two8, field_num n q r 8 (8 * i) (by omega) (by omega)]
  unfold d8
  rw [two8]
theorem Q48 : ∃ L, L = 48 ∧ Q = 2 ^ (8 * L) := by
  obtain ⟨L, hL, hQ⟩ := Q_of
  exact ⟨8 * L, by omega, by rw [hQ]; congr 1; omega⟩

set_option maxHeartbeats 1000000 in
set_option maxRecDepth 100000 in
theorem nat_OfWide (n : Nat) (v : ByteArray) (hn : n < Q) (hv : nbA n = v) (w : World) :
    Calls Tryd.prog 55 #[.agg (cw 6 n)] w fun r w' => r = .returned (.string v) ∧ Below w.heap.size w w' := by
  obtain ⟨K, hK, hQ⟩ := Q48
  rw [hQ] at hn
  have hat := cw_at 6
  have hmk := c8_makeI K 48 (by omega) (by omega)
  have HV := box hv
  have HN := box hn
  have k1 : K ≤ 48 := by omega
  have k2 : 48 ≤ K := by omega
  clear hv hn hQ hK
  go_enter Tryd.func55, Tryd.ntmps55
  go_wp2
  clear hmk
  go_loopw [4] (fun iv wr => ∃ i : Nat, i ≤ K ∧ iv = .int .i64 i ∧ wr.heap[w.heap.size]? = some (.cells (cw 6 n) 72) ∧ wr.heap[w.heap.size + 1]? = some (.cells (c8 K (n % 2 ^ (8 * i))) 5) ∧ Below w.heap.size w wr) (fun iv _ => K - (intOf iv).toNat)
  case atStart =>
    refine ⟨0, by omega, rfl, ?_, ?_, ((Below.refl _ _).alloc (Nat.le_refl _) _).alloc (by simp) _⟩
    · rw [heap_below _ _ _ (by simp)]; exact heap_alloc_last _ _
    · rw [Nat.mul_zero, Nat.pow_zero, Nat.mod_one, ← size_al w (.cells (cw 6 n) 72)]; exact heap_alloc_last _ _
  case round =>
    obtain ⟨i, hi, rfl, r0, r1, hbw⟩ := hrel
    by_cases hlt : i < K
    · obtain ⟨q, hq⟩ : ∃ q, q = i / 8 := ⟨_, rfl⟩
      obtain ⟨r, hr⟩ : ∃ r, r = 8 * (i % 8) := ⟨_, rfl⟩
      obtain ⟨z, hz⟩ : ∃ z, d8 n i = z := ⟨_, rfl⟩
      have z256 : z < 256 := by rw [← hz]; exact d8_lt n i
      have q1 : (i : Int) / 8 = (q : Int) := by omega
      have r1' : 8 * ((i : Int) % 8) = (r : Int) := by omega
      have q6 : q < 6 := by omega
      have r64 : r < 64 := by omega
      have n4 : IntKind.u8.wrap ((wd n q : Int) / 2 ^ r) = (z : Int) := by
        rw [div_cast]
        exact wrap_u8_is _ z (by rw [← hz]; exact d8_wd n i q r hq hr)
      have c0 := row_cell r0 q q6
      have c1 := c8_cell r1 hlt
      have f0 := fz (k := i) r1
      have RS : Box ((wr.setCell ⟨w.heap.size + 1, i, none⟩ (.int .u8 (z : Int))).heap[w.heap.size + 1]? = some (.cells (c8 K (n % 2 ^ (8 * (i + 1)))) 5)) := box (by rw [setCell_row r1, c8_push K _ i z _ hlt (Nat.mod_lt _ (Nat.two_pow_pos _)) z256 rfl, mod_d8, hz])
      have dl : decide ((i : Int) < 48) = true := by rw [decide_eq_true_iff]; omega
      clear hr hz hq
      go_wp2
      go_roundw
      case rel => exact ⟨i + 1, by omega, by go_num, (setCell_other (w := wr) (by omega)).trans r0, RS.out, hbw.setCell (by show w.heap.size ≤ w.heap.size + 1; omega) _⟩
      case measure => simp [intOf] <;> omega
    · obtain rfl : i = K := by omega
      rw [Nat.mod_eq_of_lt HN.out] at r1
      have dl : decide ((i : Int) < 48) = false := by rw [decide_eq_false_iff_not]; omega
      go_wp2_with fail
      refine (nat_fit i n (w.heap.size + 1) i v (by omega) HN.out HV.out _ r1).mono ?_
      rintro e w' ⟨rfl, hb2⟩
      go_wp2
      go_ret
      exact ⟨rfl, hbw.trans (hb2.mono hbw.size)⟩

end Go.Proofs.YtmndjhcmomejjaaDoor
