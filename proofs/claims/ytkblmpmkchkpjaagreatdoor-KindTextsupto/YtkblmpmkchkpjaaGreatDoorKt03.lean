/-
  What the functions that the statement reaches return: part 3 (Rwide2, Rwide4, Rwide5, Wide12, Frame6, FrameB, Rlen, Jmath, Nat3, List0, List2, List6, Dmath, List16, Xmath).
-/
import Derived.RegionTactic
import Derived.Test.YtkblmpmkchkpjaaGreatDoorRows
import Derived.WalkKit
import Derived.ProofKit
import Derived.OpenShut
import Derived.Laws.IdiomArrays
import Derived.Below
import Derived.Carry
import Derived.Lib.BitFns
import Derived.Deep.RegionWith
import Derived.Laws.Cover1
import Derived.Test.YtkblmpmkchkpjaaGreatDoorKt02
namespace Go.Proofs.YtkblmpmkchkpjaaGreatDoor
set_option maxRecDepth 100000
set_option maxHeartbeats 40000000
open Go.RowKit WMath
theorem rwcount_any (n : Int) (w : World) :
  Calls Tryz.prog 175 #[.int .i64 n] w fun e w' => e = .returned (.int .i64 (xS n : Nat)) ∧ w' = w := by
 go_enter Tryz.func175, Tryz.ntmps175
 go_wp2
 all_goals go_ret
 all_goals
  refine ⟨yU ?_, rfl⟩
  unfold xS
  omega

theorem rwbit_any (n i : Nat) (hi : i < 384) (w : World) :
  Calls Tryz.prog 171 #[.agg (cw 6 n), .int .i64 i] w fun e w' => e = .returned (.bool (n.testBit i)) ∧ Below w.heap.size w w' := by
 have hat := zU 6
 obtain ⟨q, hq⟩ : ∃ q, q = i / 64 := ⟨_, rfl⟩
 obtain ⟨r, hr⟩ : ∃ r, r = i % 64 := ⟨_, rfl⟩
 have Aa : (i : Int) / 64 = (q : Int) := by omega
 have hr1 : (i : Int) % 64 = (r : Int) := by omega
 have Ab : q < 6 := by omega
 have hr2 : r < 64 := by omega
 have hi1 : decide ((i : Int) < 384) = true := by simp; omega
 have hi0 : decide ((0 : Int) ≤ (i : Int)) = true := by simp
 have HB := zK (bit_of_wd n i)
 rw [← hq, ← hr] at HB
 clear hq hr
 go_enter Tryz.func171, Tryz.ntmps171
 go_wp2_with (go_at_call 241; refine (bit_any (wd n q) r (yH _ _) hr2 _).mono ?_; rintro e w' ⟨rfl, rfl⟩)
 go_ret
 exact ⟨by rw [HB.out]; rfl, (Below.refl _ _).alloc (Nat.le_refl _) _⟩

theorem rwleft_is (n v : Nat) (s : Int) (o : Bool) (hn : n < Q) (hv : n * 2 ^ xS s % Q = v) (ho : decide (Q ≤ n * 2 ^ xS s) = o) (w : World) :
  Calls Tryz.prog 89 #[.agg (cw 6 n), .int .i64 s] w fun e w' => e = .returned (.tuple #[.agg (cw 6 v), .bool o]) ∧ Below w.heap.size w w' := by
 obtain ⟨c, hc⟩ : ∃ c, c = xS s := ⟨_, rfl⟩
 have Aa : c ≤ 384 := by rw [hc]; unfold xS; omega
 rw [← hc] at hv ho
 have HV := zK hv
 have HW := zK ho
 have HC := zK hc
 clear hv ho hc
 have hat := zU 6
 have hz := yB
 have hf := z8
 go_enter Tryz.func89, Tryz.ntmps89
 go_wp2_with fail
 refine (rwcount_any _ _).mono ?_
 rw [← HC.out]
 rintro e w' ⟨rfl, rfl⟩
 go_wp2
 go_loopw [7, 8] (fun lv iv wr => ∃ (i B : Nat) (l : Bool), i ≤ 384 ∧ iv = .int .i64 i ∧ lv = .bool l ∧ wr.heap[w.heap.size]? = some (.cells (cw 6 n) 66) ∧ wr.heap[w.heap.size + 1]? = some (.cells (cw 6 0) 66) ∧ wr.heap[w.heap.size + 1 + 1]? = some (.cells (cw 6 B) 66) ∧ Below w.heap.size w wr ∧ zP (B = (n % 2 ^ i) * 2 ^ c % Q) ∧ zP (l = decide (Q ≤ (n % 2 ^ i) * 2 ^ c))) (fun _ i _ => 384 - (intOf i).toNat)
 case atStart =>
  refine ⟨0, 0, false, by omega, rfl, rfl, ?_, ?_, ?_, ?_, zK (by simp [Nat.mod_one]), zK ?_⟩
  ·
   rw [z6 _ _ _ (by simp only [zT]; omega), z6 _ _ _ (by simp only [zT]; omega)]
   exact heap_alloc_last _ _
  ·
   rw [z6 _ _ _ (by simp only [zT]; omega)]
   have := heap_alloc_last (w.alloc (.cells (cw 6 n) 66)) (.cells (cw 6 0) 66)
   simpa only [zT] using this
  ·
   have := heap_alloc_last ((w.alloc (.cells (cw 6 n) 66)).alloc (.cells (cw 6 0) 66)) (.cells (cw 6 0) 66)
   simpa only [zT] using this
  ·
   exact (((Below.refl _ _).alloc (Nat.le_refl _) _).alloc (by simp only [zT]; omega) _).alloc (by simp only [zT]; omega) _
  ·
   have := Q_pos
   symm
   rw [decide_eq_false_iff_not]
   simp [Nat.mod_one]
   omega
 case round =>
  obtain ⟨i, B, l, hi, rfl, rfl, r0, r1, r2, hbw, HB, HL⟩ := hrel
  by_cases hlt : i < 384
  ·
   have c0 := zE r0
   go_wp2_with fail
   refine (rwbit_any n i hlt _).mono ?_
   cases hbit : n.testBit i
   ·
    rintro e w2 ⟨rfl, hb2⟩
    have HB0 := zK (left_bit0 n i hbit)
    go_wp2
    go_roundw
    case rel => exact ⟨i + 1, B, l, by omega, by go_num, rfl, zA hb2 _ _ _ r0, zA hb2 _ _ _ r1, zA hb2 _ _ _ r2, hbw.trans (hb2.mono hbw.size), zK (by rw [HB0.out]; exact HB.out), zK (by rw [HB0.out]; exact HL.out)⟩
    case measure => simp [intOf] <;> omega
   ·
    rintro e w2 ⟨rfl, hb2⟩
    have q0 := zA hb2 _ _ _ r0
    have q1 := zA hb2 _ _ _ r1
    have q2 := zA hb2 _ _ _ r2
    have bw2 := hbw.trans (hb2.mono hbw.size)
    have sz : w.heap.size + 1 + 1 < w2.heap.size := (Array.getElem?_eq_some_iff.1 q2).1
    clear hb2 r0 r1 r2 hbw c0
    by_cases hin : i + c < 384
    ·
     obtain ⟨t, ht⟩ : ∃ t, t = i + c := ⟨i + c, by omega⟩
     obtain ⟨q, hq⟩ : ∃ q, q = t / 64 := ⟨_, rfl⟩
     obtain ⟨r, hr⟩ : ∃ r, r = t % 64 := ⟨_, rfl⟩
     have t1 : (i : Int) + (c : Int) = (t : Int) := by omega
     have t2 : (t : Int) / 64 = (q : Int) := by omega
     have t3 : (t : Int) % 64 = (r : Int) := by omega
     have t4 : q < 6 := by omega
     have t5 : r < 64 := by omega
     have t6 : t < 384 := by omega
     have ST := zK (left_in n i c t q r B hbit ht (by omega) (by omega) HB.out)
     obtain ⟨x, hx⟩ : ∃ x, x = 2 ^ r := ⟨_, rfl⟩
     have x1 : x < 18446744073709551616 := by rw [hx]; exact v_word r t5
     have x2 : IntKind.u64.wrap ((2 : Int) ^ r) = (x : Int) := by rw [pow_cast, wrap_nat _ (v_word r t5), hx]
     have x3 := bor B q x x1
     have HX := zK hx
     have C2 := zE q2 q t4
     have F2 := fz (k := q) q2
     have HT := zK ht
     clear hx ht hq hr
     go_wp2
     go_roundw
     case rel => exact ⟨i + 1, B ||| x * 2 ^ (64 * q), l, by omega, by go_num, rfl, by rw [zB (by omega)]; exact q0, by rw [zB (by omega)]; exact q1, by rw [yC q2, cw_or 6 B q x _ t4 x1 rfl], bw2.setCell (by show w.heap.size ≤ w.heap.size + 1 + 1; omega) _, zK (by rw [ST.out.1, HX.out]), zK (by rw [HL.out]; rw [decide_eq_false ST.out.2.1, decide_eq_false ST.out.2.2])⟩
     case measure => simp [intOf] <;> omega
    ·
     have ST := zK (left_out n i c (i + c) B hbit rfl (by omega) HB.out)
     go_wp2
     go_roundw
     case rel => exact ⟨i + 1, B, true, by omega, by go_num, rfl, q0, q1, q2, bw2, zK ST.out.1.symm, zK (by rw [decide_eq_true ST.out.2])⟩
     case measure => simp [intOf] <;> omega
  ·
   have c2 := zE r2
   have hs : (storeCells ⟨w.heap.size + 1, 0, none⟩ (cw 6 B).toList 0).run Tryz.prog wr = .ok () (wr.setRow (w.heap.size + 1) (cw 6 B)) := yW wr _ B 0 r1
   have e1 := HB.out
   have e2 := HL.out
   rw [mod384 n i hn (by omega)] at e1 e2
   rw [HV.out] at e1
   rw [HW.out] at e2
   subst e1
   subst e2
   have z1 : (wr.setRow (w.heap.size + 1) (cw 6 B)).heap[w.heap.size + 1]? = some (.cells (cw 6 B) 66) := zO r1
   have c3 := zE z1
   have bz : Below w.heap.size w (wr.setRow (w.heap.size + 1) (cw 6 B)) := Below.setRow hbw (by omega)
   go_wp2
   exact bodyPost_ret (v := .tuple #[.agg (cw 6 B), .bool l]) (by simp [results, Tryz.results89, go_sem, c3, hf]) rfl ⟨rfl, bz⟩

theorem rwright_is (n v : Nat) (s : Int) (o : Bool) (hn : n < Q) (hv : n / 2 ^ xS s = v) (ho : decide (n % 2 ^ xS s ≠ 0) = o) (w : World) :
  Calls Tryz.prog 174 #[.agg (cw 6 n), .int .i64 s] w fun e w' => e = .returned (.tuple #[.agg (cw 6 v), .bool o]) ∧ Below w.heap.size w w' := by
 obtain ⟨c, hc⟩ : ∃ c, c = xS s := ⟨_, rfl⟩
 have Aa : c ≤ 384 := by rw [hc]; unfold xS; omega
 rw [← hc] at hv ho
 have HV := zK hv
 have HW := zK ho
 have HC := zK hc
 clear hv ho hc
 have hat := zU 6
 have hz := yB
 have hf := z8
 go_enter Tryz.func174, Tryz.ntmps174
 go_wp2_with fail
 refine (rwcount_any _ _).mono ?_
 rw [← HC.out]
 rintro e w' ⟨rfl, rfl⟩
 go_wp2
 go_loopw [7, 8] (fun lv iv wr => ∃ (i B : Nat) (l : Bool), i ≤ 384 ∧ iv = .int .i64 i ∧ lv = .bool l ∧ wr.heap[w.heap.size]? = some (.cells (cw 6 n) 66) ∧ wr.heap[w.heap.size + 1]? = some (.cells (cw 6 0) 66) ∧ wr.heap[w.heap.size + 1 + 1]? = some (.cells (cw 6 B) 66) ∧ Below w.heap.size w wr ∧ zP (B = (n % 2 ^ i) / 2 ^ c) ∧ zP (l = decide ((n % 2 ^ i) % 2 ^ c ≠ 0))) (fun _ i _ => 384 - (intOf i).toNat)
 case atStart =>
  refine ⟨0, 0, false, by omega, rfl, rfl, ?_, ?_, ?_, ?_, zK (by simp [Nat.mod_one]), zK ?_⟩
  ·
   rw [z6 _ _ _ (by simp only [zT]; omega), z6 _ _ _ (by simp only [zT]; omega)]
   exact heap_alloc_last _ _
  ·
   rw [z6 _ _ _ (by simp only [zT]; omega)]
   have := heap_alloc_last (w.alloc (.cells (cw 6 n) 66)) (.cells (cw 6 0) 66)
   simpa only [zT] using this
  ·
   have := heap_alloc_last ((w.alloc (.cells (cw 6 n) 66)).alloc (.cells (cw 6 0) 66)) (.cells (cw 6 0) 66)
   simpa only [zT] using this
  ·
   exact (((Below.refl _ _).alloc (Nat.le_refl _) _).alloc (by simp only [zT]; omega) _).alloc (by simp only [zT]; omega) _
  ·
   have := Q_pos
   symm
   rw [decide_eq_false_iff_not]
   simp [Nat.mod_one]
 case round =>
  obtain ⟨i, B, l, hi, rfl, rfl, r0, r1, r2, hbw, HB, HL⟩ := hrel
  by_cases hlt : i < 384
  ·
   have c0 := zE r0
   go_wp2_with fail
   refine (rwbit_any n i hlt _).mono ?_
   cases hbit : n.testBit i
   ·
    rintro e w2 ⟨rfl, hb2⟩
    have HB0 := zK (left_bit0 n i hbit)
    go_wp2
    go_roundw
    case rel => exact ⟨i + 1, B, l, by omega, by go_num, rfl, zA hb2 _ _ _ r0, zA hb2 _ _ _ r1, zA hb2 _ _ _ r2, hbw.trans (hb2.mono hbw.size), zK (by rw [HB0.out]; exact HB.out), zK (by rw [HB0.out]; exact HL.out)⟩
    case measure => simp [intOf] <;> omega
   ·
    rintro e w2 ⟨rfl, hb2⟩
    have q0 := zA hb2 _ _ _ r0
    have q1 := zA hb2 _ _ _ r1
    have q2 := zA hb2 _ _ _ r2
    have bw2 := hbw.trans (hb2.mono hbw.size)
    have sz : w.heap.size + 1 + 1 < w2.heap.size := (Array.getElem?_eq_some_iff.1 q2).1
    clear hb2 r0 r1 r2 hbw c0
    by_cases hin : c ≤ i
    ·
     obtain ⟨t, ht⟩ : ∃ t, i = t + c := ⟨i - c, by omega⟩
     obtain ⟨q, hq⟩ : ∃ q, q = t / 64 := ⟨_, rfl⟩
     obtain ⟨r, hr⟩ : ∃ r, r = t % 64 := ⟨_, rfl⟩
     have t1 : (i : Int) - (c : Int) = (t : Int) := by omega
     have t2 : (t : Int) / 64 = (q : Int) := by omega
     have t3 : (t : Int) % 64 = (r : Int) := by omega
     have t4 : q < 6 := by omega
     have t5 : r < 64 := by omega
     have ST := zK (right_in n i c t q r B hbit ht (by omega) HB.out)
     obtain ⟨x, hx⟩ : ∃ x, x = 2 ^ r := ⟨_, rfl⟩
     have x1 : x < 18446744073709551616 := by rw [hx]; exact v_word r t5
     have x2 : IntKind.u64.wrap ((2 : Int) ^ r) = (x : Int) := by rw [pow_cast, wrap_nat _ (v_word r t5), hx]
     have x3 := bor B q x x1
     have HX := zK hx
     have C2 := zE q2 q t4
     have F2 := fz (k := q) q2
     have HT := zK ht
     clear hx ht hq hr
     go_wp2
     go_roundw
     case rel => exact ⟨i + 1, B ||| x * 2 ^ (64 * q), l, by omega, by go_num, rfl, by rw [zB (by omega)]; exact q0, by rw [zB (by omega)]; exact q1, by rw [yC q2, cw_or 6 B q x _ t4 x1 rfl], bw2.setCell (by show w.heap.size ≤ w.heap.size + 1 + 1; omega) _, zK (by rw [ST.out.1, HX.out]), zK (by rw [HL.out]; rw [ST.out.2])⟩
     case measure => simp [intOf] <;> omega
    ·
     have ST := zK (right_out n i c B hbit (by omega) HB.out)
     go_wp2
     go_roundw
     case rel => exact ⟨i + 1, B, true, by omega, by go_num, rfl, q0, q1, q2, bw2, zK ST.out.1.symm, zK (by rw [decide_eq_true ST.out.2])⟩
     case measure => simp [intOf] <;> omega
  ·
   have c2 := zE r2
   have hs : (storeCells ⟨w.heap.size + 1, 0, none⟩ (cw 6 B).toList 0).run Tryz.prog wr = .ok () (wr.setRow (w.heap.size + 1) (cw 6 B)) := yW wr _ B 0 r1
   have e1 := HB.out
   have e2 := HL.out
   rw [mod384 n i hn (by omega)] at e1 e2
   rw [HV.out] at e1
   rw [HW.out] at e2
   subst e1
   subst e2
   have z1 : (wr.setRow (w.heap.size + 1) (cw 6 B)).heap[w.heap.size + 1]? = some (.cells (cw 6 B) 66) := zO r1
   have c3 := zE z1
   have bz : Below w.heap.size w (wr.setRow (w.heap.size + 1) (cw 6 B)) := Below.setRow hbw (by omega)
   go_wp2
   exact bodyPost_ret (v := .tuple #[.agg (cw 6 B), .bool l]) (by simp [results, Tryz.results174, go_sem, c3, hf]) rfl ⟨rfl, bz⟩
theorem rdig_any (d : Nat) (h : d < 16) (w : World) :
  Calls Tryz.prog 93 #[.int .u64 d] w fun e w' => e = .returned (.string ⟨#[dg d]⟩) ∧ w' = w := by
 have hd : d = 0 ∨ d = 1 ∨ d = 2 ∨ d = 3 ∨ d = 4 ∨ d = 5 ∨ d = 6 ∨ d = 7 ∨ d = 8 ∨ d = 9 ∨ d = 10 ∨ d = 11 ∨ d = 12 ∨ d = 13 ∨ d = 14 ∨ d = 15 := by omega
 clear h
 rcases hd with rfl | rfl | rfl | rfl | rfl | rfl | rfl | rfl | rfl | rfl | rfl | rfl | rfl | rfl | rfl | rfl
 all_goals
  go_enter Tryz.func93, Tryz.ntmps93
  go_wp2
  go_ret
  exact ⟨rfl, rfl⟩

theorem rdigit_some (c : UInt8) (d : Nat) (h : dv c = some d) (w : World) :
  Calls Tryz.prog 186 #[.int .u8 (c.toNat : Int)] w fun e w' => e = .returned (.tuple #[.int .u64 d, .bool true]) ∧ w' = w := by
 obtain ⟨x, hx⟩ : ∃ x, c.toNat = x := ⟨_, rfl⟩
 have hlt : x < 256 := by rw [← hx]; exact c.toNat_lt
 unfold dv at h
 rw [hx] at h ⊢
 by_cases h1 : 48 ≤ x ∧ x ≤ 57
 ·
  rw [if_pos h1] at h
  injection h with h
  obtain ⟨a, b⟩ := h1
  have a' : decide ((48 : Int) ≤ (x : Int)) = true := by simp; omega
  have b' : decide ((x : Int) ≤ 57) = true := by simp; omega
  clear hx
  go_enter Tryz.func186, Tryz.ntmps186
  go_wp2
  go_ret2
  exact ⟨ret_ib (by omega) rfl, rfl⟩
 ·
  rw [if_neg h1] at h
  by_cases h2 : 97 ≤ x ∧ x ≤ 102
  ·
   rw [if_pos h2] at h
   injection h with h
   obtain ⟨a, b⟩ := h2
   have a' : decide ((48 : Int) ≤ (x : Int)) = true := by simp; omega
   have b' : decide ((x : Int) ≤ 57) = false := by simp; omega
   have a2 : decide ((97 : Int) ≤ (x : Int)) = true := by simp; omega
   have b2 : decide ((x : Int) ≤ 102) = true := by simp; omega
   clear hx h1
   go_enter Tryz.func186, Tryz.ntmps186
   go_wp2
   go_ret2
   exact ⟨ret_ib (by omega) rfl, rfl⟩
  ·
   rw [if_neg h2] at h
   cases h

theorem rdigit_none (c : UInt8) (h : dv c = none) (w : World) :
  Calls Tryz.prog 186 #[.int .u8 (c.toNat : Int)] w fun e w' => e = .returned (.tuple #[.int .u64 0, .bool false]) ∧ w' = w := by
 obtain ⟨x, hx⟩ : ∃ x, c.toNat = x := ⟨_, rfl⟩
 have hlt : x < 256 := by rw [← hx]; exact c.toNat_lt
 unfold dv at h
 rw [hx] at h ⊢
 have h1 : ¬ (48 ≤ x ∧ x ≤ 57) := fun e => by rw [if_pos e] at h; cases h
 rw [if_neg h1] at h
 have h2 : ¬ (97 ≤ x ∧ x ≤ 102) := fun e => by rw [if_pos e] at h; cases h
 have hc : x < 48 ∨ (58 ≤ x ∧ x < 97) ∨ 103 ≤ x := by omega
 clear hx h h1 h2
 rcases hc with a | ⟨a, b⟩ | a
 ·
  have e1 : decide ((48 : Int) ≤ (x : Int)) = false := by simp; omega
  have e3 : decide ((97 : Int) ≤ (x : Int)) = false := by simp; omega
  go_enter Tryz.func186, Tryz.ntmps186
  go_wp2
  go_ret2
  exact ⟨rfl, rfl⟩
 ·
  have e1 : decide ((48 : Int) ≤ (x : Int)) = true := by simp; omega
  have e2 : decide ((x : Int) ≤ 57) = false := by simp; omega
  have e3 : decide ((97 : Int) ≤ (x : Int)) = false := by simp; omega
  go_enter Tryz.func186, Tryz.ntmps186
  go_wp2
  go_ret2
  exact ⟨rfl, rfl⟩
 ·
  have e1 : decide ((48 : Int) ≤ (x : Int)) = true := by simp; omega
  have e2 : decide ((x : Int) ≤ 57) = false := by simp; omega
  have e3 : decide ((97 : Int) ≤ (x : Int)) = true := by simp; omega
  have e4 : decide ((x : Int) ≤ 102) = false := by simp; omega
  go_enter Tryz.func186, Tryz.ntmps186
  go_wp2
  go_ret2
  exact ⟨rfl, rfl⟩

def pre (n k : Nat) : List UInt8 := if k ≠ 0 ∧ n / 16 ^ k = 0 then [] else tx (n / 16 ^ k)

theorem rtext_any (n : Nat) (hn : n < Q) (w : World) :
  Calls Tryz.prog 35 #[.agg (cw 6 n)] w fun e w' => e = .returned (.string ⟨(tx n).toArray⟩) ∧ Below w.heap.size w w' := by
 have hat := zU 6
 go_enter Tryz.func35, Tryz.ntmps35
 go_wp2
 go_loop [3, 4] (fun sv iv => ∃ (k : Nat) (S : List UInt8), k ≤ 96 ∧ iv = .int .i64 ((k : Int) - 1) ∧ sv = .string ⟨S.toArray⟩ ∧ S.length ≤ 96 - k ∧ zP (S = pre n k)) (fun _ iv => (intOf iv + 1).toNat)
 case atStart => exact ⟨96, [], by omega, rfl, rfl, by simp, zK (by
  unfold pre
  rw [if_pos ⟨by omega, Nat.div_eq_of_lt (by
   obtain ⟨L, hL, hQ⟩ := Q_of
   rw [hQ] at hn
   obtain ⟨K, hK⟩ : ∃ K : Nat, K = 96 := ⟨96, rfl⟩
   rw [← hK, show (16 : Nat) = 2 ^ 4 from rfl, ← Nat.pow_mul, show 4 * K = 64 * L by omega]
   exact hn)⟩])⟩
 case round =>
  obtain ⟨k, S, hk, rfl, rfl, hS, HP⟩ := hrel
  by_cases h0 : k = 0
  ·
   subst h0
   go_wp2
   go_ret
   exact ⟨by
    have e := HP.out
    unfold pre at e
    rw [if_neg (by omega), Nat.pow_zero, Nat.div_one] at e
    rw [← e]; rfl, (Below.refl _ _).alloc (Nat.le_refl _) _⟩
  ·
   obtain ⟨j, rfl⟩ : ∃ j, k = j + 1 := ⟨k - 1, by omega⟩
   have ej : (((j + 1 : Nat) : Int) - 1) = (j : Int) := by omega
   rw [ej]
   obtain ⟨q, hq⟩ : ∃ q, q = j / 16 := ⟨_, rfl⟩
   obtain ⟨r, hr⟩ : ∃ r, r = 4 * (j % 16) := ⟨_, rfl⟩
   have q1 : (j : Int) / 16 = (q : Int) := by omega
   have q2 : q < 6 := by omega
   have r1 : 4 * ((j : Int) % 16) = (r : Int) := by omega
   have r2 : r < 64 := by omega
   obtain ⟨d, hd⟩ : ∃ d, n / 16 ^ j % 16 = d := ⟨_, rfl⟩
   have d16 : d < 16 := by rw [← hd]; exact Nat.mod_lt _ (by decide)
   have hb : bits .and .u64 ((wd n q : Int) / 2 ^ r) 15 = (d : Int) := by
    have h := bits_and_u64_nat (wd n q / 2 ^ r) 15 (Nat.lt_of_le_of_lt (Nat.div_le_self _ _) (yH _ _)) (by omega)
    rw [← div_cast] at h
    rw [show ((15 : Nat) : Int) = 15 from rfl] at h
    rw [h, show (15 : Nat) = 2 ^ 4 - 1 from rfl, Nat.and_two_pow_sub_one_eq_mod, field_num n q r 4 (4 * j) (by omega) (by omega), ← hd]
    rw [show (16 : Nat) = 2 ^ 4 from rfl, ← Nat.pow_mul]
   have hm : n / 16 ^ j = 16 * (n / 16 ^ (j + 1)) + d := by
    rw [Nat.pow_succ, ← Nat.div_div_eq_div_mul, ← hd]
    omega
   have HM := zK hm
   clear hq hr hd hm
   have hcat : (⟨S.toArray⟩ : ByteArray) ++ ⟨#[dg d]⟩ = ⟨(S ++ [dg d]).toArray⟩ := by
    apply ByteArray.ext
    simp
   have hsz : (⟨S.toArray⟩ : ByteArray).size = S.length := by show S.toArray.size = _; simp
   have hsz1 : (⟨#[dg d]⟩ : ByteArray).size = 1 := rfl
   have hadd : ∀ w, (Op.stringOp .add ⟨S.toArray⟩ ⟨#[dg d]⟩).run Tryz.prog w = .ok (.string ⟨(S ++ [dg d]).toArray⟩) w := fun w => by
    rw [run_string_add_sum w _ _ (by rw [hsz, hsz1]; omega), hcat]
   clear hcat hsz hsz1
   by_cases h1 : n / 16 ^ (j + 1) = 0
   ·
    have eS : S = [] := by rw [HP.out]; unfold pre; rw [if_pos ⟨by omega, h1⟩]
    subst eS
    have HN : zP (n / 16 ^ j = d) := zK (by rw [HM.out, h1, Nat.mul_zero, Nat.zero_add])
    by_cases hd0 : d = 0
    ·
     subst hd0
     by_cases hj0 : j = 0
     ·
      have hjb : ((j : Int) == 0) = true := by rw [hj0]; rfl
      have HJ := zK hj0
      clear hj0
      go_wp2_with fail
      refine (rdig_any 0 (by decide) _).mono ?_
      rintro e w' ⟨rfl, rfl⟩
      go_wp2
      go_round
      case rel => exact ⟨j, [dg 0], by omega, rfl, rfl, by simp; omega, zK (by unfold pre; rw [if_neg (fun h => h.1 HJ.out), HN.out, tx_small 0 (by decide)])⟩
      case measure => simp [intOf] <;> omega
     ·
      have hjb : ((j : Int) == 0) = false := by simp; omega
      go_wp2
      go_round
      case rel => exact ⟨j, [], by omega, rfl, rfl, by simp, zK (by unfold pre; rw [if_pos ⟨hj0, HN.out⟩])⟩
      case measure => simp [intOf] <;> omega
    ·
     have hdb : ((d : Int) != 0) = true := by simp; omega
     go_wp2_with fail
     refine (rdig_any d d16 _).mono ?_
     rintro e w' ⟨rfl, rfl⟩
     go_wp2
     go_round
     case rel => exact ⟨j, [dg d], by omega, rfl, rfl, by simp; omega, zK (by unfold pre; rw [HN.out, if_neg (by omega), tx_small d d16])⟩
     case measure => simp [intOf] <;> omega
   ·
    have eS : S = tx (n / 16 ^ (j + 1)) := by rw [HP.out]; unfold pre; rw [if_neg (by omega)]
    have HS := zK eS
    obtain ⟨x, S', hx⟩ : ∃ x S', S = x :: S' := by
     cases hS' : S with
     | nil => exact absurd (eS.symm.trans hS') (tx_ne _)
     | cons x S' => exact ⟨x, S', rfl⟩
    clear eS
    subst hx
    go_wp2_with fail
    refine (rdig_any d d16 _).mono ?_
    rintro e w' ⟨rfl, rfl⟩
    go_wp2
    go_round
    case rel => exact ⟨j, x :: S' ++ [dg d], by omega, rfl, rfl, by simp at hS ⊢; omega, zK (by
     unfold pre
     have h2 := HM.out
     rw [if_neg (by omega), tx_big (n / 16 ^ j) (by omega), show n / 16 ^ j / 16 = n / 16 ^ (j + 1) by omega, show n / 16 ^ j % 16 = d by omega, HS.out])⟩
    case measure => simp [intOf] <;> omega
theorem rleft4 (n v : Nat) (hn : n < Q) (hv : n * 16 = v) (hq : v < Q) (w : World) :
  Calls Tryz.prog 89 #[.agg (cw 6 n), .int .i64 4] w fun e w' => e = .returned (.tuple #[.agg (cw 6 v), .bool false]) ∧ Below w.heap.size w w' := by
 have e4 : xS 4 = 4 := by decide
 refine rwleft_is n v 4 false hn ?_ ?_ w
 ·
  rw [e4, show 2 ^ 4 = 16 by decide, hv, Nat.mod_eq_of_lt hq]
 ·
  rw [e4, show 2 ^ 4 = 16 by decide, hv, decide_eq_false (by omega)]

theorem rd_err (l : List UInt8) (h : ¬ (1 ≤ l.length ∧ ¬ (l.head? = some 48 ∧ 1 < l.length))) : rd l = (0, 20) := by
 by_cases h96 : l.length ≤ 96
 ·
  cases hv : vals l with
  | none => exact rd_none l hv
  | some v => exact rd_other l v hv (fun e => h ((good_iff l v h96 hv).1 e))
 ·
  exact rd_long l h96

theorem head_get (s : ByteArray) (l : List UInt8) (hl : s.data.toList = l) (h : 0 < s.size) : l.head? = some (s[0]'h) := by
 subst hl
 rw [List.head?_eq_getElem?]
 have h' : 0 < s.data.toList.length := by simpa using h
 rw [List.getElem?_eq_getElem h']
 rfl

theorem rwread_is (s : ByteArray) (l : List UInt8) (V : Nat) (E : Int) (hs : s.size ≤ 9223372036854775807) (hl : s.data.toList = l) (hr : rd l = (V, E)) (w : World) :
  Calls Tryz.prog 103 #[.string s] w fun e w' => e = .returned (.tuple #[.agg (cw 6 V), .int .i64 E]) ∧ Below w.heap.size w w' := by
 have hat := zU 6
 have hz := yB
 have hf := z8
 have hs1 := st1
 have hsl : s.size = l.length := by rw [← hl, Array.length_toList]; rfl
 have bz : Below w.heap.size w ((w.alloc (.cells (cw 6 0) 66)).alloc (.cells (cw 6 0) 66)) := ((Below.refl _ _).alloc (Nat.le_refl _) _).alloc (by simp) _
 by_cases h0 : s.size = 0
 ·
  have e := rd_err l (by omega)
  rw [hr] at e
  injection e with e1 e2
  subst e1
  subst e2
  have y1 : decide ((s.size : Int) < 1) = true := by simp; omega
  clear hr hl hsl
  go_enter Tryz.func103, Tryz.ntmps103
  go_wp2
  exact bodyPost_ret (v := .tuple #[.agg (cw 6 0), .int .i64 20]) (by simp [results, Tryz.results103, go_sem, hat, hf]) rfl ⟨rfl, bz⟩
 ·
  have y1 : decide ((s.size : Int) < 1) = false := by simp; omega
  by_cases h96 : s.size ≤ 96
  ·
   have y2 : decide ((96 : Int) < (s.size : Int)) = false := by simp; omega
   have hpos : 0 < s.size := by omega
   obtain ⟨c0, Ab⟩ : ∃ c0, s[0] = c0 := ⟨_, rfl⟩
   have hh := head_get s l hl hpos
   rw [Ab] at hh
   by_cases h48 : c0 = 48 ∧ 1 < s.size
   ·
    have e := rd_err l (by
     rintro ⟨_, h⟩
     exact h ⟨by rw [hh, h48.1], by omega⟩)
    rw [hr] at e
    injection e with e1 e2
    subst e1
    subst e2
    obtain ⟨e48, h1⟩ := h48
    have y3 : ((c0.toNat : Int) == 48) = true := by rw [e48]; rfl
    have y4 : decide ((1 : Int) < (s.size : Int)) = true := by simp; omega
    clear hr hl hsl hh e48
    go_enter Tryz.func103, Tryz.ntmps103
    go_wp2
    exact bodyPost_ret (v := .tuple #[.agg (cw 6 0), .int .i64 20]) (by simp [results, Tryz.results103, go_sem, hat, hf]) rfl ⟨rfl, bz⟩
   ·
    have hgood : 1 ≤ l.length ∧ ¬ (l.head? = some 48 ∧ 1 < l.length) := by
     refine ⟨by omega, fun ⟨a, b⟩ => h48 ⟨?_, by omega⟩⟩
     rw [hh] at a
     injection a
    have hcase : (((c0.toNat : Int) == 48) = false) ∨ (((c0.toNat : Int) == 48) = true ∧ decide ((1 : Int) < (s.size : Int)) = false) := by
     by_cases e48 : c0 = 48
     ·
      right
      refine ⟨by rw [e48]; rfl, ?_⟩
      have : ¬ 1 < s.size := fun h => h48 ⟨e48, h⟩
      simp; omega
     ·
      left
      have : c0.toNat ≠ 48 := fun h => e48 (by rw [← UInt8.ofNat_toNat (x := c0), h]; rfl)
      simp; omega
    have HG := zK hgood
    have HR := zK hr
    have HL := zK hl
    have HSL := zK hsl
    clear hr hl hsl hh h48 hgood
    rcases hcase with y3 | ⟨y3, y4⟩
    all_goals
     go_enter Tryz.func103, Tryz.ntmps103
     go_wp2
     go_loopw [5] (fun iv wr => ∃ k v : Nat, k ≤ s.size ∧ iv = .int .i64 k ∧ wr.heap[w.heap.size]? = some (.cells (cw 6 0) 66) ∧ wr.heap[w.heap.size + 1]? = some (.cells (cw 6 v) 66) ∧ Below w.heap.size w wr ∧ v < Q ∧ zP (vals (l.take k) = some v)) (fun iv _ => s.size - (intOf iv).toNat)
     case atStart =>
      refine ⟨0, 0, by omega, rfl, ?_, ?_, bz, Q_pos, zK rfl⟩
      ·
       rw [z6 _ _ _ (by simp only [zT]; omega)]; exact heap_alloc_last _ _
      ·
       have := heap_alloc_last (w.alloc (.cells (cw 6 0) 66)) (.cells (cw 6 0) 66)
       simpa only [zT] using this
     case round =>
      obtain ⟨k, v, hk, rfl, r0, r1, hbw, hvQ, HV⟩ := hrel
      by_cases hlt : k < s.size
      ·
       obtain ⟨c, hc⟩ : ∃ c, s[k] = c := ⟨_, rfl⟩
       have hts : l.take (k + 1) = l.take k ++ [c] := by
        have hkl : k < l.length := by rw [← HSL.out]; exact hlt
        rw [List.take_succ_eq_append_getElem hkl]
        congr 2
        rw [← hc]
        have : ∀ h, l[k]'h = s.data.toList[k]'(by rw [HL.out]; exact h) := fun h => by simp [HL.out]
        rw [this]
        rfl
       have HVS : zP (vals (l.take (k + 1)) = vstep (some v) c) := zK (by rw [hts, vals_snoc, HV.out])
       clear hts
       cases hd : dv c with
       | none =>
        have HD := zK hd
        have HN : zP (rd l = (0, 20)) := zK (rd_none l (vals_take_none l (k + 1) (by rw [HVS.out]; unfold vstep; rw [hd])))
        clear hd
        have e := HR.out
        rw [HN.out] at e
        injection e with e1 e2
        subst e1
        subst e2
        have hst := st_same wr _ 0 r0
        have cc := zE r0
        go_wp2_with fail
        refine (rdigit_none c HD.out _).mono ?_
        rintro e w' ⟨rfl, rfl⟩
        go_wp2
        exact bodyPost_ret (v := .tuple #[.agg (cw 6 0), .int .i64 20]) (by simp [results, Tryz.results103, go_sem, cc, hf]) rfl ⟨rfl, hbw⟩
       | some d =>
        have HD := zK hd
        obtain ⟨hd16, _, _⟩ := dv_spec c d hd
        have HV2 : zP (vals (l.take (k + 1)) = some (16 * v + d)) := zK (by rw [HVS.out]; unfold vstep; rw [hd])
        have hlen : (l.take (k + 1)).length = k + 1 := by rw [List.length_take, ← HSL.out]; omega
        have hvl := vals_lt (k + 1) _ _ hlen HV2.out
        have hpq := pow96 (k + 1) (by omega)
        obtain ⟨x, hx⟩ : ∃ x, v * 16 = x := ⟨_, rfl⟩
        have hor : x ||| d = 16 * v + d := by
         have := or_disj d v 4 hd16
         rw [Nat.or_comm, ← hx, show (16 : Nat) = 2 ^ 4 from rfl, ← this]
         omega
        obtain ⟨v2, hv2⟩ : ∃ v2, v2 = 16 * v + d := ⟨_, rfl⟩
        rw [← hv2] at hor hvl HV2
        have xQ : x < Q := by omega
        have v2Q : v2 < Q := by omega
        have d64 : d < 18446744073709551616 := by omega
        have hbo := bor x 0 d d64
        have HX := zK hx
        have HO := zK hor
        clear hd hlen hvl hpq hx hor hv2
        have c1 := zE r1
        go_wp2_with fail
        refine (rdigit_some c d HD.out _).mono ?_
        rintro e w' ⟨rfl, rfl⟩
        go_wp2_with fail
        refine (rleft4 v x hvQ HX.out xQ _).mono ?_
        rintro e w2 ⟨rfl, hb2⟩
        have q0 := zA hb2 _ _ _ r0
        have q1 := zA hb2 _ _ _ r1
        have b2 := hbw.trans (hb2.mono hbw.size)
        obtain ⟨w3, Aa⟩ : ∃ w3, w3 = w2.setRow (w.heap.size + 1) (cw 6 x) := ⟨_, rfl⟩
        have hst : (storeCells ⟨w.heap.size + 1, 0, none⟩ (cw 6 x).toList 0).run Tryz.prog w2 = .ok () w3 := by rw [Aa]; exact yW w2 _ x v q1
        have p0 : w3.heap[w.heap.size]? = some (.cells (cw 6 0) 66) := by rw [Aa, zH (by omega)]; exact q0
        have p1 : w3.heap[w.heap.size + 1]? = some (.cells (cw 6 x) 66) := by rw [Aa]; exact zO q1
        have b3 : Below w.heap.size w w3 := by rw [Aa]; exact Below.setRow b2 (by omega)
        have c3 := zE p1 0 (by omega)
        have f3 := fz (k := 0) p1
        clear hb2 Aa q0 q1 b2 r0 r1 hbw c1
        go_wp2
        go_roundw
        case rel => exact ⟨k + 1, v2, by omega, by go_num, by rw [zB (by omega)]; exact p0, by rw [yC p1, cw_or 6 x 0 d v2 (by omega) d64 (by rw [Nat.mul_zero, Nat.pow_zero, Nat.mul_one]; exact HO.out.symm)], b3.setCell (by show w.heap.size ≤ w.heap.size + 1; omega) _, v2Q, HV2⟩
        case measure => simp [intOf] <;> omega
      ·
       have htk : l.take k = l := List.take_of_length_le (by rw [← HSL.out]; omega)
       have hvl : vals l = some v := by rw [← htk]; exact HV.out
       have e := HR.out
       have h96' : l.length ≤ 96 := by rw [← HSL.out]; exact h96
       rw [rd_good l v h96' hvl ((good_iff l v h96' hvl).2 HG.out)] at e
       injection e with e1 e2
       subst e1
       subst e2
       clear htk hvl h96'
       have c1 := zE r1
       have hst := yW wr _ v 0 r0
       have z0 : (wr.setRow w.heap.size (cw 6 v)).heap[w.heap.size]? = some (.cells (cw 6 v) 66) := zO r0
       have c3 := zE z0
       go_wp2
       exact bodyPost_ret (v := .tuple #[.agg (cw 6 v), .int .i64 0]) (by simp [results, Tryz.results103, go_sem, c3, hf]) rfl ⟨rfl, Below.setRow hbw (Nat.le_refl _)⟩
  ·
   have e := rd_long l (by omega)
   rw [hr] at e
   injection e with e1 e2
   subst e1
   subst e2
   have y2 : decide ((96 : Int) < (s.size : Int)) = true := by simp; omega
   clear hr hl hsl
   go_enter Tryz.func103, Tryz.ntmps103
   go_wp2
   exact bodyPost_ret (v := .tuple #[.agg (cw 6 0), .int .i64 20]) (by simp [results, Tryz.results103, go_sem, hat, hf]) rfl ⟨rfl, bz⟩
theorem rwand_is (n m v : Nat) (hn : n < Q) (hv : n &&& m = v) (w : World) :
  Calls Tryz.prog 172 #[.agg (cw 6 n), .agg (cw 6 m)] w fun e w' => e = .returned (.agg (cw 6 v)) ∧ Below w.heap.size w w' := by
 have HV := zK hv
 clear hv
 have hat := zU 6
 have hz := yB
 have hf := z8
 go_enter Tryz.func172, Tryz.ntmps172
 go_wp2
 go_loopw [5] (fun i wr => ∃ (k X : Nat), k ≤ 6 ∧ i = .int .i64 k ∧ wr.heap[w.heap.size]? = some (.cells (cw 6 X) 66) ∧ wr.heap[w.heap.size + 1]? = some (.cells (cw 6 m) 66) ∧ wr.heap[w.heap.size + 1 + 1]? = some (.cells (cw 6 0) 66) ∧ Below w.heap.size w wr ∧ zP (Part X n k fun j => wd n j &&& wd m j)) (fun i _ => 6 - (intOf i).toNat)
 case atStart =>
  refine ⟨0, n, by omega, rfl, ?_, ?_, ?_, ?_, zK (part_start n _ hn)⟩
  ·
   rw [z6 _ _ _ (by simp only [zT]; omega), z6 _ _ _ (by simp only [zT]; omega)]
   exact heap_alloc_last _ _
  ·
   rw [z6 _ _ _ (by simp only [zT]; omega)]
   have := heap_alloc_last (w.alloc (.cells (cw 6 n) 66)) (.cells (cw 6 m) 66)
   simpa only [zT] using this
  ·
   have := heap_alloc_last ((w.alloc (.cells (cw 6 n) 66)).alloc (.cells (cw 6 m) 66)) (.cells (cw 6 0) 66)
   simpa only [zT] using this
  ·
   exact (((Below.refl _ _).alloc (Nat.le_refl _) _).alloc (by simp only [zT]; omega) _).alloc (by simp only [zT]; omega) _
 case round =>
  obtain ⟨k, X, hk, rfl, r0, r1, r2, hbw, HE⟩ := hrel
  by_cases hlt : k < 6
  ·
   have hki : (k : Int) < 6 := by omega
   have hw := part_wd HE.out hlt
   have ho := bits_and_u64_nat (wd n k) (wd m k) (yH _ _) (yH _ _)
   have hb : wd n k &&& wd m k < 18446744073709551616 := Nat.lt_of_le_of_lt Nat.and_le_left (yH n k)
   have c0 := zE r0 k hlt
   rw [hw] at c0
   have c1 := zE r1 k hlt
   have f0 := fz (k := k) r0
   have PS := zK (part_step HE.out hlt _ hb rfl)
   have RS : zP ((wr.setCell ⟨w.heap.size, k, none⟩ (.int .u64 ((wd n k &&& wd m k : Nat) : Int))).heap[w.heap.size]? = some (.cells (cw 6 (setw X k (wd n k &&& wd m k))) 66)) := zK (by rw [yC r0, cw_seti 6 X k _ _ hlt hb rfl])
   clear hw
   go_wp2
   go_region
   all_goals go_wp2
   all_goals go_roundw
   all_goals first | (show (_ : Nat) < _; simp [intOf]; omega) | exact ⟨k + 1, _, by omega, by go_num, RS.out, (zB (w := wr) (by omega)).trans r1, (zB (w := wr) (by omega)).trans r2, (hbw.setCell (by show w.heap.size ≤ w.heap.size; omega) _).drew, PS⟩
  ·
   have e := part_end HE.out (by omega) (n &&& m) (and_ltQ n m hn) (fun j hj => wd_and n m j)
   rw [HV.out] at e
   subst e
   have c0 := zE r0
   have hst := yW wr _ X 0 r2
   have z2 : (wr.setRow (w.heap.size + 1 + 1) (cw 6 X)).heap[w.heap.size + 1 + 1]? = some (.cells (cw 6 X) 66) := zO r2
   have c3 := zE z2
   go_wp2
   exact bodyPost_ret (v := .agg (cw 6 X)) (by simp [results, Tryz.results172, go_sem, c3, hf]) rfl ⟨rfl, Below.setRow hbw (by omega)⟩
theorem rwmask_is (s : Int) (v : Nat) (hv : 2 ^ xS s - 1 = v) (w : World) :
  Calls Tryz.prog 173 #[.int .i64 s] w fun e w' => e = .returned (.agg (cw 6 v)) ∧ Below w.heap.size w w' := by
 obtain ⟨c, hc⟩ : ∃ c, c = xS s := ⟨_, rfl⟩
 have Aa : c ≤ 384 := by rw [hc]; unfold xS; omega
 rw [← hc] at hv
 have HV := zK hv
 have HC := zK hc
 clear hv hc
 have hat := zU 6
 have hz := yB
 have hf := z8
 have hs1 := st1
 go_enter Tryz.func173, Tryz.ntmps173
 go_wp2_with fail
 refine (rwcount_any _ _).mono ?_
 rw [← HC.out]
 rintro e w' ⟨rfl, rfl⟩
 go_wp2
 go_loopw [4] (fun iv wr => ∃ (i X : Nat), i ≤ c ∧ iv = .int .i64 i ∧ wr = (w.alloc (.cells (cw 6 0) 66)).alloc (.cells (cw 6 X) 66) ∧ zP (X = 2 ^ i - 1)) (fun iv _ => c - (intOf iv).toNat)
 case atStart => exact ⟨0, 0, by omega, rfl, rfl, zK rfl⟩
 case round =>
  obtain ⟨i, X, hi, rfl, rfl, HE⟩ := hrel
  by_cases hlt : i < c
  ·
   obtain ⟨q, hq⟩ : ∃ q, q = i / 64 := ⟨_, rfl⟩
   obtain ⟨r, hr⟩ : ∃ r, r = i % 64 := ⟨_, rfl⟩
   have t2 : (i : Int) / 64 = (q : Int) := by omega
   have t3 : (i : Int) % 64 = (r : Int) := by omega
   have t4 : q < 6 := by omega
   have t5 : r < 64 := by omega
   obtain ⟨x, hx⟩ : ∃ x, x = 2 ^ r := ⟨_, rfl⟩
   have x1 : x < 18446744073709551616 := by rw [hx]; exact v_word r t5
   have x2 : IntKind.u64.wrap ((2 : Int) ^ r) = (x : Int) := by rw [pow_cast, wrap_nat _ (v_word r t5), hx]
   have x3 := bor X q x x1
   obtain ⟨X2, hX2⟩ : ∃ X2, X2 = X ||| x * 2 ^ (64 * q) := ⟨_, rfl⟩
   have x4 := cw_or 6 X q x X2 t4 x1 hX2
   have EX : zP (X2 = 2 ^ (i + 1) - 1) := zK (by rw [hX2, hx, HE.out]; exact mask_or i q r (by omega))
   clear hX2 hx hq hr
   go_wp2
   go_roundw
   case rel => exact ⟨i + 1, X2, by omega, by go_num, rfl, EX⟩
   case measure => simp [intOf] <;> omega
  ·
   have e := HE.out
   rw [show i = c by omega, HV.out] at e
   subst e
   go_wp2
   exact bodyPost_ret (v := .agg (cw 6 X)) (by simp [results, Tryz.results173, go_sem, hat, hf]) rfl ⟨rfl, ((Below.refl _ _).alloc (Nat.le_refl _) _).alloc (by simp <;> omega) _⟩
end Go.Proofs.YtkblmpmkchkpjaaGreatDoor
namespace Go.Proofs.YtkblmpmkchkpjaaGreatDoor
set_option maxRecDepth 100000
set_option maxHeartbeats 40000000
open WMath
open Go.ChangeShapes Go.WideShapes Go.ChangeAt Go.RowKit
theorem nat_u64 {x : Int} (h : (Lit.int .u64 x).wf = true) : ∃ n : Nat, n < 18446744073709551616 ∧ x = (n : Int) := by
 have hb := bounds_u64 h
 obtain ⟨n, rfl⟩ := Int.eq_ofNat_of_zero_le hb.1
 exact ⟨n, by omega, rfl⟩
theorem u64_nat (n : Nat) (h : n < 18446744073709551616) : (Lit.int .u64 (n : Int)).wf = true := by
 first
  | exact WalkArith.wf_u64 (by omega)
  | exact WalkArith.wf_u64 (by omega) (by omega)

theorem post_plain {H : Type} {enc : TypeId × Value → H} {P : Program} {f : Func} {s : ChangeSpec} {apart fresh handsOn again : Bool} {W W' : World} {args : Array Value} {v : Value} {ds gs : List (DataW H)}
  (hW : DataW.Whole enc P f.params.toList s.vars apart W args.toList ds gs [])
  (hres : ∀ (b : Nat) (sp : Nat → Bool) (hd : Bool), DataW.TrodAll enc P W' b sp hd f.resultTypes.toList (v.resultList f.resultTypes.size) (s.fn H (ds ++ gs)).results [])
  (hargs : ∀ sp : Nat → Bool, DataW.TrodAll enc P W' 0 sp true f.params.toList args.toList (s.fn H (ds ++ gs)).args [])
  (hvars : ∀ sp : Nat → Bool, DataW.TrodVars enc P W' sp s.vars (s.fn H (ds ++ gs)).vars [])
  (hk : Below W.heap.size W W')
  (hok : ∀ (j : Nat) (t : TypeId) (r : Value), f.resultTypes[j]? = some t → (v.resultList f.resultTypes.size)[j]? = some r → Value.okWide P W' .any 0 t r) :
  s.post enc P f apart fresh handsOn again W args v W' := by
 refine ⟨ds, gs, [], [], [], [], hW, hres _ _ _, hargs _, hvars _, hk.frame _, fun _ => ⟨hok, _, _, [], ⟨[], [], trodAll_append (hargs _) (hres _ _ _), hvars _, rfl, ?_, ?_⟩, ?_⟩⟩
 ·
  intro _ _ hp
  cases hp
 ·
  intro _
  exact List.Pairwise.nil
 ·
  intro _ hp
  cases hp
def dB (H : Type) (b : Nat × Nat) : DataW H := .agg [.lit (.int .u64 (b.1 : Nat)), .lit (.int .u64 (b.2 : Nat))]

theorem list2 {α : Type} (l : List α) (h : (⟨l⟩ : Array α).size = 2) : ∃ a b, l = [a, b] := by
 match l, h with
 | [a, b], _ => exact ⟨a, b, rfl⟩

theorem open_bits {H : Type} {enc : TypeId × Value → H} {w : World} {base b : Nat} {spare : Nat → Bool} {held : Bool} {v : Value} {d : DataW H} {p : List MemPlace}
  (hok : Value.okWide Tryz.prog w .any base 25 v) (h : DataW.Trod enc Tryz.prog w b spare held 25 v d p) : ∃ a : Nat × Nat, (a.1 < 18446744073709551616 ∧ a.2 < 18446744073709551616) ∧ v = xK a ∧ d = dB H a ∧ p = [] := by
 have hc : Tryz.prog.cellsOf 25 = 2 := by kernel_rfl
 have hce : Tryz.prog.cellsOf 23 = 1 := by kernel_rfl
 obtain ⟨cs, rfl, hsz⟩ := okWide_struct Tryz.underlying25 hok
 rw [hc] at hsz
 obtain ⟨l⟩ := cs
 obtain ⟨c0, c1, rfl⟩ := list2 l hsz
 obtain ⟨fuel, hf⟩ := h
 obtain ⟨y0, y1, n, hx, _, h0, h1⟩ := trod_struct2 Tryz.underlying25 hf
 simp only [hce] at h0 h1
 obtain ⟨x0, e0, g0, w0⟩ := DataW.trod_int Tryz.underlying23 h0
 obtain ⟨x1, e1, g1, w1⟩ := DataW.trod_int Tryz.underlying23 h1
 simp [Value.cells] at e0 e1
 subst e0 e1
 obtain ⟨a0, b0, rfl⟩ := nat_u64 w0
 obtain ⟨a1, b1, rfl⟩ := nat_u64 w1
 simp only [Prod.mk.injEq] at hx
 refine ⟨(a0, a1), ⟨b0, b1⟩, rfl, ?_, ?_⟩
 ·
  rw [hx.1, g0, g1]; rfl
 ·
  rw [hx.2, g0, g1]; rfl

theorem shut_bits {H : Type} {enc : TypeId × Value → H} {w : World} {b : Nat} {spare : Nat → Bool} {held : Bool} (a : Nat × Nat) (h : a.1 < 18446744073709551616 ∧ a.2 < 18446744073709551616) : DataW.Trod enc Tryz.prog w b spare held 25 (xK a) (dB H a) [] := by
 have hc : Tryz.prog.cellsOf 25 = 2 := by kernel_rfl
 have hce : Tryz.prog.cellsOf 23 = 1 := by kernel_rfl
 have k0 := u64_nat _ h.1
 have k1 := u64_nat _ h.2
 refine ⟨2, ?_⟩
 simp [DataW.trod, Value.cells, xK, Tryz.underlying25, Tryz.underlying23, hc, hce, k0, k1, dB]

end Go.Proofs.YtkblmpmkchkpjaaGreatDoor
namespace Go.Proofs.YtkblmpmkchkpjaaGreatDoor
set_option maxRecDepth 100000
set_option maxHeartbeats 40000000
open Go.RowKit WMath
theorem rlen_is (x l : Nat) (hx : x < 18446744073709551616) (hl : zW x = l) (w : World) :
  Calls Tryz.prog 170 #[.int .u64 x] w fun e w' => e = .returned (.int .i64 (l : Nat)) ∧ w' = w := by
 subst hl; rw [← bitLen_blen x hx]; exact rlen_any x hx w

theorem nzf {x : Nat} (h : x = 0) : (((x : Nat) : Int) != 0) = false := by subst h; rfl
theorem nzt {x : Nat} (h : ¬ x = 0) : (((x : Nat) : Int) != 0) = true := by simp; omega

theorem rwlen_any (n : Nat) (hn : n < Q) (w : World) :
  Calls Tryz.prog 82 #[.agg (cw 6 n)] w fun e w' => e = .returned (.int .i64 (zW n : Nat)) ∧ Below w.heap.size w w' := by
 have hat := zU 6
 have bz : Below w.heap.size w (w.alloc (.cells (cw 6 n) 66)) := (Below.refl _ _).alloc (Nat.le_refl _) _
 go_enter Tryz.func82, Tryz.ntmps82
 go_wp2
 go_loop [3] (fun iv => ∃ k : Nat, k ≤ 6 ∧ iv = .int .i64 ((k : Int) - 1) ∧ zP (n < 2 ^ (64 * k))) (fun iv => (intOf iv + 1).toNat)
 case atStart => exact ⟨6, by omega, rfl, zK (by rw [pwQ 6 rfl]; exact hn)⟩
 case round =>
  obtain ⟨k, hk, rfl, HE⟩ := hrel
  by_cases h0 : k = 0
  ·
   subst h0
   have e : n = 0 := by have := HE.out; rw [Nat.mul_zero, Nat.pow_zero] at this; omega
   subst e
   go_wp2
   go_ret
   exact ⟨rfl, bz⟩
  ·
   obtain ⟨j, rfl⟩ : ∃ j, k = j + 1 := ⟨k - 1, by omega⟩
   have ej : (((j + 1 : Nat) : Int) - 1) = (j : Int) := by omega
   rw [ej]
   have hj6 : j < 6 := by omega
   have hji : (j : Int) < 6 := by omega
   have ST := zK (rlen_step n j HE.out)
   by_cases hw : wd n j = 0
   ·
    have y := nzf hw
    have NX := zK (ST.out.2 hw)
    clear hw
    go_wp2
    go_round
    case rel => exact ⟨j, by omega, rfl, NX⟩
    case measure => simp [intOf] <;> omega
   ·
    have y := nzt hw
    obtain ⟨b, hb⟩ : ∃ b, zW (wd n j) = b := ⟨_, rfl⟩
    have hb64 : b ≤ 64 := by rw [← hb]; exact xI _ 64 (by rw [← x5]; exact yH n j)
    have EN : zP (zW n = 64 * j + b) := zK (by rw [ST.out.1 hw, hb])
    have HB := zK hb
    clear hw hb
    go_wp2_with (go_at_call 170; refine (rlen_is _ b (yH n j) HB.out _).mono ?_; rintro e w' ⟨rfl, rfl⟩)
    go_ret
    exact ⟨yU (by rw [EN.out]; simp), bz⟩
theorem mod_pow_zero (a n k : Nat) : a % 2 ^ (n + k) = 0 ↔ a % 2 ^ n = 0 ∧ a / 2 ^ n % 2 ^ k = 0 := by
 rw [Nat.pow_add, Nat.mod_mul]
 have hp := Nat.two_pow_pos n
 constructor
 ·
  intro h
  have h1 : a % 2 ^ n = 0 := by omega
  have h2 : 2 ^ n * (a / 2 ^ n % 2 ^ k) = 0 := by omega
  rcases Nat.mul_eq_zero.1 h2 with h3 | h3
  ·
   omega
  ·
   exact ⟨h1, h3⟩
 ·
  rintro ⟨h1, h2⟩
  rw [h1, h2, Nat.mul_zero]

def lg (x : Nat) : ByteArray × Int := if nl x ≤ 16384 then (nbA x, 0) else (⟨#[]⟩, 4)
def sb (a b : Nat) : ByteArray × Int := if a < b then (⟨#[]⟩, 2) else (nbA (a - b), 0)

def SL (B : Nat) (w : World) (p : Option Addr) (L c n : Nat) : Prop := n < 2 ^ (64 * L) ∧ L ≤ c ∧ (0 < L → ∃ b o, p = some ⟨b, o, none⟩ ∧ b < B ∧ ∀ k, k < L → w.cell? ⟨b, o + k, none⟩ = some (.int .u64 (wd n k : Nat)))
theorem SL.mono {B B' : Nat} {w : World} {p : Option Addr} {L c n : Nat} (h : SL B w p L c n) (hB : B ≤ B') : SL B' w p L c n :=
 ⟨h.1, h.2.1, fun hL => by
  obtain ⟨b, o, hp, hlt, hc⟩ := h.2.2 hL
  exact ⟨b, o, hp, Nat.lt_of_lt_of_le hlt hB, hc⟩⟩
theorem cell_size {w : World} {b o : Nat} {v : Value} (h : w.cell? ⟨b, o, none⟩ = some v) : b < w.heap.size := by
 by_cases e : b < w.heap.size
 ·
  exact e
 ·
  exfalso
  have : w.heap[b]? = none := Array.getElem?_eq_none (by omega)
  simp [World.cell?, this] at h
def Only (g : Nat) (w w' : World) : Prop := w'.os = w.os ∧ w'.tape = w.tape ∧ w'.output = w.output ∧ w.heap.size ≤ w'.heap.size ∧ ∀ k, k < w.heap.size → k ≠ g → w'.heap[k]? = w.heap[k]?
theorem Only.refl (g : Nat) (w : World) : Only g w w := ⟨rfl, rfl, rfl, Nat.le_refl _, fun _ _ _ => rfl⟩
theorem Only.trans {g : Nat} {a b c : World} (h : Only g a b) (k : Only g b c) : Only g a c :=
 ⟨k.1.trans h.1, k.2.1.trans h.2.1, k.2.2.1.trans h.2.2.1, Nat.le_trans h.2.2.2.1 k.2.2.2.1, fun i hi hg => (k.2.2.2.2 i (Nat.lt_of_lt_of_le hi h.2.2.2.1) hg).trans (h.2.2.2.2 i hi hg)⟩
theorem Only.size {g : Nat} {a b : World} (h : Only g a b) : a.heap.size ≤ b.heap.size := h.2.2.2.1
theorem Only.setCell {g o : Nat} {a w : World} (h : Only g a w) (u : Value) : Only g a (w.setCell ⟨g, o, none⟩ u) :=
 h.trans ⟨rfl, rfl, rfl, by simp [World.setCell], fun k _ hg => Below.heap_setCell _ _ _ _ hg⟩
theorem Only.drew {g : Nat} {a w : World} (h : Only g a w) : Only g a w.drew := h.trans ⟨rfl, rfl, rfl, Nat.le_refl _, fun _ _ _ => rfl⟩
theorem Only.row {g b : Nat} {w w' : World} {c : Array Value} {t : TypeId} (k : Only g w w') (hb : b ≠ g) (h : w.heap[b]? = some (.cells c t)) : w'.heap[b]? = some (.cells c t) := by
 rw [k.2.2.2.2 b (Array.getElem?_eq_some_iff.1 h).1 hb, h]
theorem SL.only {B g : Nat} {w w' : World} {p : Option Addr} {L c n : Nat} (h : SL B w p L c n) (k : Only g w w') (hB : B ≤ g) : SL B w' p L c n := by
 refine ⟨h.1, h.2.1, fun hL => ?_⟩
 obtain ⟨b, o, hp, hlt, hc⟩ := h.2.2 hL
 refine ⟨b, o, hp, hlt, fun i hi => ?_⟩
 have h1 := hc i hi
 rw [World.cell?_of_block (w := w) (k.2.2.2.2 b (cell_size h1) (by omega))]
 exact h1

theorem SL.cell {B : Nat} {w : World} {b o L c n : Nat} (h : SL B w (some ⟨b, o, none⟩) L c n) (k x : Nat) (hk : k < L) (hx : wd n k = x) : w.cell? ⟨b, o + k, none⟩ = some (.int .u64 x) := by
 obtain ⟨b', o', e, _, hc⟩ := h.2.2 (by omega)
 simp only [Option.some.injEq, Addr.mk.injEq] at e
 obtain ⟨rfl, rfl, _⟩ := e
 rw [hc k hk, hx]
theorem SL.cut {B : Nat} {w : World} {p : Option Addr} {L c n : Nat} (h : SL B w p (L + 1) c n) (hz : wd n L = 0) : SL B w p L c n :=
 ⟨trim_step n L h.1 hz, by have := h.2.1; omega, fun hL => by
  obtain ⟨b, o, e, hb, hc⟩ := h.2.2 (by omega)
  exact ⟨b, o, e, hb, fun k hk => hc k (by omega)⟩⟩
theorem SL.row {w : World} {b N X c : Nat} {T : TypeId} (r : w.heap[b]? = some (.cells (cw N X) T)) (B : Nat) (hB : b < B) (hX : X < 2 ^ (64 * N)) (hc : N ≤ c) : SL B w (some ⟨b, 0, none⟩) N c X :=
 ⟨hX, hc, fun _ => ⟨b, 0, rfl, hB, fun k hk => by rw [Nat.zero_add, cell_of_row w b k _ _ _ r, zU N X k hk]⟩⟩

theorem xY (w : World) (o : Obj) : Below w.heap.size w (w.alloc o) := (Below.refl _ _).alloc (Nat.le_refl _) _
theorem yD {a b c : World} (h : Below a.heap.size a b) (k : Below b.heap.size b c) : Below a.heap.size a c := h.trans (k.mono h.size)

end Go.Proofs.YtkblmpmkchkpjaaGreatDoor
namespace Go.Proofs.YtkblmpmkchkpjaaGreatDoor.WMath
set_option maxRecDepth 100000
set_option maxHeartbeats 40000000
def gs (hi lo top : Nat) : Nat := if hi < top then (hi * 18446744073709551616 + lo) / top else 18446744073709551615
end Go.Proofs.YtkblmpmkchkpjaaGreatDoor.WMath
namespace Go.Proofs.YtkblmpmkchkpjaaGreatDoor
set_option maxRecDepth 100000
set_option maxHeartbeats 40000000
open Go.RowKit WMath
def tn (r A B : Nat) : Value := .agg #[.int .u64 r, .int .u64 A, .int .u64 B]

end Go.Proofs.YtkblmpmkchkpjaaGreatDoor
namespace Go.Proofs.YtkblmpmkchkpjaaGreatDoor.XMath
set_option maxRecDepth 100000
set_option maxHeartbeats 40000000
open WMath
def tz (n : Nat) : Nat := if h : n = 0 ∨ n % 2 = 1 then 0 else tz (n / 2) + 1
termination_by n
decreasing_by omega
theorem tz_odd (n : Nat) (h : n % 2 = 1) : tz n = 0 := by rw [tz, dif_pos (Or.inr h)]
theorem tz_even (n : Nat) (h0 : n ≠ 0) (h : n % 2 = 0) : tz n = tz (n / 2) + 1 := by rw [tz, dif_neg (by omega)]
theorem tz_is (n : Nat) (h : n ≠ 0) : ∃ m, n = m * 2 ^ tz n ∧ m % 2 = 1 := by
 induction n using Nat.strongRecOn with
 | _ n ih =>
  by_cases h1 : n % 2 = 1
  ·
   exact ⟨n, by rw [tz_odd n h1, Nat.pow_zero, Nat.mul_one], h1⟩
  ·
   obtain ⟨m, hm, ho⟩ := ih (n / 2) (by omega) (by omega)
   refine ⟨m, ?_, ho⟩
   rw [tz_even n h (by omega), Nat.pow_succ, ← Nat.mul_assoc, ← hm]
   omega
def od (n : Nat) : Nat := n / 2 ^ tz n
theorem od_is (n : Nat) (h : n ≠ 0) : n = od n * 2 ^ tz n ∧ od n % 2 = 1 := by
 obtain ⟨m, hm, ho⟩ := tz_is n h
 have e : od n = m := by
  unfold od
  generalize tz n = k at hm ⊢
  rw [hm]
  exact Nat.mul_div_cancel _ (Nat.two_pow_pos _)
 rw [e]
 exact ⟨hm, ho⟩
theorem od_odd (n : Nat) (h : n % 2 = 1) : od n = n := by unfold od; rw [tz_odd n h, Nat.pow_zero, Nat.div_one]
theorem od_le (n : Nat) : od n ≤ n := Nat.div_le_self _ _
theorem tz_blen (n : Nat) : tz n ≤ zW n := by
 by_cases h : n = 0
 ·
  rw [h, tz, dif_pos (Or.inl rfl)]; omega
 ·
  obtain ⟨h1, h2⟩ := od_is n h
  have h3 : 2 ^ tz n ≤ n := by
   generalize tz n = k at h1 ⊢
   rw [h1]
   exact Nat.le_mul_of_pos_left _ (by omega)
  have h4 := blen_lt n
  exact Nat.le_of_lt ((Nat.pow_lt_pow_iff_right (by decide : 1 < 2)).1 (Nat.lt_of_le_of_lt h3 h4))

structure XN where
  b : Bool
  n : Nat
  d : Nat
  e : Int
def XN.can (x : XN) : Prop := nl x.n ≤ 16384 ∧ nl x.d ≤ 16384 ∧ -1048576 ≤ x.e ∧ x.e ≤ 1048576 ∧ ((x.b = false ∧ x.n = 0 ∧ x.d = 1 ∧ x.e = 0) ∨ (x.n % 2 = 1 ∧ x.d % 2 = 1 ∧ Nat.gcd x.n x.d = 1))
def sgn (b : Bool) : Rat := if b then -1 else 1
def XN.val (x : XN) : Rat := sgn x.b * ((x.n : Rat) / (x.d : Rat)) * (2 : Rat) ^ x.e
def X0 : XN := ⟨false, 0, 1, 0⟩
def XZ : XN := ⟨false, 0, 0, 0⟩
theorem XN.can.d {x : XN} (h : x.can) : x.d % 2 = 1 := by rcases h.2.2.2.2 with h | h <;> omega
theorem XN.can.d0 {x : XN} (h : x.can) : x.d ≠ 0 := by have := h.d; omega
theorem XN.can.null {x : XN} (h : x.can) (h0 : x.n = 0) : x = X0 := by
 rcases h.2.2.2.2 with h | h
 ·
  cases x; simp_all [X0]
 ·
  omega
theorem XN.can.odd {x : XN} (h : x.can) (h0 : x.n ≠ 0) : x.n % 2 = 1 ∧ x.d % 2 = 1 ∧ Nat.gcd x.n x.d = 1 := by
 rcases h.2.2.2.2 with h | h
 ·
  exact absurd h.2.1 h0
 ·
  exact h
theorem x0_can : X0.can := ⟨Nat.le_trans (nl_mono 0 1 (by decide)) (Nat.le_trans (nl_le_of 1 1 (by decide)) (by decide)), Nat.le_trans (nl_le_of 1 1 (by decide)) (by decide), by decide, by decide, Or.inl ⟨rfl, rfl, rfl, rfl⟩⟩

def mk (neg : Bool) (n d : Nat) (e : Int) : XN × Int :=
  if n = 0 then (X0, 0)
  else if -1048576 ≤ e + (tz n : Int) - (tz d : Int) ∧ e + (tz n : Int) - (tz d : Int) ≤ 1048576 then (⟨neg, od n / Nat.gcd (od n) (od d), od d / Nat.gcd (od n) (od d), e + (tz n : Int) - (tz d : Int)⟩, 0)
  else (XZ, 4)
theorem div_odd (a g : Nat) (h : g ∣ a) (ha : a % 2 = 1) : a / g % 2 = 1 := by
 obtain ⟨k, rfl⟩ := h
 have g0 : 0 < g := by
  rcases Nat.eq_zero_or_pos g with h | h
  ·
   rw [h, Nat.zero_mul] at ha; omega
  ·
   exact h
 rw [Nat.mul_div_cancel_left _ g0]
 rcases Nat.mod_two_eq_zero_or_one k with h | h
 ·
  rw [Nat.mul_mod, h, Nat.mul_zero] at ha; omega
 ·
  exact h
theorem mul_odd (a b : Nat) (ha : a % 2 = 1) (hb : b % 2 = 1) : a * b % 2 = 1 := by rw [Nat.mul_mod, ha, hb]
theorem mk_can (neg : Bool) (n d : Nat) (e : Int) (hn : nl n ≤ 16384) (hd : nl d ≤ 16384) (d0 : d ≠ 0) (h : (mk neg n d e).2 = 0) : (mk neg n d e).1.can := by
 unfold mk at h ⊢
 split
 ·
  exact x0_can
 ·
  rename_i n0
  rw [if_neg n0] at h
  split
  ·
   rename_i hb
   obtain ⟨h1, h2⟩ := od_is n n0
   obtain ⟨h3, h4⟩ := od_is d d0
   have g1 := Nat.gcd_dvd_left (od n) (od d)
   have g2 := Nat.gcd_dvd_right (od n) (od d)
   refine ⟨Nat.le_trans (nl_mono _ _ (Nat.le_trans (Nat.div_le_self _ _) (od_le n))) hn, Nat.le_trans (nl_mono _ _ (Nat.le_trans (Nat.div_le_self _ _) (od_le d))) hd, hb.1, hb.2, Or.inr ⟨div_odd _ _ g1 h2, div_odd _ _ g2 h4, ?_⟩⟩
   show Nat.gcd (od n / Nat.gcd (od n) (od d)) (od d / Nat.gcd (od n) (od d)) = 1
   rw [Nat.gcd_div g1 g2]
   exact Nat.div_self (Nat.gcd_pos_of_pos_left _ (by omega))
  ·
   rename_i hb
   rw [if_neg hb] at h
   exact absurd h (by decide)
theorem p2 (e : Int) : (0 : Rat) < (2 : Rat) ^ e := Rat.zpow_pos (by decide)
theorem p2ne (e : Int) : (2 : Rat) ^ e ≠ 0 := Rat.ne_of_gt (p2 e)
theorem p2add (e f : Int) : (2 : Rat) ^ (e + f) = (2 : Rat) ^ e * (2 : Rat) ^ f := Rat.zpow_add (by decide) e f
theorem p2nat (n : Nat) : (2 : Rat) ^ (n : Int) = ((2 ^ n : Nat) : Rat) := by rw [Rat.zpow_natCast, Rat.natCast_pow]; rfl
theorem p2sub (e f : Int) : (2 : Rat) ^ (e - f) * (2 : Rat) ^ f = (2 : Rat) ^ e := by rw [← p2add, Int.sub_add_cancel]
theorem mk_val (neg : Bool) (n d : Nat) (e : Int) (d0 : d ≠ 0) (h : (mk neg n d e).2 = 0) : (mk neg n d e).1.val = sgn neg * ((n : Rat) / (d : Rat)) * (2 : Rat) ^ e := by
 unfold mk at h ⊢
 split
 ·
  rename_i n0
  rw [n0]
  show sgn false * (((0 : Nat) : Rat) / ((1 : Nat) : Rat)) * (2 : Rat) ^ (0 : Int) = sgn neg * (((0 : Nat) : Rat) / (d : Rat)) * (2 : Rat) ^ e
  have : ((0 : Nat) : Rat) = 0 := rfl
  rw [this]
  simp [Rat.div_def]
 ·
  rename_i n0
  rw [if_neg n0] at h
  split
  ·
   rename_i hb
   obtain ⟨h1, h2⟩ := od_is n n0
   obtain ⟨h3, h4⟩ := od_is d d0
   obtain ⟨n', e1⟩ := Nat.gcd_dvd_left (od n) (od d)
   obtain ⟨d', e2⟩ := Nat.gcd_dvd_right (od n) (od d)
   have g0 : 0 < Nat.gcd (od n) (od d) := Nat.gcd_pos_of_pos_left _ (by omega)
   show sgn neg * (((od n / Nat.gcd (od n) (od d) : Nat) : Rat) / ((od d / Nat.gcd (od n) (od d) : Nat) : Rat)) * (2 : Rat) ^ (e + (tz n : Int) - (tz d : Int)) = _
   generalize Nat.gcd (od n) (od d) = g at *
   have c1 : od n / g = n' := by rw [e1]; exact Nat.mul_div_cancel_left _ g0
   have c2 : od d / g = d' := by rw [e2]; exact Nat.mul_div_cancel_left _ g0
   rw [c1, c2]
   have d'0 : d' ≠ 0 := by
    intro hz
    rw [hz, Nat.mul_zero] at e2
    omega
   rw [e1] at h1
   rw [e2] at h3
   have k1 : (n : Rat) = (g : Rat) * (n' : Rat) * (2 : Rat) ^ (tz n : Int) := by
    rw [p2nat, ← Rat.natCast_mul, ← Rat.natCast_mul, ← h1]
   have k2 : (d : Rat) = (g : Rat) * (d' : Rat) * (2 : Rat) ^ (tz d : Int) := by
    rw [p2nat, ← Rat.natCast_mul, ← Rat.natCast_mul, ← h3]
   have k3 := p2sub (e + (tz n : Int)) (tz d : Int)
   rw [p2add e] at k3
   have z1 := p2ne (tz d : Int)
   have z2 : (g : Rat) ≠ 0 := fun h => by rw [Rat.natCast_eq_zero_iff] at h; omega
   have z3 : (d' : Rat) ≠ 0 := fun h => d'0 (Rat.natCast_eq_zero_iff.1 h)
   rw [k1, k2]
   generalize (2 : Rat) ^ (e + (tz n : Int) - (tz d : Int)) = E at *
   generalize (2 : Rat) ^ (tz d : Int) = D at *
   generalize (2 : Rat) ^ (tz n : Int) = N at *
   generalize (2 : Rat) ^ e = F at *
   grind
  ·
   rename_i hb
   rw [if_neg hb] at h
   exact absurd h (by decide)

theorem cast_ne {n : Nat} (h : n ≠ 0) : (n : Rat) ≠ 0 := fun e => h (Rat.natCast_eq_zero_iff.1 e)
theorem cast_pos {n : Nat} (h : n ≠ 0) : (0 : Rat) < (n : Rat) := Rat.natCast_pos.2 (by omega)
theorem sgn_ne (b : Bool) : sgn b ≠ 0 := by cases b <;> decide
def XN.mag (x : XN) : Rat := ((x.n : Rat) / (x.d : Rat)) * (2 : Rat) ^ x.e
theorem val_mag (x : XN) : x.val = sgn x.b * x.mag := by unfold XN.val XN.mag; rw [Rat.mul_assoc]
theorem mag_pos (x : XN) (hn : x.n ≠ 0) (hd : x.d ≠ 0) : 0 < x.mag := by
 unfold XN.mag
 rw [Rat.div_def]
 exact Rat.mul_pos (Rat.mul_pos (cast_pos hn) (Rat.inv_pos.2 (cast_pos hd))) (p2 _)
theorem mag_zero (x : XN) (hn : x.n = 0) : x.mag = 0 := by
 unfold XN.mag
 rw [hn]
 have : ((0 : Nat) : Rat) = 0 := rfl
 rw [this, Rat.div_def, Rat.zero_mul, Rat.zero_mul]
theorem mag_shift (x y : XN) (dx : x.d ≠ 0) (m : Int) (hm : m ≤ x.e) :
  x.mag * ((x.d * y.d : Nat) : Rat) = ((x.n * y.d * 2 ^ (x.e - m).toNat : Nat) : Rat) * (2 : Rat) ^ m := by
 have e1 : (2 : Rat) ^ x.e = (2 : Rat) ^ ((x.e - m).toNat : Int) * (2 : Rat) ^ m := by
  rw [← p2add]
  congr 1
  omega
 unfold XN.mag
 rw [Rat.natCast_mul, Rat.natCast_mul, Rat.natCast_mul, ← p2nat, e1]
 have z1 := cast_ne dx
 generalize (2 : Rat) ^ ((x.e - m).toNat : Int) = A at *
 generalize (2 : Rat) ^ m = B at *
 grind
theorem mag_one (x y : XN) (hx : x.n % 2 = 1 ∧ x.d % 2 = 1 ∧ Nat.gcd x.n x.d = 1) (hy : y.n % 2 = 1 ∧ y.d % 2 = 1 ∧ Nat.gcd y.n y.d = 1) (hle : x.e ≤ y.e) (h : x.mag = y.mag) : x.n = y.n ∧ x.d = y.d ∧ x.e = y.e := by
 have d1 : x.d ≠ 0 := by omega
 have d2 : y.d ≠ 0 := by omega
 have m1 := mag_shift x y d1 x.e (Int.le_refl _)
 have m2 := mag_shift y x d2 x.e hle
 rw [h, Nat.mul_comm x.d y.d, m2] at m1
 have m3 : ((y.n * x.d * 2 ^ (y.e - x.e).toNat : Nat) : Rat) = ((x.n * y.d * 2 ^ (x.e - x.e).toNat : Nat) : Rat) := by
  have z := p2ne x.e
  generalize (2 : Rat) ^ x.e = A at *
  generalize ((y.n * x.d * 2 ^ (y.e - x.e).toNat : Nat) : Rat) = B at *
  generalize ((x.n * y.d * 2 ^ (x.e - x.e).toNat : Nat) : Rat) = C at *
  grind
 rw [Rat.natCast_inj, Int.sub_self] at m3
 have m4 : y.n * x.d * 2 ^ (y.e - x.e).toNat = x.n * y.d := by rw [m3]; simp
 have e0 : (y.e - x.e).toNat = 0 := by
  by_cases hz : (y.e - x.e).toNat = 0
  ·
   exact hz
  ·
   exfalso
   obtain ⟨k, hk⟩ : ∃ k, (y.e - x.e).toNat = k + 1 := ⟨_, (Nat.succ_pred_eq_of_ne_zero hz).symm⟩
   rw [hk, Nat.pow_succ, ← Nat.mul_assoc] at m4
   have := mul_odd _ _ hx.1 hy.2.1
   omega
 rw [e0, Nat.pow_zero, Nat.mul_one] at m4
 have q1 : x.n ∣ y.n := by
  have : x.n ∣ y.n * x.d := ⟨y.d, m4⟩
  exact Nat.Coprime.dvd_of_dvd_mul_right hx.2.2 this
 have q2 : y.n ∣ x.n := by
  have : y.n ∣ x.n * y.d := ⟨x.d, m4.symm⟩
  exact Nat.Coprime.dvd_of_dvd_mul_right hy.2.2 this
 have q3 := Nat.dvd_antisymm q1 q2
 refine ⟨q3, ?_, by omega⟩
 rw [q3] at m4
 exact Nat.eq_of_mul_eq_mul_left (by omega) m4
theorem can_inj (x y : XN) (hx : x.can) (hy : y.can) (h : x.val = y.val) : x = y := by
 rw [val_mag, val_mag] at h
 by_cases n1 : x.n = 0
 ·
  rw [mag_zero x n1, Rat.mul_zero] at h
  by_cases n2 : y.n = 0
  ·
   rw [hx.null n1, hy.null n2]
  ·
   exfalso
   have p := mag_pos y n2 hy.d0
   rcases (Rat.mul_eq_zero.1 h.symm) with h | h
   ·
    exact sgn_ne _ h
   ·
    rw [h] at p; exact absurd p Rat.lt_irrefl
 ·
  by_cases n2 : y.n = 0
  ·
   exfalso
   rw [mag_zero y n2, Rat.mul_zero] at h
   have p := mag_pos x n1 hx.d0
   rcases (Rat.mul_eq_zero.1 h) with h | h
   ·
    exact sgn_ne _ h
   ·
    rw [h] at p; exact absurd p Rat.lt_irrefl
  ·
   have p1 := mag_pos x n1 hx.d0
   have p2 := mag_pos y n2 hy.d0
   have hb : x.b = y.b := by
    cases e1 : x.b <;> cases e2 : y.b
    ·
     rfl
    ·
     exfalso
     rw [e1, e2] at h
     unfold sgn at h
     simp at h
     grind
    ·
     exfalso
     rw [e1, e2] at h
     unfold sgn at h
     simp at h
     grind
    ·
     rfl
   have hm : x.mag = y.mag := by
    rw [hb] at h
    have := sgn_ne y.b
    generalize sgn y.b = s at *
    grind
   have key : x.n = y.n ∧ x.d = y.d ∧ x.e = y.e := by
    by_cases hle : x.e ≤ y.e
    ·
     exact mag_one x y (hx.odd n1) (hy.odd n2) hle hm
    ·
     obtain ⟨a, b, c⟩ := mag_one y x (hy.odd n2) (hx.odd n1) (by omega) hm.symm
     exact ⟨a.symm, b.symm, c.symm⟩
   obtain ⟨k1, k2, k3⟩ := key
   cases x; cases y
   simp_all

def sA (x y : XN) : Nat := x.n * y.d * 2 ^ (x.e - min x.e y.e).toNat
def sS (x y : XN) : Nat := if x.b = y.b then sA x y + sA y x else if sA x y < sA y x then sA y x - sA x y else sA x y - sA y x
def sN (x y : XN) : Bool := if x.b = y.b then x.b else if sA x y < sA y x then y.b else x.b
def addX (x y : XN) : XN × Int :=
  if x.n = 0 then (y, 0) else if y.n = 0 then (x, 0)
  else if nl (sA x y) ≤ 16384 ∧ nl (sA y x) ≤ 16384 ∧ nl (x.d * y.d) ≤ 16384 ∧ nl (sS x y) ≤ 16384 then mk (sN x y) (sS x y) (x.d * y.d) (min x.e y.e) else (XZ, 4)
theorem sA_mag (x y : XN) (dx : x.d ≠ 0) : x.mag * ((x.d * y.d : Nat) : Rat) = ((sA x y : Nat) : Rat) * (2 : Rat) ^ (min x.e y.e) :=
 mag_shift x y dx _ (Int.min_le_left _ _)
theorem mul_ne {a b : Nat} (ha : a ≠ 0) (hb : b ≠ 0) : a * b ≠ 0 := fun h => by rcases Nat.mul_eq_zero.1 h with h | h <;> contradiction
theorem sS_val (x y : XN) : sgn (sN x y) * ((sS x y : Nat) : Rat) = sgn x.b * ((sA x y : Nat) : Rat) + sgn y.b * ((sA y x : Nat) : Rat) := by
 unfold sS sN
 split
 ·
  rename_i h
  rw [h, Rat.natCast_add, Rat.mul_add]
 ·
  rename_i h
  have hs : sgn y.b = - sgn x.b := by
   cases e1 : x.b <;> cases e2 : y.b <;> rw [e1, e2] at h <;> first | exact absurd rfl h | decide
  split
  ·
   rename_i hl
   have e : ((sA y x - sA x y : Nat) : Rat) = ((sA y x : Nat) : Rat) - ((sA x y : Nat) : Rat) := by
    have : ((sA y x - sA x y : Nat) : Rat) + ((sA x y : Nat) : Rat) = ((sA y x : Nat) : Rat) := by rw [← Rat.natCast_add, Nat.sub_add_cancel (Nat.le_of_lt hl)]
    rw [← this]
    grind
   rw [e, hs]
   grind
  ·
   rename_i hl
   have e : ((sA x y - sA y x : Nat) : Rat) = ((sA x y : Nat) : Rat) - ((sA y x : Nat) : Rat) := by
    have : ((sA x y - sA y x : Nat) : Rat) + ((sA y x : Nat) : Rat) = ((sA x y : Nat) : Rat) := by rw [← Rat.natCast_add, Nat.sub_add_cancel (by omega)]
    rw [← this]
    grind
   rw [e, hs]
   grind
theorem add_good (x y : XN) (hx : x.can) (hy : y.can) (h : (addX x y).2 = 0) : (addX x y).1.can ∧ (addX x y).1.val = x.val + y.val := by
 unfold addX at h ⊢
 split
 ·
  rename_i n0
  refine ⟨hy, ?_⟩
  rw [val_mag x, mag_zero x n0, Rat.mul_zero, Rat.zero_add]
 ·
  rename_i n0
  split
  ·
   rename_i m0
   refine ⟨hx, ?_⟩
   rw [val_mag y, mag_zero y m0, Rat.mul_zero, Rat.add_zero]
  ·
   rename_i m0
   rw [if_neg n0, if_neg m0] at h
   split
   ·
    rename_i hl
    rw [if_pos hl] at h
    have dz := mul_ne hx.d0 hy.d0
    refine ⟨mk_can _ _ _ _ hl.2.2.2 hl.2.2.1 dz h, ?_⟩
    rw [mk_val _ _ _ _ dz h, val_mag x, val_mag y]
    have k1 := sA_mag x y hx.d0
    have k2 := sA_mag y x hy.d0
    have k3 := sS_val x y
    rw [Nat.mul_comm y.d x.d, show min y.e x.e = min x.e y.e from Int.min_comm _ _] at k2
    have z := cast_ne dz
    generalize (2 : Rat) ^ (min x.e y.e) = P at *
    generalize ((x.d * y.d : Nat) : Rat) = D at *
    generalize ((sA x y : Nat) : Rat) = A at *
    generalize ((sA y x : Nat) : Rat) = B at *
    generalize ((sS x y : Nat) : Rat) = S at *
    generalize sgn (sN x y) = s at *
    generalize sgn x.b = s1 at *
    generalize sgn y.b = s2 at *
    generalize x.mag = u at *
    generalize y.mag = v at *
    have e1 : s * (S / D) * P = (s * S) * P / D := by grind
    rw [e1, k3]
    have e2 : (s1 * A + s2 * B) * P / D = (s1 * (A * P) + s2 * (B * P)) / D := by grind
    rw [e2, ← k1, ← k2]
    grind
   ·
    rename_i hl
    rw [if_neg hl] at h
    exact absurd h (by decide)
def sg (x : XN) : Int := if x.n = 0 then 0 else if x.b then -1 else 1
def lenD (x : XN) : Int := (zW x.n : Int) - (zW x.d : Int)
def tA (x : XN) : Nat := x.n * 2 ^ (max (-lenD x) 0).toNat
def tB (x : XN) : Nat := x.d * 2 ^ (max (lenD x) 0).toNat
def topX (x : XN) : Int := (if tA x < tB x then lenD x - 1 else lenD x) + x.e
def flX (x : XN) (e : Int) : (Nat × Bool) × Int :=
  if e < -2097152 ∨ 2097152 < e then ((0, false), 2) else if x.n = 0 then ((0, true), 0)
  else if e ≤ x.e then (if nl (x.n * 2 ^ (x.e - e).toNat) ≤ 16384 then ((x.n * 2 ^ (x.e - e).toNat / x.d, decide (x.n * 2 ^ (x.e - e).toNat % x.d = 0)), 0) else ((0, false), 4))
  else if topX x < e then ((0, false), 0) else ((x.n / (x.d * 2 ^ (e - x.e).toNat), false), 0)

def Bd (x : XN) (p E : Nat) : Prop := x.n < 2 ^ p ∧ x.d < 2 ^ p ∧ -(E : Int) ≤ x.e ∧ x.e ≤ E
theorem nl_pow (n p : Nat) (h : n < 2 ^ p) (hp : p ≤ 131072) : nl n ≤ 16384 := by
 have := xI n p h
 unfold nl
 omega
theorem mul_pow_lt (a b p q : Nat) (ha : a < 2 ^ p) (hb : b < 2 ^ q) : a * b < 2 ^ (p + q) := by
 rw [Nat.pow_add]
 exact Nat.mul_lt_mul'' ha hb
theorem pow_le2 (p q : Nat) (h : p ≤ q) : (2 : Nat) ^ p ≤ 2 ^ q := Nat.pow_le_pow_right (by decide) h
theorem mk_ok (neg : Bool) (n d : Nat) (e : Int) (P E F : Nat) (hn : n < 2 ^ P) (hd : d < 2 ^ P) (ho : d % 2 = 1) (he1 : -(E : Int) ≤ e) (he2 : e ≤ E) (hF : E + P = F) (h : F ≤ 1048576) : (mk neg n d e).2 = 0 ∧ Bd (mk neg n d e).1 P F := by
 have P1 : 1 < 2 ^ P := by omega
 have t0 := tz_odd d ho
 have t1 := Nat.le_trans (tz_blen n) (xI n P hn)
 unfold mk
 split
 ·
  exact ⟨rfl, Nat.two_pow_pos _, P1, by show -(F : Int) ≤ 0; omega, by show (0 : Int) ≤ F; omega⟩
 ·
  rw [t0, if_pos (by omega)]
  refine ⟨rfl, Nat.lt_of_le_of_lt (Nat.le_trans (Nat.div_le_self _ _) (od_le _)) hn, Nat.lt_of_le_of_lt (Nat.le_trans (Nat.div_le_self _ _) (od_le _)) hd, ?_, ?_⟩
  ·
   show -(F : Int) ≤ e + (tz n : Int) - ((0 : Nat) : Int); omega
  ·
   show e + (tz n : Int) - ((0 : Nat) : Int) ≤ (F : Int); omega
theorem sA_lt (x y : XN) (p q E F : Nat) (hx : Bd x p E) (hy : Bd y q F) : sA x y < 2 ^ (p + q + (E + F)) := by
 obtain ⟨a1, a2, a3, a4⟩ := hx
 obtain ⟨b1, b2, b3, b4⟩ := hy
 unfold sA
 rw [Nat.pow_add]
 have h1 := mul_pow_lt _ _ _ _ a1 b2
 have h2 : (2 : Nat) ^ (x.e - min x.e y.e).toNat ≤ 2 ^ (E + F) := pow_le2 _ _ (by omega)
 exact Nat.lt_of_lt_of_le (Nat.mul_lt_mul_of_pos_right h1 (Nat.two_pow_pos _)) (Nat.mul_le_mul_left _ h2)
theorem add_ok (x y : XN) (p q E F P G : Nat) (hx : x.can) (hy : y.can) (bx : Bd x p E) (bz : Bd y q F) (hP : p + q + (E + F) + 1 = P) (hG : E + F + P = G) (h1 : P ≤ 131072) (h2 : G ≤ 1048576) : (addX x y).2 = 0 ∧ Bd (addX x y).1 P G := by
 have s1 := sA_lt x y p q E F bx bz
 have s2 := sA_lt y x q p F E bz bx
 rw [show q + p + (F + E) = p + q + (E + F) by omega] at s2
 obtain ⟨a1, a2, a3, a4⟩ := bx
 obtain ⟨b1, b2, b3, b4⟩ := bz
 have dd : x.d * y.d < 2 ^ P := Nat.lt_of_lt_of_le (mul_pow_lt _ _ _ _ a2 b2) (pow_le2 _ _ (by omega))
 have e2 : 2 ^ P = 2 * 2 ^ (p + q + (E + F)) := by rw [← hP, Nat.pow_succ, Nat.mul_comm]
 have ss : sS x y < 2 ^ P := by
  rw [e2]
  unfold sS
  split
  ·
   omega
  ·
   split <;> omega
 unfold addX
 split
 ·
  exact ⟨rfl, Nat.lt_of_lt_of_le b1 (pow_le2 _ _ (by omega)), Nat.lt_of_lt_of_le b2 (pow_le2 _ _ (by omega)), by show -(G : Int) ≤ y.e; omega, by show y.e ≤ (G : Int); omega⟩
 ·
  split
  ·
   exact ⟨rfl, Nat.lt_of_lt_of_le a1 (pow_le2 _ _ (by omega)), Nat.lt_of_lt_of_le a2 (pow_le2 _ _ (by omega)), by show -(G : Int) ≤ x.e; omega, by show x.e ≤ (G : Int); omega⟩
  ·
   rw [if_pos ⟨nl_pow _ P (by omega) h1, nl_pow _ P (by omega) h1, nl_pow _ P dd h1, nl_pow _ P ss h1⟩]
   exact mk_ok _ _ _ _ P (E + F) G ss dd (mul_odd _ _ hx.d hy.d) (by omega) (by omega) hG h2
end Go.Proofs.YtkblmpmkchkpjaaGreatDoor.XMath
