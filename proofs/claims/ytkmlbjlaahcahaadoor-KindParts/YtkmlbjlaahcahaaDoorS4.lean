/-
  The document's answer for package shape.
-/
import Derived.Test.YtkmlbjlaahcahaaDoorS1
import Derived.Test.YtkmlbjlaahcahaaDoorQuot2
import Derived.Test.YtkmlbjlaahcahaaDoorRwide1
namespace Go.Proofs.YtkmlbjlaahcahaaDoor
open Go.RowKit WMath

theorem r_right (f : Int) (o : Bool) (ho : decide (f ≤ 3) = o) (w : World) :
    Calls Tryd.prog 10 #[.int .u8 f] w fun e w' => e = .returned (.bool o) ∧ w' = w := by
  go_enter Tryd.func10, Tryd.ntmps10
  go_wp2
  go_ret
  exact ⟨rfl, rfl⟩
theorem r_width (f v : Int) (h0 : 0 ≤ f) (hv : fW f = v) (w : World) :
    Calls Tryd.prog 50 #[.int .u8 f] w fun e w' => e = .returned (.int .i64 v) ∧ w' = w := by
  subst hv
  rcases f_cases f h0 with rfl | rfl | rfl | rfl | h
  · go_enter Tryd.func50, Tryd.ntmps50
    go_wp2
    go_ret
    exact ⟨rfl, rfl⟩
  · go_enter Tryd.func50, Tryd.ntmps50
    go_wp2
    go_ret
    exact ⟨rfl, rfl⟩
  · go_enter Tryd.func50, Tryd.ntmps50
    go_wp2
    go_ret
    exact ⟨rfl, rfl⟩
  · go_enter Tryd.func50, Tryd.ntmps50
    go_wp2
    go_ret
    exact ⟨rfl, rfl⟩
  · have e0 : fW f = 0 := by unfold fW; rw [if_neg (by omega), if_neg (by omega), if_neg (by omega), if_neg (by omega)]
    rw [e0]
    have d0 : (f == 0) = false := by simp; omega
    have d1 : (f == 1) = false := by simp; omega
    have d2 : (f == 2) = false := by simp; omega
    have d3 : (f == 3) = false := by simp; omega
    go_enter Tryd.func50, Tryd.ntmps50
    go_wp2
    go_ret
    exact ⟨rfl, rfl⟩
theorem r_precision (f v : Int) (h0 : 0 ≤ f) (hv : fP f = v) (w : World) :
    Calls Tryd.prog 20 #[.int .u8 f] w fun e w' => e = .returned (.int .i64 v) ∧ w' = w := by
  subst hv
  rcases f_cases f h0 with rfl | rfl | rfl | rfl | h
  · go_enter Tryd.func20, Tryd.ntmps20
    go_wp2
    go_ret
    exact ⟨rfl, rfl⟩
  · go_enter Tryd.func20, Tryd.ntmps20
    go_wp2
    go_ret
    exact ⟨rfl, rfl⟩
  · go_enter Tryd.func20, Tryd.ntmps20
    go_wp2
    go_ret
    exact ⟨rfl, rfl⟩
  · go_enter Tryd.func20, Tryd.ntmps20
    go_wp2
    go_ret
    exact ⟨rfl, rfl⟩
  · have e0 : fP f = 0 := by unfold fP; rw [if_neg (by omega), if_neg (by omega), if_neg (by omega), if_neg (by omega)]
    rw [e0]
    have d0 : (f == 0) = false := by simp; omega
    have d1 : (f == 1) = false := by simp; omega
    have d2 : (f == 2) = false := by simp; omega
    have d3 : (f == 3) = false := by simp; omega
    go_enter Tryd.func20, Tryd.ntmps20
    go_wp2
    go_ret
    exact ⟨rfl, rfl⟩
theorem r_emax (f v : Int) (h0 : 0 ≤ f) (hv : fE f = v) (w : World) :
    Calls Tryd.prog 25 #[.int .u8 f] w fun e w' => e = .returned (.int .i64 v) ∧ w' = w := by
  subst hv
  rcases f_cases f h0 with rfl | rfl | rfl | rfl | h
  · go_enter Tryd.func25, Tryd.ntmps25
    go_wp2
    go_ret
    exact ⟨rfl, rfl⟩
  · go_enter Tryd.func25, Tryd.ntmps25
    go_wp2
    go_ret
    exact ⟨rfl, rfl⟩
  · go_enter Tryd.func25, Tryd.ntmps25
    go_wp2
    go_ret
    exact ⟨rfl, rfl⟩
  · go_enter Tryd.func25, Tryd.ntmps25
    go_wp2
    go_ret
    exact ⟨rfl, rfl⟩
  · have e0 : fE f = 0 := by unfold fE; rw [if_neg (by omega), if_neg (by omega), if_neg (by omega), if_neg (by omega)]
    rw [e0]
    have d0 : (f == 0) = false := by simp; omega
    have d1 : (f == 1) = false := by simp; omega
    have d2 : (f == 2) = false := by simp; omega
    have d3 : (f == 3) = false := by simp; omega
    go_enter Tryd.func25, Tryd.ntmps25
    go_wp2
    go_ret
    exact ⟨rfl, rfl⟩

theorem fE_lim {f m : Int} (h : fE f = m) : 0 ≤ m ∧ m ≤ 16383 := by rw [← h]; unfold fE; split <;> (try split) <;> (try split) <;> (try split) <;> omega
theorem fP_lim {f m : Int} (h : fP f = m) : 0 ≤ m ∧ m ≤ 113 := by rw [← h]; unfold fP; split <;> (try split) <;> (try split) <;> (try split) <;> omega
theorem fW_lim {f m : Int} (h : fW f = m) : 0 ≤ m ∧ m ≤ 128 := by rw [← h]; unfold fW; split <;> (try split) <;> (try split) <;> (try split) <;> omega

theorem r_emin (f m v : Int) (h0 : 0 ≤ f) (hm : fE f = m) (hv : (if fC f = 0 then 1 - m else 0) = v) (w : World) :
    Calls Tryd.prog 21 #[.int .u8 f] w fun e w' => e = .returned (.int .i64 v) ∧ w' = w := by
  have hm2 := fE_lim hm
  by_cases h : f ≤ 3
  · have hc : fC f = 0 := by unfold fC; rw [if_pos (by omega)]
    rw [if_pos hc] at hv
    subst hv
    have hw : IntKind.i64.wrap (1 - m) = 1 - m := by rw [IntKind.wrap_i64]; omega
    go_enter Tryd.func21, Tryd.ntmps21
    go_wp2_with fail
    refine (r_right f true (by simp [h]) _).mono ?_
    rintro r w' ⟨rfl, rfl⟩
    go_wp2_with fail
    refine (r_emax f m h0 hm _).mono ?_
    rintro r w' ⟨rfl, rfl⟩
    go_wp2
    go_ret
    exact ⟨rfl, rfl⟩
  · have hc : ¬ fC f = 0 := by unfold fC; rw [if_neg (by omega)]; decide
    rw [if_neg hc] at hv
    subst hv
    go_enter Tryd.func21, Tryd.ntmps21
    go_wp2_with fail
    refine (r_right f false (by simp; omega) _).mono ?_
    rintro r w' ⟨rfl, rfl⟩
    go_wp2
    go_ret
    exact ⟨rfl, rfl⟩

theorem r_ones (f m v : Int) (h0 : 0 ≤ f) (hm : fE f = m) (hv : 2 * m + 1 = v) (w : World) :
    Calls Tryd.prog 18 #[.int .u8 f] w fun e w' => e = .returned (.int .i64 v) ∧ w' = w := by
  have hm2 := fE_lim hm
  have h1 : IntKind.i64.wrap (2 * m) = 2 * m := by rw [IntKind.wrap_i64]; omega
  have h2 : IntKind.i64.wrap (2 * m + 1) = v := by rw [IntKind.wrap_i64]; omega
  go_enter Tryd.func18, Tryd.ntmps18
  go_wp2_with fail
  refine (r_emax f m h0 hm _).mono ?_
  rintro r w' ⟨rfl, rfl⟩
  go_wp2
  go_ret
  exact ⟨rfl, rfl⟩

theorem r_fits_no (f : Int) (b : Nat × Nat) (h : ¬ f ≤ 3) (w : World) :
    Calls Tryd.prog 16 #[.int .u8 f, bitsV b] w fun e w' => e = .returned (.bool false) ∧ Below w.heap.size w w' := by
  unfold bitsV
  go_enter Tryd.func16, Tryd.ntmps16
  go_wp2_with fail
  refine (r_right f false (by simp; omega) _).mono ?_
  rintro r w' ⟨rfl, rfl⟩
  go_wp2
  go_ret
  exact ⟨rfl, bal7 _ _⟩

theorem r_fits (f q : Int) (b : Nat × Nat) (n l : Nat) (o : Bool) (h0 : 0 ≤ f) (h : f ≤ 3) (hq : fW f = q) (hb1 : b.1 < 18446744073709551616) (hb2 : b.2 < 18446744073709551616) (hn : b.2 + 18446744073709551616 * b.1 = n) (hl : blen n = l) (ho : decide ((l : Int) ≤ q) = o) (w : World) :
    Calls Tryd.prog 16 #[.int .u8 f, bitsV b] w fun e w' => e = .returned (.bool o) ∧ Below w.heap.size w w' := by
  unfold bitsV
  go_enter Tryd.func16, Tryd.ntmps16
  go_wp2_with fail
  refine (r_right f true (by simp [h]) _).mono ?_
  rintro r w' ⟨rfl, rfl⟩
  go_wp2_with fail
  refine (rwofbits_is b.1 b.2 n hb1 hb2 hn _).mono ?_
  rintro r w2 ⟨rfl, b2⟩
  go_wp2_with fail
  refine (rwlen_any n (by rw [← hn]; exact bits_ltQ _ _ hb2 hb1) _).mono ?_
  rintro r w3 ⟨rfl, b3⟩
  go_wp2_with fail
  refine (r_width f q h0 hq _).mono ?_
  rintro r w' ⟨rfl, rfl⟩
  go_wp2
  go_ret
  exact ⟨rfl, btr7 (btr7 (bal7 _ _) b2) b3⟩

theorem lt_Q7 {v : Nat} (h : v < 340282366920938463463374607431768211456) : v < Q := by
  have := bits_ltQ (v % 18446744073709551616) (v / 18446744073709551616) (Nat.mod_lt _ (by decide)) (by omega)
  omega
theorem wd01 {v : Nat} (h : v < 340282366920938463463374607431768211456) : wd v 0 = v % 18446744073709551616 ∧ wd v 1 = v / 18446744073709551616 := by
  constructor
  · unfold wd; rw [Nat.mul_zero, Nat.pow_zero, Nat.div_one]
  · unfold wd; rw [show 2 ^ (64 * 1) = 18446744073709551616 by decide, Nat.mod_eq_of_lt (by omega)]

theorem bel_set {w W : World} {b : Nat} {c : Array Value} (h : Below w.heap.size w W) (hb : w.heap.size ≤ b) : Below w.heap.size w (W.setRow b c) := Below.setRow h hb

set_option maxHeartbeats 2000000 in
theorem r_build (f p q : Int) (neg : Bool) (e T A B C v pn qn : Nat) (hf : Is4 f) (hp : fP f = p) (hq : fW f = q) (hpn : p - 1 = (pn : Int)) (hqn : q - 1 = (qn : Int)) (he : e < 65536) (hT : T < Q)
    (hA : e * 2 ^ pn = A) (lA : A < Q) (hB : A + T = B) (lB : B < 340282366920938463463374607431768211456) (hC : 1 * 2 ^ qn = C) (lC : C < Q) (hv : B + (if neg then C else 0) = v) (lv : v < 340282366920938463463374607431768211456) (w : World) :
    Calls Tryd.prog 32 #[.int .u8 f, .bool neg, .int .i64 (e : Nat), .agg (cw 6 T)] w fun r w' => r = .returned (bitsV (bv7 v)) ∧ Below w.heap.size w w' := by
  have hat := cw_at 6
  have hz := cw6z
  have hff := cw6f
  have hs0 := st0
  have hcs : ∀ x, ((cw 6 x).size = 6) = True := fun x => eq_true (cw_size 6 x)
  have f4 := is4_ok hf
  have p2 := fP_lim hp
  have q2 := fW_lim hq
  have f3 : f ≤ 3 := by rcases hf with rfl | rfl | rfl | rfl <;> decide
  have e1 : IntKind.i64.wrap (p - 1) = (pn : Int) := by rw [← hpn, IntKind.wrap_i64]; omega
  have e3 : IntKind.i64.wrap (q - 1) = (qn : Int) := by rw [← hqn, IntKind.wrap_i64]; omega
  have e2 : IntKind.u64.wrap (e : Int) = (e : Int) := by rw [IntKind.wrap_u64]; omega
  have lBQ := lt_Q7 lB
  have lvQ := lt_Q7 lv
  have cp : cnt6 (pn : Int) = pn := by unfold cnt6; omega
  have cq : cnt6 (qn : Int) = qn := by unfold cnt6; omega
  have KA : Box (∀ w : World, Calls Tryd.prog 22 #[.agg (cw 6 e), .int .i64 (pn : Nat)] w fun r w' => r = .returned (.tuple #[.agg (cw 6 A), .bool false]) ∧ Below w.heap.size w w') := box (fun w => rwleft_is e A pn false (lt_Q7 (by omega)) (by rw [cp, hA, Nat.mod_eq_of_lt lA]) (by rw [cp, hA]; simp; omega) w)
  have KB : Box (∀ w : World, Calls Tryd.prog 24 #[.agg (cw 6 A), .agg (cw 6 T)] w fun r w' => r = .returned (.tuple #[.agg (cw 6 B), .bool false]) ∧ Below w.heap.size w w') := box (fun w => rwadd_is A T B false lA hT (by rw [hB, Nat.mod_eq_of_lt lBQ]) (by rw [hB]; simp; omega) w)
  have KC : Box (∀ w : World, Calls Tryd.prog 22 #[.agg (cw 6 1), .int .i64 (qn : Nat)] w fun r w' => r = .returned (.tuple #[.agg (cw 6 C), .bool false]) ∧ Below w.heap.size w w') := box (fun w => rwleft_is 1 C qn false (lt_Q7 (by omega)) (by rw [cq, hC, Nat.mod_eq_of_lt lC]) (by rw [cq, hC]; simp; omega) w)
  have KD : Box (neg = true → ∀ w : World, Calls Tryd.prog 24 #[.agg (cw 6 B), .agg (cw 6 C)] w fun r w' => r = .returned (.tuple #[.agg (cw 6 v), .bool false]) ∧ Below w.heap.size w w') := box (fun hn w => by
    subst hn
    have hv' : B + C = v := by simpa using hv
    exact rwadd_is B C v false lBQ lC (by rw [hv', Nat.mod_eq_of_lt lvQ]) (by rw [hv']; simp; omega) w)
  have W01 := wd01 lv
  have KE : Box (∀ w : World, Calls Tryd.prog 59 #[.agg (cw 6 v)] w fun r w' => r = .returned (.tuple #[.agg #[.int .u64 (v / 18446744073709551616 : Nat), .int .u64 (v % 18446744073709551616 : Nat)], .bool true]) ∧ Below w.heap.size w w') := box (fun w => by
    have h := rwtobits_yes v lvQ (by rw [W01.1, W01.2]; omega) w
    rw [W01.1, W01.2] at h
    exact h)
  have KR := box (r_right f true (by simp [f3]))
  have KP := box (r_precision f p f4.1 hp)
  have KW := box (r_width f q f4.1 hq)
  have KO : Box (∀ w : World, Calls Tryd.prog 23 #[.int .u64 (e : Nat)] w fun r w' => r = .returned (.agg (cw 6 e)) ∧ Below w.heap.size w w') := box (fun w => rwof_any e (by omega) w)
  have K1 : Box (∀ w : World, Calls Tryd.prog 23 #[.int .u64 1] w fun r w' => r = .returned (.agg (cw 6 1)) ∧ Below w.heap.size w w') := box (fun w => rwof_any 1 (by omega) w)
  obtain ⟨vh, hvh⟩ : ∃ x : Nat, v / 18446744073709551616 = x := ⟨_, rfl⟩
  obtain ⟨vl, hvl⟩ : ∃ x : Nat, v % 18446744073709551616 = x := ⟨_, rfl⟩
  have eR : bitsV (bv7 v) = .agg #[.int .u64 (vh : Nat), .int .u64 (vl : Nat)] := by unfold bitsV bv7; rw [hvh, hvl]
  rw [eR]
  rw [hvh, hvl] at KE
  have RT : ((w.alloc (.cells (cw 6 T) 28)).alloc (.cells #[.int .u64 0, .int .u64 0] 25)).heap[w.heap.size]? = some (.cells (cw 6 T) 28) := row_al (last7 _ _) _
  have RR : ((w.alloc (.cells (cw 6 T) 28)).alloc (.cells #[.int .u64 0, .int .u64 0] 25)).heap[w.heap.size + 1]? = some (.cells #[.int .u64 0, .int .u64 0] 25) := row_last (by simp only [size_al])
  have B0 : Below w.heap.size w ((w.alloc (.cells (cw 6 T) 28)).alloc (.cells #[.int .u64 0, .int .u64 0] 25)) := btr7 (bal7 _ _) (bal7 _ _)
  have HV : Box (B + (if neg then C else 0) = v) := box hv
  have HL := box lB
  have HCL := box lC
  have HVL := box lvQ
  clear hA lA hB lB hC lC hv lv hT he hpn hqn f4 p2 q2 f3 hp hq cp cq W01 lBQ lvQ hvh hvl eR hf
  go_enter Tryd.func32, Tryd.ntmps32
  go_wp2_with fail
  refine (KR.out _).mono ?_
  rintro r w' ⟨rfl, rfl⟩
  go_wp2_with fail
  refine (KO.out _).mono ?_
  rintro r w1 ⟨rfl, b1⟩
  have B1 := btr7 B0 b1
  have RT1 := heap_of b1 _ _ _ RT
  have RR1 := heap_of b1 _ _ _ RR
  clear B0 RT RR b1
  go_wp2_with fail
  refine (KP.out _).mono ?_
  rintro r w' ⟨rfl, rfl⟩
  go_wp2_with fail
  refine (KA.out _).mono ?_
  rintro r w2 ⟨rfl, b2⟩
  have B2 := btr7 B1 b2
  have RT2 := heap_of b2 _ _ _ RT1
  have RR2 := heap_of b2 _ _ _ RR1
  clear B1 RT1 RR1 b2
  have S2 := B2.size
  have ZT := (Array.getElem?_eq_some_iff.1 RR2).1
  have RT3 := row_al RT2 (.cells (cw 6 A) 28)
  have RR3 := row_al RR2 (.cells (cw 6 A) 28)
  have RW3 : (w2.alloc (.cells (cw 6 A) 28)).heap[w2.heap.size]? = some (.cells (cw 6 A) 28) := last7 _ _
  have B3 := bel_al B2 (.cells (cw 6 A) 28)
  have c0 := row_cell RT3
  go_wp2_with fail
  refine (KB.out _).mono ?_
  rintro r w4 ⟨rfl, b4⟩
  have B4 := btr7 B3 b4
  have RR4 := heap_of b4 _ _ _ RR3
  have RW4 := heap_of b4 _ _ _ RW3
  clear B3 RR3 RW3 RT3 RT2 RR2 B2 b4 c0
  obtain ⟨g, hg⟩ : ∃ g, w2.heap.size = g := ⟨_, rfl⟩
  rw [hg] at RW4 ZT S2 ⊢
  clear hg
  have hst := st_any w4 g B A RW4
  have B5 : Below w.heap.size w (w4.setRow g (cw 6 B)) := bel_set B4 S2
  have RW5 : (w4.setRow g (cw 6 B)).heap[g]? = some (.cells (cw 6 B) 28) := setRow_row RW4
  have RR5 : (w4.setRow g (cw 6 B)).heap[w.heap.size + 1]? = some (.cells #[.int .u64 0, .int .u64 0] 25) := by rw [setRow_other (by omega)]; exact RR4
  obtain ⟨w5, hw5⟩ : ∃ w5, w4.setRow g (cw 6 B) = w5 := ⟨_, rfl⟩
  rw [hw5] at B5 RW5 RR5 hst
  clear B4 RW4 RR4
  have c5 := row_cell RW5
  have fin : Box (∀ (w6 : World) (b : Below w.heap.size w w6), w6.heap[w.heap.size + 1]? = some (.cells #[.int .u64 0, .int .u64 0] 25) → True) := box (fun _ _ _ => trivial)
  cases neg
  · have e5 : B = v := by have := HV.out; simpa using this
    subst e5
    clear fin
    go_wp2_with fail
    refine (KE.out _).mono ?_
    rintro r w6 ⟨rfl, b6⟩
    have B6 := btr7 B5 b6
    have RR6 := row_al (heap_of b6 _ _ _ RR5) (.cells #[.int .u64 vh, .int .u64 vl] 25)
    have RB6 : (w6.alloc (.cells #[.int .u64 vh, .int .u64 vl] 25)).heap[w6.heap.size]? = some (.cells #[.int .u64 vh, .int .u64 vl] 25) := last7 _ _
    have B7 := bel_al B6 (.cells #[.int .u64 vh, .int .u64 vl] 25)
    clear hst hw5 c5 RW5 RR5 B5 b6 B6
    have q0 := fz (k := 0) RR6
    have q1 := fz (k := 1) RR6
    have d0 := cell7 RR6 0 _ rfl
    have d1 := cell7 RR6 1 _ rfl
    obtain ⟨E0, E1⟩ := set2_cells RR6 (.int .u64 vh) (.int .u64 vl)
    go_wp2
    exact bodyPost_ret (v := .agg #[.int .u64 vh, .int .u64 vl]) (by simp [results, Tryd.results32, go_sem, E0, E1]) rfl ⟨rfl, set2_below B7 (by omega) _ _⟩
  · go_wp2_with fail
    refine (K1.out _).mono ?_
    rintro r w6 ⟨rfl, b6⟩
    have B6 := btr7 B5 b6
    have RR6 := heap_of b6 _ _ _ RR5
    have RW6 := heap_of b6 _ _ _ RW5
    clear B5 RR5 RW5 c5 hst hw5 b6
    go_wp2_with fail
    refine (KW.out _).mono ?_
    rintro r w' ⟨rfl, rfl⟩
    go_wp2_with fail
    refine (KC.out _).mono ?_
    rintro r w7 ⟨rfl, b7⟩
    have B7 := bel_al (btr7 B6 b7) (.cells (cw 6 C) 28)
    have RR7 := row_al (heap_of b7 _ _ _ RR6) (.cells (cw 6 C) 28)
    have RW7 := row_al (heap_of b7 _ _ _ RW6) (.cells (cw 6 C) 28)
    clear B6 RR6 RW6 b7
    have c7 := row_cell RW7
    go_wp2_with fail
    refine (KD.out (by simp) _).mono ?_
    rintro r w9 ⟨rfl, b9⟩
    have B9 := btr7 B7 b9
    have RR9 := heap_of b9 _ _ _ RR7
    have RW9 := heap_of b9 _ _ _ RW7
    clear B7 RR7 RW7 b9 c7
    have hst9 := st_any w9 g v B RW9
    have B10 : Below w.heap.size w (w9.setRow g (cw 6 v)) := bel_set B9 S2
    have RW10 : (w9.setRow g (cw 6 v)).heap[g]? = some (.cells (cw 6 v) 28) := setRow_row RW9
    have RR10 : (w9.setRow g (cw 6 v)).heap[w.heap.size + 1]? = some (.cells #[.int .u64 0, .int .u64 0] 25) := by rw [setRow_other (by omega)]; exact RR9
    obtain ⟨w10, hw10⟩ : ∃ w10, w9.setRow g (cw 6 v) = w10 := ⟨_, rfl⟩
    rw [hw10] at B10 RW10 RR10 hst9
    clear B9 RW9 RR9
    have c10 := row_cell RW10
    go_wp2_with fail
    refine (KE.out _).mono ?_
    rintro r w11 ⟨rfl, b11⟩
    have B11 := btr7 B10 b11
    have RR11 := row_al (heap_of b11 _ _ _ RR10) (.cells #[.int .u64 vh, .int .u64 vl] 25)
    have RB11 : (w11.alloc (.cells #[.int .u64 vh, .int .u64 vl] 25)).heap[w11.heap.size]? = some (.cells #[.int .u64 vh, .int .u64 vl] 25) := last7 _ _
    have B12 := bel_al B11 (.cells #[.int .u64 vh, .int .u64 vl] 25)
    clear hst9 hw10 c10 RW10 RR10 B10 b11 B11
    have q0 := fz (k := 0) RR11
    have q1 := fz (k := 1) RR11
    have d0 := cell7 RR11 0 _ rfl
    have d1 := cell7 RR11 1 _ rfl
    obtain ⟨E0, E1⟩ := set2_cells RR11 (.int .u64 vh) (.int .u64 vl)
    go_wp2
    exact bodyPost_ret (v := .agg #[.int .u64 vh, .int .u64 vl]) (by simp [results, Tryd.results32, go_sem, E0, E1]) rfl ⟨rfl, set2_below B12 (by omega) _ _⟩

theorem r_enc (f : Int) (neg : Bool) (e T v : Nat) (hf : Is4 f) (he : e < 32768) (hT : T < 2 ^ pV f) (hv : enc7 f neg e T = v) (hev : e ≤ oV f) (w : World) :
    Calls Tryd.prog 32 #[.int .u8 f, .bool neg, .int .i64 (e : Nat), .agg (cw 6 T)] w fun r w' => r = .returned (bitsV (bv7 v)) ∧ Below w.heap.size w w' := by
  subst hv
  have k : fP f - 1 = (pV f : Int) ∧ fW f - 1 = (wV f : Int) ∧ 2 ^ wV f ≤ 170141183460469231731687303715884105728 ∧ 2 ^ pV f ≤ 5192296858534827628530496329220096 ∧ (oV f + 1) * 2 ^ pV f ≤ 2 ^ wV f := by
    rcases hf with rfl | rfl | rfl | rfl <;> decide +kernel
  obtain ⟨k1, k2, k3, k4, k5⟩ := k
  unfold enc7
  obtain ⟨P, hP⟩ : ∃ P, 2 ^ pV f = P := ⟨_, rfl⟩
  obtain ⟨C, hC⟩ : ∃ C, 2 ^ wV f = C := ⟨_, rfl⟩
  rw [hP] at k4 k5 hT
  rw [hC] at k3 k5
  rw [hP, hC]
  have h1 : e * P ≤ oV f * P := Nat.mul_le_mul_right _ hev
  have h2 : (oV f + 1) * P = oV f * P + P := by rw [Nat.add_mul, Nat.one_mul]
  have h3 : (if neg = true then C else 0) ≤ C := by split <;> omega
  refine r_build f _ _ neg e T (e * P) (e * P + T) C _ (pV f) (wV f) hf rfl rfl k1 k2 (by omega) (lt_Q7 (by omega)) (by rw [hP]) (lt_Q7 (by omega)) rfl (by omega) (by rw [hC, Nat.one_mul]) (lt_Q7 (by omega)) rfl (by omega) w



set_option maxHeartbeats 1000000 in
theorem r_inf (f : Int) (neg : Bool) (hf : Is4 f) (v : Nat) (hv : eInf f neg = v) (w : World) :
    Calls Tryd.prog 29 #[.int .u8 f, .bool neg] w fun r w' => r = .returned (bitsV (bv7 v)) ∧ Below w.heap.size w w' := by
  have f4 := is4_ok hf
  have hz := cw6z
  have hff := cw6f
  obtain ⟨x, y, hxy⟩ : ∃ x y, bv7 v = (x, y) := ⟨_, _, rfl⟩
  have e0 : bitsV (bv7 v) = .agg #[.int .u64 (x : Nat), .int .u64 (y : Nat)] := by rw [hxy]; rfl
  obtain ⟨E, hE⟩ : ∃ E : Nat, oV f = E := ⟨_, rfl⟩
  obtain ⟨T, hT⟩ : ∃ T : Nat, 0 = T := ⟨_, rfl⟩
  have k := r_enc f neg E T v hf (by rw [← hE]; rcases hf with rfl | rfl | rfl | rfl <;> decide +kernel) (by rw [← hT]; rcases hf with rfl | rfl | rfl | rfl <;> decide +kernel) (by rw [← hE, ← hT]; exact hv) (by rw [← hE]; rcases hf with rfl | rfl | rfl | rfl <;> decide +kernel)
  rw [e0]
  rw [e0] at k
  have KB := box k
  clear k hv e0 hxy
  subst hT
  have HE := box hE
  clear hE
  have R0 : (w.alloc (.cells #[.int .u64 0, .int .u64 0] 25)).heap[w.heap.size]? = some (.cells #[.int .u64 0, .int .u64 0] 25) := last7 _ _
  have B0 := bal7 w (.cells #[.int .u64 0, .int .u64 0] 25)
  go_enter Tryd.func29, Tryd.ntmps29
  go_wp2_with fail
  refine (r_ones f _ (E : Int) f4.1 rfl (by rw [← HE.out]; rcases hf with rfl | rfl | rfl | rfl <;> decide +kernel) _).mono ?_
  rintro r w' ⟨rfl, rfl⟩
  go_wp2_with fail
  refine (KB.out _).mono ?_
  rintro r w1 ⟨rfl, b1⟩
  have B1 := btr7 B0 b1
  have R1 := heap_of b1 _ _ _ R0
  clear B0 R0 b1
  have q0 := fz (k := 0) R1
  have q1 := fz (k := 1) R1
  have d0 := cell7 R1 0 _ rfl
  have d1 := cell7 R1 1 _ rfl
  obtain ⟨E0, E1⟩ := set2_cells R1 (.int .u64 x) (.int .u64 y)
  go_wp2
  exact bodyPost_ret (v := .agg #[.int .u64 x, .int .u64 y]) (by simp [results, Tryd.results29, go_sem, E0, E1]) rfl ⟨rfl, set2_below B1 (by omega) _ _⟩

set_option maxHeartbeats 1000000 in
theorem r_zero (f : Int) (neg : Bool) (hf : Is4 f) (v : Nat) (hv : eZero f neg = v) (w : World) :
    Calls Tryd.prog 30 #[.int .u8 f, .bool neg] w fun r w' => r = .returned (bitsV (bv7 v)) ∧ Below w.heap.size w w' := by
  have f4 := is4_ok hf
  have hz := cw6z
  have hff := cw6f
  obtain ⟨x, y, hxy⟩ : ∃ x y, bv7 v = (x, y) := ⟨_, _, rfl⟩
  have e0 : bitsV (bv7 v) = .agg #[.int .u64 (x : Nat), .int .u64 (y : Nat)] := by rw [hxy]; rfl
  obtain ⟨E, hE⟩ : ∃ E : Nat, 0 = E := ⟨_, rfl⟩
  obtain ⟨T, hT⟩ : ∃ T : Nat, 0 = T := ⟨_, rfl⟩
  have k := r_enc f neg E T v hf (by rw [← hE]; rcases hf with rfl | rfl | rfl | rfl <;> decide +kernel) (by rw [← hT]; rcases hf with rfl | rfl | rfl | rfl <;> decide +kernel) (by rw [← hE, ← hT]; exact hv) (by rw [← hE]; rcases hf with rfl | rfl | rfl | rfl <;> decide +kernel)
  rw [e0]
  rw [e0] at k
  have KB := box k
  clear k hv e0 hxy
  subst hT
  subst hE
  have R0 : (w.alloc (.cells #[.int .u64 0, .int .u64 0] 25)).heap[w.heap.size]? = some (.cells #[.int .u64 0, .int .u64 0] 25) := last7 _ _
  have B0 := bal7 w (.cells #[.int .u64 0, .int .u64 0] 25)
  go_enter Tryd.func30, Tryd.ntmps30
  go_wp2_with fail
  refine (KB.out _).mono ?_
  rintro r w1 ⟨rfl, b1⟩
  have B1 := btr7 B0 b1
  have R1 := heap_of b1 _ _ _ R0
  clear B0 R0 b1
  have q0 := fz (k := 0) R1
  have q1 := fz (k := 1) R1
  have d0 := cell7 R1 0 _ rfl
  have d1 := cell7 R1 1 _ rfl
  obtain ⟨E0, E1⟩ := set2_cells R1 (.int .u64 x) (.int .u64 y)
  go_wp2
  exact bodyPost_ret (v := .agg #[.int .u64 x, .int .u64 y]) (by simp [results, Tryd.results30, go_sem, E0, E1]) rfl ⟨rfl, set2_below B1 (by omega) _ _⟩

end Go.Proofs.YtkmlbjlaahcahaaDoor
