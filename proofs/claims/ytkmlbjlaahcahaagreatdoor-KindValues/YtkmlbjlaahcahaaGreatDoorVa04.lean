/-
  What the functions that the statement reaches return: part 4 (Rwide1, S4, S5, S6, Nat0, Nat1, Nat2, Nat3, Rquot1).
-/
import Derived.Laws.Cover1
import Derived.Test.YtkmlbjlaahcahaaGreatDoorVa03
namespace Go.Proofs.YtkmlbjlaahcahaaGreatDoor
set_option maxRecDepth 100000
open Go.RowKit WMath

theorem radd_is (a b : Nat) (c : Bool) (s : Nat) (o : Bool) (ha : a < 18446744073709551616) (hb : b < 18446744073709551616) (hs : (a + b + c.toNat) % 18446744073709551616 = s) (ho : decide (18446744073709551616 ≤ a + b + c.toNat) = o) (w : World) :
    Calls Tryz.prog 187 #[.int .u64 a, .int .u64 b, .bool c] w fun e w' => e = .returned (.tuple #[.int .u64 (s : Nat), .bool o]) ∧ w' = w := by
  subst hs; subst ho; exact radd_any a b c ha hb w
theorem add_facts (n m S k : Nat) (C : Bool) (hS : S < 2 ^ (64 * k)) (hE : S + 2 ^ (64 * k) * C.toNat = n % 2 ^ (64 * k) + m % 2 ^ (64 * k)) :
    ∃ (x : Nat) (o : Bool), x < 18446744073709551616 ∧ Box ((wd n k + wd m k + C.toNat) % 18446744073709551616 = x) ∧ Box (decide (18446744073709551616 ≤ wd n k + wd m k + C.toNat) = o) ∧ Box (S + 2 ^ (64 * k) * x < 2 ^ (64 * (k + 1))) ∧ Box (S + 2 ^ (64 * k) * x + 2 ^ (64 * (k + 1)) * o.toNat = n % 2 ^ (64 * (k + 1)) + m % 2 ^ (64 * (k + 1))) :=
  ⟨_, _, Nat.mod_lt _ (by decide), box rfl, box rfl, box (push_lt S k _ hS (Nat.mod_lt _ (by decide))), box (wadd_step n m S k _ C hE rfl)⟩
set_option maxHeartbeats 1000000 in
theorem rwadd_is (n m v : Nat) (o : Bool) (hn : n < Q) (hm : m < Q) (hv : (n + m) % Q = v) (ho : decide (Q ≤ n + m) = o) (w : World) :
    Calls Tryz.prog 106 #[.agg (cw 6 n), .agg (cw 6 m)] w fun e w' => e = .returned (.tuple #[.agg (cw 6 v), .bool o]) ∧ Below w.heap.size w w' := by
  have HV := box hv
  have HW := box ho
  clear hv ho
  have hat := cw_at 6
  have hz := cw6z
  have hf := cw6f
  have hs1 := st1d
  have hsc := sc0d
  go_enter Tryz.func106, Tryz.ntmps106
  go_wp2
  go_loopw [7, 8] (fun ov i wr => ∃ (k S d : Nat) (C : Bool), k ≤ 6 ∧ i = .int .i64 k ∧ ov = .bool C ∧ wr = ((((w.alloc (.cells (cw 6 n) 53)).alloc (.cells (cw 6 m) 53)).alloc (.cells (cw 6 0) 53)).alloc (.cells (cw 6 S) 53)).drewN d ∧ S < 2 ^ (64 * k) ∧ Box (S + 2 ^ (64 * k) * C.toNat = n % 2 ^ (64 * k) + m % 2 ^ (64 * k))) (fun _ i _ => 6 - (intOf i).toNat)
  case atStart => exact ⟨0, 0, 0, false, by omega, rfl, rfl, rfl, by decide, box (by simp [Nat.mod_one])⟩
  case round =>
    obtain ⟨k, S, d, C, hk, rfl, rfl, rfl, hS, HE⟩ := hrel
    by_cases hlt : k < 6
    · have hki : (k : Int) < 6 := by omega
      obtain ⟨x, oo, bx, HX, HO, P1, ST⟩ := add_facts n m S k C hS HE.out
      have hp := cw_push 6 S k x _ hlt hS bx rfl
      go_wp2
      go_quiet ((go_at_call 187; exact (radd_is _ _ _ x oo (wd_lt _ _) (wd_lt _ _) HX.out HO.out _).mono (fun _ _ h => ⟨h.1, _, h.2⟩)))
      go_wp2
      go_roundw
      case rel => exact ⟨k + 1, _, _, oo, by omega, by go_num, rfl, rfl, P1.out, ST⟩
      case measure => simp [intOf]; omega
    · go_wp2
      obtain ⟨e1, e2⟩ := wadd_end n m S k C (by omega) hn hm hS HE.out
      rw [HV.out] at e1
      rw [HW.out] at e2
      subst e1; subst e2
      exact bodyPost_ret (v := .tuple #[.agg (cw 6 S), .bool C]) (by simp [results, Tryz.results106, go_sem, hat, hf]) rfl ⟨rfl, below_drewN ((((Below.refl _ _).alloc (Nat.le_refl _) _).alloc (by simp <;> omega) _).alloc (by simp <;> omega) _ |>.alloc (by simp <;> omega) _) _⟩
end Go.Proofs.YtkmlbjlaahcahaaGreatDoor
namespace Go.Proofs.YtkmlbjlaahcahaaGreatDoor
set_option maxRecDepth 100000
open Go.RowKit WMath

theorem r_right (f : Int) (o : Bool) (ho : decide (f ≤ 3) = o) (w : World) :
    Calls Tryz.prog 13 #[.int .u8 f] w fun e w' => e = .returned (.bool o) ∧ w' = w := by
  go_enter Tryz.func13, Tryz.ntmps13
  go_wp2
  go_ret
  exact ⟨rfl, rfl⟩
theorem r_width (f v : Int) (h0 : 0 ≤ f) (hv : fW f = v) (w : World) :
    Calls Tryz.prog 101 #[.int .u8 f] w fun e w' => e = .returned (.int .i64 v) ∧ w' = w := by
  subst hv
  rcases f_cases f h0 with rfl | rfl | rfl | rfl | h
  · go_enter Tryz.func101, Tryz.ntmps101
    go_wp2
    go_ret
    exact ⟨rfl, rfl⟩
  · go_enter Tryz.func101, Tryz.ntmps101
    go_wp2
    go_ret
    exact ⟨rfl, rfl⟩
  · go_enter Tryz.func101, Tryz.ntmps101
    go_wp2
    go_ret
    exact ⟨rfl, rfl⟩
  · go_enter Tryz.func101, Tryz.ntmps101
    go_wp2
    go_ret
    exact ⟨rfl, rfl⟩
  · have e0 : fW f = 0 := by unfold fW; rw [if_neg (by omega), if_neg (by omega), if_neg (by omega), if_neg (by omega)]
    rw [e0]
    have d0 : (f == 0) = false := by simp; omega
    have d1 : (f == 1) = false := by simp; omega
    have d2 : (f == 2) = false := by simp; omega
    have d3 : (f == 3) = false := by simp; omega
    go_enter Tryz.func101, Tryz.ntmps101
    go_wp2
    go_ret
    exact ⟨rfl, rfl⟩
theorem r_precision (f v : Int) (h0 : 0 ≤ f) (hv : fP f = v) (w : World) :
    Calls Tryz.prog 60 #[.int .u8 f] w fun e w' => e = .returned (.int .i64 v) ∧ w' = w := by
  subst hv
  rcases f_cases f h0 with rfl | rfl | rfl | rfl | h
  · go_enter Tryz.func60, Tryz.ntmps60
    go_wp2
    go_ret
    exact ⟨rfl, rfl⟩
  · go_enter Tryz.func60, Tryz.ntmps60
    go_wp2
    go_ret
    exact ⟨rfl, rfl⟩
  · go_enter Tryz.func60, Tryz.ntmps60
    go_wp2
    go_ret
    exact ⟨rfl, rfl⟩
  · go_enter Tryz.func60, Tryz.ntmps60
    go_wp2
    go_ret
    exact ⟨rfl, rfl⟩
  · have e0 : fP f = 0 := by unfold fP; rw [if_neg (by omega), if_neg (by omega), if_neg (by omega), if_neg (by omega)]
    rw [e0]
    have d0 : (f == 0) = false := by simp; omega
    have d1 : (f == 1) = false := by simp; omega
    have d2 : (f == 2) = false := by simp; omega
    have d3 : (f == 3) = false := by simp; omega
    go_enter Tryz.func60, Tryz.ntmps60
    go_wp2
    go_ret
    exact ⟨rfl, rfl⟩
theorem r_emax (f v : Int) (h0 : 0 ≤ f) (hv : fE f = v) (w : World) :
    Calls Tryz.prog 62 #[.int .u8 f] w fun e w' => e = .returned (.int .i64 v) ∧ w' = w := by
  subst hv
  rcases f_cases f h0 with rfl | rfl | rfl | rfl | h
  · go_enter Tryz.func62, Tryz.ntmps62
    go_wp2
    go_ret
    exact ⟨rfl, rfl⟩
  · go_enter Tryz.func62, Tryz.ntmps62
    go_wp2
    go_ret
    exact ⟨rfl, rfl⟩
  · go_enter Tryz.func62, Tryz.ntmps62
    go_wp2
    go_ret
    exact ⟨rfl, rfl⟩
  · go_enter Tryz.func62, Tryz.ntmps62
    go_wp2
    go_ret
    exact ⟨rfl, rfl⟩
  · have e0 : fE f = 0 := by unfold fE; rw [if_neg (by omega), if_neg (by omega), if_neg (by omega), if_neg (by omega)]
    rw [e0]
    have d0 : (f == 0) = false := by simp; omega
    have d1 : (f == 1) = false := by simp; omega
    have d2 : (f == 2) = false := by simp; omega
    have d3 : (f == 3) = false := by simp; omega
    go_enter Tryz.func62, Tryz.ntmps62
    go_wp2
    go_ret
    exact ⟨rfl, rfl⟩

theorem fE_lim {f m : Int} (h : fE f = m) : 0 ≤ m ∧ m ≤ 16383 := by rw [← h]; unfold fE; split <;> (try split) <;> (try split) <;> (try split) <;> omega
theorem fP_lim {f m : Int} (h : fP f = m) : 0 ≤ m ∧ m ≤ 113 := by rw [← h]; unfold fP; split <;> (try split) <;> (try split) <;> (try split) <;> omega
theorem fW_lim {f m : Int} (h : fW f = m) : 0 ≤ m ∧ m ≤ 128 := by rw [← h]; unfold fW; split <;> (try split) <;> (try split) <;> (try split) <;> omega

theorem r_emin (f m v : Int) (h0 : 0 ≤ f) (hm : fE f = m) (hv : (if fC f = 0 then 1 - m else 0) = v) (w : World) :
    Calls Tryz.prog 63 #[.int .u8 f] w fun e w' => e = .returned (.int .i64 v) ∧ w' = w := by
  have hm2 := fE_lim hm
  by_cases h : f ≤ 3
  · have hc : fC f = 0 := by unfold fC; rw [if_pos (by omega)]
    rw [if_pos hc] at hv
    subst hv
    have hw : IntKind.i64.wrap (1 - m) = 1 - m := by rw [IntKind.wrap_i64]; omega
    go_enter Tryz.func63, Tryz.ntmps63
    go_wp2_with fail
    refine (r_right f true (by simp [h]) _).mono ?_
    rintro r w' ⟨rfl, rfl⟩
    go_wp2_with fail
    refine (r_emax f m h0 hm _).mono ?_
    rintro r w' ⟨rfl, rfl⟩
    go_wp2
    go_ret
    exact ⟨rfl, rfl⟩
  · have hc : ¬ fC f = 0 := by unfold fC; rw [if_neg (by omega)]; decide
    rw [if_neg hc] at hv
    subst hv
    go_enter Tryz.func63, Tryz.ntmps63
    go_wp2_with fail
    refine (r_right f false (by simp; omega) _).mono ?_
    rintro r w' ⟨rfl, rfl⟩
    go_wp2
    go_ret
    exact ⟨rfl, rfl⟩

theorem r_ones (f m v : Int) (h0 : 0 ≤ f) (hm : fE f = m) (hv : 2 * m + 1 = v) (w : World) :
    Calls Tryz.prog 144 #[.int .u8 f] w fun e w' => e = .returned (.int .i64 v) ∧ w' = w := by
  have hm2 := fE_lim hm
  have h1 : IntKind.i64.wrap (2 * m) = 2 * m := by rw [IntKind.wrap_i64]; omega
  have h2 : IntKind.i64.wrap (2 * m + 1) = v := by rw [IntKind.wrap_i64]; omega
  go_enter Tryz.func144, Tryz.ntmps144
  go_wp2_with fail
  refine (r_emax f m h0 hm _).mono ?_
  rintro r w' ⟨rfl, rfl⟩
  go_wp2
  go_ret
  exact ⟨rfl, rfl⟩

theorem r_fits_no (f : Int) (b : Nat × Nat) (h : ¬ f ≤ 3) (w : World) :
    Calls Tryz.prog 39 #[.int .u8 f, bitsV b] w fun e w' => e = .returned (.bool false) ∧ Below w.heap.size w w' := by
  unfold bitsV
  go_enter Tryz.func39, Tryz.ntmps39
  go_wp2_with fail
  refine (r_right f false (by simp; omega) _).mono ?_
  rintro r w' ⟨rfl, rfl⟩
  go_wp2
  go_ret
  exact ⟨rfl, bal7 _ _⟩

theorem r_fits (f q : Int) (b : Nat × Nat) (n l : Nat) (o : Bool) (h0 : 0 ≤ f) (h : f ≤ 3) (hq : fW f = q) (hb1 : b.1 < 18446744073709551616) (hb2 : b.2 < 18446744073709551616) (hn : b.2 + 18446744073709551616 * b.1 = n) (hl : blen n = l) (ho : decide ((l : Int) ≤ q) = o) (w : World) :
    Calls Tryz.prog 39 #[.int .u8 f, bitsV b] w fun e w' => e = .returned (.bool o) ∧ Below w.heap.size w w' := by
  unfold bitsV
  go_enter Tryz.func39, Tryz.ntmps39
  go_wp2_with fail
  refine (r_right f true (by simp [h]) _).mono ?_
  rintro r w' ⟨rfl, rfl⟩
  go_wp2_with fail
  refine (rwofbits_is b.1 b.2 n hb1 hb2 hn _).mono ?_
  rintro r w2 ⟨rfl, b2⟩
  go_wp2_with fail
  refine (rwlen_any n (by rw [← hn]; exact bits_ltQ _ _ hb2 hb1) _).mono ?_
  rintro r w3 ⟨rfl, b3⟩
  go_wp2_with fail
  refine (r_width f q h0 hq _).mono ?_
  rintro r w' ⟨rfl, rfl⟩
  go_wp2
  go_ret
  exact ⟨rfl, btr7 (btr7 (bal7 _ _) b2) b3⟩

theorem lt_Q7 {v : Nat} (h : v < 340282366920938463463374607431768211456) : v < Q := by
  have := bits_ltQ (v % 18446744073709551616) (v / 18446744073709551616) (Nat.mod_lt _ (by decide)) (by omega)
  omega
theorem wd01 {v : Nat} (h : v < 340282366920938463463374607431768211456) : wd v 0 = v % 18446744073709551616 ∧ wd v 1 = v / 18446744073709551616 := by
  constructor
  · unfold wd; rw [Nat.mul_zero, Nat.pow_zero, Nat.div_one]
  · unfold wd; rw [show 2 ^ (64 * 1) = 18446744073709551616 by decide, Nat.mod_eq_of_lt (by omega)]

theorem bel_set {w W : World} {b : Nat} {c : Array Value} (h : Below w.heap.size w W) (hb : w.heap.size ≤ b) : Below w.heap.size w (W.setRow b c) := Below.setRow h hb

set_option maxHeartbeats 2000000 in
theorem r_build (f p q : Int) (neg : Bool) (e T A B C v pn qn : Nat) (hf : Is4 f) (hp : fP f = p) (hq : fW f = q) (hpn : p - 1 = (pn : Int)) (hqn : q - 1 = (qn : Int)) (he : e < 65536) (hT : T < Q)
    (hA : e * 2 ^ pn = A) (lA : A < Q) (hB : A + T = B) (lB : B < 340282366920938463463374607431768211456) (hC : 1 * 2 ^ qn = C) (lC : C < Q) (hv : B + (if neg then C else 0) = v) (lv : v < 340282366920938463463374607431768211456) (w : World) :
    Calls Tryz.prog 67 #[.int .u8 f, .bool neg, .int .i64 (e : Nat), .agg (cw 6 T)] w fun r w' => r = .returned (bitsV (bv7 v)) ∧ Below w.heap.size w w' := by
  have hat := cw_at 6
  have hz := cw6z
  have hff := cw6f
  have hs0 := st0
  have hcs : ∀ x, ((cw 6 x).size = 6) = True := fun x => eq_true (cw_size 6 x)
  have f4 := is4_ok hf
  have p2 := fP_lim hp
  have q2 := fW_lim hq
  have f3 : f ≤ 3 := by rcases hf with rfl | rfl | rfl | rfl <;> decide
  have e1 : IntKind.i64.wrap (p - 1) = (pn : Int) := by rw [← hpn, IntKind.wrap_i64]; omega
  have e3 : IntKind.i64.wrap (q - 1) = (qn : Int) := by rw [← hqn, IntKind.wrap_i64]; omega
  have e2 : IntKind.u64.wrap (e : Int) = (e : Int) := by rw [IntKind.wrap_u64]; omega
  have lBQ := lt_Q7 lB
  have lvQ := lt_Q7 lv
  have cp : cnt6 (pn : Int) = pn := by unfold cnt6; omega
  have cq : cnt6 (qn : Int) = qn := by unfold cnt6; omega
  have KA : Box (∀ w : World, Calls Tryz.prog 104 #[.agg (cw 6 e), .int .i64 (pn : Nat)] w fun r w' => r = .returned (.tuple #[.agg (cw 6 A), .bool false]) ∧ Below w.heap.size w w') := box (fun w => rwleft_is e A pn false (lt_Q7 (by omega)) (by rw [cp, hA, Nat.mod_eq_of_lt lA]) (by rw [cp, hA]; simp; omega) w)
  have KB : Box (∀ w : World, Calls Tryz.prog 106 #[.agg (cw 6 A), .agg (cw 6 T)] w fun r w' => r = .returned (.tuple #[.agg (cw 6 B), .bool false]) ∧ Below w.heap.size w w') := box (fun w => rwadd_is A T B false lA hT (by rw [hB, Nat.mod_eq_of_lt lBQ]) (by rw [hB]; simp; omega) w)
  have KC : Box (∀ w : World, Calls Tryz.prog 104 #[.agg (cw 6 1), .int .i64 (qn : Nat)] w fun r w' => r = .returned (.tuple #[.agg (cw 6 C), .bool false]) ∧ Below w.heap.size w w') := box (fun w => rwleft_is 1 C qn false (lt_Q7 (by omega)) (by rw [cq, hC, Nat.mod_eq_of_lt lC]) (by rw [cq, hC]; simp; omega) w)
  have KD : Box (neg = true → ∀ w : World, Calls Tryz.prog 106 #[.agg (cw 6 B), .agg (cw 6 C)] w fun r w' => r = .returned (.tuple #[.agg (cw 6 v), .bool false]) ∧ Below w.heap.size w w') := box (fun hn w => by
    subst hn
    have hv' : B + C = v := by simpa using hv
    exact rwadd_is B C v false lBQ lC (by rw [hv', Nat.mod_eq_of_lt lvQ]) (by rw [hv']; simp; omega) w)
  have W01 := wd01 lv
  have KE : Box (∀ w : World, Calls Tryz.prog 129 #[.agg (cw 6 v)] w fun r w' => r = .returned (.tuple #[.agg #[.int .u64 (v / 18446744073709551616 : Nat), .int .u64 (v % 18446744073709551616 : Nat)], .bool true]) ∧ Below w.heap.size w w') := box (fun w => by
    have h := rwtobits_yes v lvQ (by rw [W01.1, W01.2]; omega) w
    rw [W01.1, W01.2] at h
    exact h)
  have KR := box (r_right f true (by simp [f3]))
  have KP := box (r_precision f p f4.1 hp)
  have KW := box (r_width f q f4.1 hq)
  have KO : Box (∀ w : World, Calls Tryz.prog 105 #[.int .u64 (e : Nat)] w fun r w' => r = .returned (.agg (cw 6 e)) ∧ Below w.heap.size w w') := box (fun w => rwof_any e (by omega) w)
  have K1 : Box (∀ w : World, Calls Tryz.prog 105 #[.int .u64 1] w fun r w' => r = .returned (.agg (cw 6 1)) ∧ Below w.heap.size w w') := box (fun w => rwof_any 1 (by omega) w)
  obtain ⟨vh, hvh⟩ : ∃ x : Nat, v / 18446744073709551616 = x := ⟨_, rfl⟩
  obtain ⟨vl, hvl⟩ : ∃ x : Nat, v % 18446744073709551616 = x := ⟨_, rfl⟩
  have eR : bitsV (bv7 v) = .agg #[.int .u64 (vh : Nat), .int .u64 (vl : Nat)] := by unfold bitsV bv7; rw [hvh, hvl]
  rw [eR]
  rw [hvh, hvl] at KE
  have RT : ((w.alloc (.cells (cw 6 T) 53)).alloc (.cells #[.int .u64 0, .int .u64 0] 25)).heap[w.heap.size]? = some (.cells (cw 6 T) 53) := row_al (last7 _ _) _
  have RR : ((w.alloc (.cells (cw 6 T) 53)).alloc (.cells #[.int .u64 0, .int .u64 0] 25)).heap[w.heap.size + 1]? = some (.cells #[.int .u64 0, .int .u64 0] 25) := row_last (by simp only [size_al])
  have B0 : Below w.heap.size w ((w.alloc (.cells (cw 6 T) 53)).alloc (.cells #[.int .u64 0, .int .u64 0] 25)) := btr7 (bal7 _ _) (bal7 _ _)
  have HV : Box (B + (if neg then C else 0) = v) := box hv
  have HL := box lB
  have HCL := box lC
  have HVL := box lvQ
  clear hA lA hB lB hC lC hv lv hT he hpn hqn f4 p2 q2 f3 hp hq cp cq W01 lBQ lvQ hvh hvl eR hf
  go_enter Tryz.func67, Tryz.ntmps67
  go_wp2_with fail
  refine (KR.out _).mono ?_
  rintro r w' ⟨rfl, rfl⟩
  go_wp2_with fail
  refine (KO.out _).mono ?_
  rintro r w1 ⟨rfl, b1⟩
  have B1 := btr7 B0 b1
  have RT1 := heap_of b1 _ _ _ RT
  have RR1 := heap_of b1 _ _ _ RR
  clear B0 RT RR b1
  go_wp2_with fail
  refine (KP.out _).mono ?_
  rintro r w' ⟨rfl, rfl⟩
  go_wp2_with fail
  refine (KA.out _).mono ?_
  rintro r w2 ⟨rfl, b2⟩
  have B2 := btr7 B1 b2
  have RT2 := heap_of b2 _ _ _ RT1
  have RR2 := heap_of b2 _ _ _ RR1
  clear B1 RT1 RR1 b2
  have S2 := B2.size
  have ZT := (Array.getElem?_eq_some_iff.1 RR2).1
  have RT3 := row_al RT2 (.cells (cw 6 A) 53)
  have RR3 := row_al RR2 (.cells (cw 6 A) 53)
  have RW3 : (w2.alloc (.cells (cw 6 A) 53)).heap[w2.heap.size]? = some (.cells (cw 6 A) 53) := last7 _ _
  have B3 := bel_al B2 (.cells (cw 6 A) 53)
  have c0 := row_cell RT3
  go_wp2_with fail
  refine (KB.out _).mono ?_
  rintro r w4 ⟨rfl, b4⟩
  have B4 := btr7 B3 b4
  have RR4 := heap_of b4 _ _ _ RR3
  have RW4 := heap_of b4 _ _ _ RW3
  clear B3 RR3 RW3 RT3 RT2 RR2 B2 b4 c0
  obtain ⟨g, hg⟩ : ∃ g, w2.heap.size = g := ⟨_, rfl⟩
  rw [hg] at RW4 ZT S2 ⊢
  clear hg
  have hst := st_any w4 g B A RW4
  have B5 : Below w.heap.size w (w4.setRow g (cw 6 B)) := bel_set B4 S2
  have RW5 : (w4.setRow g (cw 6 B)).heap[g]? = some (.cells (cw 6 B) 53) := setRow_row RW4
  have RR5 : (w4.setRow g (cw 6 B)).heap[w.heap.size + 1]? = some (.cells #[.int .u64 0, .int .u64 0] 25) := by rw [setRow_other (by omega)]; exact RR4
  obtain ⟨w5, hw5⟩ : ∃ w5, w4.setRow g (cw 6 B) = w5 := ⟨_, rfl⟩
  rw [hw5] at B5 RW5 RR5 hst
  clear B4 RW4 RR4
  have c5 := row_cell RW5
  have fin : Box (∀ (w6 : World) (b : Below w.heap.size w w6), w6.heap[w.heap.size + 1]? = some (.cells #[.int .u64 0, .int .u64 0] 25) → True) := box (fun _ _ _ => trivial)
  cases neg
  · have e5 : B = v := by have := HV.out; simpa using this
    subst e5
    clear fin
    go_wp2_with fail
    refine (KE.out _).mono ?_
    rintro r w6 ⟨rfl, b6⟩
    have B6 := btr7 B5 b6
    have RR6 := row_al (heap_of b6 _ _ _ RR5) (.cells #[.int .u64 vh, .int .u64 vl] 25)
    have RB6 : (w6.alloc (.cells #[.int .u64 vh, .int .u64 vl] 25)).heap[w6.heap.size]? = some (.cells #[.int .u64 vh, .int .u64 vl] 25) := last7 _ _
    have B7 := bel_al B6 (.cells #[.int .u64 vh, .int .u64 vl] 25)
    clear hst hw5 c5 RW5 RR5 B5 b6 B6
    have q0 := fz (k := 0) RR6
    have q1 := fz (k := 1) RR6
    have d0 := cell7 RR6 0 _ rfl
    have d1 := cell7 RR6 1 _ rfl
    obtain ⟨E0, E1⟩ := set2_cells RR6 (.int .u64 vh) (.int .u64 vl)
    go_wp2
    exact bodyPost_ret (v := .agg #[.int .u64 vh, .int .u64 vl]) (by simp [results, Tryz.results67, go_sem, E0, E1]) rfl ⟨rfl, set2_below B7 (by omega) _ _⟩
  · go_wp2_with fail
    refine (K1.out _).mono ?_
    rintro r w6 ⟨rfl, b6⟩
    have B6 := btr7 B5 b6
    have RR6 := heap_of b6 _ _ _ RR5
    have RW6 := heap_of b6 _ _ _ RW5
    clear B5 RR5 RW5 c5 hst hw5 b6
    go_wp2_with fail
    refine (KW.out _).mono ?_
    rintro r w' ⟨rfl, rfl⟩
    go_wp2_with fail
    refine (KC.out _).mono ?_
    rintro r w7 ⟨rfl, b7⟩
    have B7 := bel_al (btr7 B6 b7) (.cells (cw 6 C) 53)
    have RR7 := row_al (heap_of b7 _ _ _ RR6) (.cells (cw 6 C) 53)
    have RW7 := row_al (heap_of b7 _ _ _ RW6) (.cells (cw 6 C) 53)
    clear B6 RR6 RW6 b7
    have c7 := row_cell RW7
    go_wp2_with fail
    refine (KD.out (by simp) _).mono ?_
    rintro r w9 ⟨rfl, b9⟩
    have B9 := btr7 B7 b9
    have RR9 := heap_of b9 _ _ _ RR7
    have RW9 := heap_of b9 _ _ _ RW7
    clear B7 RR7 RW7 b9 c7
    have hst9 := st_any w9 g v B RW9
    have B10 : Below w.heap.size w (w9.setRow g (cw 6 v)) := bel_set B9 S2
    have RW10 : (w9.setRow g (cw 6 v)).heap[g]? = some (.cells (cw 6 v) 53) := setRow_row RW9
    have RR10 : (w9.setRow g (cw 6 v)).heap[w.heap.size + 1]? = some (.cells #[.int .u64 0, .int .u64 0] 25) := by rw [setRow_other (by omega)]; exact RR9
    obtain ⟨w10, hw10⟩ : ∃ w10, w9.setRow g (cw 6 v) = w10 := ⟨_, rfl⟩
    rw [hw10] at B10 RW10 RR10 hst9
    clear B9 RW9 RR9
    have c10 := row_cell RW10
    go_wp2_with fail
    refine (KE.out _).mono ?_
    rintro r w11 ⟨rfl, b11⟩
    have B11 := btr7 B10 b11
    have RR11 := row_al (heap_of b11 _ _ _ RR10) (.cells #[.int .u64 vh, .int .u64 vl] 25)
    have RB11 : (w11.alloc (.cells #[.int .u64 vh, .int .u64 vl] 25)).heap[w11.heap.size]? = some (.cells #[.int .u64 vh, .int .u64 vl] 25) := last7 _ _
    have B12 := bel_al B11 (.cells #[.int .u64 vh, .int .u64 vl] 25)
    clear hst9 hw10 c10 RW10 RR10 B10 b11 B11
    have q0 := fz (k := 0) RR11
    have q1 := fz (k := 1) RR11
    have d0 := cell7 RR11 0 _ rfl
    have d1 := cell7 RR11 1 _ rfl
    obtain ⟨E0, E1⟩ := set2_cells RR11 (.int .u64 vh) (.int .u64 vl)
    go_wp2
    exact bodyPost_ret (v := .agg #[.int .u64 vh, .int .u64 vl]) (by simp [results, Tryz.results67, go_sem, E0, E1]) rfl ⟨rfl, set2_below B12 (by omega) _ _⟩

theorem r_enc (f : Int) (neg : Bool) (e T v : Nat) (hf : Is4 f) (he : e < 32768) (hT : T < 2 ^ pV f) (hv : enc7 f neg e T = v) (hev : e ≤ oV f) (w : World) :
    Calls Tryz.prog 67 #[.int .u8 f, .bool neg, .int .i64 (e : Nat), .agg (cw 6 T)] w fun r w' => r = .returned (bitsV (bv7 v)) ∧ Below w.heap.size w w' := by
  subst hv
  have k : fP f - 1 = (pV f : Int) ∧ fW f - 1 = (wV f : Int) ∧ 2 ^ wV f ≤ 170141183460469231731687303715884105728 ∧ 2 ^ pV f ≤ 5192296858534827628530496329220096 ∧ (oV f + 1) * 2 ^ pV f ≤ 2 ^ wV f := by
    rcases hf with rfl | rfl | rfl | rfl <;> decide +kernel
  obtain ⟨k1, k2, k3, k4, k5⟩ := k
  unfold enc7
  obtain ⟨P, hP⟩ : ∃ P, 2 ^ pV f = P := ⟨_, rfl⟩
  obtain ⟨C, hC⟩ : ∃ C, 2 ^ wV f = C := ⟨_, rfl⟩
  rw [hP] at k4 k5 hT
  rw [hC] at k3 k5
  rw [hP, hC]
  have h1 : e * P ≤ oV f * P := Nat.mul_le_mul_right _ hev
  have h2 : (oV f + 1) * P = oV f * P + P := by rw [Nat.add_mul, Nat.one_mul]
  have h3 : (if neg = true then C else 0) ≤ C := by split <;> omega
  refine r_build f _ _ neg e T (e * P) (e * P + T) C _ (pV f) (wV f) hf rfl rfl k1 k2 (by omega) (lt_Q7 (by omega)) (by rw [hP]) (lt_Q7 (by omega)) rfl (by omega) (by rw [hC, Nat.one_mul]) (lt_Q7 (by omega)) rfl (by omega) w



end Go.Proofs.YtkmlbjlaahcahaaGreatDoor
namespace Go.Proofs.YtkmlbjlaahcahaaGreatDoor
set_option maxRecDepth 100000
open Go.RowKit WMath
set_option linter.unusedVariables false

theorem andnot7 (x c m : Nat) (hx : x < 18446744073709551616) (hc : c ≤ 64) (hm : 2 ^ c - 1 = m) : (bits .andNot .u64 (x : Int) (m : Int) == 0) = decide (x < 2 ^ c) := by
  have e : bits .andNot .u64 (x : Int) (m : Int) = (((BitVec.ofNat 64 x &&& ~~~ BitVec.ofNat 64 m).toNat : Nat) : Int) := by
    show IntKind.u64.wrap ((BitVec.ofInt 64 (x : Int) &&& ~~~ BitVec.ofInt 64 (m : Int)).toNat : Int) = _
    rw [BitVec.ofInt_natCast, BitVec.ofInt_natCast, IntKind.wrap_u64]
    have := (BitVec.ofNat 64 x &&& ~~~ BitVec.ofNat 64 m).isLt
    generalize (BitVec.ofNat 64 x &&& ~~~ BitVec.ofNat 64 m).toNat = t at *
    omega
  rw [e]
  by_cases h : x < 2 ^ c
  · rw [decide_eq_true h]
    have z : BitVec.ofNat 64 x &&& ~~~ BitVec.ofNat 64 m = 0#64 := by
      apply BitVec.eq_of_getLsbD_eq
      intro i hi
      simp only [BitVec.getLsbD_and, BitVec.getLsbD_not, BitVec.getLsbD_ofNat, hi, decide_true, Bool.true_and]
      rw [← hm, Nat.testBit_two_pow_sub_one]
      by_cases hic : i < c
      · simp [hic]
      · rw [Nat.testBit_lt_two_pow (Nat.lt_of_lt_of_le h (Nat.pow_le_pow_right (by decide) (by omega)))]
        simp
    rw [z]
    rfl
  · rw [decide_eq_false h]
    simp only [beq_eq_false_iff_ne, ne_eq]
    intro z
    apply h
    apply Nat.lt_pow_two_of_testBit
    intro i hi
    by_cases h6 : i < 64
    · have z2 : (BitVec.ofNat 64 x &&& ~~~ BitVec.ofNat 64 m).getLsbD i = false := by
        have : BitVec.ofNat 64 x &&& ~~~ BitVec.ofNat 64 m = 0#64 := BitVec.eq_of_toNat_eq (by simpa using (by omega : (BitVec.ofNat 64 x &&& ~~~ BitVec.ofNat 64 m).toNat = 0))
        rw [this]; simp
      simp only [BitVec.getLsbD_and, BitVec.getLsbD_not, BitVec.getLsbD_ofNat, h6, decide_true, Bool.true_and] at z2
      rw [← hm, Nat.testBit_two_pow_sub_one] at z2
      have : decide (i < c) = false := by simp; omega
      rw [this] at z2
      simpa using z2
    · exact Nat.testBit_lt_two_pow (Nat.lt_of_lt_of_le hx (by rw [show 18446744073709551616 = 2 ^ 64 by decide]; exact Nat.pow_le_pow_right (by decide) (by omega)))

/-- The ones of a format's width, as two words. -/
def oHi (f : Int) : Int := if rLo 1 (fW f) = 0 then IntKind.u64.wrap (rHi 1 (fW f) - 1) else rHi 1 (fW f)
def oLo (f : Int) : Int := IntKind.u64.wrap (rLo 1 (fW f) - 1)

theorem s_fits_no (f : Int) (b : Nat × Nat) (h0 : 0 ≤ f) (h1 : f ≤ 255) (hc : fC f = 2) (w : World) (hT : FAt w) :
    Calls Tryz.prog 76 #[.int .u8 f, bitsV b] w fun e w' => e = .returned (.bool false) ∧ Below w.heap.size w w' := by
  have hq : fW f = 0 := by
    unfold fC at hc
    unfold fW
    split at hc
    · simp at hc
    · rename_i h; rw [if_neg (fun e => h (Or.inl e)), if_neg (fun e => h (Or.inr (Or.inl e))), if_neg (fun e => h (Or.inr (Or.inr (Or.inl e)))), if_neg (fun e => h (Or.inr (Or.inr (Or.inr e))))]
  have TT := box hT
  unfold bitsV
  have B0 := bal7 w (.cells #[.int .u64 b.1, .int .u64 b.2] 25)
  go_enter Tryz.func76, Tryz.ntmps76
  go_wp2_with fail
  refine (s_width f 0 h0 h1 hq _ (fatB TT.out B0)).mono ?_
  rintro r w' ⟨rfl, rfl⟩
  have B1 := bel_al B0 (.cells (fR f) 147)
  clear B0
  go_wp2_with fail
  refine (s_ones 0 0 1 (by decide) (by decide) rfl rfl 0 0 rfl rfl _).mono ?_
  rintro r w2 ⟨rfl, b2⟩
  have B2 := bel_al (btr7 B1 b2) (.cells #[.int .u64 0, .int .u64 0] 25)
  clear B1 b2
  go_wp2_with fail
  refine (s_check_is f 2 h0 h1 hc _).mono ?_
  rintro r w' ⟨rfl, rfl⟩
  go_wp2
  go_ret
  exact ⟨rfl, B2⟩

set_option maxHeartbeats 1000000 in
theorem s_fits (f : Int) (b : Nat × Nat) (o : Bool) (hf : Is4 f) (hb1 : b.1 < 18446744073709551616) (hb2 : b.2 < 18446744073709551616) (p q : Bool) (hp : (bits .andNot .u64 (b.1 : Int) (oHi f) == 0) = p) (hq : (bits .andNot .u64 (b.2 : Int) (oLo f) == 0) = q) (ho : (p && q) = o) (w : World) (hT : FAt w) :
    Calls Tryz.prog 76 #[.int .u8 f, bitsV b] w fun e w' => e = .returned (.bool o) ∧ Below w.heap.size w w' := by
  have TT := box hT
  have f4 := is4_ok hf
  unfold bitsV
  obtain ⟨b1, b2⟩ := b
  simp only at hb1 hb2 hp hq
  obtain ⟨W, hW⟩ : ∃ W : Int, fW f = W := ⟨_, rfl⟩
  obtain ⟨K, hK⟩ : ∃ W : Int, oHi f = W := ⟨_, rfl⟩
  obtain ⟨M, hM⟩ : ∃ W : Int, oLo f = W := ⟨_, rfl⟩
  rw [hK] at hp
  rw [hM] at hq
  have w0 : IntKind.u64.wrap W = W := by rw [← hW]; rcases hf with rfl | rfl | rfl | rfl <;> decide +kernel
  have wl := fW_lim hW
  have KO : Box (∀ w : World, Calls Tryz.prog 148 #[.int .u64 W] w fun e w' => e = .returned (.agg #[.int .u64 K, .int .u64 M]) ∧ Below w.heap.size w w') := box (fun w => s_ones W _ _ (by omega) (by omega) rfl rfl K M (by rw [← hK, ← hW]; rfl) (by rw [← hM, ← hW]; rfl) w)
  have R0 : (w.alloc (.cells #[.int .u64 b1, .int .u64 b2] 25)).heap[w.heap.size]? = some (.cells #[.int .u64 b1, .int .u64 b2] 25) := last7 _ _
  have B0 := bal7 w (.cells #[.int .u64 b1, .int .u64 b2] 25)
  have HW := box hW
  clear hT hW hK hM hb1 hb2 hf wl
  go_enter Tryz.func76, Tryz.ntmps76
  go_wp2_with fail
  refine (s_width f W f4.1 f4.2.1 HW.out _ (fatB TT.out B0)).mono ?_
  rintro r w' ⟨rfl, rfl⟩
  have B1 := bel_al B0 (.cells (fR f) 147)
  have R1 := row_al R0 (.cells (fR f) 147)
  clear B0 R0
  go_wp2_with fail
  refine (KO.out _).mono ?_
  rintro r w2 ⟨rfl, b2'⟩
  have R2 := row_al (heap_of b2' _ _ _ R1) (.cells #[.int .u64 K, .int .u64 M] 25)
  have B2 := bel_al (btr7 B1 b2') (.cells #[.int .u64 K, .int .u64 M] 25)
  have c0 := cell7 R2 0 _ rfl
  have c1 := cell7 R2 1 _ rfl
  clear B1 b2' R1
  go_wp2_with fail
  refine (s_check_is f 0 f4.1 f4.2.1 f4.2.2.1 _).mono ?_
  rintro r w' ⟨rfl, rfl⟩
  cases p <;> cases q <;> subst ho
  · go_wp2
    go_ret
    exact ⟨rfl, B2⟩
  · go_wp2
    go_ret
    exact ⟨rfl, B2⟩
  · go_wp2
    go_ret
    exact ⟨rfl, B2⟩
  · go_wp2
    go_ret
    exact ⟨rfl, B2⟩
end Go.Proofs.YtkmlbjlaahcahaaGreatDoor
namespace Go.Proofs.YtkmlbjlaahcahaaGreatDoor
set_option maxRecDepth 100000
open Go.RowKit WMath
set_option linter.unusedVariables false

theorem no7 {f : Int} (h : 3 < f) : fC f = 2 ∧ fW f = 0 ∧ fP f = 0 ∧ fE f = 0 := by
  refine ⟨?_, ?_, ?_, ?_⟩
  · unfold fC; rw [if_neg (by omega)]
  · unfold fW; rw [if_neg (by omega), if_neg (by omega), if_neg (by omega), if_neg (by omega)]
  · unfold fP; rw [if_neg (by omega), if_neg (by omega), if_neg (by omega), if_neg (by omega)]
  · unfold fE; rw [if_neg (by omega), if_neg (by omega), if_neg (by omega), if_neg (by omega)]
theorem is4_of {f : Int} (h0 : 0 ≤ f) (h : f ≤ 3) : Is4 f := by unfold Is4; omega


theorem blen_iff (n W : Nat) : blen n ≤ W ↔ n < 2 ^ W := by
  constructor
  · intro h
    exact Nat.lt_of_lt_of_le (blen_lt n) (Nat.pow_le_pow_right (by decide) h)
  · exact blen_le_of n W

/-- Two words' bits above a width, and the length of the number. -/
theorem fit7 (f : Int) (hf : Is4 f) (b1 b2 : Nat) (hb1 : b1 < 18446744073709551616) (hb2 : b2 < 18446744073709551616) :
    ((bits .andNot .u64 (b1 : Int) (oHi f) == 0) && (bits .andNot .u64 (b2 : Int) (oLo f) == 0)) = decide (((blen (b2 + 18446744073709551616 * b1) : Nat) : Int) ≤ fW f) := by
  have key : ∀ (c d W : Nat) (K M : Nat), c ≤ 64 → d ≤ 64 → 2 ^ c - 1 = K → 2 ^ d - 1 = M → oHi f = (K : Int) → oLo f = (M : Int) → fW f = (W : Int) →
      ((b1 < 2 ^ c ∧ b2 < 2 ^ d) ↔ b2 + 18446744073709551616 * b1 < 2 ^ W) → ((bits .andNot .u64 (b1 : Int) (oHi f) == 0) && (bits .andNot .u64 (b2 : Int) (oLo f) == 0)) = decide (((blen (b2 + 18446744073709551616 * b1) : Nat) : Int) ≤ fW f) := by
    intro c d W K M hc hd hK hM e1 e2 e3 h
    rw [e1, e2, e3, andnot7 b1 c K hb1 hc hK, andnot7 b2 d M hb2 hd hM]
    have h2 : (((blen (b2 + 18446744073709551616 * b1) : Nat) : Int) ≤ (W : Int)) ↔ (b1 < 2 ^ c ∧ b2 < 2 ^ d) := by
      rw [h, ← blen_iff]; omega
    rw [← Bool.decide_and]
    exact decide_eq_decide.2 h2.symm
  rcases hf with rfl | rfl | rfl | rfl
  · exact key 0 32 32 0 4294967295 (by decide) (by decide) (by decide) (by decide) (by decide +kernel) (by decide +kernel) (by decide +kernel) (by simp only [Nat.reducePow]; omega)
  · exact key 0 64 64 0 18446744073709551615 (by decide) (by decide) (by decide) (by decide) (by decide +kernel) (by decide +kernel) (by decide +kernel) (by simp only [Nat.reducePow]; omega)
  · exact key 0 16 16 0 65535 (by decide) (by decide) (by decide) (by decide) (by decide +kernel) (by decide +kernel) (by decide +kernel) (by simp only [Nat.reducePow]; omega)
  · exact key 64 64 128 18446744073709551615 18446744073709551615 (by decide) (by decide) (by decide) (by decide) (by decide +kernel) (by decide +kernel) (by decide +kernel) (by simp only [Nat.reducePow]; omega)

/-- Does it fit? -/
def fitsB (f : Int) (b : Nat × Nat) : Bool := decide (f ≤ 3) && decide (((blen (b.2 + 18446744073709551616 * b.1) : Nat) : Int) ≤ fW f)
theorem s_fits_is (f : Int) (b : Nat × Nat) (o : Bool) (h0 : 0 ≤ f) (h1 : f ≤ 255) (hb1 : b.1 < 18446744073709551616) (hb2 : b.2 < 18446744073709551616) (ho : fitsB f b = o) (w : World) (hT : FAt w) :
    Calls Tryz.prog 76 #[.int .u8 f, bitsV b] w fun e w' => e = .returned (.bool o) ∧ Below w.heap.size w w' := by
  by_cases h : f ≤ 3
  · refine s_fits f b o (is4_of h0 h) hb1 hb2 _ _ rfl rfl ?_ w hT
    rw [fit7 f (is4_of h0 h) b.1 b.2 hb1 hb2, ← ho]
    unfold fitsB
    rw [decide_eq_true h, Bool.true_and]
  · have e : o = false := by rw [← ho]; unfold fitsB; rw [decide_eq_false h, Bool.false_and]
    subst e
    exact s_fits_no f b h0 h1 (no7 (by omega)).1 w hT
theorem r_fits_is (f : Int) (b : Nat × Nat) (o : Bool) (h0 : 0 ≤ f) (hb1 : b.1 < 18446744073709551616) (hb2 : b.2 < 18446744073709551616) (ho : fitsB f b = o) (w : World) :
    Calls Tryz.prog 39 #[.int .u8 f, bitsV b] w fun e w' => e = .returned (.bool o) ∧ Below w.heap.size w w' := by
  by_cases h : f ≤ 3
  · refine r_fits f _ b _ _ o h0 h rfl hb1 hb2 rfl rfl ?_ w
    rw [← ho]
    unfold fitsB
    rw [decide_eq_true h, Bool.true_and]
  · have e : o = false := by rw [← ho]; unfold fitsB; rw [decide_eq_false h, Bool.false_and]
    subst e
    exact r_fits_no f b h w

/-- What a round keeps: the two lists, the sign bit, and a sum in a box. -/
def R9 (w : World) (gl gk gs : Nat) (cl ck : Array Value) (S M : Nat) (g : Nat) (w5 : World) : Prop :=
  Below w.heap.size w w5 ∧ w5.heap[gl]? = some (.cells cl 25) ∧ w5.heap[gk]? = some (.cells ck 25) ∧ w5.heap[gs]? = some (.cells (cw 6 S) 53) ∧ w5.heap[g]? = some (.cells (cw 6 M) 53)
end Go.Proofs.YtkmlbjlaahcahaaGreatDoor
namespace Go.Proofs.YtkmlbjlaahcahaaGreatDoor
set_option maxRecDepth 100000
open Go.RowKit WMath

theorem c8_made (L : Nat) : madeCells #[.int .u8 0] L = c8 L 0 := by
  apply Array.ext_getElem?
  intro i
  by_cases h : i < L
  · rw [c8_at L 0 i h, d8_zero]
    simp [madeCells, h, Nat.mod_one]
  · rw [Array.getElem?_eq_none (by rw [size_madeCells]; omega), Array.getElem?_eq_none (by rw [c8_size]; omega)]
theorem c8_cell {w : World} {b k L n : Nat} {t : TypeId} (h : w.heap[b]? = some (.cells (c8 L n) t)) (hk : k < L) : w.cell? ⟨b, k, none⟩ = some (.int .u8 (d8 n k : Nat)) := by
  rw [cell_of_row w b k _ _ _ h, c8_at L n k hk]
theorem c8_make (L : Nat) (h : L ≤ 1000000) (w : World) : (Instr.makeSlice 131 (.int .i64 (L : Int)) (.int .i64 (L : Int))).run Tryz.prog w = .ok (.slice (some ⟨w.heap.size, 0, none⟩) L L) (w.alloc (.cells (c8 L 0) 5)) := by
  rw [← c8_made]
  exact run_make_row' (P := Tryz.prog) 131 5 (.int .u8 0) 1 Tryz.underlying131 (by kernel_rfl) rfl .i64 .i64 L (by omega) (by omega) w
theorem c8_makeI (L : Nat) (k : Int) (hk : k = (L : Int)) (h : L ≤ 1000000) (w : World) : (Instr.makeSlice 131 (.int .i64 k) (.int .i64 k)).run Tryz.prog w = .ok (.slice (some ⟨w.heap.size, 0, none⟩) L L) (w.alloc (.cells (c8 L 0) 5)) := by
  subst hk; exact c8_make L h w
/-- A row of bytes as a string. -/
theorem c8_str {w : World} {b c L X : Nat} {t : TypeId} (v : ByteArray) (h : w.heap[b]? = some (.cells (c8 L X) t)) (hL : v.size = L) (hv : ∀ (k : Nat) (h1 : k < v.size), (v[k]'h1).toNat = d8 X k) :
    (convert 131 9 (.slice (some ⟨b, 0, none⟩) L c)).run Tryz.prog w = .ok (.string v) w := by
  have e : c8 L X = cb v.data.toList := by
    apply Array.ext_getElem?
    intro i
    by_cases hi : i < L
    · have hi2 : i < v.size := by rw [hL]; exact hi
      have hi3 : i < v.data.toList.length := by rw [Array.length_toList]; exact hi2
      rw [c8_at L X i hi, cb_at _ i (v[i]'hi2) (by rw [List.getElem?_eq_getElem hi3]; rfl), hv i hi2]
    · rw [Array.getElem?_eq_none (by rw [c8_size]; omega), Array.getElem?_eq_none (by rw [cb_size, Array.length_toList]; show v.size ≤ i; omega)]
  rw [e] at h
  have := str_of (c := c) h
  rw [Array.length_toList, show v.data.size = L from hL] at this
  simpa using this

theorem idx_run (s : ByteArray) (k : Nat) (i : Int) (d : Nat) (hi : i = (k : Int)) (hk : k < s.size) (hd : (s[k]'hk).toNat = d) (w : World) :
    (Instr.index 9 (.string s) (.int .i64 i)).run Tryz.prog w = .ok (.int .u8 (d : Nat)) w := by
  subst hi hd
  rw [run_index_string (P := Tryz.prog) w 9 s _ _ Tryz.underlying9, dif_pos ⟨by omega, by omega⟩]
  simp

theorem nat_at (n i d : Nat) (s : ByteArray) (hs : nbA n = s) (hd : d8 n i = d) (hn : nl n ≤ 100000) (w : World) :
    Calls Tryz.prog 127 #[.string s, .int .i64 (i : Nat)] w fun e w' => e = .returned (.int .i64 (d : Nat)) ∧ w' = w := by
  obtain ⟨L, hL⟩ : ∃ L, nl n = L := ⟨_, rfl⟩
  have hz : s.size = L := by rw [← hs, nbA_size, hL]
  rw [hL] at hn
  by_cases h : L ≤ i
  · have e : d = 0 := by rw [← hd]; exact d8_nl n i (by omega)
    subst e
    have h1 : decide (L ≤ i) = true := by rw [decide_eq_true_iff]; omega
    clear hs hd hL h
    go_enter Tryz.func127, Tryz.ntmps127
    go_wp2
    go_ret
    exact ⟨rfl, rfl⟩
  · have h1 : decide (L ≤ i) = false := by rw [decide_eq_false_iff_not]; omega
    have hk : L - 1 - i < s.size := by omega
    have hg : (s[L - 1 - i]'hk).toNat = d := by
      subst hs
      rw [nbA_get, hL, show L - 1 - (L - 1 - i) = i by omega, hd]
    have hx := idx_run s (L - 1 - i) ((L : Int) - 1 - (i : Int)) d (by omega) hk hg
    have n1 : IntKind.i64.wrap ((L : Int) - 1) = (L : Int) - 1 := wrap_i64_is _ (by omega) (by omega)
    have n2 : IntKind.i64.wrap ((L : Int) - 1 - (i : Int)) = (L : Int) - 1 - (i : Int) := wrap_i64_is _ (by omega) (by omega)
    have d256 : d < 256 := by rw [← hd]; exact d8_lt n i
    clear hs hd hL h hg hk
    go_enter Tryz.func127, Tryz.ntmps127
    go_wp2
    go_ret
    exact ⟨rfl, rfl⟩
end Go.Proofs.YtkmlbjlaahcahaaGreatDoor
namespace Go.Proofs.YtkmlbjlaahcahaaGreatDoor
set_option maxRecDepth 100000
open Go.RowKit WMath

theorem fit_low (X m : Nat) (h : X < 2 ^ (8 * (m + 1))) (hd : d8 X m = 0) : X < 2 ^ (8 * m) := by
  have := mod_d8 X m
  rw [Nat.mod_eq_of_lt h, hd, Nat.mul_zero, Nat.add_zero] at this
  rw [this]
  exact Nat.mod_lt _ (Nat.two_pow_pos _)

set_option maxHeartbeats 1000000 in
theorem nat_fit (L X b c : Nat) (v : ByteArray) (hL : L ≤ 100000) (hX : X < 2 ^ (8 * L)) (hv : nbA X = v) (w : World) (row : w.heap[b]? = some (.cells (c8 L X) 5)) :
    Calls Tryz.prog 110 #[.slice (some ⟨b, 0, none⟩) L c] w fun e w' => e = .returned (.string v) ∧ Below w.heap.size w w' := by
  have hb : b < w.heap.size := (Array.getElem?_eq_some_iff.1 row).1
  have HV := box hv
  have HX := box hX
  clear hv hX
  go_enter Tryz.func110, Tryz.ntmps110
  go_wp2
  go_loop [3] (fun iv => ∃ k : Nat, k ≤ L ∧ iv = .int .i64 k ∧ Box (X < 2 ^ (8 * k))) (fun iv => (intOf iv).toNat)
  case atStart => exact ⟨L, by omega, rfl, HX⟩
  case round =>
    obtain ⟨m, hm, rfl, HM⟩ := hrel
    have hmk := c8_make m (by omega)
    by_cases hst : m ≠ 0 ∧ d8 X (m - 1) = 0
    · obtain ⟨k, rfl⟩ : ∃ k, m = k + 1 := ⟨m - 1, by omega⟩
      have hd : d8 X k = 0 := hst.2
      have c0 := c8_cell row (show k < L by omega)
      rw [hd] at c0
      have NX := box (fit_low X k HM.out hd)
      clear hst hmk
      go_wp2
      go_round
      case rel => exact ⟨k, by omega, by go_num, NX⟩
      case measure => simp [intOf] <;> omega
    · have hnl : nl X = m := nl_is X m HM.out (by omega)
      have HN := box hnl
      have hcase : decide (0 < m) = false ∨ (decide (0 < m) = true ∧ 0 < m ∧ ((d8 X (m - 1) : Int) == 0) = false) := by
        by_cases e : m = 0
        · left; rw [decide_eq_false_iff_not]; omega
        · right
          refine ⟨by rw [decide_eq_true_iff]; omega, by omega, ?_⟩
          simp only [beq_eq_false_iff_ne]
          omega
      clear hst hnl
      rcases hcase with h0 | ⟨h0, h1, hd⟩
      all_goals
        try (have c0 := c8_cell row (show m - 1 < L by omega))
        go_wp2
        clear hmk h0
        try (clear hd c0)
        go_loopw [5] (fun iv wr => ∃ (i Y : Nat), i ≤ m ∧ iv = .int .i64 i ∧ wr.heap[w.heap.size]? = some (.cells (c8 m Y) 5) ∧ Below w.heap.size w wr ∧ Box (∀ j, j < m → m - 1 - i < j + 1 → (i = 0 → False) → (m - 1 - j < i) → d8 Y j = d8 X (m - 1 - j))) (fun iv _ => m - (intOf iv).toNat)
        case atStart => exact ⟨0, 0, by omega, rfl, heap_alloc_last _ _, (Below.refl _ _).alloc (Nat.le_refl _) _, box (fun j _ _ h => absurd rfl h)⟩
        case round =>
          obtain ⟨i, Y, hi, rfl, r0, hbw, HY⟩ := hrel
          by_cases hlt : i < m
          · have rb : wr.heap[b]? = some (.cells (c8 L X) 5) := by rw [hbw.block b hb]; exact row
            have c1 := c8_cell rb (show i < L by omega)
            have c2 := c8_cell r0 (show m - 1 - i < m by omega)
            have f0 := fz (k := m - 1 - i) r0
            have hx := d8_lt X i
            have RS : Box ((wr.setCell ⟨w.heap.size, m - 1 - i, none⟩ (.int .u8 ((d8 X i : Nat) : Int))).heap[w.heap.size]? = some (.cells (c8 m (set8 Y (m - 1 - i) (d8 X i))) 5)) := box (by rw [setCell_row r0, c8_seti m Y (m - 1 - i) _ _ (by omega) hx rfl])
            have NY : Box (∀ j, j < m → m - 1 - (i + 1) < j + 1 → (i + 1 = 0 → False) → (m - 1 - j < i + 1) → d8 (set8 Y (m - 1 - i) (d8 X i)) j = d8 X (m - 1 - j)) := box (fun j hj _ _ hji => by
              rw [d8_set8 _ _ _ _ hx]
              by_cases e : j = m - 1 - i
              · rw [if_pos e, e, show m - 1 - (m - 1 - i) = i by omega]
              · rw [if_neg e]
                exact HY.out j hj (by omega) (by omega) (by omega))
            have t1 : ((m : Int) - 1 - (i : Int)).toNat = m - 1 - i := by omega
            go_wp2
            go_roundw
            case rel => exact ⟨i + 1, _, by omega, by go_num, RS.out, hbw.setCell (Nat.le_refl _) _, NY⟩
            case measure => simp [intOf] <;> omega
          · obtain rfl : i = m := by omega
            have hsv := c8_str (c := i) v r0 (by rw [← HV.out, nbA_size]; exact HN.out) (fun k hk => by
              have hz : v.size = i := by rw [← HV.out, nbA_size]; exact HN.out
              have e := HY.out k (by omega) (by omega) (by omega) (by omega)
              rw [e]
              have hV := HV.out
              subst hV
              rw [nbA_get, HN.out])
            go_wp2
            go_ret
            exact ⟨rfl, hbw⟩

/-- Whether a string is that of a number of at most 16384 bytes. -/
def mayB (s : ByteArray) : Bool := decide (s.size ≤ 16384) && (decide (s.size = 0) || decide (∃ h : 0 < s.size, (s[0]'h).toNat ≠ 0))

theorem toList_len (s : ByteArray) : s.toList.length = s.size := by rw [ByteArray.toList_eq, Array.length_toList]; rfl
theorem eq_empty (s : ByteArray) : (s.toList == []) = decide (s.size = 0) := by
  rw [← toList_len]
  cases s.toList with
  | nil => rfl
  | cons x l => simp

theorem nat_may (s : ByteArray) (o : Bool) (ho : mayB s = o) (w : World) :
    Calls Tryz.prog 56 #[.string s] w fun e w' => e = .returned (.bool o) ∧ w' = w := by
  have d2 := eq_empty s
  by_cases h1 : s.size ≤ 16384
  · have d1 : decide ((s.size : Int) ≤ 16384) = true := by rw [decide_eq_true_iff]; omega
    by_cases h2 : s.size = 0
    · have e : o = true := by rw [← ho]; unfold mayB; rw [decide_eq_true h1, decide_eq_true h2]; rfl
      subst e
      rw [decide_eq_true h2] at d2
      clear h1 h2 ho
      go_enter Tryz.func56, Tryz.ntmps56
      go_wp2
      go_ret
      exact ⟨rfl, rfl⟩
    · rw [decide_eq_false h2] at d2
      have hp : 0 < s.size := by omega
      obtain ⟨x, hx⟩ : ∃ x, (s[0]'hp).toNat = x := ⟨_, rfl⟩
      have e : ((x : Int) != 0) = o := by
        rw [← ho]; unfold mayB
        rw [decide_eq_true h1, decide_eq_false h2, Bool.true_and, Bool.false_or]
        by_cases h0 : x = 0
        · rw [decide_eq_false (fun ⟨a, b⟩ => b (hx.trans h0)), h0]; rfl
        · rw [decide_eq_true ⟨hp, fun c => h0 (hx.symm.trans c)⟩]
          simp; omega
      have hi := idx_run s 0 0 x rfl hp hx
      clear h1 h2 ho hx
      go_enter Tryz.func56, Tryz.ntmps56
      go_wp2
      go_ret
      exact ⟨rfl, rfl⟩
  · have d1 : decide ((s.size : Int) ≤ 16384) = false := by rw [decide_eq_false_iff_not]; omega
    have e : o = false := by rw [← ho]; unfold mayB; rw [decide_eq_false h1]; rfl
    subst e
    clear h1 ho d2
    go_enter Tryz.func56, Tryz.ntmps56
    go_wp2
    go_ret
    exact ⟨rfl, rfl⟩

theorem mayB_nb (n : Nat) (h : nl n ≤ 16384) : mayB (nbA n) = true := by
  have hz := nbA_size n
  unfold mayB
  rw [show decide ((nbA n).size ≤ 16384) = true from decide_eq_true (by omega), Bool.true_and]
  by_cases h0 : (nbA n).size = 0
  · rw [decide_eq_true h0]; rfl
  · rw [decide_eq_false h0, Bool.false_or, decide_eq_true]
    exact ⟨by omega, nbA_first n _⟩
theorem mayB_is (s : ByteArray) (h : mayB s = true) : ∃ n, nbA n = s ∧ nl n ≤ 16384 := by
  unfold mayB at h
  rw [Bool.and_eq_true, Bool.or_eq_true, decide_eq_true_iff, decide_eq_true_iff, decide_eq_true_iff] at h
  obtain ⟨h1, h2⟩ := h
  obtain ⟨n, hn⟩ := nbA_of s (h2.imp id (fun ⟨a, b⟩ => ⟨a, fun c => b (by rw [c]; rfl)⟩))
  exact ⟨n, hn, by rw [← nbA_size, hn]; exact h1⟩

theorem bless_pre : ∀ (x y : List UInt8), x.length = y.length → (Op.bytesLess x y = decide (bvl x < bvl y))
  | [], [], _ => by rfl
  | [], _ :: _, h => by simp at h
  | _ :: _, [], h => by simp at h
  | a :: x, b :: y, h => by
    have hl : x.length = y.length := by simpa using h
    have ih := bless_pre x y hl
    have e : ∀ (c : UInt8) (z : List UInt8), bvl (c :: z) = c.toNat * 2 ^ (8 * z.length) + bvl z := by
      intro c z
      refine rev_ind (P := fun z => bvl (c :: z) = c.toNat * 2 ^ (8 * z.length) + bvl z) ?_ (fun l d ih => ?_) z
      · show 256 * 0 + c.toNat = c.toNat * 2 ^ (8 * 0) + 0
        simp
      · rw [← List.cons_append, bvl_snoc, ih, bvl_snoc, List.length_append, List.length_singleton, pow8, Nat.mul_add, ← Nat.mul_assoc (c.toNat)]
        omega
    have hx := bvl_lt x
    have hy := bvl_lt y
    rw [Op.bytesLess, ih, e a x, e b y, hl]
    rw [hl] at hx
    rcases Nat.lt_trichotomy a.toNat b.toNat with h1 | h1 | h1
    · have h2 : a < b := UInt8.lt_iff_toNat_lt.2 h1
      have h3 : (a.toNat + 1) * 2 ^ (8 * y.length) ≤ b.toNat * 2 ^ (8 * y.length) := Nat.mul_le_mul_right _ h1
      rw [Nat.add_mul, Nat.one_mul] at h3
      rw [decide_eq_true h2, Bool.true_or, decide_eq_true (by omega)]
    · have h2 : a = b := UInt8.toNat_inj.1 h1
      subst h2
      have h3 : ¬ a < a := fun h => Nat.lt_irrefl _ (UInt8.lt_iff_toNat_lt.1 h)
      rw [decide_eq_false h3, Bool.false_or, beq_self_eq_true, Bool.true_and]
      rw [Bool.eq_iff_iff, decide_eq_true_iff, decide_eq_true_iff]
      omega
    · have h2 : ¬ a < b := fun h => by have := UInt8.lt_iff_toNat_lt.1 h; omega
      have h3 : (b.toNat + 1) * 2 ^ (8 * y.length) ≤ a.toNat * 2 ^ (8 * y.length) := Nat.mul_le_mul_right _ h1
      rw [Nat.add_mul, Nat.one_mul] at h3
      have h4 : (a == b) = false := by simp only [beq_eq_false_iff_ne]; intro c; rw [c] at h1; omega
      rw [decide_eq_false h2, Bool.false_or, h4, Bool.false_and, decide_eq_false (by omega)]
theorem bvl_nbL (n : Nat) : bvl (nbL n) = n := by
  have h1 := bvl_lt (nbL n)
  rw [nbL_len] at h1
  refine d8_ext h1 (nl_lt n) (fun k hk => ?_)
  have h2 := bvl_d8 (nbL n) (nl n - 1 - k) (by rw [nbL_len]; omega)
  have hk2 : (nbL n).length - 1 - (nl n - 1 - k) = k := by rw [nbL_len]; omega
  rw [hk2] at h2
  rw [h2]
  have h3 := nbA_get n (nl n - 1 - k) (by rw [nbA_size]; omega)
  rw [show nl n - 1 - (nl n - 1 - k) = k by omega] at h3
  exact h3
theorem toList_nb (n : Nat) : (nbA n).toList = nbL n := by rw [ByteArray.toList_eq]; rfl
theorem bless_nb (a b : Nat) (h : nl a = nl b) : Op.bytesLess (nbA a).toList (nbA b).toList = decide (a < b) := by
  rw [toList_nb, toList_nb, bless_pre _ _ (by rw [nbL_len, nbL_len, h]), bvl_nbL, bvl_nbL]
theorem beq_nb (a b : Nat) : ((nbA a).toList == (nbA b).toList) = decide (a = b) := by
  rw [toList_nb, toList_nb, Bool.eq_iff_iff, beq_iff_eq, decide_eq_true_iff]
  constructor
  · intro h
    rw [← bvl_nbL a, h, bvl_nbL]
  · intro h; rw [h]

theorem nat_cmp (a b : Nat) (s t : ByteArray) (c : Int) (hs : nbA a = s) (ht : nbA b = t) (hc : cmpv a b = c) (w : World) :
    Calls Tryz.prog 125 #[.string s, .string t] w fun e w' => e = .returned (.int .i64 c) ∧ w' = w := by
  obtain ⟨L, hL⟩ : ∃ L, nl a = L := ⟨_, rfl⟩
  obtain ⟨M, hM⟩ : ∃ M, nl b = M := ⟨_, rfl⟩
  have hz : s.size = L := by rw [← hs, nbA_size, hL]
  have hy : t.size = M := by rw [← ht, nbA_size, hM]
  by_cases h : L = M
  · subst h
    have e1 := bless_nb a b (by rw [hL, hM])
    have e2 := beq_nb a b
    rw [hs, ht] at e1 e2
    have n1 : ((L : Int) != (L : Int)) = false := by simp
    unfold cmpv at hc
    by_cases h1 : a = b
    · rw [if_pos h1] at hc
      subst hc
      rw [decide_eq_false (by omega)] at e1
      rw [decide_eq_true h1] at e2
      clear hs ht hL hM h1
      go_enter Tryz.func125, Tryz.ntmps125
      go_wp2
      go_ret
      exact ⟨rfl, rfl⟩
    · rw [if_neg h1] at hc
      rw [decide_eq_false h1] at e2
      by_cases h2 : a < b
      · rw [if_pos h2] at hc
        subst hc
        rw [decide_eq_true h2] at e1
        clear hs ht hL hM h1 h2
        go_enter Tryz.func125, Tryz.ntmps125
        go_wp2
        go_ret
        exact ⟨rfl, rfl⟩
      · rw [if_neg h2] at hc
        subst hc
        rw [decide_eq_false h2] at e1
        clear hs ht hL hM h1 h2
        go_enter Tryz.func125, Tryz.ntmps125
        go_wp2
        go_ret
        exact ⟨rfl, rfl⟩
  · have n1 : ((L : Int) != (M : Int)) = true := by simp; omega
    have n2 : ¬ a = b := fun e => h (by rw [← hL, ← hM, e])
    unfold cmpv at hc
    rw [if_neg n2] at hc
    by_cases h2 : L < M
    · have h3 : a < b := by
        rcases Nat.lt_or_ge a b with h3 | h3
        · exact h3
        · have := nl_mono b a h3; omega
      rw [if_pos h3] at hc
      subst hc
      have n3 : decide (L < M) = true := decide_eq_true h2
      clear hs ht hL hM h n2 h2 h3
      go_enter Tryz.func125, Tryz.ntmps125
      go_wp2
      go_ret
      exact ⟨rfl, rfl⟩
    · have h3 : ¬ a < b := fun e => by have := nl_mono a b (Nat.le_of_lt e); omega
      rw [if_neg h3] at hc
      subst hc
      have n3 : decide (L < M) = false := decide_eq_false h2
      clear hs ht hL hM h n2 h2 h3
      go_enter Tryz.func125, Tryz.ntmps125
      go_wp2
      go_ret
      exact ⟨rfl, rfl⟩
end Go.Proofs.YtkmlbjlaahcahaaGreatDoor
namespace Go.Proofs.YtkmlbjlaahcahaaGreatDoor
set_option maxRecDepth 100000
open Go.RowKit WMath

theorem carry_step (S P t : Nat) : S + P * (t % 256) + P * 256 * (t / 256) = S + P * t := by
  have h := Nat.div_add_mod t 256
  have : P * t = P * (256 * (t / 256) + t % 256) := by rw [h]
  rw [this, Nat.mul_add, Nat.mul_assoc]
  omega

theorem pow8_le (i j : Nat) (h : i ≤ j) : 2 ^ (8 * i) ≤ 2 ^ (8 * j) := Nat.pow_le_pow_right (by decide) (by omega)
theorem wrap_u8_is (t x : Nat) (h : t % 256 = x) : IntKind.u8.wrap (t : Int) = (x : Int) := by
  rw [← h, IntKind.wrap_u8]; omega

theorem nsub_step (a b S i c x y z g : Nat) (hE : S + b % 2 ^ (8 * i) = a % 2 ^ (8 * i) + 2 ^ (8 * i) * c) (hx : d8 a i = x) (hy : d8 b i = y) (hz : z + y + c = x + 256 * g) :
    S + 2 ^ (8 * i) * z + b % 2 ^ (8 * (i + 1)) = a % 2 ^ (8 * (i + 1)) + 2 ^ (8 * (i + 1)) * g := by
  rw [mod_d8, mod_d8, hx, hy, pow8, Nat.mul_assoc]
  have e := congrArg (fun t => 2 ^ (8 * i) * t) hz
  simp only [Nat.mul_add] at e
  omega
theorem nsub_end (a b S i c : Nat) (hba : b ≤ a) (ha : a < 2 ^ (8 * i)) (hS : S < 2 ^ (8 * i)) (hE : S + b % 2 ^ (8 * i) = a % 2 ^ (8 * i) + 2 ^ (8 * i) * c) : S = a - b := by
  rw [Nat.mod_eq_of_lt ha, Nat.mod_eq_of_lt (show b < 2 ^ (8 * i) by omega)] at hE
  by_cases h : c = 0
  · rw [h] at hE; omega
  · have : 2 ^ (8 * i) * 1 ≤ 2 ^ (8 * i) * c := Nat.mul_le_mul_left _ (by omega)
    omega

set_option maxHeartbeats 1000000 in
theorem nat_sub (a b : Nat) (s t v : ByteArray) (hs : nbA a = s) (ht : nbA b = t) (hv : nbA (a - b) = v) (hba : b ≤ a) (ha : nl a ≤ 20000) (w : World) :
    Calls Tryz.prog 191 #[.string s, .string t] w fun e w' => e = .returned (.string v) ∧ Below w.heap.size w w' := by
  obtain ⟨L, hL⟩ : ∃ L, nl a = L := ⟨_, rfl⟩
  have hz : s.size = L := by rw [← hs, nbA_size, hL]
  have la := nl_lt a
  have hb := nl_mono b a hba
  rw [hL] at la ha hb
  have LA := box la
  have HBA := box hba
  have HS := box hs
  have HT := box ht
  have HV := box hv
  have NA : Box (nl a ≤ 100000) := box (by omega)
  have NB : Box (nl b ≤ 100000) := box (by omega)
  have hmk := c8_make L (by omega)
  clear hs ht hv hL la hba hb
  go_enter Tryz.func191, Tryz.ntmps191
  go_wp2
  clear hmk
  go_loopw [6, 7] (fun cv iv wr => ∃ (i c S : Nat), i ≤ L ∧ c < 2 ∧ cv = .int .i64 c ∧ iv = .int .i64 i ∧ wr.heap[w.heap.size]? = some (.cells (c8 L S) 5) ∧ Below w.heap.size w wr ∧ Box (S < 2 ^ (8 * i) ∧ S + b % 2 ^ (8 * i) = a % 2 ^ (8 * i) + 2 ^ (8 * i) * c)) (fun _ iv _ => L - (intOf iv).toNat)
  case atStart => exact ⟨0, 0, 0, by omega, by omega, rfl, rfl, heap_alloc_last _ _, (Below.refl _ _).alloc (Nat.le_refl _) _, box ⟨by decide, by simp [Nat.mod_one]⟩⟩
  case round =>
    obtain ⟨i, c, S, hi, hc, rfl, rfl, r0, hbw, HE⟩ := hrel
    by_cases hlt : i < L
    · obtain ⟨x, hx⟩ : ∃ x, d8 a i = x := ⟨_, rfl⟩
      obtain ⟨y, hy2⟩ : ∃ y, d8 b i = y := ⟨_, rfl⟩
      have x256 : x < 256 := by rw [← hx]; exact d8_lt a i
      have y256 : y < 256 := by rw [← hy2]; exact d8_lt b i
      obtain ⟨q, hq⟩ : ∃ q : Int, (x : Int) - (y : Int) - (c : Int) = q := ⟨_, rfl⟩
      obtain ⟨g, hg⟩ : ∃ g, (if x < y + c then 1 else 0) = g := ⟨_, rfl⟩
      obtain ⟨z, hz2⟩ : ∃ z, x + 256 * g - y - c = z := ⟨_, rfl⟩
      have hzz : z + y + c = x + 256 * g ∧ z < 256 ∧ g < 2 := by split at hg <;> omega
      have NE := nsub_step a b S i c x y z g HE.out.2 hx hy2 hzz.1
      have NX : Box (S + 2 ^ (8 * i) * z < 2 ^ (8 * (i + 1)) ∧ S + 2 ^ (8 * i) * z + b % 2 ^ (8 * (i + 1)) = a % 2 ^ (8 * (i + 1)) + 2 ^ (8 * (i + 1)) * g) := box ⟨push8_lt S i z HE.out.1 hzz.2.1, NE⟩
      have n1 : IntKind.i64.wrap ((x : Int) - (y : Int)) = (x : Int) - (y : Int) := wrap_i64_is _ (by omega) (by omega)
      have n3 : IntKind.i64.wrap ((x : Int) - (y : Int) - (c : Int)) = q := by rw [wrap_i64_is _ (by omega) (by omega)]; omega
      have n4 : IntKind.u8.wrap q = (z : Int) := by rw [IntKind.wrap_u8]; omega
      have c1 := c8_cell r0 hlt
      have f0 := fz (k := i) r0
      have z256 := hzz.2.1
      have RS : Box ((wr.setCell ⟨w.heap.size, i, none⟩ (.int .u8 (z : Int))).heap[w.heap.size]? = some (.cells (c8 L (S + 2 ^ (8 * i) * z)) 5)) := box (by rw [setCell_row r0, c8_push L S i z _ hlt HE.out.1 z256 rfl])
      have HX := box hx
      have HY := box hy2
      have dl : decide (i < L) = true := decide_eq_true hlt
      have hcase : (decide (q < 0) = true ∧ g = 1) ∨ (decide (q < 0) = false ∧ g = 0) := by
        rw [decide_eq_true_iff, decide_eq_false_iff_not]
        split at hg <;> omega
      clear hx hy2 hq hz2 hg NE hzz
      rcases hcase with ⟨dq, rfl⟩ | ⟨dq, rfl⟩
      all_goals
        go_wp2_with fail
        refine (nat_at a i x s HS.out HX.out NA.out _).mono ?_
        rintro e w' ⟨rfl, rfl⟩
        go_wp2_with fail
        refine (nat_at b i y t HT.out HY.out NB.out _).mono ?_
        rintro e w' ⟨rfl, rfl⟩
        go_wp2
        go_roundw
        case rel => exact ⟨i + 1, _, _, by omega, (by first | exact (by decide : 1 < 2) | exact (by decide : 0 < 2)), by first | rfl | go_num, by go_num, RS.out, hbw.setCell (Nat.le_refl _) _, NX⟩
        case measure => simp [intOf] <;> omega
    · obtain rfl : i = L := by omega
      have e := nsub_end a b S i c HBA.out LA.out HE.out.1 HE.out.2
      subst e
      have FX := box HE.out.1
      clear HE
      have dl : decide (i < i) = false := by rw [decide_eq_false_iff_not]; omega
      go_wp2_with fail
      refine (nat_fit i (a - b) w.heap.size i v (by omega) FX.out HV.out _ r0).mono ?_
      rintro e w' ⟨rfl, hb2⟩
      go_wp2
      go_ret
      exact ⟨rfl, hbw.trans (hb2.mono hbw.size)⟩

theorem ndbl_step (a o S i c t : Nat) (hE : S + 2 ^ (8 * i) * c = 2 * (a % 2 ^ (8 * i)) + o) (ht : c + 2 * d8 a i = t) :
    S + 2 ^ (8 * i) * (t % 256) + 2 ^ (8 * (i + 1)) * (t / 256) = 2 * (a % 2 ^ (8 * (i + 1))) + o := by
  rw [pow8, carry_step, ← pow8, mod_d8, ← ht, Nat.mul_add, Nat.mul_add 2, Nat.mul_left_comm]
  omega

set_option maxHeartbeats 1000000 in
theorem nat_double (a o : Nat) (s v : ByteArray) (hs : nbA a = s) (ho : o < 2) (hv : nbA (2 * a + o) = v) (ha : nl a ≤ 20000) (w : World) :
    Calls Tryz.prog 189 #[.string s, .int .i64 (o : Nat)] w fun e w' => e = .returned (.string v) ∧ Below w.heap.size w w' := by
  obtain ⟨L, hL⟩ : ∃ L, nl a = L := ⟨_, rfl⟩
  obtain ⟨N, hN⟩ : ∃ N, L + 1 = N := ⟨_, rfl⟩
  have hz : s.size = L := by rw [← hs, nbA_size, hL]
  have la := nl_lt a
  rw [hL] at la ha
  have LA : Box (a < 2 ^ (8 * N)) := box (Nat.lt_of_lt_of_le la (pow8_le _ _ (by omega)))
  have LAB : Box (2 * a + o < 2 ^ (8 * N)) := box (by rw [← hN, pow8]; omega)
  have HS := box hs
  have HV := box hv
  have NA : Box (nl a ≤ 100000) := box (by omega)
  have hmk := c8_makeI N ((L : Int) + 1) (by omega) (by omega)
  clear hs hv hL la
  go_enter Tryz.func189, Tryz.ntmps189
  go_wp2
  clear hmk
  go_loopw [6, 7] (fun cv iv wr => ∃ (i c S : Nat), i ≤ N ∧ c < 2 ∧ cv = .int .i64 c ∧ iv = .int .i64 i ∧ wr.heap[w.heap.size]? = some (.cells (c8 N S) 5) ∧ Below w.heap.size w wr ∧ Box (S < 2 ^ (8 * i) ∧ S + 2 ^ (8 * i) * c = 2 * (a % 2 ^ (8 * i)) + o)) (fun _ iv _ => N - (intOf iv).toNat)
  case atStart => exact ⟨0, o, 0, by omega, ho, rfl, rfl, heap_alloc_last _ _, (Below.refl _ _).alloc (Nat.le_refl _) _, box ⟨by decide, by simp [Nat.mod_one]⟩⟩
  case round =>
    obtain ⟨i, c, S, hi, hc, rfl, rfl, r0, hbw, HE⟩ := hrel
    by_cases hlt : i < N
    · obtain ⟨x, hx⟩ : ∃ x, d8 a i = x := ⟨_, rfl⟩
      have x256 : x < 256 := by rw [← hx]; exact d8_lt a i
      obtain ⟨q, hq⟩ : ∃ q, c + 2 * x = q := ⟨_, rfl⟩
      obtain ⟨z, hz2⟩ : ∃ z, q % 256 = z := ⟨_, rfl⟩
      obtain ⟨g, hg⟩ : ∃ g, q / 256 = g := ⟨_, rfl⟩
      have NE := ndbl_step a o S i c q HE.out.2 (by rw [hx]; exact hq)
      rw [hz2, hg] at NE
      have z256 : z < 256 := by omega
      have NX : Box (S + 2 ^ (8 * i) * z < 2 ^ (8 * (i + 1)) ∧ S + 2 ^ (8 * i) * z + 2 ^ (8 * (i + 1)) * g = 2 * (a % 2 ^ (8 * (i + 1))) + o) := box ⟨push8_lt S i z HE.out.1 z256, NE⟩
      have g2 : g < 2 := by omega
      have n1 : IntKind.i64.wrap (2 * (x : Int)) = 2 * (x : Int) := wrap_i64_is _ (by omega) (by omega)
      have n3 : IntKind.i64.wrap ((c : Int) + 2 * (x : Int)) = (q : Int) := by rw [wrap_i64_is _ (by omega) (by omega)]; omega
      have n4 := wrap_u8_is q z hz2
      have n5 : (q : Int) / 256 = (g : Int) := by omega
      have c1 := c8_cell r0 hlt
      have f0 := fz (k := i) r0
      have RS : Box ((wr.setCell ⟨w.heap.size, i, none⟩ (.int .u8 (z : Int))).heap[w.heap.size]? = some (.cells (c8 N (S + 2 ^ (8 * i) * z)) 5)) := box (by rw [setCell_row r0, c8_push N S i z _ hlt HE.out.1 z256 rfl])
      have HX := box hx
      have dl : decide (i ≤ L) = true := by rw [decide_eq_true_iff]; omega
      clear hx hq hz2 hg NE
      go_wp2_with fail
      refine (nat_at a i x s HS.out HX.out NA.out _).mono ?_
      rintro e w' ⟨rfl, rfl⟩
      go_wp2
      go_roundw
      case rel => exact ⟨i + 1, g, _, by omega, g2, by first | rfl | go_num, by go_num, RS.out, hbw.setCell (Nat.le_refl _) _, NX⟩
      case measure => simp [intOf] <;> omega
    · obtain rfl : i = N := by omega
      have e : S = 2 * a + o := by
        have h := HE.out.2
        rw [Nat.mod_eq_of_lt LA.out] at h
        have h2 := LAB.out
        by_cases hc0 : c = 0
        · rw [hc0] at h; omega
        · have : 2 ^ (8 * i) * 1 ≤ 2 ^ (8 * i) * c := Nat.mul_le_mul_left _ (by omega)
          omega
      subst e
      have FX := box HE.out.1
      clear HE
      have dl : decide (i ≤ L) = false := by rw [decide_eq_false_iff_not]; omega
      go_wp2_with fail
      refine (nat_fit i (2 * a + o) w.heap.size i v (by omega) FX.out HV.out _ r0).mono ?_
      rintro e w' ⟨rfl, hb2⟩
      go_wp2
      go_ret
      exact ⟨rfl, hbw.trans (hb2.mono hbw.size)⟩

theorem nat_bit (a i : Nat) (s : ByteArray) (o : Nat) (hs : nbA a = s) (ho : (a.testBit i).toNat = o) (ha : nl a ≤ 100000) (hi : i ≤ 10000000) (w : World) :
    Calls Tryz.prog 190 #[.string s, .int .i64 (i : Nat)] w fun e w' => e = .returned (.int .i64 (o : Nat)) ∧ w' = w := by
  obtain ⟨q, hq⟩ : ∃ q, q = i / 8 := ⟨_, rfl⟩
  obtain ⟨r, hr⟩ : ∃ r, r = i % 8 := ⟨_, rfl⟩
  have q1 : (i : Int) / 8 = (q : Int) := by omega
  have r1 : (i : Int) % 8 = (r : Int) := by omega
  have r8 : r < 8 := by omega
  obtain ⟨x, hx⟩ : ∃ x, d8 a q = x := ⟨_, rfl⟩
  have x256 : x < 256 := by rw [← hx]; exact d8_lt a q
  have e : x / 2 ^ r % 2 = o := by rw [← ho, ← hx, hq, hr, bit_of_d8, testBit_toNat]
  have hb : bits .and .i64 ((x : Int) / 2 ^ r) 1 = (o : Int) := by
    obtain ⟨y, hy⟩ : ∃ y, x / 2 ^ r = y := ⟨_, rfl⟩
    have e2 : (x : Int) / 2 ^ r = (y : Int) := by rw [← hy]; exact div_cast x r
    have y256 : y < 256 := by rw [← hy]; exact Nat.lt_of_le_of_lt (Nat.div_le_self _ _) x256
    rw [e2]
    show IntKind.i64.wrap ((BitVec.ofInt 64 (y : Int) &&& BitVec.ofInt 64 1).toNat : Int) = _
    have h1 : (BitVec.ofInt 64 1).toNat = 2 ^ 1 - 1 := by decide
    have h2 : (BitVec.ofInt 64 (y : Int)).toNat = y := by simp; omega
    rw [BitVec.toNat_and, h1, Nat.and_two_pow_sub_one_eq_mod, h2, wrap_i64_is _ (by omega) (by omega), ← e, hy]
  have HX := box hx
  clear hq hr hx e ho
  go_enter Tryz.func190, Tryz.ntmps190
  go_wp2_with fail
  refine (nat_at a q x s hs HX.out ha _).mono ?_
  rintro e w' ⟨rfl, rfl⟩
  go_wp2
  go_ret
  exact ⟨rfl, rfl⟩
end Go.Proofs.YtkmlbjlaahcahaaGreatDoor
namespace Go.Proofs.YtkmlbjlaahcahaaGreatDoor
set_option maxRecDepth 100000
open Go.RowKit WMath

/-- A result, or that it is too long. -/
def lg (x : Nat) : ByteArray × Int := if nl x ≤ 16384 then (nbA x, 0) else (⟨#[]⟩, 4)
/-- A difference, or that there is none. -/
def sb (a b : Nat) : ByteArray × Int := if a < b then (⟨#[]⟩, 2) else (nbA (a - b), 0)

end Go.Proofs.YtkmlbjlaahcahaaGreatDoor
namespace Go.Proofs.YtkmlbjlaahcahaaGreatDoor
set_option maxRecDepth 100000
open Go.RowKit WMath

theorem rowsL_setCell {w wr : World} {l l2 : List Nat} (h : RowsL w wr l) (i x y b o : Nat) (v : Value) (hi : l[i]? = some x) (hb : b = w.heap.size + i) (hv : (cw 6 x).setIfInBounds o v = cw 6 y) (hl : l2 = l.set i y) : RowsL w (wr.setCell ⟨b, o, none⟩ v) l2 := by
  subst hb
  subst hl
  refine ⟨fun j z hz => ?_, h.2.setCell (by show w.heap.size ≤ w.heap.size + i; omega) _⟩
  by_cases e : i = j
  · subst e
    rw [List.getElem?_set_self (List.getElem?_eq_some_iff.1 hi).1] at hz
    cases hz
    rw [setCell_row (h.1 i _ hi), hv]
  · rw [List.getElem?_set_ne e] at hz
    rw [setCell_other (by omega)]
    exact h.1 j z hz
end Go.Proofs.YtkmlbjlaahcahaaGreatDoor
