/-
  What the functions that the statement reaches return: part 12 (O1, M0, A3, A5, U2, G5, Q1, G6, GH, GN, GO, GQ, O6, NA).
-/
import Derived.Test.YtpdehipeakcaiaaDoorFb11
namespace Go.Proofs.YtpdehipeakcaiaaDoor
set_option maxRecDepth 100000
set_option maxHeartbeats 40000000
set_option maxRecDepth 100000
open Go.RowKit WMath
set_option linter.unusedSimpArgs false
set_option linter.unusedVariables false
def bls (l : List (Nat × Nat)) : Array Value := (l.flatMap fun p => [Value.int .u64 (p.1 : Nat), Value.int .u64 (p.2 : Nat)]).toArray
def okP (f : Int) (p : Nat × Nat) : Bool := okB f (p.2 + 18446744073709551616 * p.1)
theorem bls_at (l : List (Nat × Nat)) (k : Nat) (p : Nat × Nat) (h : l[k]? = some p) : (bls l)[k * 2]? = some (.int .u64 (p.1 : Nat)) ∧ (bls l)[k * 2 + 1]? = some (.int .u64 (p.2 : Nat)) := by
  unfold bls
  rw [List.getElem?_toArray, List.getElem?_toArray]
  induction l generalizing k with
  | nil => simp at h
  | cons a t ih =>
    cases k with
    | zero =>
      simp at h
      subst h
      simp
    | succ k =>
      simp only [List.getElem?_cons_succ] at h
      have := ih k h
      rw [show (k + 1) * 2 = k * 2 + 1 + 1 by omega]
      simpa using this
theorem bls_cell {w : World} {g : Nat} {T : TypeId} {l : List (Nat × Nat)} (row : w.heap[g]? = some (.cells (bls l) T)) (k : Nat) (p : Nat × Nat) (h : l[k]? = some p) : w.cell? ⟨g, k * 2, none⟩ = some (.int .u64 (p.1 : Nat)) ∧ w.cell? ⟨g, k * 2 + 1, none⟩ = some (.int .u64 (p.2 : Nat)) := by
  obtain ⟨a, b⟩ := bls_at l k p h
  exact ⟨(cell_of_row w g (k * 2) _ _ _ row).trans a, (cell_of_row w g (k * 2 + 1) _ _ _ row).trans b⟩
set_option maxRecDepth 100000 in
set_option maxHeartbeats 8000000 in
theorem op_may_no (f m : Int) (pu pv : Nat) (fl c : Int) (sl : Value) (hc : (c != 0) = true) (w : World)
    (KP : Box (∀ w, FAt w → Calls Tryd.prog 9 #[.int .u8 f, .int .u8 m, .agg (rg false 0 0 false)] w fun r w' => r = .returned (.tuple #[.agg #[.int .u64 (pu : Nat), .int .u64 (pv : Nat)], .int .u8 fl, .int .i64 c]) ∧ Below w.heap.size w w')) (hT : FAt w) : Calls Tryd.prog 32 #[.int .u8 f, .int .u8 m, sl] w fun r w' => r = .returned (.bool false) ∧ Below w.heap.size w w' := by
  have FF := box hT
  clear hT
  have hp3 := rgz
  have B0 : Below w.heap.size w w := (Below.refl _ _)
  go_enter Tryd.func32, Tryd.ntmps32
  go_wp2_with fail
  refine (KP.out _ (fatB FF.out B0)).mono ?_
  rintro r w1 ⟨rfl, b1⟩
  have B1 : Below w.heap.size w w1 := btr B0 b1
  clear b1 B0 
  have S2 := box B1.size
  have Rp_2 := heap_alloc_last w1 (Obj.cells #[.int .u64 (pu : Nat), .int .u64 (pv : Nat)] 27)
  have B2 := btr B1 (bal w1 (Obj.cells #[.int .u64 (pu : Nat), .int .u64 (pv : Nat)] 27))
  clear B1 
  obtain ⟨cp_2_0, cp_2_1⟩ := cells2s Rp_2
  go_wp2
  go_ret
  exact ⟨rfl, B2⟩
theorem kClass_any (f : Int) (hf : Is4 f) (p : Nat × Nat) (h : p.1 < 18446744073709551616 ∧ p.2 < 18446744073709551616) (o : Bool) (ho : okP f p = o) : ∃ (c e : Int), (e != 0) = (!o) ∧ Box (∀ w, FAt w → Calls Tryd.prog 42 #[.int .u8 f, .agg #[.int .u64 (p.1 : Nat), .int .u64 (p.2 : Nat)]] w fun r w' => r = .returned (.tuple #[.int .u8 c, .int .i64 e]) ∧ Below w.heap.size w w') := by
  have h0 : 0 ≤ f ∧ f ≤ 255 := by rcases hf with rfl | rfl | rfl | rfl <;> decide
  cases o
  · exact ⟨0, 2, rfl, box (fun w hT => kClass_no f h0.1 h0.2 p.1 p.2 _ h.1 h.2 rfl ho w hT)⟩
  · exact ⟨_, 0, rfl, box (fun w hT => kClass_yes f hf p.1 p.2 _ _ h.1 h.2 rfl ho rfl w hT)⟩
set_option maxRecDepth 100000 in
set_option maxHeartbeats 8000000 in
theorem op_may (f m : Int) (hf : Is4 f) (l : List (Nat × Nat)) (L g c : Nat) (T : TypeId) (w : World) (hl : l.length = L) (hL : L ≤ 1000) (hb : Box (∀ p ∈ l, p.1 < 18446744073709551616 ∧ p.2 < 18446744073709551616)) (row : w.heap[g]? = some (.cells (bls l) T)) (pu pv : Nat) (fl : Int)
    (KP : Box (∀ w, FAt w → Calls Tryd.prog 9 #[.int .u8 f, .int .u8 m, .agg (rg false 0 0 false)] w fun r w' => r = .returned (.tuple #[.agg #[.int .u64 (pu : Nat), .int .u64 (pv : Nat)], .int .u8 fl, .int .i64 0]) ∧ Below w.heap.size w w'))
    (o : Bool) (ho : l.all (okP f) = o) (hT : FAt w) : Calls Tryd.prog 32 #[.int .u8 f, .int .u8 m, .slice (some ⟨g, 0, none⟩) L c] w fun r w' => r = .returned (.bool o) ∧ Below w.heap.size w w' := by
  have FF := box hT
  have HO := box ho
  have HL := box hl
  have HF := box hf
  clear ho hl hT hf
  have hp3 := rgz
  go_enter Tryd.func32, Tryd.ntmps32
  go_wp2_with fail
  refine (KP.out _ FF.out).mono ?_
  rintro r w1 ⟨rfl, b1⟩
  have BP := btr b1 (bal w1 (.cells #[.int .u64 (pu : Nat), .int .u64 (pv : Nat)] 27))
  obtain ⟨V, hV⟩ : ∃ V, w1.alloc (.cells #[.int .u64 (pu : Nat), .int .u64 (pv : Nat)] 27) = V := ⟨_, rfl⟩
  go_wp2
  rw [hV] at BP
  clear b1 KP hV
  go_loopw [26] (fun iv wr => ∃ k : Nat, k ≤ L ∧ iv = .int .i64 k ∧ Below w.heap.size w wr ∧ Box (∀ j p, j < k → l[j]? = some p → okP f p = true)) (fun iv _ => L - (intOf iv).toNat)
  case atStart => exact ⟨0, by omega, rfl, BP, box (fun j s hj => absurd hj (by omega))⟩
  case round =>
    obtain ⟨k, hk, rfl, bw, HA⟩ := hrel
    by_cases hlt : k < L
    · obtain ⟨p, hs⟩ : ∃ p, l[k]? = some p := ⟨_, List.getElem?_eq_getElem (by rw [HL.out]; exact hlt)⟩
      obtain ⟨c1, c2⟩ := bls_cell (heap_of bw _ _ _ row) k p hs
      have dl : decide ((k : Int) < (L : Int)) = true := decide_eq_true (by omega)
      have HS := box hs
      obtain ⟨o1, hm⟩ : ∃ o1, okP f p = o1 := ⟨_, rfl⟩
      have HM := box hm
      obtain ⟨cc, ee, hee, KC⟩ := kClass_any f HF.out p (hb.out p (List.mem_of_getElem? hs)) o1 hm
      have FA : Box (FAt (wr.alloc (.cells #[.int .u64 (p.1 : Nat), .int .u64 (p.2 : Nat)] 27))) := box (fatB FF.out (btr bw (bal _ _)))
      have BA := btr bw (bal wr (.cells #[.int .u64 (p.1 : Nat), .int .u64 (p.2 : Nat)] 27))
      clear hs hm
      cases o1
      · have e : o = false := by
          rw [← HO.out, Bool.eq_false_iff]
          intro h
          rw [List.all_eq_true] at h
          have := h p (List.mem_of_getElem? HS.out)
          rw [HM.out] at this
          exact absurd this (by decide)
        subst e
        go_wp2_with fail
        refine (KC.out _ FA.out).mono ?_
        rintro r w2 ⟨rfl, b2⟩
        go_wp2
        go_ret
        exact ⟨rfl, btr BA b2⟩
      · have NA : Box (∀ j p, j < k + 1 → l[j]? = some p → okP f p = true) := box (fun j p2 hj h2 => by
          by_cases e : j = k
          · subst e
            rw [HS.out] at h2
            cases h2
            exact HM.out
          · exact HA.out j p2 (by omega) h2)
        go_wp2_with fail
        refine (KC.out _ FA.out).mono ?_
        rintro r w2 ⟨rfl, b2⟩
        go_wp2
        go_roundw
        case rel => exact ⟨k + 1, by omega, by go_num, btr BA b2, NA⟩
        case measure => simp [intOf] <;> omega
    · obtain rfl : k = L := by omega
      have e : o = true := by
        rw [← HO.out, List.all_eq_true]
        intro s hs
        obtain ⟨j, hj⟩ := List.mem_iff_getElem?.1 hs
        have := (List.getElem?_eq_some_iff.1 hj).1
        exact HA.out j s (by rw [← HL.out]; exact this) hj
      subst e
      have dl : decide ((k : Int) < (k : Int)) = false := by rw [decide_eq_false_iff_not]; omega
      go_wp2
      go_ret
      exact ⟨rfl, bw⟩
end Go.Proofs.YtpdehipeakcaiaaDoor
namespace Go.Proofs.YtpdehipeakcaiaaDoor
set_option maxRecDepth 100000
set_option maxHeartbeats 40000000
set_option maxRecDepth 100000
open Go.RowKit WMath XMath
set_option linter.unusedSimpArgs false
set_option linter.unusedVariables false
theorem vX_whole {f : Int} (hf : Is4 f) (n : Nat) (h : 0 < kC f n ∧ kC f n < 7) (h2 : ¬ (kC f n = 3 ∨ kC f n = 4)) : kS f n ≠ 0 ∧ kS f n < 2 ^ 128 ∧ vX f n = ⟨kN f n, od (kS f n), 1, kX f n + (tz (kS f n) : Int)⟩ ∧ (vX f n).can := by
  obtain ⟨l1, l2, l3⟩ := kS_lim hf n
  obtain ⟨a, b, d, e⟩ := k_parts (f := f) n (by omega)
  have l4 : kS f n < 2 ^ 128 := l1
  obtain ⟨w1, w2, w3, w4, w5, w6, w7⟩ := x_whole hf (kN f n) (kS f n) (kX f n) e (by have := (blen_iff (kS f n) 128).2 l4; omega) (by omega) (by omega)
  have := vX_mk hf n h
  rw [w1] at this
  injection this with h3 h4
  exact ⟨e, l4, h3.symm, by rw [← h3]; exact w2⟩
theorem kC_all (f : Int) (n : Nat) : (kE f n = oV f ∧ kT f n = 0 ∧ kC f n = if kN f n then 0 else 7) ∨ (kE f n = oV f ∧ kT f n ≠ 0 ∧ kT f n < 2 ^ (pV f - 1) ∧ kC f n = 8) ∨ (kE f n = oV f ∧ 2 ^ (pV f - 1) ≤ kT f n ∧ kC f n = 9) ∨
    (kE f n < oV f ∧ kE f n ≠ 0 ∧ kC f n = if kN f n then 1 else 6) ∨ (kE f n < oV f ∧ kE f n = 0 ∧ kT f n ≠ 0 ∧ kC f n = if kN f n then 2 else 5) ∨ (kE f n < oV f ∧ kE f n = 0 ∧ kT f n = 0 ∧ kC f n = if kN f n then 3 else 4) := by
  have el := kE_le (f := f) n
  have p := Nat.two_pow_pos (pV f - 1)
  unfold kC
  by_cases c1 : kE f n = oV f
  · by_cases c2 : kT f n = 0
    · left
      refine ⟨c1, c2, ?_⟩
      (repeat' split) <;> first | rfl | omega | simp_all
    · by_cases c3 : kT f n < 2 ^ (pV f - 1)
      · right; left
        refine ⟨c1, c2, c3, ?_⟩
        (repeat' split) <;> first | rfl | omega | simp_all
      · right; right; left
        refine ⟨c1, by omega, ?_⟩
        (repeat' split) <;> first | rfl | omega | simp_all
  · by_cases c2 : kE f n = 0
    · by_cases c3 : kT f n = 0
      · right; right; right; right; right
        refine ⟨by omega, c2, c3, ?_⟩
        (repeat' split) <;> first | rfl | omega | simp_all
      · right; right; right; right; left
        refine ⟨by omega, c2, c3, ?_⟩
        (repeat' split) <;> first | rfl | omega | simp_all
    · right; right; right; left
      refine ⟨by omega, c2, ?_⟩
      (repeat' split) <;> first | rfl | omega | simp_all
theorem kC_sign {f : Int} (n : Nat) (h : 0 < kC f n ∧ kC f n < 7) : decide (kC f n ≤ 3) = kN f n := by
  have c := kC_all f n
  cases hn : kN f n
  · rw [hn] at c
    rw [decide_eq_false_iff_not]
    simp only [Bool.false_eq_true, if_false] at c
    omega
  · rw [hn] at c
    rw [decide_eq_true_iff]
    simp only [if_true] at c
    omega
theorem vX_null (f : Int) (n : Nat) (h : kC f n = 3 ∨ kC f n = 4) : vX f n = XMath.X0 := by
  unfold vX
  rw [(k_null n h).1, mk_null]
theorem val_eS {f : Int} (hf : Is4 f) (neg : Bool) (j S : Nat) (hS : S ≤ 2 * 2 ^ pV f) (hj : j = 0 ∨ 2 ^ pV f ≤ S) (ht : lx f + (j : Int) - 1 + (blen S : Int) ≤ fE f) :
    (0 < kC f (eS f neg j S) ∧ kC f (eS f neg j S) < 7) ∧ (vX f (eS f neg j S)).can ∧ (vX f (eS f neg j S)).val = sgn neg * ((S : Rat) * (2 : Rat) ^ (lx f + (j : Int))) ∧ Bd (vX f (eS f neg j S)) 128 20200 := by
  obtain ⟨n1, n2, n3, n4, n5, n6⟩ := nm8 hf
  have p := Nat.two_pow_pos (pV f)
  by_cases s0 : S = 0
  · have j0 : j = 0 := by omega
    subst s0 j0
    have e : eS f neg 0 0 = enc7 f neg 0 0 := rfl
    obtain ⟨v1, v2, v3, v4, v5, v6⟩ := vX_enc hf neg 0 0 (by omega) p
    rw [e]
    refine ⟨v1, v2, ?_, v4⟩
    rw [v3]
    have : sV f 0 0 = 0 := by unfold sV; rw [if_pos rfl]
    rw [this]
    have z : ((0 : Nat) : Rat) = 0 := rfl
    rw [z]
    grind
  · obtain ⟨l1, l2, l3⟩ := blen_low S s0
    have j4 : j ≤ 40000 := by omega
    obtain ⟨e, t, he, htt, nz, h1, h2⟩ := rep hf j S s0 hS hj ht
    obtain ⟨v1, v2, v3, v4, v5, v6⟩ := vX_enc hf neg e t he htt
    obtain ⟨w1, w2, w3⟩ := val_of hf neg e t he htt nz
    have h3 := (mk_small hf neg j S s0 hS j4).1
    have a := mk_val neg S 1 (lx f + (j : Int)) (by decide) (by rw [h3])
    have b := mk_val neg (sV f e t) 1 (xV f e) (by decide) (by rw [w1])
    rw [h2 neg, b] at a
    rw [← h1 neg]
    refine ⟨v1, v2, ?_, v4⟩
    have o : ((1 : Nat) : Rat) = 1 := rfl
    rw [o] at a
    rw [v3]
    have d1 : ∀ q : Rat, q / 1 = q := fun q => by grind
    rw [d1, d1] at a
    rw [a, Rat.mul_assoc]
theorem od_shl (s : Nat) (h : s ≠ 0) : ∀ k, od (s * 2 ^ k) = od s ∧ tz (s * 2 ^ k) = tz s + k
  | 0 => by rw [Nat.pow_zero, Nat.mul_one]; exact ⟨rfl, rfl⟩
  | k + 1 => by
    obtain ⟨i1, i2⟩ := od_shl s h k
    have nz : s * 2 ^ k ≠ 0 := Nat.mul_ne_zero h (Nat.ne_of_gt (Nat.two_pow_pos k))
    obtain ⟨t1, t2⟩ := od_two (s * 2 ^ k) nz
    have e : s * 2 ^ (k + 1) = 2 * (s * 2 ^ k) := by rw [Nat.pow_succ, Nat.mul_comm 2, Nat.mul_assoc]
    rw [e, t1, t2, i1, i2]
    exact ⟨rfl, by omega⟩
theorem vX_made {f : Int} (hf : Is4 f) (neg : Bool) {e t : Nat} (he : e < oV f) (ht : t < 2 ^ pV f) (nz : sV f e t ≠ 0) : vX f (enc7 f neg e t) = ⟨neg, od (sV f e t), 1, xV f e + (tz (sV f e t) : Int)⟩ ∧ (0 < kC f (enc7 f neg e t) ∧ kC f (enc7 f neg e t) < 7) ∧ ¬ (kC f (enc7 f neg e t) = 3 ∨ kC f (enc7 f neg e t) = 4) := by
  obtain ⟨a1, a2, a3, a4⟩ := enc_k hf neg (Nat.le_of_lt he) ht
  have hc : (0 < kC f (enc7 f neg e t) ∧ kC f (enc7 f neg e t) < 7) ∧ ¬ (kC f (enc7 f neg e t) = 3 ∨ kC f (enc7 f neg e t) = 4) := by
    rcases kC_all f (enc7 f neg e t) with ⟨h1, h2, h3⟩ | ⟨h1, h2, h3, h4⟩ | ⟨h1, h2, h3⟩ | ⟨h1, h2, h3⟩ | ⟨h1, h2, h3, h4⟩ | ⟨h1, h2, h3, h4⟩
    · omega
    · omega
    · omega
    · rw [h3]; split <;> omega
    · rw [h4]; split <;> omega
    · rw [a3] at h2
      rw [a4] at h3
      subst h2 h3
      exact absurd rfl nz
  obtain ⟨b1, b2, b3, b4⟩ := k_parts (f := f) (enc7 f neg e t) (by omega)
  obtain ⟨_, _, v, _⟩ := vX_whole hf (enc7 f neg e t) hc.1 hc.2
  refine ⟨?_, hc⟩
  rw [v, b2, b3, a2, a3, a4]
theorem rnd_exact {f : Int} (hf : Is4 f) (m : Int) (x : XN) (hx : x.can) (n0 : x.n ≠ 0) (hd : nl x.d ≤ 8192) (M : Nat) (h : rnd f m x = (M, 0)) : (0 < kC f M ∧ kC f M < 7) ∧ (vX f M).can ∧ (vX f M).val = x.val := by
  obtain ⟨t1, t2⟩ := top_lim hx
  obtain ⟨wk, fl⟩ := x_num hf x hx n0 hd t1 t2
  have hp := fp8 hf
  obtain ⟨n1, n2, n3, n4, n5, n6⟩ := nm8 hf
  unfold rnd at h
  rw [if_neg n0] at h
  obtain ⟨k, hk⟩ : ∃ k, dK f (topX x) = k := ⟨_, rfl⟩
  obtain ⟨j, hj⟩ : ∃ j, dJ f (topX x) = j := ⟨_, rfl⟩
  have hk2 : (k : Int) = stE f (topX x) - topX x := by rw [← hk]; unfold dK stE; omega
  have hj2 : (j : Int) = stE f (topX x) - (1 - fE f) := by rw [← hj]; unfold dJ stE; omega
  have st : stE f (topX x) = topX x ∧ 1 - fE f ≤ topX x ∨ stE f (topX x) = 1 - fE f := by unfold stE; omega
  unfold dlv at h
  rw [hk, hj] at h
  by_cases ov : fE f < stE f (topX x) - fP f + (blen (rG m x.b (xW f x) k (xM f x)) : Int)
  · rw [if_pos ov] at h
    injection h with h1 h2
    exact absurd h2 (by decide)
  rw [if_neg ov] at h
  injection h with hM hfl
  have hn : (rH (xW f x) k || rM (xW f x) k (xM f x)) = false := by
    rcases Bool.eq_false_or_eq_true (rH (xW f x) k || rM (xW f x) k (xM f x)) with c | c
    · rw [c, if_pos rfl] at hfl
      split at hfl <;> exact absurd hfl (by decide)
    · exact c
  obtain ⟨c1, c2⟩ := Bool.or_eq_false_iff.1 hn
  have hG : rG m x.b (xW f x) k (xM f x) = rS (xW f x) k := by
    unfold rG
    rw [c1, c2, gO_none]
    rfl
  rw [hG] at hM ov
  have l := rS_lim wk k
  have v := val_eS hf x.b j (rS (xW f x) k) (by omega) (by
    rcases Nat.eq_zero_or_pos k with z | z
    · exact Or.inr (l.2.1 z)
    · exact Or.inl (by omega)) (by omega)
  rw [hM] at v
  refine ⟨v.1, v.2.1, ?_⟩
  rw [v.2.2.1, val_mag]
  congr 1
  have fk := fl (k + 1) (by omega)
  have g := fl_good x (topX x - fP f + ((k + 1 : Nat) : Int)) hx n0 (by rw [fk])
  rw [fk] at g
  unfold rM at c2
  obtain ⟨d1, d2⟩ := Bool.or_eq_false_iff.1 c2
  have d1 := of_decide_eq_false d1
  unfold rH at c1
  have c1 := of_decide_eq_false c1
  have z : xW f x % 2 ^ (k + 1) = 0 := by
    rw [Nat.mod_pow_succ]
    have e1 : xW f x % 2 ^ k = 0 := Decidable.not_not.1 d1
    have e2 : xW f x / 2 ^ k % 2 = 0 := by omega
    rw [e1, e2, Nat.mul_zero]
  have q := g.2.2.1 (by rw [d2, z]; rfl)
  have eS' : xW f x / 2 ^ (k + 1) = rS (xW f x) k := by
    unfold rS
    rw [Nat.pow_succ, Nat.div_div_eq_div_mul]
  have ee : topX x - fP f + ((k + 1 : Nat) : Int) = lx f + (j : Int) := by omega
  rw [← q, ee]
  show ((rS (xW f x) k : Nat) : Rat) * _ = ((xW f x / 2 ^ (k + 1) : Nat) : Rat) * _
  rw [eS']
theorem of_num {t : Int} (ht : Is4 t) (x : XN) (hx : x.can) (n0 : x.n ≠ 0) (h : (ofX t x).2 = true) : ∃ M, vX t M = x ∧ (0 < kC t M ∧ kC t M < 7) ∧ ¬ (kC t M = 3 ∨ kC t M = 4) ∧ Fit t M ∧ ∀ m, rnd t m x = (M, 0) := by
  have hno : ¬ (fE t < topX x ∨ x.d ≠ 1 ∨ x.e < ofA t x) := fun q => by
    rw [of_no x hx n0 q] at h
    cases h
  have odd := hx.odd n0
  obtain ⟨b, n, d, e⟩ := x
  simp only at n0 hno odd
  obtain rfl : d = 1 := by
    rcases Nat.decEq d 1 with q | q
    · exact absurd (Or.inr (Or.inl q)) hno
    · exact q
  have od' : n % 2 = 1 := odd.1
  obtain ⟨m, k, t', hm, hk, htt, _, hc⟩ := of_yes ht b n e n0 (by omega) (by omega)
  obtain ⟨j, hj⟩ : ∃ j, (e - ofA t ⟨b, n, 1, e⟩).toNat = j := ⟨_, rfl⟩
  rw [hj] at hm
  obtain ⟨o1, o2⟩ := od_shl n n0 j
  rw [od_odd n od'] at o1
  rw [tz_odd n od', Nat.zero_add] at o2
  have es : sV t k t' = n * 2 ^ j ∧ xV t k = ofA t ⟨b, n, 1, e⟩ := by
    unfold sV xV
    rcases hc with ⟨c1, c2, c3⟩ | ⟨c1, c2, c3⟩
    · rw [if_pos c1, if_pos c1]
      exact ⟨by omega, by omega⟩
    · rw [if_neg (by omega), if_neg (by omega)]
      exact ⟨by omega, by omega⟩
  have nz : sV t k t' ≠ 0 := by
    rw [es.1]
    exact Nat.mul_ne_zero n0 (Nat.ne_of_gt (Nat.two_pow_pos j))
  have ex : xV t k + (tz (sV t k t') : Int) = e := by rw [es.1, es.2, o2]; omega
  obtain ⟨m1, m2, m3⟩ := vX_made ht b hk htt nz
  have r := fun m => rnd_own ht m b k t' hk htt nz
  rw [ex, es.1, o1] at m1
  refine ⟨enc7 t b k t', m1, m2, m3, (enc_k ht b (Nat.le_of_lt hk) htt).1, fun m => ?_⟩
  have := r m
  rw [ex, es.1, o1] at this
  exact this
theorem rnd_of {t : Int} (ht : Is4 t) (m : Int) (x : XN) (hx : x.can) (n0 : x.n ≠ 0) (hd : nl x.d ≤ 8192) (M : Nat) (h : rnd t m x = (M, 0)) : (ofX t x).2 = true := by
  obtain ⟨c1, c2, c3⟩ := rnd_exact ht m x hx n0 hd M h
  have e := can_inj _ _ c2 hx c3
  by_cases z : kC t M = 3 ∨ kC t M = 4
  · have := vX_mk ht M c1
    rw [(k_null M z).1, mk_null] at this
    injection this with h1 h2
    rw [e] at h1
    rw [← h1] at n0
    exact absurd rfl n0
  · obtain ⟨b1, b2, b3, b4⟩ := k_parts (f := t) M (by omega)
    obtain ⟨_, _, v, _⟩ := vX_whole ht M c1 z
    rw [b2] at b4
    rw [← e, v, b2, b3, (val_of ht (kN t M) (kE t M) (kT t M) b1 (kT_lt M) b4).2.1]
def hfR (x : XN) : Int := if (flX x (-1)).1.1 % 2 = 1 then (if (flX x (-1)).1.2 then 0 else 1) else -1
def tiR (f m : Int) (n : Nat) : Nat × Bool :=
  if (flX (vX f n) 0).1.2 then ((flX (vX f n) 0).1.1, true)
  else ((flX (vX f n) 0).1.1 + (if uP m (vX f n).b (decide ((flX (vX f n) 0).1.1 % 2 = 1)) (hfR (vX f n)) false then 1 else 0), false)
def loM (k : Int) : Nat := if k = 0 then 2147483648 else if k = 2 then 9223372036854775808 else 0
def hiM (k : Int) : Nat := if k = 0 then 2147483647 else if k = 1 then 4294967295 else if k = 2 then 9223372036854775807 else 18446744073709551615
def leW (k : Int) : Nat := if k = 0 then 18446744071562067968 else if k = 2 then 9223372036854775808 else 0
def grW (k : Int) : Nat := if k = 0 then 2147483647 else if k = 2 then 9223372036854775807 else 18446744073709551615
def rgW (k : Int) (neg : Bool) (N : Nat) : Nat :=
  if k = 0 ∨ k = 1 then sx (if neg then (18446744073709551616 - N % 18446744073709551616) % 18446744073709551616 else N % 18446744073709551616) 32
  else (if neg then (18446744073709551616 - N % 18446744073709551616) % 18446744073709551616 else N % 18446744073709551616)
def tiC (k : Int) (neg : Bool) (N : Nat) (ex : Bool) : Nat × Int :=
  if neg = true ∧ loM k < N then (leW k, 16) else if neg = false ∧ hiM k < N then (grW k, 16) else (rgW k neg N, if ex then 0 else 1)
def tiX (k f m : Int) (n : Nat) : Nat × Int :=
  if 8 ≤ kC f n then (grW k, 16) else if kC f n = 0 then (leW k, 16) else if kC f n = 7 then (grW k, 16) else tiC k (kN f n) (tiR f m n).1 (tiR f m n).2
theorem sx_low {x : Nat} (h : x < 2147483648) : sx x 32 = x := by
  unfold sx
  rw [show (32 - 1 : Nat) = 31 from rfl, Nat.testBit_lt_two_pow (by simpa using h)]
  simp
  omega
theorem sx_high {x : Nat} (h : 18446744071562067968 ≤ x) (h2 : x < 18446744073709551616) : sx x 32 = x := by
  unfold sx
  have : x.testBit (32 - 1) = true := by
    rw [Nat.testBit_eq_decide_div_mod_eq]
    simp
    omega
  rw [if_pos this]
  omega
def flS (S : Nat) (X a : Int) : Nat × Bool := if a ≤ X then (S * 2 ^ (X - a).toNat, true) else (S / 2 ^ (a - X).toNat, decide (S % 2 ^ (a - X).toNat = 0))
theorem fl_odd (b : Bool) (n : Nat) (e a : Int) (ho : n % 2 = 1) (a1 : -2097152 ≤ a) (a2 : a ≤ 2097152) (hl : nl (n * 2 ^ (e - a).toNat) ≤ 16384) : flX ⟨b, n, 1, e⟩ a = (flS n e a, 0) := by
  have n0 : n ≠ 0 := by omega
  unfold flS
  by_cases c : a ≤ e
  · rw [if_pos c]
    exact fl_yes ⟨b, n, 1, e⟩ a n0 rfl c a1 a2 hl
  · rw [if_neg c]
    have m : decide (n % 2 ^ (a - e).toNat = 0) = false := by
      obtain ⟨i, hi⟩ : ∃ i, (a - e).toNat = i + 1 := ⟨(a - e).toNat - 1, by omega⟩
      rw [hi]
      refine decide_eq_false (fun q => ?_)
      have := (mod_pow_zero n 1 i).1 (by rw [Nat.add_comm]; exact q)
      omega
    have t := top_whole b n e n0
    rw [m]
    by_cases d : topX ⟨b, n, 1, e⟩ < a
    · have z : flX ⟨b, n, 1, e⟩ a = ((0, false), 0) := by
        unfold flX
        rw [if_neg (by omega), if_neg n0, if_neg c, if_pos d]
      have lt : n < 2 ^ (a - e).toNat := Nat.lt_of_lt_of_le (blen_lt n) (Nat.pow_le_pow_right (by decide) (by omega))
      rw [z, Nat.div_eq_of_lt lt]
    · unfold flX
      rw [if_neg (by omega), if_neg n0, if_neg c, if_neg d, Nat.one_mul]
theorem flS_shift (o t : Nat) (X a : Int) : flS (o * 2 ^ t) X a = flS o (X + (t : Int)) a := by
  unfold flS
  by_cases c : a ≤ X
  · rw [if_pos c, if_pos (by omega), Nat.mul_assoc, ← Nat.pow_add, show t + (X - a).toNat = (X + (t : Int) - a).toNat by omega]
  · rw [if_neg c]
    by_cases d : a ≤ X + (t : Int)
    · rw [if_pos d]
      have e : t = (X + (t : Int) - a).toNat + (a - X).toNat := by omega
      have e2 : o * 2 ^ t = o * 2 ^ (X + (t : Int) - a).toNat * 2 ^ (a - X).toNat := by rw [Nat.mul_assoc, ← Nat.pow_add, ← e]
      rw [e2, Nat.mul_div_cancel _ (Nat.two_pow_pos _), Nat.mul_mod_left, decide_eq_true rfl]
    · rw [if_neg d]
      have e : (a - X).toNat = (a - (X + (t : Int))).toNat + t := by omega
      rw [e, Nat.pow_add, Nat.mul_div_mul_right _ _ (Nat.two_pow_pos _), Nat.mul_mod_mul_right]
      have : (o % 2 ^ (a - (X + (t : Int))).toNat * 2 ^ t = 0) ↔ (o % 2 ^ (a - (X + (t : Int))).toNat = 0) := by
        have := Nat.two_pow_pos t
        rw [Nat.mul_eq_zero]
        omega
      rw [decide_eq_decide.2 this]
theorem fl_parts {f : Int} (hf : Is4 f) (n : Nat) (h : 0 < kC f n ∧ kC f n < 7) (a : Int) (a1 : -1 ≤ a) (a2 : a ≤ 0) : flX (vX f n) a = (flS (kS f n) (kX f n) a, 0) := by
  obtain ⟨s1, s2, s3⟩ := kS_lim hf n
  by_cases z : kC f n = 3 ∨ kC f n = 4
  · rw [vX_null f n z]
    have s0 : kS f n = 0 := by
      have := (k_null (f := f) n z).1
      exact this
    rw [s0]
    unfold flX flS X0
    rw [if_neg (by omega), if_pos rfl]
    split
    · rw [Nat.zero_mul]
    · rw [Nat.zero_div, Nat.zero_mod, decide_eq_true rfl]
  · obtain ⟨n0, l, e, _⟩ := vX_whole hf n h z
    obtain ⟨o1, o2⟩ := od_is (kS f n) n0
    rw [e]
    have tl := tz_blen (kS f n)
    have bl : blen (kS f n) ≤ 128 := (blen_iff _ 128).2 l
    have od0 : od (kS f n) ≠ 0 := by omega
    have bs := blen_shift (od (kS f n)) (tz (kS f n)) od0
    rw [← o1] at bs
    rw [fl_odd (kN f n) (od (kS f n)) (kX f n + (tz (kS f n) : Int)) a o2 (by omega) (by omega) (by
      have sh := blen_shift (od (kS f n)) (kX f n + (tz (kS f n) : Int) - a).toNat od0
      unfold nl
      omega), ← flS_shift, ← o1]
def tiS (m : Int) (neg : Bool) (S : Nat) (X : Int) : Nat × Bool :=
  if 0 ≤ X then (S * 2 ^ X.toNat, true)
  else (S / 2 ^ (-X).toNat + (if uP m neg (decide (S / 2 ^ (-X).toNat % 2 = 1)) (hfV (decide (S / 2 ^ ((-X).toNat - 1) % 2 = 1)) (decide (S % 2 ^ ((-X).toNat - 1) ≠ 0))) (decide (S % 2 ^ (-X).toNat = 0)) then 1 else 0), decide (S % 2 ^ (-X).toNat = 0))
theorem vX_b {f : Int} (hf : Is4 f) (n : Nat) (h : 0 < kC f n ∧ kC f n < 7) (z : ¬ (kC f n = 3 ∨ kC f n = 4)) : (vX f n).b = kN f n := by
  obtain ⟨n0, l, e, _⟩ := vX_whole hf n h z
  rw [e]
theorem tiR_parts {f : Int} (hf : Is4 f) (m : Int) (n : Nat) (h : 0 < kC f n ∧ kC f n < 7) : tiR f m n = tiS m (kN f n) (kS f n) (kX f n) := by
  unfold tiR tiS
  rw [fl_parts hf n h 0 (by decide) (by decide)]
  unfold flS
  by_cases c : 0 ≤ kX f n
  · rw [if_pos c, if_pos c]
    simp only [if_true, Int.sub_zero]
  · rw [if_neg c, if_neg c]
    simp only
    rw [show (0 - kX f n) = -kX f n by omega]
    by_cases d : kS f n % 2 ^ (-kX f n).toNat = 0
    · rw [decide_eq_true d, if_pos rfl]
      unfold uP
      rw [if_pos rfl, if_neg (by decide), Nat.add_zero]
    · rw [decide_eq_false d, if_neg (by decide)]
      have z : ¬ (kC f n = 3 ∨ kC f n = 4) := by
        intro q
        rw [(k_null n q).1, Nat.zero_mod] at d
        exact d rfl
      rw [vX_b hf n h z]
      have e : hfR (vX f n) = hfV (decide (kS f n / 2 ^ ((-kX f n).toNat - 1) % 2 = 1)) (decide (kS f n % 2 ^ ((-kX f n).toNat - 1) ≠ 0)) := by
        unfold hfR
        rw [fl_parts hf n h (-1) (by decide) (by decide)]
        unfold flS
        by_cases c1 : -1 ≤ kX f n
        · have : kX f n = -1 := by omega
          rw [if_pos c1, this]
          simp only [show ((-1 : Int) - -1).toNat = 0 from rfl, show (-(-1 : Int)).toNat - 1 = 0 from rfl, Nat.pow_zero, Nat.mul_one, Nat.div_one, Nat.mod_one]
          unfold hfV
          by_cases q : kS f n % 2 = 1
          · rw [if_pos q, decide_eq_true q]; rfl
          · rw [if_neg q, decide_eq_false q]; rfl
        · rw [if_neg c1, show (-1 - kX f n).toNat = (-kX f n).toNat - 1 by omega]
          simp only
          unfold hfV
          by_cases q : kS f n / 2 ^ ((-kX f n).toNat - 1) % 2 = 1
          · rw [if_pos q, decide_eq_true q]
            by_cases r : kS f n % 2 ^ ((-kX f n).toNat - 1) = 0
            · rw [decide_eq_true r, decide_eq_false (fun k => k r)]; rfl
            · rw [decide_eq_false r, decide_eq_true r]; rfl
          · rw [if_neg q, decide_eq_false q]
            rfl
      rw [e]
theorem bel_so {P : Program} {k : FuncId} {a : Array Value} {w : World} {v : Value} (h : Calls P k a w fun r w' => r = .returned v ∧ w' = w) : Calls P k a w fun r w' => r = .returned v ∧ Below w.heap.size w w' := h.mono fun _ _ q => ⟨q.1, by rw [q.2]; exact Below.refl _ _⟩
def whX (f m : Int) (n : Nat) : (Bool × Nat) × (Bool × Int) :=
  if ¬ (0 < kC f n ∧ kC f n < 7) then ((false, 0), (false, 80)) else if 384 < blen (tiR f m n).1 then ((false, 0), (false, 4)) else ((kN f n && decide ((tiR f m n).1 ≠ 0), (tiR f m n).1), ((tiR f m n).2, 0))
theorem whX_lim (f m : Int) (n : Nat) (o : Bool) (N : Nat) (ex : Bool) (e : Int) (h : whX f m n = ((o, N), (ex, e))) : N < Q ∧ IntKind.i64.wrap e = e ∧ (e = 0 ∨ e = 80 ∨ e = 4) := by
  obtain ⟨Z, hZ, eQ⟩ := Qq384
  unfold whX at h
  split at h
  · cases h; exact ⟨Q_pos, by decide, Or.inr (Or.inl rfl)⟩
  · split at h
    · cases h; exact ⟨Q_pos, by decide, Or.inr (Or.inr rfl)⟩
    · rename_i c
      cases h
      refine ⟨?_, by decide, Or.inl rfl⟩
      rw [eQ]
      exact (blen_iff _ Z).1 (by omega)
end Go.Proofs.YtpdehipeakcaiaaDoor
namespace Go.Proofs.YtpdehipeakcaiaaDoor
set_option maxRecDepth 100000
set_option maxHeartbeats 40000000
set_option maxRecDepth 100000
open Go.RowKit WMath
set_option linter.unusedSimpArgs false
set_option linter.unusedVariables false
theorem one_row (x1 y1 : Nat) (T : TypeId) (g : Nat) (w : World) (hg : w.heap.size = g) : (w.alloc (.cells #[.int .u64 (x1 : Nat), .int .u64 (y1 : Nat)] T)).heap[g]? = some (.cells (bls [(x1, y1)]) T) := by
  rw [← hg]
  exact heap_alloc_last _ _
theorem one_lim {x1 y1 : Nat} (hx1 : x1 < 18446744073709551616) (hy1 : y1 < 18446744073709551616) : Box (∀ p ∈ [(x1, y1)], p.1 < 18446744073709551616 ∧ p.2 < 18446744073709551616) := box (fun p hp => by
  rcases List.mem_cons.1 hp with rfl | h
  · exact ⟨hx1, hy1⟩
  · exact absurd h List.not_mem_nil)
theorem kmay1 (f m : Int) (h0 : 0 ≤ f) (h1 : f ≤ 255) (m0 : 0 ≤ m) (x1 y1 a : Nat) (hx1 : x1 < 18446744073709551616) (hy1 : y1 < 18446744073709551616) (ha : y1 + 18446744073709551616 * x1 = a) (o : Bool) (ho : (decide (f ≤ 3 ∧ m ≤ 4) && okB f a) = o) :
    Box (∀ (T : TypeId) (g : Nat) (w : World), w.heap.size = g → FAt w → Calls Tryd.prog 32 #[.int .u8 f, .int .u8 m, .slice (some ⟨g, 0, none⟩) 1 1] (w.alloc (.cells #[.int .u64 (x1 : Nat), .int .u64 (y1 : Nat)] T)) fun r w' => r = .returned (.bool o) ∧ Below w.heap.size w w') := by
  refine box (fun T g w hg hT => ?_)
  have B := (bal w (.cells #[.int .u64 (x1 : Nat), .int .u64 (y1 : Nat)] T))
  have row := one_row x1 y1 T g w hg
  have hT2 := fatB hT B
  by_cases cc : f ≤ 3 ∧ m ≤ 4
  · have hf := is4_of h0 cc.1
    obtain ⟨u, v, hv⟩ : ∃ u v, bv7 (eZero f false) = (u, v) := ⟨_, _, rfl⟩
    have KP : Box (∀ w, FAt w → Calls Tryd.prog 9 #[.int .u8 f, .int .u8 m, .agg (rg false 0 0 false)] w fun r w' => r = .returned (.tuple #[.agg #[.int .u64 (u : Nat), .int .u64 (v : Nat)], .int .u8 0, .int .i64 0]) ∧ Below w.heap.size w w') := box (fun w hT => kPack_zero f m hf ⟨m0, cc.2⟩ false 0 (by decide) (by decide) u v hv w hT)
    refine (op_may f m hf [(x1, y1)] 1 g 1 T _ rfl (by decide) (one_lim hx1 hy1) row u v 0 KP o ?_ hT2).mono fun _ _ ⟨q1, q2⟩ => ⟨q1, btr B q2⟩
    rw [← ho, decide_eq_true cc]
    show (okP f (x1, y1) && true) = _
    unfold okP
    rw [ha, Bool.and_true, Bool.true_and]
  · have e : o = false := by rw [← ho, decide_eq_false cc]; rfl
    subst e
    exact (op_may_no f m 0 0 0 2 _ rfl _ (box (fun w hT => kPack_no f m h0 h1 false 0 Q_pos 0 false (fun q => cc ⟨q.1, q.2.1⟩) w hT)) hT2).mono fun _ _ ⟨q1, q2⟩ => ⟨q1, btr B q2⟩
theorem pq_kind (k : Int) (hk : IntKind.i64.wrap k = k) (o : Bool) (ho : decide (k < 4) = o) (w : World) : Calls Tryd.prog 12 #[.int .u8 k] w fun r w' => r = .returned (.bool o) ∧ Below w.heap.size w w' := by
  have B0 : Below w.heap.size w w := (Below.refl _ _)
  go_enter Tryd.func12, Tryd.ntmps12
  go_wp2
  go_ret
  exact ⟨rfl, B0⟩
theorem pq_fin (c : Nat) (o : Bool) (ho : decide (0 < c ∧ c < 7) = o) (w : World) : Calls Tryd.prog 34 #[.int .u8 (c : Nat)] w fun r w' => r = .returned (.bool o) ∧ Below w.heap.size w w' := by
  by_cases c0 : 0 < c
  · have d0 : decide ((0 : Int) < (c : Int)) = true := decide_eq_true (by omega)
    have d7 : decide ((c : Int) < 7) = o := by
      rw [← ho]
      exact decide_eq_decide.2 (by omega)
    clear ho
    have B0 : Below w.heap.size w w := (Below.refl _ _)
    go_enter Tryd.func34, Tryd.ntmps34
    go_wp2
    go_ret
    exact ⟨rfl, B0⟩
  · have d0 : decide ((0 : Int) < (c : Int)) = false := decide_eq_false (by omega)
    rw [decide_eq_false (by omega)] at ho
    subst ho
    have B0 : Below w.heap.size w w := (Below.refl _ _)
    go_enter Tryd.func34, Tryd.ntmps34
    go_wp2
    go_ret
    exact ⟨rfl, B0⟩
set_option maxRecDepth 100000 in
set_option maxHeartbeats 8000000 in
theorem pq_below (f : Int) (x1 y1 c : Nat) (o : Bool) (ho : decide ((c : Int) ≤ 3) = o) (w : World) (KC : Box (∀ w, FAt w → Calls Tryd.prog 42 #[.int .u8 f, .agg #[.int .u64 (x1 : Nat), .int .u64 (y1 : Nat)]] w fun r w' => r = .returned (.tuple #[.int .u8 (c : Nat), .int .i64 0]) ∧ Below w.heap.size w w')) (hT : FAt w) : Calls Tryd.prog 16 #[.int .u8 f, .agg #[.int .u64 (x1 : Nat), .int .u64 (y1 : Nat)]] w fun r w' => r = .returned (.bool o) ∧ Below w.heap.size w w' := by
  have FF := box hT
  clear hT
  obtain ⟨Ra_0, B0⟩ := opn1 w (Obj.cells #[.int .u64 (x1 : Nat), .int .u64 (y1 : Nat)] 27)
  go_enter Tryd.func16, Tryd.ntmps16
  obtain ⟨ca_0_0, ca_0_1⟩ := cells2s Ra_0
  go_wp2_with fail
  refine (KC.out _ (fatB FF.out B0)).mono ?_
  rintro r w1 ⟨rfl, b1⟩
  have B1 : Below w.heap.size w w1 := btr B0 b1
  have Ra_1 := heap_of b1 _ _ _ Ra_0
  clear b1 B0 Ra_0 ca_0_0 ca_0_1
  obtain ⟨ca_1_0, ca_1_1⟩ := cells2s Ra_1
  go_wp2
  go_ret
  exact ⟨rfl, B1⟩
set_option maxRecDepth 100000 in
set_option maxHeartbeats 8000000 in
theorem pq_reach00 (w : World) (hT : FAt w) : Calls Tryd.prog 14 #[.int .u8 0, .bool true] w fun r w' => r = .returned (.agg (cw 6 2147483648)) ∧ Below w.heap.size w w' := by
  have hat := cw_at 6
  have hz := cw6z
  have hff := cw6f
  have hs0 := st0
  have hcs : ∀ x, ((cw 6 x).size = 6) = True := fun x => eq_true (cw_size 6 x)
  obtain ⟨Rz_0, B0⟩ := opn1 w (Obj.cells (cw 6 0) 42)
  go_enter Tryd.func14, Tryd.ntmps14
  have T2 := fatB hT B0
  have c0 := fat_x T2 0 0 0 (.int .u64 2147483648) rfl
  have c1 := fat_x T2 1 0 1 (.int .u64 0) rfl
  have c2 := fat_x T2 2 0 2 (.int .u64 0) rfl
  have c3 := fat_x T2 3 0 3 (.int .u64 0) rfl
  have c4 := fat_x T2 4 0 4 (.int .u64 0) rfl
  have c5 := fat_x T2 5 0 5 (.int .u64 0) rfl
  have hl : #[Value.int .u64 2147483648, Value.int .u64 0, Value.int .u64 0, Value.int .u64 0, Value.int .u64 0, Value.int .u64 0] = cw 6 2147483648 := by kernel_rfl
  clear T2 hT
  have dz := row_cell (heap_alloc_last w (.cells (cw 6 2147483648) 42))
  go_wp2
  exact bodyPost_ret (v := .agg (cw 6 2147483648)) (by simp [results, Tryd.results14, go_sem, dz, hff]) rfl ⟨rfl, bal w _⟩
set_option maxRecDepth 100000 in
set_option maxHeartbeats 8000000 in
theorem pq_reach01 (w : World) (hT : FAt w) : Calls Tryd.prog 14 #[.int .u8 1, .bool true] w fun r w' => r = .returned (.agg (cw 6 0)) ∧ Below w.heap.size w w' := by
  have hat := cw_at 6
  have hz := cw6z
  have hff := cw6f
  have hs0 := st0
  have hcs : ∀ x, ((cw 6 x).size = 6) = True := fun x => eq_true (cw_size 6 x)
  obtain ⟨Rz_0, B0⟩ := opn1 w (Obj.cells (cw 6 0) 42)
  go_enter Tryd.func14, Tryd.ntmps14
  have T2 := fatB hT B0
  have c0 := fat_x T2 6 0 6 (.int .u64 0) rfl
  have c1 := fat_x T2 7 0 7 (.int .u64 0) rfl
  have c2 := fat_x T2 8 0 8 (.int .u64 0) rfl
  have c3 := fat_x T2 9 0 9 (.int .u64 0) rfl
  have c4 := fat_x T2 10 0 10 (.int .u64 0) rfl
  have c5 := fat_x T2 11 0 11 (.int .u64 0) rfl
  have hl : #[Value.int .u64 0, Value.int .u64 0, Value.int .u64 0, Value.int .u64 0, Value.int .u64 0, Value.int .u64 0] = cw 6 0 := by kernel_rfl
  clear T2 hT
  have dz := row_cell (heap_alloc_last w (.cells (cw 6 0) 42))
  go_wp2
  exact bodyPost_ret (v := .agg (cw 6 0)) (by simp [results, Tryd.results14, go_sem, dz, hff]) rfl ⟨rfl, bal w _⟩
set_option maxRecDepth 100000 in
set_option maxHeartbeats 8000000 in
theorem pq_reach02 (w : World) (hT : FAt w) : Calls Tryd.prog 14 #[.int .u8 2, .bool true] w fun r w' => r = .returned (.agg (cw 6 9223372036854775808)) ∧ Below w.heap.size w w' := by
  have hat := cw_at 6
  have hz := cw6z
  have hff := cw6f
  have hs0 := st0
  have hcs : ∀ x, ((cw 6 x).size = 6) = True := fun x => eq_true (cw_size 6 x)
  obtain ⟨Rz_0, B0⟩ := opn1 w (Obj.cells (cw 6 0) 42)
  go_enter Tryd.func14, Tryd.ntmps14
  have T2 := fatB hT B0
  have c0 := fat_x T2 12 0 12 (.int .u64 9223372036854775808) rfl
  have c1 := fat_x T2 13 0 13 (.int .u64 0) rfl
  have c2 := fat_x T2 14 0 14 (.int .u64 0) rfl
  have c3 := fat_x T2 15 0 15 (.int .u64 0) rfl
  have c4 := fat_x T2 16 0 16 (.int .u64 0) rfl
  have c5 := fat_x T2 17 0 17 (.int .u64 0) rfl
  have hl : #[Value.int .u64 9223372036854775808, Value.int .u64 0, Value.int .u64 0, Value.int .u64 0, Value.int .u64 0, Value.int .u64 0] = cw 6 9223372036854775808 := by kernel_rfl
  clear T2 hT
  have dz := row_cell (heap_alloc_last w (.cells (cw 6 9223372036854775808) 42))
  go_wp2
  exact bodyPost_ret (v := .agg (cw 6 9223372036854775808)) (by simp [results, Tryd.results14, go_sem, dz, hff]) rfl ⟨rfl, bal w _⟩
set_option maxRecDepth 100000 in
set_option maxHeartbeats 8000000 in
theorem pq_reach03 (w : World) (hT : FAt w) : Calls Tryd.prog 14 #[.int .u8 3, .bool true] w fun r w' => r = .returned (.agg (cw 6 0)) ∧ Below w.heap.size w w' := by
  have hat := cw_at 6
  have hz := cw6z
  have hff := cw6f
  have hs0 := st0
  have hcs : ∀ x, ((cw 6 x).size = 6) = True := fun x => eq_true (cw_size 6 x)
  obtain ⟨Rz_0, B0⟩ := opn1 w (Obj.cells (cw 6 0) 42)
  go_enter Tryd.func14, Tryd.ntmps14
  have T2 := fatB hT B0
  have c0 := fat_x T2 18 0 18 (.int .u64 0) rfl
  have c1 := fat_x T2 19 0 19 (.int .u64 0) rfl
  have c2 := fat_x T2 20 0 20 (.int .u64 0) rfl
  have c3 := fat_x T2 21 0 21 (.int .u64 0) rfl
  have c4 := fat_x T2 22 0 22 (.int .u64 0) rfl
  have c5 := fat_x T2 23 0 23 (.int .u64 0) rfl
  have hl : #[Value.int .u64 0, Value.int .u64 0, Value.int .u64 0, Value.int .u64 0, Value.int .u64 0, Value.int .u64 0] = cw 6 0 := by kernel_rfl
  clear T2 hT
  have dz := row_cell (heap_alloc_last w (.cells (cw 6 0) 42))
  go_wp2
  exact bodyPost_ret (v := .agg (cw 6 0)) (by simp [results, Tryd.results14, go_sem, dz, hff]) rfl ⟨rfl, bal w _⟩
set_option maxRecDepth 100000 in
set_option maxHeartbeats 8000000 in
theorem pq_reach10 (w : World) (hT : FAt w) : Calls Tryd.prog 14 #[.int .u8 0, .bool false] w fun r w' => r = .returned (.agg (cw 6 2147483647)) ∧ Below w.heap.size w w' := by
  have hat := cw_at 6
  have hz := cw6z
  have hff := cw6f
  have hs0 := st0
  have hcs : ∀ x, ((cw 6 x).size = 6) = True := fun x => eq_true (cw_size 6 x)
  obtain ⟨Rz_0, B0⟩ := opn1 w (Obj.cells (cw 6 0) 42)
  go_enter Tryd.func14, Tryd.ntmps14
  have T2 := fatB hT B0
  have c0 := fat_x T2 24 1 0 (.int .u64 2147483647) rfl
  have c1 := fat_x T2 25 1 1 (.int .u64 0) rfl
  have c2 := fat_x T2 26 1 2 (.int .u64 0) rfl
  have c3 := fat_x T2 27 1 3 (.int .u64 0) rfl
  have c4 := fat_x T2 28 1 4 (.int .u64 0) rfl
  have c5 := fat_x T2 29 1 5 (.int .u64 0) rfl
  have hl : #[Value.int .u64 2147483647, Value.int .u64 0, Value.int .u64 0, Value.int .u64 0, Value.int .u64 0, Value.int .u64 0] = cw 6 2147483647 := by kernel_rfl
  clear T2 hT
  have dz := row_cell (heap_alloc_last w (.cells (cw 6 2147483647) 42))
  go_wp2
  exact bodyPost_ret (v := .agg (cw 6 2147483647)) (by simp [results, Tryd.results14, go_sem, dz, hff]) rfl ⟨rfl, bal w _⟩
set_option maxRecDepth 100000 in
set_option maxHeartbeats 8000000 in
theorem pq_reach11 (w : World) (hT : FAt w) : Calls Tryd.prog 14 #[.int .u8 1, .bool false] w fun r w' => r = .returned (.agg (cw 6 4294967295)) ∧ Below w.heap.size w w' := by
  have hat := cw_at 6
  have hz := cw6z
  have hff := cw6f
  have hs0 := st0
  have hcs : ∀ x, ((cw 6 x).size = 6) = True := fun x => eq_true (cw_size 6 x)
  obtain ⟨Rz_0, B0⟩ := opn1 w (Obj.cells (cw 6 0) 42)
  go_enter Tryd.func14, Tryd.ntmps14
  have T2 := fatB hT B0
  have c0 := fat_x T2 30 1 6 (.int .u64 4294967295) rfl
  have c1 := fat_x T2 31 1 7 (.int .u64 0) rfl
  have c2 := fat_x T2 32 1 8 (.int .u64 0) rfl
  have c3 := fat_x T2 33 1 9 (.int .u64 0) rfl
  have c4 := fat_x T2 34 1 10 (.int .u64 0) rfl
  have c5 := fat_x T2 35 1 11 (.int .u64 0) rfl
  have hl : #[Value.int .u64 4294967295, Value.int .u64 0, Value.int .u64 0, Value.int .u64 0, Value.int .u64 0, Value.int .u64 0] = cw 6 4294967295 := by kernel_rfl
  clear T2 hT
  have dz := row_cell (heap_alloc_last w (.cells (cw 6 4294967295) 42))
  go_wp2
  exact bodyPost_ret (v := .agg (cw 6 4294967295)) (by simp [results, Tryd.results14, go_sem, dz, hff]) rfl ⟨rfl, bal w _⟩
set_option maxRecDepth 100000 in
set_option maxHeartbeats 8000000 in
theorem pq_reach12 (w : World) (hT : FAt w) : Calls Tryd.prog 14 #[.int .u8 2, .bool false] w fun r w' => r = .returned (.agg (cw 6 9223372036854775807)) ∧ Below w.heap.size w w' := by
  have hat := cw_at 6
  have hz := cw6z
  have hff := cw6f
  have hs0 := st0
  have hcs : ∀ x, ((cw 6 x).size = 6) = True := fun x => eq_true (cw_size 6 x)
  obtain ⟨Rz_0, B0⟩ := opn1 w (Obj.cells (cw 6 0) 42)
  go_enter Tryd.func14, Tryd.ntmps14
  have T2 := fatB hT B0
  have c0 := fat_x T2 36 1 12 (.int .u64 9223372036854775807) rfl
  have c1 := fat_x T2 37 1 13 (.int .u64 0) rfl
  have c2 := fat_x T2 38 1 14 (.int .u64 0) rfl
  have c3 := fat_x T2 39 1 15 (.int .u64 0) rfl
  have c4 := fat_x T2 40 1 16 (.int .u64 0) rfl
  have c5 := fat_x T2 41 1 17 (.int .u64 0) rfl
  have hl : #[Value.int .u64 9223372036854775807, Value.int .u64 0, Value.int .u64 0, Value.int .u64 0, Value.int .u64 0, Value.int .u64 0] = cw 6 9223372036854775807 := by kernel_rfl
  clear T2 hT
  have dz := row_cell (heap_alloc_last w (.cells (cw 6 9223372036854775807) 42))
  go_wp2
  exact bodyPost_ret (v := .agg (cw 6 9223372036854775807)) (by simp [results, Tryd.results14, go_sem, dz, hff]) rfl ⟨rfl, bal w _⟩
set_option maxRecDepth 100000 in
set_option maxHeartbeats 8000000 in
theorem pq_reach13 (w : World) (hT : FAt w) : Calls Tryd.prog 14 #[.int .u8 3, .bool false] w fun r w' => r = .returned (.agg (cw 6 18446744073709551615)) ∧ Below w.heap.size w w' := by
  have hat := cw_at 6
  have hz := cw6z
  have hff := cw6f
  have hs0 := st0
  have hcs : ∀ x, ((cw 6 x).size = 6) = True := fun x => eq_true (cw_size 6 x)
  obtain ⟨Rz_0, B0⟩ := opn1 w (Obj.cells (cw 6 0) 42)
  go_enter Tryd.func14, Tryd.ntmps14
  have T2 := fatB hT B0
  have c0 := fat_x T2 42 1 18 (.int .u64 18446744073709551615) rfl
  have c1 := fat_x T2 43 1 19 (.int .u64 0) rfl
  have c2 := fat_x T2 44 1 20 (.int .u64 0) rfl
  have c3 := fat_x T2 45 1 21 (.int .u64 0) rfl
  have c4 := fat_x T2 46 1 22 (.int .u64 0) rfl
  have c5 := fat_x T2 47 1 23 (.int .u64 0) rfl
  have hl : #[Value.int .u64 18446744073709551615, Value.int .u64 0, Value.int .u64 0, Value.int .u64 0, Value.int .u64 0, Value.int .u64 0] = cw 6 18446744073709551615 := by kernel_rfl
  clear T2 hT
  have dz := row_cell (heap_alloc_last w (.cells (cw 6 18446744073709551615) 42))
  go_wp2
  exact bodyPost_ret (v := .agg (cw 6 18446744073709551615)) (by simp [results, Tryd.results14, go_sem, dz, hff]) rfl ⟨rfl, bal w _⟩
set_option maxRecDepth 100000 in
set_option maxHeartbeats 8000000 in
theorem pq_reg_s_true (k n v : Int) (hk : (k == 0) = true ∨ ((k == 0) = false ∧ (k == 1) = true)) (hr : IntKind.u64.wrap (wrap64 (wrap32 (wrap64 (-wrap64 n) % 4294967296))) = v) (w : World) : Calls Tryd.prog 17 #[.int .u8 k, .bool true, .int .u64 n] w fun r w' => r = .returned (.int .u64 v) ∧ Below w.heap.size w w' := by
  subst hr
  rcases hk with hk | ⟨hk, hk2⟩
  · have B0 : Below w.heap.size w w := (Below.refl _ _)
    go_enter Tryd.func17, Tryd.ntmps17
    go_wp2
    go_ret
    exact ⟨rfl, B0⟩
  · have B0 : Below w.heap.size w w := (Below.refl _ _)
    go_enter Tryd.func17, Tryd.ntmps17
    go_wp2
    go_ret
    exact ⟨rfl, B0⟩
set_option maxRecDepth 100000 in
set_option maxHeartbeats 8000000 in
theorem pq_reg_s_false (k n v : Int) (hk : (k == 0) = true ∨ ((k == 0) = false ∧ (k == 1) = true)) (hr : IntKind.u64.wrap (wrap64 (wrap32 (wrap64 n % 4294967296))) = v) (w : World) : Calls Tryd.prog 17 #[.int .u8 k, .bool false, .int .u64 n] w fun r w' => r = .returned (.int .u64 v) ∧ Below w.heap.size w w' := by
  subst hr
  rcases hk with hk | ⟨hk, hk2⟩
  · have B0 : Below w.heap.size w w := (Below.refl _ _)
    go_enter Tryd.func17, Tryd.ntmps17
    go_wp2
    go_ret
    exact ⟨rfl, B0⟩
  · have B0 : Below w.heap.size w w := (Below.refl _ _)
    go_enter Tryd.func17, Tryd.ntmps17
    go_wp2
    go_ret
    exact ⟨rfl, B0⟩
set_option maxRecDepth 100000 in
set_option maxHeartbeats 8000000 in
theorem pq_reg_l_true (k n v : Int) (hk : (k == 0) = false ∧ (k == 1) = false) (hr : IntKind.u64.wrap (wrap64 (-wrap64 n)) = v) (w : World) : Calls Tryd.prog 17 #[.int .u8 k, .bool true, .int .u64 n] w fun r w' => r = .returned (.int .u64 v) ∧ Below w.heap.size w w' := by
  subst hr
  obtain ⟨hk, hk2⟩ := hk
  have B0 : Below w.heap.size w w := (Below.refl _ _)
  go_enter Tryd.func17, Tryd.ntmps17
  go_wp2
  go_ret
  exact ⟨rfl, B0⟩
set_option maxRecDepth 100000 in
set_option maxHeartbeats 8000000 in
theorem pq_reg_l_false (k n v : Int) (hk : (k == 0) = false ∧ (k == 1) = false) (hr : IntKind.u64.wrap (wrap64 n) = v) (w : World) : Calls Tryd.prog 17 #[.int .u8 k, .bool false, .int .u64 n] w fun r w' => r = .returned (.int .u64 v) ∧ Below w.heap.size w w' := by
  subst hr
  obtain ⟨hk, hk2⟩ := hk
  have B0 : Below w.heap.size w w := (Below.refl _ _)
  go_enter Tryd.func17, Tryd.ntmps17
  go_wp2
  go_ret
  exact ⟨rfl, B0⟩
set_option maxRecDepth 100000 in
set_option maxHeartbeats 8000000 in
theorem pq_end (k : Int) (neg : Bool) (T : Nat) (v : Int) (w : World) (KR : Box (∀ w, FAt w → Calls Tryd.prog 14 #[.int .u8 k, .bool neg] w fun r w' => r = .returned (.agg (cw 6 T)) ∧ Below w.heap.size w w')) (KI : Box (∀ w, Calls Tryd.prog 17 #[.int .u8 k, .bool neg, .int .u64 ((wd T 0 : Nat) : Int)] w fun r w' => r = .returned (.int .u64 v) ∧ Below w.heap.size w w')) (hT : FAt w) : Calls Tryd.prog 15 #[.int .u8 k, .bool neg] w fun r w' => r = .returned (.int .u64 v) ∧ Below w.heap.size w w' := by
  have FF := box hT
  clear hT
  have hat := cw_at 6
  have hz := cw6z
  have hff := cw6f
  have hs0 := st0
  have hcs : ∀ x, ((cw 6 x).size = 6) = True := fun x => eq_true (cw_size 6 x)
  have hx0 : ∀ (n : Nat) (w : World), (Instr.index 42 (.agg (cw 6 n)) (.int .i64 0)).run Tryd.prog w = .ok (.int .u64 ((wd n 0 : Nat) : Int)) w := fun n w => ix6 n 0 w (by decide)
  have B0 : Below w.heap.size w w := (Below.refl _ _)
  go_enter Tryd.func15, Tryd.ntmps15
  go_wp2_with fail
  refine (KR.out _ (fatB FF.out B0)).mono ?_
  rintro r w1 ⟨rfl, b1⟩
  have B1 : Below w.heap.size w w1 := btr B0 b1
  clear b1 B0 
  go_wp2_with fail
  refine (KI.out _).mono ?_
  rintro r w2 ⟨rfl, b2⟩
  have B2 : Below w.heap.size w w2 := btr B1 b2
  clear b2 B1 
  go_wp2
  go_ret
  exact ⟨rfl, B2⟩
end Go.Proofs.YtpdehipeakcaiaaDoor
