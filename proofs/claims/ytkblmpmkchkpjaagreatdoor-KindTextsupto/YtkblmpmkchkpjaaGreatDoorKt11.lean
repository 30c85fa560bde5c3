/-
  What the functions that the statement reaches return: part 11 (KJ, KK).
-/
import Derived.Test.YtkblmpmkchkpjaaGreatDoorKt10
namespace Go.Proofs.YtkblmpmkchkpjaaGreatDoor
set_option maxRecDepth 100000
set_option maxHeartbeats 40000000
open Go.RowKit WMath
set_option linter.unusedSimpArgs false
set_option linter.unusedVariables false
def xN (f : Int) (c s : Nat) (X : Int) (r : Nat) : Option Nat :=
  if c = 0 then some (eInf f true) else if c = 7 then some (eInf f false) else if c = 3 then some (eZero f true) else if c = 4 then some (eZero f false)
  else if c = 8 ∨ c = 9 then (if r < 2 ^ pV f then some (yK f false (oV f) r) else none)
  else if c = 2 ∨ c = 5 then (if s < 2 ^ pV f then some (yK f (decide (c = 2)) 0 s) else none)
  else if c = 1 ∨ c = 6 then (if (2 ^ pV f ≤ s ∧ s < 2 * 2 ^ pV f) ∧ lx f ≤ X ∧ X ≤ fE f - (pV f : Int) then some (yK f (decide (c = 1)) (X - lx f + 1).toNat (s % 2 ^ pV f)) else none)
  else none
theorem nm {f : Int} (hf : yT f) : fE f - (pV f : Int) - lx f + 1 = ((oV f - 1 : Nat) : Int) ∧ 1 ≤ oV f := by
 rcases hf with rfl | rfl | rfl | rfl <;> decide +kernel
theorem xX {f : Int} (hf : yT f) {c s : Nat} {X : Int} {r N : Nat} (h : xN f c s X r = some N) : Fit f N ∧ (8 ≤ c → kN f N = false) := by
 obtain ⟨g1, g2, g3, g4, g5, g6, g7⟩ := fm hf
 obtain ⟨n1, n2⟩ := nm hf
 have hz := Nat.two_pow_pos (pV f)
 unfold xN at h
 split at h
 ·
  injection h with h; subst h; exact ⟨(x7 hf true (Nat.le_refl _) hz).1, fun k => by omega⟩
 split at h
 ·
  injection h with h; subst h; exact ⟨(x7 hf false (Nat.le_refl _) hz).1, fun k => by omega⟩
 split at h
 ·
  injection h with h; subst h; exact ⟨(x7 hf true (Nat.zero_le _) hz).1, fun k => by omega⟩
 split at h
 ·
  injection h with h; subst h; exact ⟨(x7 hf false (Nat.zero_le _) hz).1, fun k => by omega⟩
 split at h
 ·
  split at h
  ·
   rename_i hr
   injection h with h; subst h
   have := x7 hf false (Nat.le_refl (oV f)) hr
   exact ⟨this.1, fun _ => this.2.1⟩
  ·
   cases h
 split at h
 ·
  split at h
  ·
   rename_i hr
   injection h with h; subst h
   exact ⟨(x7 hf _ (Nat.zero_le _) hr).1, fun k => by omega⟩
  ·
   cases h
 split at h
 ·
  split at h
  ·
   rename_i hr
   injection h with h; subst h
   exact ⟨(x7 hf _ (by omega) (Nat.mod_lt _ hz)).1, fun k => by omega⟩
  ·
   cases h
 ·
  cases h
theorem cand_kp {f : Int} (hf : yT f) (neg : Bool) {e t : Nat} (he : e ≤ oV f) (ht : t < 2 ^ pV f) :
  xN f (kC f (yK f neg e t)) (kS f (yK f neg e t)) (kX f (yK f neg e t)) (kF f (yK f neg e t)) = some (if 8 ≤ kC f (yK f neg e t) then yK f false e t else yK f neg e t) := by
 obtain ⟨g1, g2, g3, g4, g5, g6, g7⟩ := fm hf
 obtain ⟨n1, n2⟩ := nm hf
 obtain ⟨_, a, b, c⟩ := x7 hf neg he ht
 have hC := kC_cases hf neg e t he ht
 obtain ⟨C, hc⟩ : ∃ C, kC f (yK f neg e t) = C := ⟨_, rfl⟩
 unfold kS kX kF
 rw [hc] at hC
 rw [b, c, hc]
 by_cases c1 : e = oV f
 ·
  rw [if_pos c1] at hC
  by_cases c2 : t = 0
  ·
   rw [if_pos c2] at hC
   subst c1 c2
   cases neg <;> (simp only [Bool.false_eq_true, if_false, if_true] at hC; subst hC; rfl)
  ·
   rw [if_neg c2] at hC
   subst c1
   have ht2 : t < 2 ^ pV f := ht
   split at hC
   ·
    subst hC; simp [xN, ht2]
   ·
    subst hC; simp [xN, ht2]
 ·
  rw [if_neg c1] at hC
  by_cases c2 : e = 0
  ·
   rw [if_neg (by simpa using c2)] at hC
   subst c2
   by_cases c3 : t = 0
   ·
    rw [if_neg (by simpa using c3)] at hC
    subst c3
    cases neg <;> (simp only [Bool.false_eq_true, if_false, if_true] at hC; subst hC; rfl)
   ·
    rw [if_pos (by simpa using c3)] at hC
    cases neg <;> (simp only [Bool.false_eq_true, if_false, if_true] at hC; subst hC; simp [xN, ht])
  ·
   rw [if_pos (by simpa using c2)] at hC
   have k1 : (2 ^ pV f ≤ 2 ^ pV f + t ∧ 2 ^ pV f + t < 2 * 2 ^ pV f) ∧ lx f ≤ lx f + (e : Int) - 1 ∧ lx f + (e : Int) - 1 ≤ fE f - (pV f : Int) := by omega
   have k2 : (lx f + (e : Int) - 1 - lx f + 1).toNat = e := by omega
   have k3 : (2 ^ pV f + t) % 2 ^ pV f = t := by rw [Nat.add_mod_left, Nat.mod_eq_of_lt ht]
   cases neg
   ·
    simp only [Bool.false_eq_true, if_false] at hC
    subst hC
    unfold xN
    rw [if_neg (by decide), if_neg (by decide), if_neg (by decide), if_neg (by decide), if_neg (by decide), if_neg (by decide), if_pos (by decide)]
    simp only [show ¬ ((6 : Nat) = 2 ∨ (6 : Nat) = 5) by decide, show ((6 : Nat) = 1 ∨ (6 : Nat) = 6) by decide, or_true, true_or, if_true, if_false]
    rw [if_pos k1, k2, k3]
    rfl
   ·
    simp only [if_true] at hC
    subst hC
    unfold xN
    rw [if_neg (by decide), if_neg (by decide), if_neg (by decide), if_neg (by decide), if_neg (by decide), if_neg (by decide), if_pos (by decide)]
    simp only [show ¬ ((1 : Nat) = 2 ∨ (1 : Nat) = 5) by decide, show ((1 : Nat) = 1 ∨ (1 : Nat) = 6) by decide, or_true, true_or, if_true, if_false]
    rw [if_pos k1, k2, k3]
    rfl
theorem kp_nan {f : Int} (hf : yT f) (neg : Bool) {e t : Nat} (he : e ≤ oV f) (ht : t < 2 ^ pV f) (h8 : 8 ≤ kC f (yK f neg e t)) : kp f (yK f false e t) = kp f (yK f neg e t) := by
 obtain ⟨_, a, b, c⟩ := x7 hf neg he ht
 obtain ⟨_, a', b', c'⟩ := x7 hf false he ht
 have hC := kC_cases hf neg e t he ht
 have hC' := kC_cases hf false e t he ht
 have e1 : kC f (yK f false e t) = kC f (yK f neg e t) := by
  rw [hC] at h8 ⊢
  rw [hC']
  cases neg
  ·
   rfl
  ·
   simp only [if_true] at h8 ⊢
   split
   ·
    rename_i q1
    rw [if_pos q1] at h8
    split
    ·
     rename_i q2
     rw [if_pos q2] at h8; omega
    ·
     rfl
   ·
    rename_i q1
    rw [if_neg q1] at h8
    split at h8
    ·
     omega
    ·
     split at h8 <;> omega
 unfold kp kS kX kF
 rw [e1, b, c, b', c']
theorem cand_pk {f : Int} (hf : yT f) (c s : Nat) (X : Int) (r : Nat) : pk f (c, s, X, r) = match xN f c s X r with | none => (0, 80) | some N => if kp f N = (c, s, X, r) then (N, 0) else (0, 80) := by
 have key : ∀ n, Fit f n → kp f n = (c, s, X, r) → ∃ N, xN f c s X r = some N ∧ kp f N = (c, s, X, r) := by
  intro n hn hp
  have h := cand_kp hf (kN f n) (kE_le (f := f) n) (xR n)
  rw [k_enc hf hn] at h
  have hq := hp
  unfold kp at hq
  injection hq with q1 q2
  injection q2 with q2 q3
  injection q3 with q3 q4
  rw [q1, q2, q3, q4] at h
  refine ⟨_, h, ?_⟩
  by_cases h8 : 8 ≤ c
  ·
   rw [if_pos h8]
   have := kp_nan hf (kN f n) (kE_le (f := f) n) (xR n) (by rw [k_enc hf hn, q1]; exact h8)
   rw [this, k_enc hf hn]; exact hp
  ·
   rw [if_neg h8]; exact hp
 cases hc : xN f c s X r with
 | none =>
  refine pk_none hf ?_
  intro n hn hp
  obtain ⟨N, h1, _⟩ := key n hn hp
  rw [hc] at h1
  cases h1
 | some N =>
  obtain ⟨fN, sN⟩ := xX hf hc
  simp only []
  by_cases h : kp f N = (c, s, X, r)
  ·
   rw [if_pos h]
   exact pk_of hf fN h sN
  ·
   rw [if_neg h]
   refine pk_none hf ?_
   intro n hn hp
   obtain ⟨N', h1, h2⟩ := key n hn hp
   rw [hc] at h1
   injection h1 with h1
   subst h1
   exact h h2
theorem rpack_i0 (f q X Y : Int) (c s rr u v C S R : Nat) (E : Bool) (w : World)
  (KP : zP (∀ w, Calls Tryz.prog 87 #[.int .u8 f] w fun r w' => r = .returned (.int .i64 q) ∧ w' = w))
  (KU : zP (∀ w, Calls Tryz.prog 33 #[.int .u8 f, .agg #[.int .u64 u, .int .u64 v]] w fun r w' => r = .returned (.agg (pt C S Y R)) ∧ Below w.heap.size w w'))
  (ls : S < Q) (lr : R < Q) (hs : s < Q) (hr : rr < Q) (hE : (decide (C = c) && (decide (S = s) && (decide (Y = X) && decide (R = rr)))) = E)
  (KI : zP (∀ w, Calls Tryz.prog 72 #[.int .u8 f, .bool true] w fun r w' => r = .returned (.agg #[.int .u64 u, .int .u64 v]) ∧ Below w.heap.size w w'))
  (hc : c = 0) : Calls Tryz.prog 107 #[.int .u8 f, .agg (pt c s X rr)] w fun r w' => r = .returned (.tuple #[.agg #[.int .u64 (if E then (u : Int) else 0), .int .u64 (if E then (v : Int) else 0)], .int .i64 (if E then 0 else 80)]) ∧ Below w.heap.size w w' := by
 have hat := zU 6
 have hz := yB
 have hff := z8
 have hs0 := xO
 have hcs : ∀ x, ((cw 6 x).size = 6) = True := fun x => eq_true (zR 6 x)
 have hp1 := xP
 have hp3 := ptz
 have hp4 := yI
 have hp5 : ∀ (c s : Nat) (x : Int) (r : Nat), ((pt c s x r).size = 14) = True := fun _ _ _ _ => eq_true rfl
 have heq := eqp
 have hg := eqgp
 have ha0 := xH
 have ha1 := xD
 have ha2 := xC
 have ha3 := y9
 have ha4 := y8
 have ha5 := y7
 have ha6 := y6
 have ha7 := yZ
 have ha8 := xG
 have ha9 := xF
 have ha10 := yQ
 have ha11 := yP
 have ha12 := yO
 have ha13 := yN
 have hb0 := pt_q0
 have hb1 := pt_q1
 have hb2 := pt_q2
 have hb3 := pt_q3
 have hb4 := pt_q4
 have hb5 := pt_q5
 have hb6 := pt_q6
 have hb7 := pt_q7
 have hb8 := pt_q8
 have hb9 := pt_q9
 have hb10 := pt_q10
 have hb11 := pt_q11
 have hb12 := pt_q12
 have hb13 := pt_q13
 ·
  have f0 : ((c : Int) == 0) = true := by rw [hc]; rfl
  clear hc
  cases E
  ·
   simp only [Bool.false_eq_true, if_false, if_true]
   obtain ⟨Af, Ag, Ah, B0⟩ := yX w (Obj.cells (pt c s X rr) 68) (Obj.cells #[.int .u64 0, .int .u64 0] 25) (Obj.cells #[.int .u64 0, .int .u64 0] 25)
   go_enter Tryz.func107, Tryz.ntmps107
   go_wp2_with fail
   refine (KP.out _).mono ?_
   rintro r w' ⟨rfl, hw'⟩
   obtain rfl := hw'.symm
   go_wp2_with fail
   refine (KI.out _).mono ?_
   rintro r w1 ⟨rfl, b1⟩
   have B1 : Below w.heap.size w w1 := zL B0 b1
   obtain ⟨Ai, Aj, Ae⟩ := zZ b1 Af Ag Ah
   clear b1 B0 Af Ag Ah
   obtain ⟨AE, AF, AG, AH, AI, AJ, AK, AL, AM, AN, AO, AP, AQ, AR⟩ := zD Ai
   obtain ⟨AS, AT⟩ := zF Aj
   obtain ⟨AU, AV⟩ := zF Ae
   have q0_2 := fz (k := 0) Ae
   have q1_2 := fz (k := 1) Ae
   have B2 := zI B1 (show w.heap.size ≤ w.heap.size + 1 + 1 by first | exact Nat.le_refl _ | omega | (skip; omega)) (.int .u64 u) (.int .u64 v)
   have Ab : ((w1.setCell ⟨w.heap.size + 1 + 1, 0, none⟩ (.int .u64 u)).setCell ⟨w.heap.size + 1 + 1, 1, none⟩ (.int .u64 v)).heap[w.heap.size + 1 + 1]? = some (.cells #[.int .u64 u, .int .u64 v] 25) := yE Ae _ _
   have Aa : ((w1.setCell ⟨w.heap.size + 1 + 1, 0, none⟩ (.int .u64 u)).setCell ⟨w.heap.size + 1 + 1, 1, none⟩ (.int .u64 v)).heap[w.heap.size]? = some (.cells (pt c s X rr) 68) := (zB (by first | omega | (skip; omega))).trans ((zB (by first | omega | (skip; omega))).trans Ai)
   have Ac : ((w1.setCell ⟨w.heap.size + 1 + 1, 0, none⟩ (.int .u64 u)).setCell ⟨w.heap.size + 1 + 1, 1, none⟩ (.int .u64 v)).heap[w.heap.size + 1]? = some (.cells #[.int .u64 0, .int .u64 0] 25) := (zB (by first | omega | (skip; omega))).trans ((zB (by first | omega | (skip; omega))).trans Aj)
   obtain ⟨Am, An, Ao, Ap, Aq, Ar, As, At, Au, Av, Aw, Ax, Ay, Az⟩ := zD Aa
   obtain ⟨AA, AB⟩ := zF Ac
   obtain ⟨AC, AD⟩ := zF Ab
   go_wp2_with fail
   obtain ⟨F, hF1, hF2⟩ := zS ((w1.setCell ⟨w.heap.size + 1 + 1, 0, none⟩ (.int .u64 u)).setCell ⟨w.heap.size + 1 + 1, 1, none⟩ (.int .u64 v))
   have fp_0 := fun u => zC (zA (hF1 u) _ _ _ Aa) 0 _ rfl
   have fp_1 := fun u => zC (zA (hF1 u) _ _ _ Aa) 1 _ rfl
   have fp_2 := fun u => zC (zA (hF1 u) _ _ _ Aa) 2 _ rfl
   have fp_3 := fun u => zC (zA (hF1 u) _ _ _ Aa) 3 _ rfl
   have fp_4 := fun u => zC (zA (hF1 u) _ _ _ Aa) 4 _ rfl
   have fp_5 := fun u => zC (zA (hF1 u) _ _ _ Aa) 5 _ rfl
   have fp_6 := fun u => zC (zA (hF1 u) _ _ _ Aa) 6 _ rfl
   have fp_7 := fun u => zC (zA (hF1 u) _ _ _ Aa) 7 _ rfl
   have fp_8 := fun u => zC (zA (hF1 u) _ _ _ Aa) 8 _ rfl
   have fp_9 := fun u => zC (zA (hF1 u) _ _ _ Aa) 9 _ rfl
   have fp_10 := fun u => zC (zA (hF1 u) _ _ _ Aa) 10 _ rfl
   have fp_11 := fun u => zC (zA (hF1 u) _ _ _ Aa) 11 _ rfl
   have fp_12 := fun u => zC (zA (hF1 u) _ _ _ Aa) 12 _ rfl
   have fp_13 := fun u => zC (zA (hF1 u) _ _ _ Aa) 13 _ rfl
   have fz_0 := fun u => zC (zA (hF1 u) _ _ _ Ac) 0 _ rfl
   have fz_1 := fun u => zC (zA (hF1 u) _ _ _ Ac) 1 _ rfl
   have fb_0 := fun u => zC (zA (hF1 u) _ _ _ Ab) 0 _ rfl
   have fb_1 := fun u => zC (zA (hF1 u) _ _ _ Ab) 1 _ rfl
   refine zJ F hF2 (by kernel_rfl) (by kernel_rfl) ?_
   repeat first | go_big_quiet_step (first | (go_at_call 33; exact zN hF1 hF2 (KU.out _)) | fail) | quiet_step (first | (go_at_call 33; exact zN hF1 hF2 (KU.out _)) | fail)
   refine wpQuiet_nil ?_
   rintro _ ⟨uW, rfl⟩
   have B3 := zL B2 (hF1 uW)
   obtain ⟨Ak, Ad, Al⟩ := zZ (hF1 uW) Aa Ac Ab
   obtain ⟨w3, hw⟩ : ∃ V, F uW = V := ⟨_, rfl⟩
   rw [hw] at B3 Ak Ad Al
   try rw [hw]
   clear hw hF1 hF2 B2 fp_0 fp_1 fp_2 fp_3 fp_4 fp_5 fp_6 fp_7 fp_8 fp_9 fp_10 fp_11 fp_12 fp_13 fz_0 fz_1 fb_0 fb_1 Aa Am An Ao Ap Aq Ar As At Au Av Aw Ax Ay Az Ac AA AB Ab AC AD
   clear F
   obtain ⟨AW, AX, AY, AZ, A0, A1, A2, A3, A4, A5, A6, A7, A8, A9⟩ := zD Ak
   obtain ⟨Ba, Bb⟩ := zF Ad
   obtain ⟨Bc, Bd⟩ := zF Al
   have q0 := fz (k := 0) Ad
   have q1 := fz (k := 1) Ad
   obtain ⟨E0, E1⟩ := zM Ad (.int .u64 0) (.int .u64 0)
   go_wp2
   exact bodyPost_ret (v := .tuple #[.agg #[.int .u64 0, .int .u64 0], .int .i64 80]) (by simp [results, Tryz.results107, go_sem, E0, E1]) rfl ⟨rfl, zI B3 (by first | exact Nat.le_refl _ | omega | (skip; omega)) _ _⟩
  ·
   simp only [Bool.false_eq_true, if_false, if_true]
   obtain ⟨Af, Ag, Ah, B0⟩ := yX w (Obj.cells (pt c s X rr) 68) (Obj.cells #[.int .u64 0, .int .u64 0] 25) (Obj.cells #[.int .u64 0, .int .u64 0] 25)
   go_enter Tryz.func107, Tryz.ntmps107
   go_wp2_with fail
   refine (KP.out _).mono ?_
   rintro r w' ⟨rfl, hw'⟩
   obtain rfl := hw'.symm
   go_wp2_with fail
   refine (KI.out _).mono ?_
   rintro r w1 ⟨rfl, b1⟩
   have B1 : Below w.heap.size w w1 := zL B0 b1
   obtain ⟨Ai, Aj, Ae⟩ := zZ b1 Af Ag Ah
   clear b1 B0 Af Ag Ah
   obtain ⟨AE, AF, AG, AH, AI, AJ, AK, AL, AM, AN, AO, AP, AQ, AR⟩ := zD Ai
   obtain ⟨AS, AT⟩ := zF Aj
   obtain ⟨AU, AV⟩ := zF Ae
   have q0_2 := fz (k := 0) Ae
   have q1_2 := fz (k := 1) Ae
   have B2 := zI B1 (show w.heap.size ≤ w.heap.size + 1 + 1 by first | exact Nat.le_refl _ | omega | (skip; omega)) (.int .u64 u) (.int .u64 v)
   have Ab : ((w1.setCell ⟨w.heap.size + 1 + 1, 0, none⟩ (.int .u64 u)).setCell ⟨w.heap.size + 1 + 1, 1, none⟩ (.int .u64 v)).heap[w.heap.size + 1 + 1]? = some (.cells #[.int .u64 u, .int .u64 v] 25) := yE Ae _ _
   have Aa : ((w1.setCell ⟨w.heap.size + 1 + 1, 0, none⟩ (.int .u64 u)).setCell ⟨w.heap.size + 1 + 1, 1, none⟩ (.int .u64 v)).heap[w.heap.size]? = some (.cells (pt c s X rr) 68) := (zB (by first | omega | (skip; omega))).trans ((zB (by first | omega | (skip; omega))).trans Ai)
   have Ac : ((w1.setCell ⟨w.heap.size + 1 + 1, 0, none⟩ (.int .u64 u)).setCell ⟨w.heap.size + 1 + 1, 1, none⟩ (.int .u64 v)).heap[w.heap.size + 1]? = some (.cells #[.int .u64 0, .int .u64 0] 25) := (zB (by first | omega | (skip; omega))).trans ((zB (by first | omega | (skip; omega))).trans Aj)
   obtain ⟨Am, An, Ao, Ap, Aq, Ar, As, At, Au, Av, Aw, Ax, Ay, Az⟩ := zD Aa
   obtain ⟨AA, AB⟩ := zF Ac
   obtain ⟨AC, AD⟩ := zF Ab
   go_wp2_with fail
   obtain ⟨F, hF1, hF2⟩ := zS ((w1.setCell ⟨w.heap.size + 1 + 1, 0, none⟩ (.int .u64 u)).setCell ⟨w.heap.size + 1 + 1, 1, none⟩ (.int .u64 v))
   have fp_0 := fun u => zC (zA (hF1 u) _ _ _ Aa) 0 _ rfl
   have fp_1 := fun u => zC (zA (hF1 u) _ _ _ Aa) 1 _ rfl
   have fp_2 := fun u => zC (zA (hF1 u) _ _ _ Aa) 2 _ rfl
   have fp_3 := fun u => zC (zA (hF1 u) _ _ _ Aa) 3 _ rfl
   have fp_4 := fun u => zC (zA (hF1 u) _ _ _ Aa) 4 _ rfl
   have fp_5 := fun u => zC (zA (hF1 u) _ _ _ Aa) 5 _ rfl
   have fp_6 := fun u => zC (zA (hF1 u) _ _ _ Aa) 6 _ rfl
   have fp_7 := fun u => zC (zA (hF1 u) _ _ _ Aa) 7 _ rfl
   have fp_8 := fun u => zC (zA (hF1 u) _ _ _ Aa) 8 _ rfl
   have fp_9 := fun u => zC (zA (hF1 u) _ _ _ Aa) 9 _ rfl
   have fp_10 := fun u => zC (zA (hF1 u) _ _ _ Aa) 10 _ rfl
   have fp_11 := fun u => zC (zA (hF1 u) _ _ _ Aa) 11 _ rfl
   have fp_12 := fun u => zC (zA (hF1 u) _ _ _ Aa) 12 _ rfl
   have fp_13 := fun u => zC (zA (hF1 u) _ _ _ Aa) 13 _ rfl
   have fz_0 := fun u => zC (zA (hF1 u) _ _ _ Ac) 0 _ rfl
   have fz_1 := fun u => zC (zA (hF1 u) _ _ _ Ac) 1 _ rfl
   have fb_0 := fun u => zC (zA (hF1 u) _ _ _ Ab) 0 _ rfl
   have fb_1 := fun u => zC (zA (hF1 u) _ _ _ Ab) 1 _ rfl
   refine zJ F hF2 (by kernel_rfl) (by kernel_rfl) ?_
   repeat first | go_big_quiet_step (first | (go_at_call 33; exact zN hF1 hF2 (KU.out _)) | fail) | quiet_step (first | (go_at_call 33; exact zN hF1 hF2 (KU.out _)) | fail)
   refine wpQuiet_nil ?_
   rintro _ ⟨uW, rfl⟩
   have B3 := zL B2 (hF1 uW)
   obtain ⟨Ak, Ad, Al⟩ := zZ (hF1 uW) Aa Ac Ab
   obtain ⟨w3, hw⟩ : ∃ V, F uW = V := ⟨_, rfl⟩
   rw [hw] at B3 Ak Ad Al
   try rw [hw]
   clear hw hF1 hF2 B2 fp_0 fp_1 fp_2 fp_3 fp_4 fp_5 fp_6 fp_7 fp_8 fp_9 fp_10 fp_11 fp_12 fp_13 fz_0 fz_1 fb_0 fb_1 Aa Am An Ao Ap Aq Ar As At Au Av Aw Ax Ay Az Ac AA AB Ab AC AD
   clear F
   obtain ⟨AW, AX, AY, AZ, A0, A1, A2, A3, A4, A5, A6, A7, A8, A9⟩ := zD Ak
   obtain ⟨Ba, Bb⟩ := zF Ad
   obtain ⟨Bc, Bd⟩ := zF Al
   have q0 := fz (k := 0) Ad
   have q1 := fz (k := 1) Ad
   obtain ⟨E0, E1⟩ := zM Ad (.int .u64 u) (.int .u64 v)
   go_wp2
   exact bodyPost_ret (v := .tuple #[.agg #[.int .u64 u, .int .u64 v], .int .i64 0]) (by simp [results, Tryz.results107, go_sem, E0, E1]) rfl ⟨rfl, zI B3 (by first | exact Nat.le_refl _ | omega | (skip; omega)) _ _⟩
theorem rpack_i7 (f q X Y : Int) (c s rr u v C S R : Nat) (E : Bool) (w : World)
  (KP : zP (∀ w, Calls Tryz.prog 87 #[.int .u8 f] w fun r w' => r = .returned (.int .i64 q) ∧ w' = w))
  (KU : zP (∀ w, Calls Tryz.prog 33 #[.int .u8 f, .agg #[.int .u64 u, .int .u64 v]] w fun r w' => r = .returned (.agg (pt C S Y R)) ∧ Below w.heap.size w w'))
  (ls : S < Q) (lr : R < Q) (hs : s < Q) (hr : rr < Q) (hE : (decide (C = c) && (decide (S = s) && (decide (Y = X) && decide (R = rr)))) = E)
  (KI : zP (∀ w, Calls Tryz.prog 72 #[.int .u8 f, .bool false] w fun r w' => r = .returned (.agg #[.int .u64 u, .int .u64 v]) ∧ Below w.heap.size w w'))
  (hc : c = 7) : Calls Tryz.prog 107 #[.int .u8 f, .agg (pt c s X rr)] w fun r w' => r = .returned (.tuple #[.agg #[.int .u64 (if E then (u : Int) else 0), .int .u64 (if E then (v : Int) else 0)], .int .i64 (if E then 0 else 80)]) ∧ Below w.heap.size w w' := by
 have hat := zU 6
 have hz := yB
 have hff := z8
 have hs0 := xO
 have hcs : ∀ x, ((cw 6 x).size = 6) = True := fun x => eq_true (zR 6 x)
 have hp1 := xP
 have hp3 := ptz
 have hp4 := yI
 have hp5 : ∀ (c s : Nat) (x : Int) (r : Nat), ((pt c s x r).size = 14) = True := fun _ _ _ _ => eq_true rfl
 have heq := eqp
 have hg := eqgp
 have ha0 := xH
 have ha1 := xD
 have ha2 := xC
 have ha3 := y9
 have ha4 := y8
 have ha5 := y7
 have ha6 := y6
 have ha7 := yZ
 have ha8 := xG
 have ha9 := xF
 have ha10 := yQ
 have ha11 := yP
 have ha12 := yO
 have ha13 := yN
 have hb0 := pt_q0
 have hb1 := pt_q1
 have hb2 := pt_q2
 have hb3 := pt_q3
 have hb4 := pt_q4
 have hb5 := pt_q5
 have hb6 := pt_q6
 have hb7 := pt_q7
 have hb8 := pt_q8
 have hb9 := pt_q9
 have hb10 := pt_q10
 have hb11 := pt_q11
 have hb12 := pt_q12
 have hb13 := pt_q13
 ·
  have f0 : ((c : Int) == 0) = false := by rw [hc]; rfl
  have f7 : ((c : Int) == 7) = true := by rw [hc]; rfl
  clear hc
  cases E
  ·
   simp only [Bool.false_eq_true, if_false, if_true]
   obtain ⟨Af, Ag, Ah, B0⟩ := yX w (Obj.cells (pt c s X rr) 68) (Obj.cells #[.int .u64 0, .int .u64 0] 25) (Obj.cells #[.int .u64 0, .int .u64 0] 25)
   go_enter Tryz.func107, Tryz.ntmps107
   go_wp2_with fail
   refine (KP.out _).mono ?_
   rintro r w' ⟨rfl, hw'⟩
   obtain rfl := hw'.symm
   go_wp2_with fail
   refine (KI.out _).mono ?_
   rintro r w1 ⟨rfl, b1⟩
   have B1 : Below w.heap.size w w1 := zL B0 b1
   obtain ⟨Ai, Aj, Ae⟩ := zZ b1 Af Ag Ah
   clear b1 B0 Af Ag Ah
   obtain ⟨AE, AF, AG, AH, AI, AJ, AK, AL, AM, AN, AO, AP, AQ, AR⟩ := zD Ai
   obtain ⟨AS, AT⟩ := zF Aj
   obtain ⟨AU, AV⟩ := zF Ae
   have q0_2 := fz (k := 0) Ae
   have q1_2 := fz (k := 1) Ae
   have B2 := zI B1 (show w.heap.size ≤ w.heap.size + 1 + 1 by first | exact Nat.le_refl _ | omega | (skip; omega)) (.int .u64 u) (.int .u64 v)
   have Ab : ((w1.setCell ⟨w.heap.size + 1 + 1, 0, none⟩ (.int .u64 u)).setCell ⟨w.heap.size + 1 + 1, 1, none⟩ (.int .u64 v)).heap[w.heap.size + 1 + 1]? = some (.cells #[.int .u64 u, .int .u64 v] 25) := yE Ae _ _
   have Aa : ((w1.setCell ⟨w.heap.size + 1 + 1, 0, none⟩ (.int .u64 u)).setCell ⟨w.heap.size + 1 + 1, 1, none⟩ (.int .u64 v)).heap[w.heap.size]? = some (.cells (pt c s X rr) 68) := (zB (by first | omega | (skip; omega))).trans ((zB (by first | omega | (skip; omega))).trans Ai)
   have Ac : ((w1.setCell ⟨w.heap.size + 1 + 1, 0, none⟩ (.int .u64 u)).setCell ⟨w.heap.size + 1 + 1, 1, none⟩ (.int .u64 v)).heap[w.heap.size + 1]? = some (.cells #[.int .u64 0, .int .u64 0] 25) := (zB (by first | omega | (skip; omega))).trans ((zB (by first | omega | (skip; omega))).trans Aj)
   obtain ⟨Am, An, Ao, Ap, Aq, Ar, As, At, Au, Av, Aw, Ax, Ay, Az⟩ := zD Aa
   obtain ⟨AA, AB⟩ := zF Ac
   obtain ⟨AC, AD⟩ := zF Ab
   go_wp2_with fail
   obtain ⟨F, hF1, hF2⟩ := zS ((w1.setCell ⟨w.heap.size + 1 + 1, 0, none⟩ (.int .u64 u)).setCell ⟨w.heap.size + 1 + 1, 1, none⟩ (.int .u64 v))
   have fp_0 := fun u => zC (zA (hF1 u) _ _ _ Aa) 0 _ rfl
   have fp_1 := fun u => zC (zA (hF1 u) _ _ _ Aa) 1 _ rfl
   have fp_2 := fun u => zC (zA (hF1 u) _ _ _ Aa) 2 _ rfl
   have fp_3 := fun u => zC (zA (hF1 u) _ _ _ Aa) 3 _ rfl
   have fp_4 := fun u => zC (zA (hF1 u) _ _ _ Aa) 4 _ rfl
   have fp_5 := fun u => zC (zA (hF1 u) _ _ _ Aa) 5 _ rfl
   have fp_6 := fun u => zC (zA (hF1 u) _ _ _ Aa) 6 _ rfl
   have fp_7 := fun u => zC (zA (hF1 u) _ _ _ Aa) 7 _ rfl
   have fp_8 := fun u => zC (zA (hF1 u) _ _ _ Aa) 8 _ rfl
   have fp_9 := fun u => zC (zA (hF1 u) _ _ _ Aa) 9 _ rfl
   have fp_10 := fun u => zC (zA (hF1 u) _ _ _ Aa) 10 _ rfl
   have fp_11 := fun u => zC (zA (hF1 u) _ _ _ Aa) 11 _ rfl
   have fp_12 := fun u => zC (zA (hF1 u) _ _ _ Aa) 12 _ rfl
   have fp_13 := fun u => zC (zA (hF1 u) _ _ _ Aa) 13 _ rfl
   have fz_0 := fun u => zC (zA (hF1 u) _ _ _ Ac) 0 _ rfl
   have fz_1 := fun u => zC (zA (hF1 u) _ _ _ Ac) 1 _ rfl
   have fb_0 := fun u => zC (zA (hF1 u) _ _ _ Ab) 0 _ rfl
   have fb_1 := fun u => zC (zA (hF1 u) _ _ _ Ab) 1 _ rfl
   refine zJ F hF2 (by kernel_rfl) (by kernel_rfl) ?_
   repeat first | go_big_quiet_step (first | (go_at_call 33; exact zN hF1 hF2 (KU.out _)) | fail) | quiet_step (first | (go_at_call 33; exact zN hF1 hF2 (KU.out _)) | fail)
   refine wpQuiet_nil ?_
   rintro _ ⟨uW, rfl⟩
   have B3 := zL B2 (hF1 uW)
   obtain ⟨Ak, Ad, Al⟩ := zZ (hF1 uW) Aa Ac Ab
   obtain ⟨w3, hw⟩ : ∃ V, F uW = V := ⟨_, rfl⟩
   rw [hw] at B3 Ak Ad Al
   try rw [hw]
   clear hw hF1 hF2 B2 fp_0 fp_1 fp_2 fp_3 fp_4 fp_5 fp_6 fp_7 fp_8 fp_9 fp_10 fp_11 fp_12 fp_13 fz_0 fz_1 fb_0 fb_1 Aa Am An Ao Ap Aq Ar As At Au Av Aw Ax Ay Az Ac AA AB Ab AC AD
   clear F
   obtain ⟨AW, AX, AY, AZ, A0, A1, A2, A3, A4, A5, A6, A7, A8, A9⟩ := zD Ak
   obtain ⟨Ba, Bb⟩ := zF Ad
   obtain ⟨Bc, Bd⟩ := zF Al
   have q0 := fz (k := 0) Ad
   have q1 := fz (k := 1) Ad
   obtain ⟨E0, E1⟩ := zM Ad (.int .u64 0) (.int .u64 0)
   go_wp2
   exact bodyPost_ret (v := .tuple #[.agg #[.int .u64 0, .int .u64 0], .int .i64 80]) (by simp [results, Tryz.results107, go_sem, E0, E1]) rfl ⟨rfl, zI B3 (by first | exact Nat.le_refl _ | omega | (skip; omega)) _ _⟩
  ·
   simp only [Bool.false_eq_true, if_false, if_true]
   obtain ⟨Af, Ag, Ah, B0⟩ := yX w (Obj.cells (pt c s X rr) 68) (Obj.cells #[.int .u64 0, .int .u64 0] 25) (Obj.cells #[.int .u64 0, .int .u64 0] 25)
   go_enter Tryz.func107, Tryz.ntmps107
   go_wp2_with fail
   refine (KP.out _).mono ?_
   rintro r w' ⟨rfl, hw'⟩
   obtain rfl := hw'.symm
   go_wp2_with fail
   refine (KI.out _).mono ?_
   rintro r w1 ⟨rfl, b1⟩
   have B1 : Below w.heap.size w w1 := zL B0 b1
   obtain ⟨Ai, Aj, Ae⟩ := zZ b1 Af Ag Ah
   clear b1 B0 Af Ag Ah
   obtain ⟨AE, AF, AG, AH, AI, AJ, AK, AL, AM, AN, AO, AP, AQ, AR⟩ := zD Ai
   obtain ⟨AS, AT⟩ := zF Aj
   obtain ⟨AU, AV⟩ := zF Ae
   have q0_2 := fz (k := 0) Ae
   have q1_2 := fz (k := 1) Ae
   have B2 := zI B1 (show w.heap.size ≤ w.heap.size + 1 + 1 by first | exact Nat.le_refl _ | omega | (skip; omega)) (.int .u64 u) (.int .u64 v)
   have Ab : ((w1.setCell ⟨w.heap.size + 1 + 1, 0, none⟩ (.int .u64 u)).setCell ⟨w.heap.size + 1 + 1, 1, none⟩ (.int .u64 v)).heap[w.heap.size + 1 + 1]? = some (.cells #[.int .u64 u, .int .u64 v] 25) := yE Ae _ _
   have Aa : ((w1.setCell ⟨w.heap.size + 1 + 1, 0, none⟩ (.int .u64 u)).setCell ⟨w.heap.size + 1 + 1, 1, none⟩ (.int .u64 v)).heap[w.heap.size]? = some (.cells (pt c s X rr) 68) := (zB (by first | omega | (skip; omega))).trans ((zB (by first | omega | (skip; omega))).trans Ai)
   have Ac : ((w1.setCell ⟨w.heap.size + 1 + 1, 0, none⟩ (.int .u64 u)).setCell ⟨w.heap.size + 1 + 1, 1, none⟩ (.int .u64 v)).heap[w.heap.size + 1]? = some (.cells #[.int .u64 0, .int .u64 0] 25) := (zB (by first | omega | (skip; omega))).trans ((zB (by first | omega | (skip; omega))).trans Aj)
   obtain ⟨Am, An, Ao, Ap, Aq, Ar, As, At, Au, Av, Aw, Ax, Ay, Az⟩ := zD Aa
   obtain ⟨AA, AB⟩ := zF Ac
   obtain ⟨AC, AD⟩ := zF Ab
   go_wp2_with fail
   obtain ⟨F, hF1, hF2⟩ := zS ((w1.setCell ⟨w.heap.size + 1 + 1, 0, none⟩ (.int .u64 u)).setCell ⟨w.heap.size + 1 + 1, 1, none⟩ (.int .u64 v))
   have fp_0 := fun u => zC (zA (hF1 u) _ _ _ Aa) 0 _ rfl
   have fp_1 := fun u => zC (zA (hF1 u) _ _ _ Aa) 1 _ rfl
   have fp_2 := fun u => zC (zA (hF1 u) _ _ _ Aa) 2 _ rfl
   have fp_3 := fun u => zC (zA (hF1 u) _ _ _ Aa) 3 _ rfl
   have fp_4 := fun u => zC (zA (hF1 u) _ _ _ Aa) 4 _ rfl
   have fp_5 := fun u => zC (zA (hF1 u) _ _ _ Aa) 5 _ rfl
   have fp_6 := fun u => zC (zA (hF1 u) _ _ _ Aa) 6 _ rfl
   have fp_7 := fun u => zC (zA (hF1 u) _ _ _ Aa) 7 _ rfl
   have fp_8 := fun u => zC (zA (hF1 u) _ _ _ Aa) 8 _ rfl
   have fp_9 := fun u => zC (zA (hF1 u) _ _ _ Aa) 9 _ rfl
   have fp_10 := fun u => zC (zA (hF1 u) _ _ _ Aa) 10 _ rfl
   have fp_11 := fun u => zC (zA (hF1 u) _ _ _ Aa) 11 _ rfl
   have fp_12 := fun u => zC (zA (hF1 u) _ _ _ Aa) 12 _ rfl
   have fp_13 := fun u => zC (zA (hF1 u) _ _ _ Aa) 13 _ rfl
   have fz_0 := fun u => zC (zA (hF1 u) _ _ _ Ac) 0 _ rfl
   have fz_1 := fun u => zC (zA (hF1 u) _ _ _ Ac) 1 _ rfl
   have fb_0 := fun u => zC (zA (hF1 u) _ _ _ Ab) 0 _ rfl
   have fb_1 := fun u => zC (zA (hF1 u) _ _ _ Ab) 1 _ rfl
   refine zJ F hF2 (by kernel_rfl) (by kernel_rfl) ?_
   repeat first | go_big_quiet_step (first | (go_at_call 33; exact zN hF1 hF2 (KU.out _)) | fail) | quiet_step (first | (go_at_call 33; exact zN hF1 hF2 (KU.out _)) | fail)
   refine wpQuiet_nil ?_
   rintro _ ⟨uW, rfl⟩
   have B3 := zL B2 (hF1 uW)
   obtain ⟨Ak, Ad, Al⟩ := zZ (hF1 uW) Aa Ac Ab
   obtain ⟨w3, hw⟩ : ∃ V, F uW = V := ⟨_, rfl⟩
   rw [hw] at B3 Ak Ad Al
   try rw [hw]
   clear hw hF1 hF2 B2 fp_0 fp_1 fp_2 fp_3 fp_4 fp_5 fp_6 fp_7 fp_8 fp_9 fp_10 fp_11 fp_12 fp_13 fz_0 fz_1 fb_0 fb_1 Aa Am An Ao Ap Aq Ar As At Au Av Aw Ax Ay Az Ac AA AB Ab AC AD
   clear F
   obtain ⟨AW, AX, AY, AZ, A0, A1, A2, A3, A4, A5, A6, A7, A8, A9⟩ := zD Ak
   obtain ⟨Ba, Bb⟩ := zF Ad
   obtain ⟨Bc, Bd⟩ := zF Al
   have q0 := fz (k := 0) Ad
   have q1 := fz (k := 1) Ad
   obtain ⟨E0, E1⟩ := zM Ad (.int .u64 u) (.int .u64 v)
   go_wp2
   exact bodyPost_ret (v := .tuple #[.agg #[.int .u64 u, .int .u64 v], .int .i64 0]) (by simp [results, Tryz.results107, go_sem, E0, E1]) rfl ⟨rfl, zI B3 (by first | exact Nat.le_refl _ | omega | (skip; omega)) _ _⟩
theorem rpack_z3 (f q X Y : Int) (c s rr u v C S R : Nat) (E : Bool) (w : World)
  (KP : zP (∀ w, Calls Tryz.prog 87 #[.int .u8 f] w fun r w' => r = .returned (.int .i64 q) ∧ w' = w))
  (KU : zP (∀ w, Calls Tryz.prog 33 #[.int .u8 f, .agg #[.int .u64 u, .int .u64 v]] w fun r w' => r = .returned (.agg (pt C S Y R)) ∧ Below w.heap.size w w'))
  (ls : S < Q) (lr : R < Q) (hs : s < Q) (hr : rr < Q) (hE : (decide (C = c) && (decide (S = s) && (decide (Y = X) && decide (R = rr)))) = E)
  (KI : zP (∀ w, Calls Tryz.prog 73 #[.int .u8 f, .bool true] w fun r w' => r = .returned (.agg #[.int .u64 u, .int .u64 v]) ∧ Below w.heap.size w w'))
  (hc : c = 3) : Calls Tryz.prog 107 #[.int .u8 f, .agg (pt c s X rr)] w fun r w' => r = .returned (.tuple #[.agg #[.int .u64 (if E then (u : Int) else 0), .int .u64 (if E then (v : Int) else 0)], .int .i64 (if E then 0 else 80)]) ∧ Below w.heap.size w w' := by
 have hat := zU 6
 have hz := yB
 have hff := z8
 have hs0 := xO
 have hcs : ∀ x, ((cw 6 x).size = 6) = True := fun x => eq_true (zR 6 x)
 have hp1 := xP
 have hp3 := ptz
 have hp4 := yI
 have hp5 : ∀ (c s : Nat) (x : Int) (r : Nat), ((pt c s x r).size = 14) = True := fun _ _ _ _ => eq_true rfl
 have heq := eqp
 have hg := eqgp
 have ha0 := xH
 have ha1 := xD
 have ha2 := xC
 have ha3 := y9
 have ha4 := y8
 have ha5 := y7
 have ha6 := y6
 have ha7 := yZ
 have ha8 := xG
 have ha9 := xF
 have ha10 := yQ
 have ha11 := yP
 have ha12 := yO
 have ha13 := yN
 have hb0 := pt_q0
 have hb1 := pt_q1
 have hb2 := pt_q2
 have hb3 := pt_q3
 have hb4 := pt_q4
 have hb5 := pt_q5
 have hb6 := pt_q6
 have hb7 := pt_q7
 have hb8 := pt_q8
 have hb9 := pt_q9
 have hb10 := pt_q10
 have hb11 := pt_q11
 have hb12 := pt_q12
 have hb13 := pt_q13
 ·
  have f0 : ((c : Int) == 0) = false := by rw [hc]; rfl
  have f7 : ((c : Int) == 7) = false := by rw [hc]; rfl
  have f3 : ((c : Int) == 3) = true := by rw [hc]; rfl
  clear hc
  cases E
  ·
   simp only [Bool.false_eq_true, if_false, if_true]
   obtain ⟨Af, Ag, Ah, B0⟩ := yX w (Obj.cells (pt c s X rr) 68) (Obj.cells #[.int .u64 0, .int .u64 0] 25) (Obj.cells #[.int .u64 0, .int .u64 0] 25)
   go_enter Tryz.func107, Tryz.ntmps107
   go_wp2_with fail
   refine (KP.out _).mono ?_
   rintro r w' ⟨rfl, hw'⟩
   obtain rfl := hw'.symm
   go_wp2_with fail
   refine (KI.out _).mono ?_
   rintro r w1 ⟨rfl, b1⟩
   have B1 : Below w.heap.size w w1 := zL B0 b1
   obtain ⟨Ai, Aj, Ae⟩ := zZ b1 Af Ag Ah
   clear b1 B0 Af Ag Ah
   obtain ⟨AE, AF, AG, AH, AI, AJ, AK, AL, AM, AN, AO, AP, AQ, AR⟩ := zD Ai
   obtain ⟨AS, AT⟩ := zF Aj
   obtain ⟨AU, AV⟩ := zF Ae
   have q0_2 := fz (k := 0) Ae
   have q1_2 := fz (k := 1) Ae
   have B2 := zI B1 (show w.heap.size ≤ w.heap.size + 1 + 1 by first | exact Nat.le_refl _ | omega | (skip; omega)) (.int .u64 u) (.int .u64 v)
   have Ab : ((w1.setCell ⟨w.heap.size + 1 + 1, 0, none⟩ (.int .u64 u)).setCell ⟨w.heap.size + 1 + 1, 1, none⟩ (.int .u64 v)).heap[w.heap.size + 1 + 1]? = some (.cells #[.int .u64 u, .int .u64 v] 25) := yE Ae _ _
   have Aa : ((w1.setCell ⟨w.heap.size + 1 + 1, 0, none⟩ (.int .u64 u)).setCell ⟨w.heap.size + 1 + 1, 1, none⟩ (.int .u64 v)).heap[w.heap.size]? = some (.cells (pt c s X rr) 68) := (zB (by first | omega | (skip; omega))).trans ((zB (by first | omega | (skip; omega))).trans Ai)
   have Ac : ((w1.setCell ⟨w.heap.size + 1 + 1, 0, none⟩ (.int .u64 u)).setCell ⟨w.heap.size + 1 + 1, 1, none⟩ (.int .u64 v)).heap[w.heap.size + 1]? = some (.cells #[.int .u64 0, .int .u64 0] 25) := (zB (by first | omega | (skip; omega))).trans ((zB (by first | omega | (skip; omega))).trans Aj)
   obtain ⟨Am, An, Ao, Ap, Aq, Ar, As, At, Au, Av, Aw, Ax, Ay, Az⟩ := zD Aa
   obtain ⟨AA, AB⟩ := zF Ac
   obtain ⟨AC, AD⟩ := zF Ab
   go_wp2_with fail
   obtain ⟨F, hF1, hF2⟩ := zS ((w1.setCell ⟨w.heap.size + 1 + 1, 0, none⟩ (.int .u64 u)).setCell ⟨w.heap.size + 1 + 1, 1, none⟩ (.int .u64 v))
   have fp_0 := fun u => zC (zA (hF1 u) _ _ _ Aa) 0 _ rfl
   have fp_1 := fun u => zC (zA (hF1 u) _ _ _ Aa) 1 _ rfl
   have fp_2 := fun u => zC (zA (hF1 u) _ _ _ Aa) 2 _ rfl
   have fp_3 := fun u => zC (zA (hF1 u) _ _ _ Aa) 3 _ rfl
   have fp_4 := fun u => zC (zA (hF1 u) _ _ _ Aa) 4 _ rfl
   have fp_5 := fun u => zC (zA (hF1 u) _ _ _ Aa) 5 _ rfl
   have fp_6 := fun u => zC (zA (hF1 u) _ _ _ Aa) 6 _ rfl
   have fp_7 := fun u => zC (zA (hF1 u) _ _ _ Aa) 7 _ rfl
   have fp_8 := fun u => zC (zA (hF1 u) _ _ _ Aa) 8 _ rfl
   have fp_9 := fun u => zC (zA (hF1 u) _ _ _ Aa) 9 _ rfl
   have fp_10 := fun u => zC (zA (hF1 u) _ _ _ Aa) 10 _ rfl
   have fp_11 := fun u => zC (zA (hF1 u) _ _ _ Aa) 11 _ rfl
   have fp_12 := fun u => zC (zA (hF1 u) _ _ _ Aa) 12 _ rfl
   have fp_13 := fun u => zC (zA (hF1 u) _ _ _ Aa) 13 _ rfl
   have fz_0 := fun u => zC (zA (hF1 u) _ _ _ Ac) 0 _ rfl
   have fz_1 := fun u => zC (zA (hF1 u) _ _ _ Ac) 1 _ rfl
   have fb_0 := fun u => zC (zA (hF1 u) _ _ _ Ab) 0 _ rfl
   have fb_1 := fun u => zC (zA (hF1 u) _ _ _ Ab) 1 _ rfl
   refine zJ F hF2 (by kernel_rfl) (by kernel_rfl) ?_
   repeat first | go_big_quiet_step (first | (go_at_call 33; exact zN hF1 hF2 (KU.out _)) | fail) | quiet_step (first | (go_at_call 33; exact zN hF1 hF2 (KU.out _)) | fail)
   refine wpQuiet_nil ?_
   rintro _ ⟨uW, rfl⟩
   have B3 := zL B2 (hF1 uW)
   obtain ⟨Ak, Ad, Al⟩ := zZ (hF1 uW) Aa Ac Ab
   obtain ⟨w3, hw⟩ : ∃ V, F uW = V := ⟨_, rfl⟩
   rw [hw] at B3 Ak Ad Al
   try rw [hw]
   clear hw hF1 hF2 B2 fp_0 fp_1 fp_2 fp_3 fp_4 fp_5 fp_6 fp_7 fp_8 fp_9 fp_10 fp_11 fp_12 fp_13 fz_0 fz_1 fb_0 fb_1 Aa Am An Ao Ap Aq Ar As At Au Av Aw Ax Ay Az Ac AA AB Ab AC AD
   clear F
   obtain ⟨AW, AX, AY, AZ, A0, A1, A2, A3, A4, A5, A6, A7, A8, A9⟩ := zD Ak
   obtain ⟨Ba, Bb⟩ := zF Ad
   obtain ⟨Bc, Bd⟩ := zF Al
   have q0 := fz (k := 0) Ad
   have q1 := fz (k := 1) Ad
   obtain ⟨E0, E1⟩ := zM Ad (.int .u64 0) (.int .u64 0)
   go_wp2
   exact bodyPost_ret (v := .tuple #[.agg #[.int .u64 0, .int .u64 0], .int .i64 80]) (by simp [results, Tryz.results107, go_sem, E0, E1]) rfl ⟨rfl, zI B3 (by first | exact Nat.le_refl _ | omega | (skip; omega)) _ _⟩
  ·
   simp only [Bool.false_eq_true, if_false, if_true]
   obtain ⟨Af, Ag, Ah, B0⟩ := yX w (Obj.cells (pt c s X rr) 68) (Obj.cells #[.int .u64 0, .int .u64 0] 25) (Obj.cells #[.int .u64 0, .int .u64 0] 25)
   go_enter Tryz.func107, Tryz.ntmps107
   go_wp2_with fail
   refine (KP.out _).mono ?_
   rintro r w' ⟨rfl, hw'⟩
   obtain rfl := hw'.symm
   go_wp2_with fail
   refine (KI.out _).mono ?_
   rintro r w1 ⟨rfl, b1⟩
   have B1 : Below w.heap.size w w1 := zL B0 b1
   obtain ⟨Ai, Aj, Ae⟩ := zZ b1 Af Ag Ah
   clear b1 B0 Af Ag Ah
   obtain ⟨AE, AF, AG, AH, AI, AJ, AK, AL, AM, AN, AO, AP, AQ, AR⟩ := zD Ai
   obtain ⟨AS, AT⟩ := zF Aj
   obtain ⟨AU, AV⟩ := zF Ae
   have q0_2 := fz (k := 0) Ae
   have q1_2 := fz (k := 1) Ae
   have B2 := zI B1 (show w.heap.size ≤ w.heap.size + 1 + 1 by first | exact Nat.le_refl _ | omega | (skip; omega)) (.int .u64 u) (.int .u64 v)
   have Ab : ((w1.setCell ⟨w.heap.size + 1 + 1, 0, none⟩ (.int .u64 u)).setCell ⟨w.heap.size + 1 + 1, 1, none⟩ (.int .u64 v)).heap[w.heap.size + 1 + 1]? = some (.cells #[.int .u64 u, .int .u64 v] 25) := yE Ae _ _
   have Aa : ((w1.setCell ⟨w.heap.size + 1 + 1, 0, none⟩ (.int .u64 u)).setCell ⟨w.heap.size + 1 + 1, 1, none⟩ (.int .u64 v)).heap[w.heap.size]? = some (.cells (pt c s X rr) 68) := (zB (by first | omega | (skip; omega))).trans ((zB (by first | omega | (skip; omega))).trans Ai)
   have Ac : ((w1.setCell ⟨w.heap.size + 1 + 1, 0, none⟩ (.int .u64 u)).setCell ⟨w.heap.size + 1 + 1, 1, none⟩ (.int .u64 v)).heap[w.heap.size + 1]? = some (.cells #[.int .u64 0, .int .u64 0] 25) := (zB (by first | omega | (skip; omega))).trans ((zB (by first | omega | (skip; omega))).trans Aj)
   obtain ⟨Am, An, Ao, Ap, Aq, Ar, As, At, Au, Av, Aw, Ax, Ay, Az⟩ := zD Aa
   obtain ⟨AA, AB⟩ := zF Ac
   obtain ⟨AC, AD⟩ := zF Ab
   go_wp2_with fail
   obtain ⟨F, hF1, hF2⟩ := zS ((w1.setCell ⟨w.heap.size + 1 + 1, 0, none⟩ (.int .u64 u)).setCell ⟨w.heap.size + 1 + 1, 1, none⟩ (.int .u64 v))
   have fp_0 := fun u => zC (zA (hF1 u) _ _ _ Aa) 0 _ rfl
   have fp_1 := fun u => zC (zA (hF1 u) _ _ _ Aa) 1 _ rfl
   have fp_2 := fun u => zC (zA (hF1 u) _ _ _ Aa) 2 _ rfl
   have fp_3 := fun u => zC (zA (hF1 u) _ _ _ Aa) 3 _ rfl
   have fp_4 := fun u => zC (zA (hF1 u) _ _ _ Aa) 4 _ rfl
   have fp_5 := fun u => zC (zA (hF1 u) _ _ _ Aa) 5 _ rfl
   have fp_6 := fun u => zC (zA (hF1 u) _ _ _ Aa) 6 _ rfl
   have fp_7 := fun u => zC (zA (hF1 u) _ _ _ Aa) 7 _ rfl
   have fp_8 := fun u => zC (zA (hF1 u) _ _ _ Aa) 8 _ rfl
   have fp_9 := fun u => zC (zA (hF1 u) _ _ _ Aa) 9 _ rfl
   have fp_10 := fun u => zC (zA (hF1 u) _ _ _ Aa) 10 _ rfl
   have fp_11 := fun u => zC (zA (hF1 u) _ _ _ Aa) 11 _ rfl
   have fp_12 := fun u => zC (zA (hF1 u) _ _ _ Aa) 12 _ rfl
   have fp_13 := fun u => zC (zA (hF1 u) _ _ _ Aa) 13 _ rfl
   have fz_0 := fun u => zC (zA (hF1 u) _ _ _ Ac) 0 _ rfl
   have fz_1 := fun u => zC (zA (hF1 u) _ _ _ Ac) 1 _ rfl
   have fb_0 := fun u => zC (zA (hF1 u) _ _ _ Ab) 0 _ rfl
   have fb_1 := fun u => zC (zA (hF1 u) _ _ _ Ab) 1 _ rfl
   refine zJ F hF2 (by kernel_rfl) (by kernel_rfl) ?_
   repeat first | go_big_quiet_step (first | (go_at_call 33; exact zN hF1 hF2 (KU.out _)) | fail) | quiet_step (first | (go_at_call 33; exact zN hF1 hF2 (KU.out _)) | fail)
   refine wpQuiet_nil ?_
   rintro _ ⟨uW, rfl⟩
   have B3 := zL B2 (hF1 uW)
   obtain ⟨Ak, Ad, Al⟩ := zZ (hF1 uW) Aa Ac Ab
   obtain ⟨w3, hw⟩ : ∃ V, F uW = V := ⟨_, rfl⟩
   rw [hw] at B3 Ak Ad Al
   try rw [hw]
   clear hw hF1 hF2 B2 fp_0 fp_1 fp_2 fp_3 fp_4 fp_5 fp_6 fp_7 fp_8 fp_9 fp_10 fp_11 fp_12 fp_13 fz_0 fz_1 fb_0 fb_1 Aa Am An Ao Ap Aq Ar As At Au Av Aw Ax Ay Az Ac AA AB Ab AC AD
   clear F
   obtain ⟨AW, AX, AY, AZ, A0, A1, A2, A3, A4, A5, A6, A7, A8, A9⟩ := zD Ak
   obtain ⟨Ba, Bb⟩ := zF Ad
   obtain ⟨Bc, Bd⟩ := zF Al
   have q0 := fz (k := 0) Ad
   have q1 := fz (k := 1) Ad
   obtain ⟨E0, E1⟩ := zM Ad (.int .u64 u) (.int .u64 v)
   go_wp2
   exact bodyPost_ret (v := .tuple #[.agg #[.int .u64 u, .int .u64 v], .int .i64 0]) (by simp [results, Tryz.results107, go_sem, E0, E1]) rfl ⟨rfl, zI B3 (by first | exact Nat.le_refl _ | omega | (skip; omega)) _ _⟩
theorem rpack_z4 (f q X Y : Int) (c s rr u v C S R : Nat) (E : Bool) (w : World)
  (KP : zP (∀ w, Calls Tryz.prog 87 #[.int .u8 f] w fun r w' => r = .returned (.int .i64 q) ∧ w' = w))
  (KU : zP (∀ w, Calls Tryz.prog 33 #[.int .u8 f, .agg #[.int .u64 u, .int .u64 v]] w fun r w' => r = .returned (.agg (pt C S Y R)) ∧ Below w.heap.size w w'))
  (ls : S < Q) (lr : R < Q) (hs : s < Q) (hr : rr < Q) (hE : (decide (C = c) && (decide (S = s) && (decide (Y = X) && decide (R = rr)))) = E)
  (KI : zP (∀ w, Calls Tryz.prog 73 #[.int .u8 f, .bool false] w fun r w' => r = .returned (.agg #[.int .u64 u, .int .u64 v]) ∧ Below w.heap.size w w'))
  (hc : c = 4) : Calls Tryz.prog 107 #[.int .u8 f, .agg (pt c s X rr)] w fun r w' => r = .returned (.tuple #[.agg #[.int .u64 (if E then (u : Int) else 0), .int .u64 (if E then (v : Int) else 0)], .int .i64 (if E then 0 else 80)]) ∧ Below w.heap.size w w' := by
 have hat := zU 6
 have hz := yB
 have hff := z8
 have hs0 := xO
 have hcs : ∀ x, ((cw 6 x).size = 6) = True := fun x => eq_true (zR 6 x)
 have hp1 := xP
 have hp3 := ptz
 have hp4 := yI
 have hp5 : ∀ (c s : Nat) (x : Int) (r : Nat), ((pt c s x r).size = 14) = True := fun _ _ _ _ => eq_true rfl
 have heq := eqp
 have hg := eqgp
 have ha0 := xH
 have ha1 := xD
 have ha2 := xC
 have ha3 := y9
 have ha4 := y8
 have ha5 := y7
 have ha6 := y6
 have ha7 := yZ
 have ha8 := xG
 have ha9 := xF
 have ha10 := yQ
 have ha11 := yP
 have ha12 := yO
 have ha13 := yN
 have hb0 := pt_q0
 have hb1 := pt_q1
 have hb2 := pt_q2
 have hb3 := pt_q3
 have hb4 := pt_q4
 have hb5 := pt_q5
 have hb6 := pt_q6
 have hb7 := pt_q7
 have hb8 := pt_q8
 have hb9 := pt_q9
 have hb10 := pt_q10
 have hb11 := pt_q11
 have hb12 := pt_q12
 have hb13 := pt_q13
 ·
  have f0 : ((c : Int) == 0) = false := by rw [hc]; rfl
  have f7 : ((c : Int) == 7) = false := by rw [hc]; rfl
  have f3 : ((c : Int) == 3) = false := by rw [hc]; rfl
  have f4 : ((c : Int) == 4) = true := by rw [hc]; rfl
  clear hc
  cases E
  ·
   simp only [Bool.false_eq_true, if_false, if_true]
   obtain ⟨Af, Ag, Ah, B0⟩ := yX w (Obj.cells (pt c s X rr) 68) (Obj.cells #[.int .u64 0, .int .u64 0] 25) (Obj.cells #[.int .u64 0, .int .u64 0] 25)
   go_enter Tryz.func107, Tryz.ntmps107
   go_wp2_with fail
   refine (KP.out _).mono ?_
   rintro r w' ⟨rfl, hw'⟩
   obtain rfl := hw'.symm
   go_wp2_with fail
   refine (KI.out _).mono ?_
   rintro r w1 ⟨rfl, b1⟩
   have B1 : Below w.heap.size w w1 := zL B0 b1
   obtain ⟨Ai, Aj, Ae⟩ := zZ b1 Af Ag Ah
   clear b1 B0 Af Ag Ah
   obtain ⟨AE, AF, AG, AH, AI, AJ, AK, AL, AM, AN, AO, AP, AQ, AR⟩ := zD Ai
   obtain ⟨AS, AT⟩ := zF Aj
   obtain ⟨AU, AV⟩ := zF Ae
   have q0_2 := fz (k := 0) Ae
   have q1_2 := fz (k := 1) Ae
   have B2 := zI B1 (show w.heap.size ≤ w.heap.size + 1 + 1 by first | exact Nat.le_refl _ | omega | (skip; omega)) (.int .u64 u) (.int .u64 v)
   have Ab : ((w1.setCell ⟨w.heap.size + 1 + 1, 0, none⟩ (.int .u64 u)).setCell ⟨w.heap.size + 1 + 1, 1, none⟩ (.int .u64 v)).heap[w.heap.size + 1 + 1]? = some (.cells #[.int .u64 u, .int .u64 v] 25) := yE Ae _ _
   have Aa : ((w1.setCell ⟨w.heap.size + 1 + 1, 0, none⟩ (.int .u64 u)).setCell ⟨w.heap.size + 1 + 1, 1, none⟩ (.int .u64 v)).heap[w.heap.size]? = some (.cells (pt c s X rr) 68) := (zB (by first | omega | (skip; omega))).trans ((zB (by first | omega | (skip; omega))).trans Ai)
   have Ac : ((w1.setCell ⟨w.heap.size + 1 + 1, 0, none⟩ (.int .u64 u)).setCell ⟨w.heap.size + 1 + 1, 1, none⟩ (.int .u64 v)).heap[w.heap.size + 1]? = some (.cells #[.int .u64 0, .int .u64 0] 25) := (zB (by first | omega | (skip; omega))).trans ((zB (by first | omega | (skip; omega))).trans Aj)
   obtain ⟨Am, An, Ao, Ap, Aq, Ar, As, At, Au, Av, Aw, Ax, Ay, Az⟩ := zD Aa
   obtain ⟨AA, AB⟩ := zF Ac
   obtain ⟨AC, AD⟩ := zF Ab
   go_wp2_with fail
   obtain ⟨F, hF1, hF2⟩ := zS ((w1.setCell ⟨w.heap.size + 1 + 1, 0, none⟩ (.int .u64 u)).setCell ⟨w.heap.size + 1 + 1, 1, none⟩ (.int .u64 v))
   have fp_0 := fun u => zC (zA (hF1 u) _ _ _ Aa) 0 _ rfl
   have fp_1 := fun u => zC (zA (hF1 u) _ _ _ Aa) 1 _ rfl
   have fp_2 := fun u => zC (zA (hF1 u) _ _ _ Aa) 2 _ rfl
   have fp_3 := fun u => zC (zA (hF1 u) _ _ _ Aa) 3 _ rfl
   have fp_4 := fun u => zC (zA (hF1 u) _ _ _ Aa) 4 _ rfl
   have fp_5 := fun u => zC (zA (hF1 u) _ _ _ Aa) 5 _ rfl
   have fp_6 := fun u => zC (zA (hF1 u) _ _ _ Aa) 6 _ rfl
   have fp_7 := fun u => zC (zA (hF1 u) _ _ _ Aa) 7 _ rfl
   have fp_8 := fun u => zC (zA (hF1 u) _ _ _ Aa) 8 _ rfl
   have fp_9 := fun u => zC (zA (hF1 u) _ _ _ Aa) 9 _ rfl
   have fp_10 := fun u => zC (zA (hF1 u) _ _ _ Aa) 10 _ rfl
   have fp_11 := fun u => zC (zA (hF1 u) _ _ _ Aa) 11 _ rfl
   have fp_12 := fun u => zC (zA (hF1 u) _ _ _ Aa) 12 _ rfl
   have fp_13 := fun u => zC (zA (hF1 u) _ _ _ Aa) 13 _ rfl
   have fz_0 := fun u => zC (zA (hF1 u) _ _ _ Ac) 0 _ rfl
   have fz_1 := fun u => zC (zA (hF1 u) _ _ _ Ac) 1 _ rfl
   have fb_0 := fun u => zC (zA (hF1 u) _ _ _ Ab) 0 _ rfl
   have fb_1 := fun u => zC (zA (hF1 u) _ _ _ Ab) 1 _ rfl
   refine zJ F hF2 (by kernel_rfl) (by kernel_rfl) ?_
   repeat first | go_big_quiet_step (first | (go_at_call 33; exact zN hF1 hF2 (KU.out _)) | fail) | quiet_step (first | (go_at_call 33; exact zN hF1 hF2 (KU.out _)) | fail)
   refine wpQuiet_nil ?_
   rintro _ ⟨uW, rfl⟩
   have B3 := zL B2 (hF1 uW)
   obtain ⟨Ak, Ad, Al⟩ := zZ (hF1 uW) Aa Ac Ab
   obtain ⟨w3, hw⟩ : ∃ V, F uW = V := ⟨_, rfl⟩
   rw [hw] at B3 Ak Ad Al
   try rw [hw]
   clear hw hF1 hF2 B2 fp_0 fp_1 fp_2 fp_3 fp_4 fp_5 fp_6 fp_7 fp_8 fp_9 fp_10 fp_11 fp_12 fp_13 fz_0 fz_1 fb_0 fb_1 Aa Am An Ao Ap Aq Ar As At Au Av Aw Ax Ay Az Ac AA AB Ab AC AD
   clear F
   obtain ⟨AW, AX, AY, AZ, A0, A1, A2, A3, A4, A5, A6, A7, A8, A9⟩ := zD Ak
   obtain ⟨Ba, Bb⟩ := zF Ad
   obtain ⟨Bc, Bd⟩ := zF Al
   have q0 := fz (k := 0) Ad
   have q1 := fz (k := 1) Ad
   obtain ⟨E0, E1⟩ := zM Ad (.int .u64 0) (.int .u64 0)
   go_wp2
   exact bodyPost_ret (v := .tuple #[.agg #[.int .u64 0, .int .u64 0], .int .i64 80]) (by simp [results, Tryz.results107, go_sem, E0, E1]) rfl ⟨rfl, zI B3 (by first | exact Nat.le_refl _ | omega | (skip; omega)) _ _⟩
  ·
   simp only [Bool.false_eq_true, if_false, if_true]
   obtain ⟨Af, Ag, Ah, B0⟩ := yX w (Obj.cells (pt c s X rr) 68) (Obj.cells #[.int .u64 0, .int .u64 0] 25) (Obj.cells #[.int .u64 0, .int .u64 0] 25)
   go_enter Tryz.func107, Tryz.ntmps107
   go_wp2_with fail
   refine (KP.out _).mono ?_
   rintro r w' ⟨rfl, hw'⟩
   obtain rfl := hw'.symm
   go_wp2_with fail
   refine (KI.out _).mono ?_
   rintro r w1 ⟨rfl, b1⟩
   have B1 : Below w.heap.size w w1 := zL B0 b1
   obtain ⟨Ai, Aj, Ae⟩ := zZ b1 Af Ag Ah
   clear b1 B0 Af Ag Ah
   obtain ⟨AE, AF, AG, AH, AI, AJ, AK, AL, AM, AN, AO, AP, AQ, AR⟩ := zD Ai
   obtain ⟨AS, AT⟩ := zF Aj
   obtain ⟨AU, AV⟩ := zF Ae
   have q0_2 := fz (k := 0) Ae
   have q1_2 := fz (k := 1) Ae
   have B2 := zI B1 (show w.heap.size ≤ w.heap.size + 1 + 1 by first | exact Nat.le_refl _ | omega | (skip; omega)) (.int .u64 u) (.int .u64 v)
   have Ab : ((w1.setCell ⟨w.heap.size + 1 + 1, 0, none⟩ (.int .u64 u)).setCell ⟨w.heap.size + 1 + 1, 1, none⟩ (.int .u64 v)).heap[w.heap.size + 1 + 1]? = some (.cells #[.int .u64 u, .int .u64 v] 25) := yE Ae _ _
   have Aa : ((w1.setCell ⟨w.heap.size + 1 + 1, 0, none⟩ (.int .u64 u)).setCell ⟨w.heap.size + 1 + 1, 1, none⟩ (.int .u64 v)).heap[w.heap.size]? = some (.cells (pt c s X rr) 68) := (zB (by first | omega | (skip; omega))).trans ((zB (by first | omega | (skip; omega))).trans Ai)
   have Ac : ((w1.setCell ⟨w.heap.size + 1 + 1, 0, none⟩ (.int .u64 u)).setCell ⟨w.heap.size + 1 + 1, 1, none⟩ (.int .u64 v)).heap[w.heap.size + 1]? = some (.cells #[.int .u64 0, .int .u64 0] 25) := (zB (by first | omega | (skip; omega))).trans ((zB (by first | omega | (skip; omega))).trans Aj)
   obtain ⟨Am, An, Ao, Ap, Aq, Ar, As, At, Au, Av, Aw, Ax, Ay, Az⟩ := zD Aa
   obtain ⟨AA, AB⟩ := zF Ac
   obtain ⟨AC, AD⟩ := zF Ab
   go_wp2_with fail
   obtain ⟨F, hF1, hF2⟩ := zS ((w1.setCell ⟨w.heap.size + 1 + 1, 0, none⟩ (.int .u64 u)).setCell ⟨w.heap.size + 1 + 1, 1, none⟩ (.int .u64 v))
   have fp_0 := fun u => zC (zA (hF1 u) _ _ _ Aa) 0 _ rfl
   have fp_1 := fun u => zC (zA (hF1 u) _ _ _ Aa) 1 _ rfl
   have fp_2 := fun u => zC (zA (hF1 u) _ _ _ Aa) 2 _ rfl
   have fp_3 := fun u => zC (zA (hF1 u) _ _ _ Aa) 3 _ rfl
   have fp_4 := fun u => zC (zA (hF1 u) _ _ _ Aa) 4 _ rfl
   have fp_5 := fun u => zC (zA (hF1 u) _ _ _ Aa) 5 _ rfl
   have fp_6 := fun u => zC (zA (hF1 u) _ _ _ Aa) 6 _ rfl
   have fp_7 := fun u => zC (zA (hF1 u) _ _ _ Aa) 7 _ rfl
   have fp_8 := fun u => zC (zA (hF1 u) _ _ _ Aa) 8 _ rfl
   have fp_9 := fun u => zC (zA (hF1 u) _ _ _ Aa) 9 _ rfl
   have fp_10 := fun u => zC (zA (hF1 u) _ _ _ Aa) 10 _ rfl
   have fp_11 := fun u => zC (zA (hF1 u) _ _ _ Aa) 11 _ rfl
   have fp_12 := fun u => zC (zA (hF1 u) _ _ _ Aa) 12 _ rfl
   have fp_13 := fun u => zC (zA (hF1 u) _ _ _ Aa) 13 _ rfl
   have fz_0 := fun u => zC (zA (hF1 u) _ _ _ Ac) 0 _ rfl
   have fz_1 := fun u => zC (zA (hF1 u) _ _ _ Ac) 1 _ rfl
   have fb_0 := fun u => zC (zA (hF1 u) _ _ _ Ab) 0 _ rfl
   have fb_1 := fun u => zC (zA (hF1 u) _ _ _ Ab) 1 _ rfl
   refine zJ F hF2 (by kernel_rfl) (by kernel_rfl) ?_
   repeat first | go_big_quiet_step (first | (go_at_call 33; exact zN hF1 hF2 (KU.out _)) | fail) | quiet_step (first | (go_at_call 33; exact zN hF1 hF2 (KU.out _)) | fail)
   refine wpQuiet_nil ?_
   rintro _ ⟨uW, rfl⟩
   have B3 := zL B2 (hF1 uW)
   obtain ⟨Ak, Ad, Al⟩ := zZ (hF1 uW) Aa Ac Ab
   obtain ⟨w3, hw⟩ : ∃ V, F uW = V := ⟨_, rfl⟩
   rw [hw] at B3 Ak Ad Al
   try rw [hw]
   clear hw hF1 hF2 B2 fp_0 fp_1 fp_2 fp_3 fp_4 fp_5 fp_6 fp_7 fp_8 fp_9 fp_10 fp_11 fp_12 fp_13 fz_0 fz_1 fb_0 fb_1 Aa Am An Ao Ap Aq Ar As At Au Av Aw Ax Ay Az Ac AA AB Ab AC AD
   clear F
   obtain ⟨AW, AX, AY, AZ, A0, A1, A2, A3, A4, A5, A6, A7, A8, A9⟩ := zD Ak
   obtain ⟨Ba, Bb⟩ := zF Ad
   obtain ⟨Bc, Bd⟩ := zF Al
   have q0 := fz (k := 0) Ad
   have q1 := fz (k := 1) Ad
   obtain ⟨E0, E1⟩ := zM Ad (.int .u64 u) (.int .u64 v)
   go_wp2
   exact bodyPost_ret (v := .tuple #[.agg #[.int .u64 u, .int .u64 v], .int .i64 0]) (by simp [results, Tryz.results107, go_sem, E0, E1]) rfl ⟨rfl, zI B3 (by first | exact Nat.le_refl _ | omega | (skip; omega)) _ _⟩
end Go.Proofs.YtkblmpmkchkpjaaGreatDoor
