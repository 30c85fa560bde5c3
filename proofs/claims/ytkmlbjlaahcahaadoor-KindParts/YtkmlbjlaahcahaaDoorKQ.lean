/-
  The document's Pack, whole.
-/
import Derived.Test.YtkmlbjlaahcahaaDoorKO
namespace Go.Proofs.YtkmlbjlaahcahaaDoor
open Go.RowKit WMath
set_option linter.unusedSimpArgs false
set_option linter.unusedVariables false

theorem rk_inf (f : Int) (neg : Bool) (hf : Is4 f) (u v : Nat) (hv : bv7 (eInf f neg) = (u, v)) (w : World) : Calls Tryd.prog 29 #[.int .u8 f, .bool neg] w fun r w' => r = .returned (.agg #[.int .u64 (u : Nat), .int .u64 (v : Nat)]) ∧ Below w.heap.size w w' := by
  have := r_inf f neg hf _ rfl w
  rw [hv] at this
  exact this
theorem rk_zero (f : Int) (neg : Bool) (hf : Is4 f) (u v : Nat) (hv : bv7 (eZero f neg) = (u, v)) (w : World) : Calls Tryd.prog 30 #[.int .u8 f, .bool neg] w fun r w' => r = .returned (.agg #[.int .u64 (u : Nat), .int .u64 (v : Nat)]) ∧ Below w.heap.size w w' := by
  have := r_zero f neg hf _ rfl w
  rw [hv] at this
  exact this
set_option maxHeartbeats 1000000 in
theorem rPack_is (f : Int) (hf : Is4 f) (c s rr u v m : Nat) (X e : Int) (hs : s < Q) (hr : rr < Q) (x1 : -9223372036854775808 ≤ X) (x2 : X ≤ 9223372036854775807) (hp : pk f (c, s, X, rr) = (m, e)) (hv : bv7 m = (u, v)) (w : World) :
    Calls Tryd.prog 12 #[.int .u8 f, .agg (pt c s X rr)] w fun r w' => r = .returned (.tuple #[.agg #[.int .u64 (u : Nat), .int .u64 (v : Nat)], .int .i64 e]) ∧ Below w.heap.size w w' := by
  have f4 := is4_ok hf
  obtain ⟨g1, g2, g3, g4, g5, g6, g7⟩ := fm hf
  obtain ⟨m1, m2, m3, m4, m5, m6, m7, m8, m9, m10, m11, m12, m13⟩ := em_lim hf
  obtain ⟨n1, n2⟩ := nm hf
  obtain ⟨p1, p2, p3, p4, _⟩ := pV_lim hf
  have hz := Nat.two_pow_pos (pV f)
  have KP : Box (∀ w, Calls Tryd.prog 20 #[.int .u8 f] w fun r w' => r = .returned (.int .i64 (fP f)) ∧ w' = w) := box (fun w => r_precision f _ f4.1 rfl w)
  have KE : Box (∀ w, Calls Tryd.prog 21 #[.int .u8 f] w fun r w' => r = .returned (.int .i64 (1 - fE f)) ∧ w' = w) := box (fun w => r_emin f _ _ f4.1 rfl m5 w)
  have KX : Box (∀ w, Calls Tryd.prog 25 #[.int .u8 f] w fun r w' => r = .returned (.int .i64 (fE f)) ∧ w' = w) := box (fun w => r_emax f _ f4.1 rfl w)
  have KO : Box (∀ w, Calls Tryd.prog 18 #[.int .u8 f] w fun r w' => r = .returned (.int .i64 ((oV f : Nat) : Int)) ∧ w' = w) := box (fun w => r_ones f _ _ f4.1 rfl m6 w)
  have KU : ∀ N a b, Fit f N → bv7 N = (a, b) → Box (∀ w, Calls Tryd.prog 8 #[.int .u8 f, .agg #[.int .u64 (a : Nat), .int .u64 (b : Nat)]] w fun r w' => r = .returned (.agg (pt (kC f N) (kS f N) (kX f N) (kF f N))) ∧ Below w.heap.size w w') := fun N a b fit hab => box (fun w => by
    obtain ⟨a1, b1, ab⟩ := bv_lt (by unfold Fit at fit; omega) hab
    exact rUnpack_is f hf a b N a1 b1 ab fit w)
  have QL := fun N => kS_lt hf N
  have lenS : ∀ z, z < Q → Box (∀ w, Calls Tryd.prog 31 #[.agg (cw 6 z)] w fun r w' => r = .returned (.int .i64 ((blen z : Nat) : Int)) ∧ Below w.heap.size w w') := fun z hz => box (fun w => rwlen_any z hz w)
  have bl : ∀ z, blen z ≤ pV f ↔ z < 2 ^ pV f := fun z => blen_iff z _
  have bl1 : ∀ z, blen z ≤ pV f + 1 ↔ z < 2 * 2 ^ pV f := fun z => by rw [blen_iff, Nat.pow_succ, Nat.mul_comm]
  have fin : ∀ N a b, cand f c s X rr = some N → bv7 N = (a, b) → (∀ E, (decide (kC f N = c) && (decide (kS f N = s) && (decide (kX f N = X) && decide (kF f N = rr)))) = E → Calls Tryd.prog 12 #[.int .u8 f, .agg (pt c s X rr)] w fun r w' => r = .returned (.tuple #[.agg #[.int .u64 (if E = true then (a : Int) else 0), .int .u64 (if E = true then (b : Int) else 0)], .int .i64 (if E = true then 0 else 80)]) ∧ Below w.heap.size w w') → Calls Tryd.prog 12 #[.int .u8 f, .agg (pt c s X rr)] w fun r w' => r = .returned (.tuple #[.agg #[.int .u64 (u : Nat), .int .u64 (v : Nat)], .int .i64 e]) ∧ Below w.heap.size w w' := by
    intro N a b hc hab hE
    obtain ⟨e1, e2, e3⟩ := pk_fin hf hp hv hc hab rfl
    have k := hE _ rfl
    rw [e1, e2, e3] at k
    exact k
  have noo : cand f c s X rr = none → (Calls Tryd.prog 12 #[.int .u8 f, .agg (pt c s X rr)] w fun r w' => r = .returned (.tuple #[.agg #[.int .u64 0, .int .u64 0], .int .i64 80]) ∧ Below w.heap.size w w') → Calls Tryd.prog 12 #[.int .u8 f, .agg (pt c s X rr)] w fun r w' => r = .returned (.tuple #[.agg #[.int .u64 (u : Nat), .int .u64 (v : Nat)], .int .i64 e]) ∧ Below w.heap.size w w' := by
    intro hc k
    obtain ⟨rfl, rfl, rfl⟩ := pk_ref hf hp hv hc
    exact k
  obtain ⟨N, hN⟩ : ∃ N, cand f c s X rr = N := ⟨_, rfl⟩
  by_cases c0 : c = 0
  · have hc : cand f c s X rr = some (eInf f true) := by unfold cand; rw [if_pos c0]
    obtain ⟨a, b, hab⟩ : ∃ a b, bv7 (eInf f true) = (a, b) := ⟨_, _, rfl⟩
    exact fin _ a b hc hab (fun E hE => rpack_i0 f (fP f) X _ c s rr a b _ _ _ E w KP (KU _ a b (cand_fit hf hc).1 hab) (QL _).1 (QL _).2 hs hr hE (box (fun w => rk_inf f true hf a b hab w)) c0)
  by_cases c7 : c = 7
  · have hc : cand f c s X rr = some (eInf f false) := by unfold cand; rw [if_neg c0, if_pos c7]
    obtain ⟨a, b, hab⟩ : ∃ a b, bv7 (eInf f false) = (a, b) := ⟨_, _, rfl⟩
    exact fin _ a b hc hab (fun E hE => rpack_i7 f (fP f) X _ c s rr a b _ _ _ E w KP (KU _ a b (cand_fit hf hc).1 hab) (QL _).1 (QL _).2 hs hr hE (box (fun w => rk_inf f false hf a b hab w)) c7)
  by_cases c3 : c = 3
  · have hc : cand f c s X rr = some (eZero f true) := by unfold cand; rw [if_neg c0, if_neg c7, if_pos c3]
    obtain ⟨a, b, hab⟩ : ∃ a b, bv7 (eZero f true) = (a, b) := ⟨_, _, rfl⟩
    exact fin _ a b hc hab (fun E hE => rpack_z3 f (fP f) X _ c s rr a b _ _ _ E w KP (KU _ a b (cand_fit hf hc).1 hab) (QL _).1 (QL _).2 hs hr hE (box (fun w => rk_zero f true hf a b hab w)) c3)
  by_cases c4 : c = 4
  · have hc : cand f c s X rr = some (eZero f false) := by unfold cand; rw [if_neg c0, if_neg c7, if_neg c3, if_pos c4]
    obtain ⟨a, b, hab⟩ : ∃ a b, bv7 (eZero f false) = (a, b) := ⟨_, _, rfl⟩
    exact fin _ a b hc hab (fun E hE => rpack_z4 f (fP f) X _ c s rr a b _ _ _ E w KP (KU _ a b (cand_fit hf hc).1 hab) (QL _).1 (QL _).2 hs hr hE (box (fun w => rk_zero f false hf a b hab w)) c4)
  by_cases c8 : c = 8 ∨ c = 9
  · by_cases hl : rr < 2 ^ pV f
    · have hc : cand f c s X rr = some (enc7 f false (oV f) rr) := by unfold cand; rw [if_neg c0, if_neg c7, if_neg c3, if_neg c4, if_pos c8, if_pos hl]
      obtain ⟨a, b, hab⟩ : ∃ a b, bv7 (enc7 f false (oV f) rr) = (a, b) := ⟨_, _, rfl⟩
      exact fin _ a b hc hab (fun E hE => rpack_nan f (fP f) X _ c s rr a b _ _ _ E (blen rr) (oV f) (pV f) w KP (KU _ a b (cand_fit hf hc).1 hab) (QL _).1 (QL _).2 hs hr hE (lenS rr hr) p2 (decide_eq_false (by have := (bl rr).2 hl; omega)) KO (box (fun w => rk_enc f false (oV f) rr _ a b hf hl (Nat.le_refl _) rfl hab w)) c8)
    · have hc : cand f c s X rr = none := by unfold cand; rw [if_neg c0, if_neg c7, if_neg c3, if_neg c4, if_pos c8, if_neg hl]
      exact noo hc (rpack_xn f (fP f) X c s rr (blen rr) (pV f) w KP (lenS rr hr) p2 (decide_eq_true (by have := bl rr; omega)) c8)
  by_cases c2 : c = 2 ∨ c = 5
  · by_cases hl : s < 2 ^ pV f
    · have hc : cand f c s X rr = some (enc7 f (decide (c = 2)) 0 s) := by unfold cand; rw [if_neg c0, if_neg c7, if_neg c3, if_neg c4, if_neg c8, if_pos c2, if_pos hl]
      obtain ⟨a, b, hab⟩ : ∃ a b, bv7 (enc7 f (decide (c = 2)) 0 s) = (a, b) := ⟨_, _, rfl⟩
      have hl2 : decide (((pV f : Nat) : Int) < ((blen s : Nat) : Int)) = false := decide_eq_false (by have := (bl s).2 hl; omega)
      refine fin _ a b hc hab (fun E hE => ?_)
      rcases c2 with c2 | c2
      · exact rpack_s2 f (fP f) X _ c s rr a b _ _ _ E (blen s) (pV f) w KP (KU _ a b (cand_fit hf hc).1 hab) (QL _).1 (QL _).2 hs hr hE (lenS s hs) p2 hl2 (box (fun w => rk_enc f true 0 s _ a b hf hl (Nat.zero_le _) (by rw [decide_eq_true c2]) hab w)) c2
      · exact rpack_s5 f (fP f) X _ c s rr a b _ _ _ E (blen s) (pV f) w KP (KU _ a b (cand_fit hf hc).1 hab) (QL _).1 (QL _).2 hs hr hE (lenS s hs) p2 hl2 (box (fun w => rk_enc f false 0 s _ a b hf hl (Nat.zero_le _) (by rw [decide_eq_false (by omega)]) hab w)) c2
    · have hc : cand f c s X rr = none := by unfold cand; rw [if_neg c0, if_neg c7, if_neg c3, if_neg c4, if_neg c8, if_pos c2, if_neg hl]
      exact noo hc (rpack_xs f (fP f) X c s rr (blen s) (pV f) w KP (lenS s hs) p2 (decide_eq_true (by have := bl s; omega)) c2)
  by_cases c1 : c = 1 ∨ c = 6
  · have b0 := bl s
    have b1 := bl1 s
    by_cases hl : (2 ^ pV f ≤ s ∧ s < 2 * 2 ^ pV f) ∧ lx f ≤ X ∧ X ≤ fE f - (pV f : Int)
    · have hc : cand f c s X rr = some (enc7 f (decide (c = 1)) (X - lx f + 1).toNat (s % 2 ^ pV f)) := by unfold cand; rw [if_neg c0, if_neg c7, if_neg c3, if_neg c4, if_neg c8, if_neg c2, if_pos c1, if_pos hl]
      obtain ⟨a, b, hab⟩ : ∃ a b, bv7 (enc7 f (decide (c = 1)) (X - lx f + 1).toNat (s % 2 ^ pV f)) = (a, b) := ⟨_, _, rfl⟩
      have e1 : (((blen s : Nat) : Int) != fP f) = false := by simp; omega
      have e2 : decide (X < lx f) = false := decide_eq_false (by omega)
      have e3 : decide (fE f - (pV f : Int) < X) = false := decide_eq_false (by omega)
      have h6 : IntKind.i64.wrap (X - lx f) = X - lx f := by rw [IntKind.wrap_i64]; omega
      have h7 : IntKind.i64.wrap (X - lx f + 1) = (((X - lx f + 1).toNat : Nat) : Int) := by rw [IntKind.wrap_i64]; omega
      have KM : Box (∀ w, Calls Tryd.prog 34 #[.int .i64 (pV f : Nat)] w fun r w' => r = .returned (.agg (cw 6 (2 ^ pV f - 1))) ∧ Below w.heap.size w w') := box (fun w => rwmask_is _ _ (by rw [cnt_k8 (by omega)]) w)
      have KA : Box (∀ w, Calls Tryd.prog 33 #[.agg (cw 6 s), .agg (cw 6 (2 ^ pV f - 1))] w fun r w' => r = .returned (.agg (cw 6 (s % 2 ^ pV f))) ∧ Below w.heap.size w w') := box (fun w => rwand_is s _ _ hs (Nat.and_two_pow_sub_one_eq_mod _ _) w)
      have hev : (X - lx f + 1).toNat ≤ oV f := by omega
      refine fin _ a b hc hab (fun E hE => ?_)
      rcases c1 with c1 | c1
      · exact rpack_n1 f (fP f) X _ c s rr a b _ _ _ E (blen s) (s % 2 ^ pV f) (2 ^ pV f - 1) (X - lx f + 1).toNat (pV f) (1 - fE f) (fE f) (lx f) (fE f - (pV f : Int)) w KP (KU _ a b (cand_fit hf hc).1 hab) (QL _).1 (QL _).2 hs hr hE (lenS s hs) p2 KE m1 m2 KX m3 m4 e1 e2 e3 KM KA h6 h7 (box (fun w => rk_enc f true _ _ _ a b hf (Nat.mod_lt _ hz) hev (by rw [decide_eq_true c1]) hab w)) c1
      · exact rpack_n6 f (fP f) X _ c s rr a b _ _ _ E (blen s) (s % 2 ^ pV f) (2 ^ pV f - 1) (X - lx f + 1).toNat (pV f) (1 - fE f) (fE f) (lx f) (fE f - (pV f : Int)) w KP (KU _ a b (cand_fit hf hc).1 hab) (QL _).1 (QL _).2 hs hr hE (lenS s hs) p2 KE m1 m2 KX m3 m4 e1 e2 e3 KM KA h6 h7 (box (fun w => rk_enc f false _ _ _ a b hf (Nat.mod_lt _ hz) hev (by rw [decide_eq_false (by omega)]) hab w)) c1
    · have hc : cand f c s X rr = none := by unfold cand; rw [if_neg c0, if_neg c7, if_neg c3, if_neg c4, if_neg c8, if_neg c2, if_pos c1, if_neg hl]
      refine noo hc (rpack_xm f (fP f) X c s rr (blen s) (pV f) (1 - fE f) (fE f) (lx f) (fE f - (pV f : Int)) w KP (lenS s hs) p2 KE m1 m2 KX m3 m4 ?_ c1)
      by_cases q1 : ((blen s : Nat) : Int) = fP f
      · have e1 : (((blen s : Nat) : Int) != fP f) = false := by simp [q1]
        by_cases q2 : X < lx f
        · exact Or.inr (Or.inl ⟨e1, decide_eq_true q2⟩)
        · exact Or.inr (Or.inr ⟨e1, decide_eq_false q2, decide_eq_true (by omega)⟩)
      · exact Or.inl (by simp [q1])
  · have hc : cand f c s X rr = none := by unfold cand; rw [if_neg c0, if_neg c7, if_neg c3, if_neg c4, if_neg c8, if_neg c2, if_neg c1]
    exact noo hc (rpack_xd f (fP f) X c s rr w KP (by omega))
end Go.Proofs.YtkmlbjlaahcahaaDoor
