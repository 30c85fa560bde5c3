/-
  Package shape: of no format the zero bits; some answers that the document fixes; which encodings fit, by the length of the number.
-/
import Derived.Test.YtkmlbjlaahcahaaDoorS5
namespace Go.Proofs.YtkmlbjlaahcahaaDoor
open Go.RowKit WMath
set_option linter.unusedVariables false

theorem no7 {f : Int} (h : 3 < f) : fC f = 2 ∧ fW f = 0 ∧ fP f = 0 ∧ fE f = 0 := by
  refine ⟨?_, ?_, ?_, ?_⟩
  · unfold fC; rw [if_neg (by omega)]
  · unfold fW; rw [if_neg (by omega), if_neg (by omega), if_neg (by omega), if_neg (by omega)]
  · unfold fP; rw [if_neg (by omega), if_neg (by omega), if_neg (by omega), if_neg (by omega)]
  · unfold fE; rw [if_neg (by omega), if_neg (by omega), if_neg (by omega), if_neg (by omega)]
theorem is4_of {f : Int} (h0 : 0 ≤ f) (h : f ≤ 3) : Is4 f := by unfold Is4; omega


theorem n_inf (f : Int) (neg : Bool) (h0 : 0 ≤ f) (h1 : f ≤ 255) (h : 3 < f) (w : World) (hT : FAt w) :
    Calls Tryd.prog 39 #[.int .u8 f, .bool neg] w fun e w' => e = .returned (bitsV (0, 0)) ∧ Below w.heap.size w w' := by
  have N := no7 h
  have TT := box hT
  have e0 : bitsV (0, 0) = .agg #[.int .u64 0, .int .u64 0] := rfl
  rw [e0]
  clear hT e0
  have R0 : (w.alloc (.cells #[.int .u64 0, .int .u64 0] 25)).heap[w.heap.size]? = some (.cells #[.int .u64 0, .int .u64 0] 25) := last7 _ _
  have B0 := bal7 w (.cells #[.int .u64 0, .int .u64 0] 25)
  go_enter Tryd.func39, Tryd.ntmps39
  go_wp2_with fail
  refine (s_top f 0 0 0 0 h0 h1 N.2.1 N.2.2.1 (by decide) (by decide) (by decide +kernel) _ (fatB TT.out B0)).mono ?_
  rintro r w1 ⟨rfl, b1⟩
  have B1 := btr7 B0 b1
  have R1 := heap_of b1 _ _ _ R0
  clear B0 R0 b1
  go_wp2_with fail
  refine (s_pack_no f neg _ _ _ h0 h1 N.1 _).mono ?_
  rintro r w2 ⟨rfl, b2⟩
  have B2 := btr7 B1 b2
  have R2 := heap_of b2 _ _ _ R1
  clear B1 R1 b2
  have q0 := fz (k := 0) R2
  have q1 := fz (k := 1) R2
  have d0 := cell7 R2 0 _ rfl
  have d1 := cell7 R2 1 _ rfl
  obtain ⟨E0, E1⟩ := set2_cells R2 (.int .u64 0) (.int .u64 0)
  go_wp2
  exact bodyPost_ret (v := .agg #[.int .u64 0, .int .u64 0]) (by simp [results, Tryd.results39, go_sem, E0, E1]) rfl ⟨rfl, set2_below B2 (by omega) _ _⟩

theorem n_zero (f : Int) (neg : Bool) (h0 : 0 ≤ f) (h1 : f ≤ 255) (h : 3 < f) (w : World) (hT : FAt w) :
    Calls Tryd.prog 55 #[.int .u8 f, .bool neg] w fun e w' => e = .returned (bitsV (0, 0)) ∧ Below w.heap.size w w' := by
  have N := no7 h
  have TT := box hT
  have e0 : bitsV (0, 0) = .agg #[.int .u64 0, .int .u64 0] := rfl
  rw [e0]
  clear hT e0
  have R0 : (w.alloc (.cells #[.int .u64 0, .int .u64 0] 25)).heap[w.heap.size]? = some (.cells #[.int .u64 0, .int .u64 0] 25) := last7 _ _
  have B0 := bal7 w (.cells #[.int .u64 0, .int .u64 0] 25)
  go_enter Tryd.func55, Tryd.ntmps55
  go_wp2_with fail
  refine (s_pack_no f neg _ _ _ h0 h1 N.1 _).mono ?_
  rintro r w1 ⟨rfl, b1⟩
  have B1 := btr7 B0 b1
  have R1 := heap_of b1 _ _ _ R0
  clear B0 R0 b1
  have q0 := fz (k := 0) R1
  have q1 := fz (k := 1) R1
  have d0 := cell7 R1 0 _ rfl
  have d1 := cell7 R1 1 _ rfl
  obtain ⟨E0, E1⟩ := set2_cells R1 (.int .u64 0) (.int .u64 0)
  go_wp2
  exact bodyPost_ret (v := .agg #[.int .u64 0, .int .u64 0]) (by simp [results, Tryd.results55, go_sem, E0, E1]) rfl ⟨rfl, set2_below B1 (by omega) _ _⟩

theorem blen_iff (n W : Nat) : blen n ≤ W ↔ n < 2 ^ W := by
  constructor
  · intro h
    exact Nat.lt_of_lt_of_le (blen_lt n) (Nat.pow_le_pow_right (by decide) h)
  · exact blen_le_of n W

/-- Two words' bits above a width, and the length of the number. -/
theorem fit7 (f : Int) (hf : Is4 f) (b1 b2 : Nat) (hb1 : b1 < 18446744073709551616) (hb2 : b2 < 18446744073709551616) :
    ((bits .andNot .u64 (b1 : Int) (oHi f) == 0) && (bits .andNot .u64 (b2 : Int) (oLo f) == 0)) = decide (((blen (b2 + 18446744073709551616 * b1) : Nat) : Int) ≤ fW f) := by
  have key : ∀ (c d W : Nat) (K M : Nat), c ≤ 64 → d ≤ 64 → 2 ^ c - 1 = K → 2 ^ d - 1 = M → oHi f = (K : Int) → oLo f = (M : Int) → fW f = (W : Int) →
      ((b1 < 2 ^ c ∧ b2 < 2 ^ d) ↔ b2 + 18446744073709551616 * b1 < 2 ^ W) → ((bits .andNot .u64 (b1 : Int) (oHi f) == 0) && (bits .andNot .u64 (b2 : Int) (oLo f) == 0)) = decide (((blen (b2 + 18446744073709551616 * b1) : Nat) : Int) ≤ fW f) := by
    intro c d W K M hc hd hK hM e1 e2 e3 h
    rw [e1, e2, e3, andnot7 b1 c K hb1 hc hK, andnot7 b2 d M hb2 hd hM]
    have h2 : (((blen (b2 + 18446744073709551616 * b1) : Nat) : Int) ≤ (W : Int)) ↔ (b1 < 2 ^ c ∧ b2 < 2 ^ d) := by
      rw [h, ← blen_iff]; omega
    rw [← Bool.decide_and]
    exact decide_eq_decide.2 h2.symm
  rcases hf with rfl | rfl | rfl | rfl
  · exact key 0 32 32 0 4294967295 (by decide) (by decide) (by decide) (by decide) (by decide +kernel) (by decide +kernel) (by decide +kernel) (by simp only [Nat.reducePow]; omega)
  · exact key 0 64 64 0 18446744073709551615 (by decide) (by decide) (by decide) (by decide) (by decide +kernel) (by decide +kernel) (by decide +kernel) (by simp only [Nat.reducePow]; omega)
  · exact key 0 16 16 0 65535 (by decide) (by decide) (by decide) (by decide) (by decide +kernel) (by decide +kernel) (by decide +kernel) (by simp only [Nat.reducePow]; omega)
  · exact key 64 64 128 18446744073709551615 18446744073709551615 (by decide) (by decide) (by decide) (by decide) (by decide +kernel) (by decide +kernel) (by decide +kernel) (by simp only [Nat.reducePow]; omega)

/-- Does it fit? -/
def fitsB (f : Int) (b : Nat × Nat) : Bool := decide (f ≤ 3) && decide (((blen (b.2 + 18446744073709551616 * b.1) : Nat) : Int) ≤ fW f)
theorem s_fits_is (f : Int) (b : Nat × Nat) (o : Bool) (h0 : 0 ≤ f) (h1 : f ≤ 255) (hb1 : b.1 < 18446744073709551616) (hb2 : b.2 < 18446744073709551616) (ho : fitsB f b = o) (w : World) (hT : FAt w) :
    Calls Tryd.prog 13 #[.int .u8 f, bitsV b] w fun e w' => e = .returned (.bool o) ∧ Below w.heap.size w w' := by
  by_cases h : f ≤ 3
  · refine s_fits f b o (is4_of h0 h) hb1 hb2 _ _ rfl rfl ?_ w hT
    rw [fit7 f (is4_of h0 h) b.1 b.2 hb1 hb2, ← ho]
    unfold fitsB
    rw [decide_eq_true h, Bool.true_and]
  · have e : o = false := by rw [← ho]; unfold fitsB; rw [decide_eq_false h, Bool.false_and]
    subst e
    exact s_fits_no f b h0 h1 (no7 (by omega)).1 w hT
theorem r_fits_is (f : Int) (b : Nat × Nat) (o : Bool) (h0 : 0 ≤ f) (hb1 : b.1 < 18446744073709551616) (hb2 : b.2 < 18446744073709551616) (ho : fitsB f b = o) (w : World) :
    Calls Tryd.prog 16 #[.int .u8 f, bitsV b] w fun e w' => e = .returned (.bool o) ∧ Below w.heap.size w w' := by
  by_cases h : f ≤ 3
  · refine r_fits f _ b _ _ o h0 h rfl hb1 hb2 rfl rfl ?_ w
    rw [← ho]
    unfold fitsB
    rw [decide_eq_true h, Bool.true_and]
  · have e : o = false := by rw [← ho]; unfold fitsB; rw [decide_eq_false h, Bool.false_and]
    subst e
    exact r_fits_no f b h w

theorem sb_width (f v : Int) (h0 : 0 ≤ f) (h1 : f ≤ 255) (hv : fW f = v) (w : World) (hT : FAt w) :
    Calls Tryd.prog 36 #[.int .u8 f] w fun e w' => e = .returned (.int .i64 v) ∧ Below w.heap.size w w' :=
  (s_width f v h0 h1 hv w hT).mono (fun _ _ h => ⟨h.1, by rw [h.2]; exact bal7 _ _⟩)
theorem sb_precision (f v : Int) (h0 : 0 ≤ f) (h1 : f ≤ 255) (hv : fP f = v) (w : World) (hT : FAt w) :
    Calls Tryd.prog 47 #[.int .u8 f] w fun e w' => e = .returned (.int .i64 v) ∧ Below w.heap.size w w' :=
  (s_precision f v h0 h1 hv w hT).mono (fun _ _ h => ⟨h.1, by rw [h.2]; exact bal7 _ _⟩)
theorem sb_emax (f v : Int) (h0 : 0 ≤ f) (h1 : f ≤ 255) (hv : fE f = v) (w : World) (hT : FAt w) :
    Calls Tryd.prog 74 #[.int .u8 f] w fun e w' => e = .returned (.int .i64 v) ∧ Below w.heap.size w w' :=
  (s_emax f v h0 h1 hv w hT).mono (fun _ _ h => ⟨h.1, by rw [h.2]; exact bal7 _ _⟩)
/-- What a round keeps: the two lists, the sign bit, and a sum in a box. -/
def R9 (w : World) (gl gk gs : Nat) (cl ck : Array Value) (S M : Nat) (g : Nat) (w5 : World) : Prop :=
  Below w.heap.size w w5 ∧ w5.heap[gl]? = some (.cells cl 25) ∧ w5.heap[gk]? = some (.cells ck 25) ∧ w5.heap[gs]? = some (.cells (cw 6 S) 28) ∧ w5.heap[g]? = some (.cells (cw 6 M) 28)
theorem r9_dr {w : World} {gl gk gs : Nat} {cl ck : Array Value} {S M g : Nat} {W : World} (h : R9 w gl gk gs cl ck S M g W) : R9 w gl gk gs cl ck S M g W.drew := ⟨bel_dr h.1, h.2⟩
theorem r9_al {w : World} {gl gk gs : Nat} {cl ck : Array Value} {S M : Nat} {W : World} (hB : Below w.heap.size w W) (hl : W.heap[gl]? = some (.cells cl 25)) (hk : W.heap[gk]? = some (.cells ck 25)) (hs : W.heap[gs]? = some (.cells (cw 6 S) 28)) :
    R9 w gl gk gs cl ck S M W.heap.size (W.alloc (.cells (cw 6 M) 28)) := ⟨bel_al hB _, row_al hl _, row_al hk _, row_al hs _, last7 _ _⟩
theorem r9_set {w : World} {gl gk gs : Nat} {cl ck : Array Value} {S M g : Nat} {W : World} (hB : Below w.heap.size w W) (hl : W.heap[gl]? = some (.cells cl 25)) (hk : W.heap[gk]? = some (.cells ck 25)) (hs : W.heap[gs]? = some (.cells (cw 6 S) 28)) (ha : W.heap[g]? = some (.cells (cw 6 0) 28))
    (n1 : gl < g) (n2 : gk < g) (n3 : gs < g) (hg : w.heap.size ≤ g) : R9 w gl gk gs cl ck S M g (W.setRow g (cw 6 M)) :=
  ⟨bel_set hB hg, by rw [setRow_other (by omega)]; exact hl, by rw [setRow_other (by omega)]; exact hk, by rw [setRow_other (by omega)]; exact hs, setRow_row ha⟩
theorem genW {X : Act → World → Prop} {a : Act} {W : World} (R : World → Prop) (r : R W) (h : ∀ w5, R w5 → X a w5) : X a W := h W r
end Go.Proofs.YtkmlbjlaahcahaaDoor
