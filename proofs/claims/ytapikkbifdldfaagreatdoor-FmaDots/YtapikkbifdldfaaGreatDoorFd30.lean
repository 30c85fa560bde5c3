/-
  What the functions that the statement reaches return: part 30 (F7).
-/
import Derived.Test.YtapikkbifdldfaaGreatDoorFd29
namespace Go.Proofs.YtapikkbifdldfaaGreatDoor
set_option maxRecDepth 100000
set_option maxHeartbeats 40000000
set_option maxRecDepth 100000
open Go.RowKit WMath XMath
set_option linter.unusedSimpArgs false
set_option linter.unusedVariables false
set_option maxRecDepth 100000 in
set_option maxHeartbeats 8000000 in
theorem fitsZ (f m : Int) (ao : Option Addr) (c : Nat) (w : World) (KR : Box (∀ w, Calls Tryz.prog 88 #[.int .u8 f] w fun r w' => r = .returned (.bool true) ∧ Below w.heap.size w w')) (KM : Box (∀ w, Calls Tryz.prog 89 #[.int .u8 m] w fun r w' => r = .returned (.bool true) ∧ Below w.heap.size w w')) : Calls Tryz.prog 40 #[.int .u8 f, .int .u8 m, .slice ao 0 c] w fun r w' => r = .returned (.bool true) ∧ Below w.heap.size w w' := by
  go_enter Tryz.func40, Tryz.ntmps40
  go_wp2_with fail
  refine (KR.out _).mono ?_
  rintro r w1 ⟨rfl, b1⟩
  go_wp2_with fail
  refine (KM.out _).mono ?_
  rintro r w2 ⟨rfl, b2⟩
  have BP := btr b1 b2
  clear b1 b2 KR KM
  go_wp2
  go_loopw [7] (fun iv wr => iv = .int .i64 0 ∧ wr = w2) (fun _ _ => 0)
  case atStart => exact ⟨rfl, rfl⟩
  case round =>
    obtain ⟨rfl, rfl⟩ := hrel
    go_wp2
    go_ret
    exact ⟨rfl, BP⟩
theorem rfitZ (f m : Int) (ao : Option Addr) (c : Nat) (o : Bool) (ho : decide (f ≤ 3 ∧ m ≤ 4) = o) (w : World) : Calls Tryz.prog 40 #[.int .u8 f, .int .u8 m, .slice ao 0 c] w fun r w' => r = .returned (.bool o) ∧ Below w.heap.size w w' := by
  have KR : Box (∀ w, Calls Tryz.prog 88 #[.int .u8 f] w fun r w' => r = .returned (.bool (decide (f ≤ 3))) ∧ Below w.heap.size w w') := box (fun w => bel_same (r_right f _ rfl w))
  have KM : Box (∀ w, Calls Tryz.prog 89 #[.int .u8 m] w fun r w' => r = .returned (.bool (decide (m ≤ 4))) ∧ Below w.heap.size w w') := box (fun w => bel_same (r_mode m _ rfl w))
  by_cases c1 : f ≤ 3
  · rw [decide_eq_true c1] at KR
    by_cases c2 : m ≤ 4
    · rw [decide_eq_true c2] at KM
      rw [decide_eq_true (show f ≤ 3 ∧ m ≤ 4 from ⟨c1, c2⟩)] at ho
      subst ho
      exact fitsZ f m ao c w KR KM
    · rw [decide_eq_false c2] at KM
      have e : o = false := by rw [← ho, decide_eq_false (fun q => c2 q.2)]
      subst e
      exact rf_nom f m _ _ KR KM
  · rw [decide_eq_false c1] at KR
    have e : o = false := by rw [← ho, decide_eq_false (fun q => c1 q.1)]
    subst e
    exact rf_no f m _ _ KR
theorem rfitN (f m : Int) (h0 : 0 ≤ f) (l : List (Nat × Nat)) (L g z c : Nat) (w : World) (hl : l.length = L) (hL : L ≤ 1000) (hb : Box (∀ p ∈ l, p.1 < 18446744073709551616 ∧ p.2 < 18446744073709551616))
    (HC : Box (∀ W, Below w.heap.size w W → ∀ k p, l[k]? = some p → W.cell? ⟨g, z + k * 2, none⟩ = some (.int .u64 (p.1 : Nat)) ∧ W.cell? ⟨g, z + k * 2 + 1, none⟩ = some (.int .u64 (p.2 : Nat)))) (o : Bool) (ho : (decide (f ≤ 3 ∧ m ≤ 4) && l.all (okP f)) = o) :
    Calls Tryz.prog 40 #[.int .u8 f, .int .u8 m, .slice (some ⟨g, z, none⟩) L c] w fun r w' => r = .returned (.bool o) ∧ Below w.heap.size w w' := by
  have KR : Box (∀ w, Calls Tryz.prog 88 #[.int .u8 f] w fun r w' => r = .returned (.bool (decide (f ≤ 3))) ∧ Below w.heap.size w w') := box (fun w => bel_same (r_right f _ rfl w))
  have KM : Box (∀ w, Calls Tryz.prog 89 #[.int .u8 m] w fun r w' => r = .returned (.bool (decide (m ≤ 4))) ∧ Below w.heap.size w w') := box (fun w => bel_same (r_mode m _ rfl w))
  by_cases c1 : f ≤ 3
  · rw [decide_eq_true c1] at KR
    by_cases c2 : m ≤ 4
    · rw [decide_eq_true c2] at KM
      exact rfg_list f m h0 l L g z c w hl hL hb HC KR KM o (by rw [← ho, decide_eq_true (show f ≤ 3 ∧ m ≤ 4 from ⟨c1, c2⟩), Bool.true_and])
    · rw [decide_eq_false c2] at KM
      have e : o = false := by rw [← ho, decide_eq_false (fun q => c2 q.2)]; rfl
      subst e
      exact rf_nom f m _ _ KR KM
  · rw [decide_eq_false c1] at KR
    have e : o = false := by rw [← ho, decide_eq_false (fun q => c1 q.1)]; rfl
    subst e
    exact rf_no f m _ _ KR
theorem sv_later {l : List (Nat × Nat)} {L : Nat} {s : Value} {W V : World} (h : SV l L s W) (b : Below W.heap.size W V) : SV l L s V := by
  rcases h with h | ⟨g, z, c, h1, h2, h3, h4⟩
  · exact Or.inl h
  · exact Or.inr ⟨g, z, c, h1, h2, h3, fun U bU => h4 U (btr b bU)⟩
theorem sv_slice {l : List (Nat × Nat)} {L : Nat} {s : Value} {W : World} (h : SV l L s W) : ∃ o c, s = .slice o L c := by
  rcases h with ⟨o, c, rfl, rfl⟩ | ⟨g, z, c, h1, h2, rfl, h4⟩
  · exact ⟨_, _, rfl⟩
  · exact ⟨_, _, rfl⟩
theorem rfitS (f m : Int) (h0 : 0 ≤ f) (l : List (Nat × Nat)) (L : Nat) (s : Value) (w : World) (hl : l.length = L) (hL : L ≤ 1000) (hb : Box (∀ p ∈ l, p.1 < 18446744073709551616 ∧ p.2 < 18446744073709551616)) (h : SV l L s w) (o : Bool) (ho : (decide (f ≤ 3 ∧ m ≤ 4) && l.all (okP f)) = o) :
    Calls Tryz.prog 40 #[.int .u8 f, .int .u8 m, s] w fun r w' => r = .returned (.bool o) ∧ Below w.heap.size w w' := by
  rcases h with ⟨q, c, z, rfl⟩ | ⟨g, z, c, h1, h2, rfl, h4⟩
  · obtain rfl : l = [] := List.eq_nil_of_length_eq_zero (hl.trans z)
    exact rfitZ f m q c o (by rw [← ho]; exact (Bool.and_true _).symm) w
  · exact rfitN f m h0 l L g z c w hl hL hb (box h4) o ho
set_option maxRecDepth 100000 in
set_option maxHeartbeats 8000000 in
theorem rdt_no1 (f m : Int) (s1 s2 : Value) (w : World) (K1 : Box (∀ W, Below w.heap.size w W → Calls Tryz.prog 40 #[.int .u8 f, .int .u8 m, s1] W fun r w' => r = .returned (.bool false) ∧ Below W.heap.size W w')) : Calls Tryz.prog 20 #[.int .u8 f, .int .u8 m, s1, s2] w fun r w' => r = .returned (.tuple #[.agg #[.int .u64 0, .int .u64 0], .int .u8 0, .int .i64 2]) ∧ Below w.heap.size w w' := by
  obtain ⟨Rz_0, B0⟩ := opn1 w (Obj.cells #[.int .u64 0, .int .u64 0] 26)
  go_enter Tryz.func20, Tryz.ntmps20
  go_wp2_with fail
  refine (K1.out _ B0).mono ?_
  rintro r w1 ⟨rfl, b1⟩
  have B1 : Below w.heap.size w w1 := btr B0 b1
  have Rz_1 := heap_of b1 _ _ _ Rz_0
  clear b1 B0 Rz_0
  obtain ⟨cz_1_0, cz_1_1⟩ := cells2s Rz_1
  have q0 := fz (k := 0) Rz_1
  have q1 := fz (k := 1) Rz_1
  obtain ⟨E0, E1⟩ := set2_cells Rz_1 (.int .u64 0) (.int .u64 0)
  go_wp2
  exact bodyPost_ret (v := .tuple #[.agg #[.int .u64 0, .int .u64 0], .int .u8 0, .int .i64 2]) (by simp [results, Tryz.results20, go_sem, E0, E1]) rfl ⟨rfl, set2_below B1 (by first | exact Nat.le_refl _ | omega | (skip; omega)) _ _⟩
set_option maxRecDepth 100000 in
set_option maxHeartbeats 8000000 in
theorem rdt_no2 (f m : Int) (s1 s2 : Value) (w : World) (K1 : Box (∀ W, Below w.heap.size w W → Calls Tryz.prog 40 #[.int .u8 f, .int .u8 m, s1] W fun r w' => r = .returned (.bool true) ∧ Below W.heap.size W w')) (K2 : Box (∀ W, Below w.heap.size w W → Calls Tryz.prog 40 #[.int .u8 f, .int .u8 m, s2] W fun r w' => r = .returned (.bool false) ∧ Below W.heap.size W w')) : Calls Tryz.prog 20 #[.int .u8 f, .int .u8 m, s1, s2] w fun r w' => r = .returned (.tuple #[.agg #[.int .u64 0, .int .u64 0], .int .u8 0, .int .i64 2]) ∧ Below w.heap.size w w' := by
  obtain ⟨Rz_0, B0⟩ := opn1 w (Obj.cells #[.int .u64 0, .int .u64 0] 26)
  go_enter Tryz.func20, Tryz.ntmps20
  go_wp2_with fail
  refine (K1.out _ B0).mono ?_
  rintro r w1 ⟨rfl, b1⟩
  have B1 : Below w.heap.size w w1 := btr B0 b1
  have Rz_1 := heap_of b1 _ _ _ Rz_0
  clear b1 B0 Rz_0
  obtain ⟨cz_1_0, cz_1_1⟩ := cells2s Rz_1
  go_wp2_with fail
  refine (K2.out _ B1).mono ?_
  rintro r w2 ⟨rfl, b2⟩
  have B2 : Below w.heap.size w w2 := btr B1 b2
  have Rz_2 := heap_of b2 _ _ _ Rz_1
  clear b2 B1 Rz_1 cz_1_0 cz_1_1
  obtain ⟨cz_2_0, cz_2_1⟩ := cells2s Rz_2
  have q0 := fz (k := 0) Rz_2
  have q1 := fz (k := 1) Rz_2
  obtain ⟨E0, E1⟩ := set2_cells Rz_2 (.int .u64 0) (.int .u64 0)
  go_wp2
  exact bodyPost_ret (v := .tuple #[.agg #[.int .u64 0, .int .u64 0], .int .u8 0, .int .i64 2]) (by simp [results, Tryz.results20, go_sem, E0, E1]) rfl ⟨rfl, set2_below B2 (by first | exact Nat.le_refl _ | omega | (skip; omega)) _ _⟩
set_option maxRecDepth 100000 in
set_option maxHeartbeats 8000000 in
theorem rdt_no3 (f m : Int) (o1 o2 : Option Addr) (L1 c1 L2 c2 : Nat) (w : World) (hne : (((L1 : Nat) : Int) == ((L2 : Nat) : Int)) = false) (K1 : Box (∀ W, Below w.heap.size w W → Calls Tryz.prog 40 #[.int .u8 f, .int .u8 m, .slice o1 L1 c1] W fun r w' => r = .returned (.bool true) ∧ Below W.heap.size W w')) (K2 : Box (∀ W, Below w.heap.size w W → Calls Tryz.prog 40 #[.int .u8 f, .int .u8 m, .slice o2 L2 c2] W fun r w' => r = .returned (.bool true) ∧ Below W.heap.size W w')) : Calls Tryz.prog 20 #[.int .u8 f, .int .u8 m, .slice o1 L1 c1, .slice o2 L2 c2] w fun r w' => r = .returned (.tuple #[.agg #[.int .u64 0, .int .u64 0], .int .u8 0, .int .i64 2]) ∧ Below w.heap.size w w' := by
  obtain ⟨Rz_0, B0⟩ := opn1 w (Obj.cells #[.int .u64 0, .int .u64 0] 26)
  go_enter Tryz.func20, Tryz.ntmps20
  go_wp2_with fail
  refine (K1.out _ B0).mono ?_
  rintro r w1 ⟨rfl, b1⟩
  have B1 : Below w.heap.size w w1 := btr B0 b1
  have Rz_1 := heap_of b1 _ _ _ Rz_0
  clear b1 B0 Rz_0
  obtain ⟨cz_1_0, cz_1_1⟩ := cells2s Rz_1
  go_wp2_with fail
  refine (K2.out _ B1).mono ?_
  rintro r w2 ⟨rfl, b2⟩
  have B2 : Below w.heap.size w w2 := btr B1 b2
  have Rz_2 := heap_of b2 _ _ _ Rz_1
  clear b2 B1 Rz_1 cz_1_0 cz_1_1
  obtain ⟨cz_2_0, cz_2_1⟩ := cells2s Rz_2
  have q0 := fz (k := 0) Rz_2
  have q1 := fz (k := 1) Rz_2
  obtain ⟨E0, E1⟩ := set2_cells Rz_2 (.int .u64 0) (.int .u64 0)
  go_wp2
  exact bodyPost_ret (v := .tuple #[.agg #[.int .u64 0, .int .u64 0], .int .u8 0, .int .i64 2]) (by simp [results, Tryz.results20, go_sem, E0, E1]) rfl ⟨rfl, set2_below B2 (by first | exact Nat.le_refl _ | omega | (skip; omega)) _ _⟩
set_option maxRecDepth 100000 in
set_option maxHeartbeats 8000000 in
theorem rdt_zero (f m : Int) (o1 o2 : Option Addr) (c1 c2 : Nat) (w : World) (K1 : Box (∀ W, Below w.heap.size w W → Calls Tryz.prog 40 #[.int .u8 f, .int .u8 m, .slice o1 0 c1] W fun r w' => r = .returned (.bool true) ∧ Below W.heap.size W w')) (K2 : Box (∀ W, Below w.heap.size w W → Calls Tryz.prog 40 #[.int .u8 f, .int .u8 m, .slice o2 0 c2] W fun r w' => r = .returned (.bool true) ∧ Below W.heap.size W w')) : Calls Tryz.prog 20 #[.int .u8 f, .int .u8 m, .slice o1 0 c1, .slice o2 0 c2] w fun r w' => r = .returned (.tuple #[.agg #[.int .u64 0, .int .u64 0], .int .u8 0, .int .i64 0]) ∧ Below w.heap.size w w' := by
  obtain ⟨Rz_0, B0⟩ := opn1 w (Obj.cells #[.int .u64 0, .int .u64 0] 26)
  go_enter Tryz.func20, Tryz.ntmps20
  go_wp2_with fail
  refine (K1.out _ B0).mono ?_
  rintro r w1 ⟨rfl, b1⟩
  have B1 : Below w.heap.size w w1 := btr B0 b1
  have Rz_1 := heap_of b1 _ _ _ Rz_0
  clear b1 B0 Rz_0
  obtain ⟨cz_1_0, cz_1_1⟩ := cells2s Rz_1
  go_wp2_with fail
  refine (K2.out _ B1).mono ?_
  rintro r w2 ⟨rfl, b2⟩
  have B2 : Below w.heap.size w w2 := btr B1 b2
  have Rz_2 := heap_of b2 _ _ _ Rz_1
  clear b2 B1 Rz_1 cz_1_0 cz_1_1
  obtain ⟨cz_2_0, cz_2_1⟩ := cells2s Rz_2
  have S3 := box B2.size
  have Lz_3 : Box (w.heap.size < w2.heap.size) := box (Array.getElem?_eq_some_iff.1 Rz_2).1
  have Rs_3 := heap_alloc_last w2 (Obj.cells #[.int .u64 0, .int .u64 0] 26)
  have B3 := btr B2 (bal w2 (Obj.cells #[.int .u64 0, .int .u64 0] 26))
  have Rz_3 := heap_of (bal w2 (Obj.cells #[.int .u64 0, .int .u64 0] 26)) _ _ _ Rz_2
  clear B2 Rz_2 cz_2_0 cz_2_1
  obtain ⟨cz_3_0, cz_3_1⟩ := cells2s Rz_3
  obtain ⟨cs_3_0, cs_3_1⟩ := cells2s Rs_3
  obtain ⟨V, hV⟩ : ∃ V, w2.alloc (.cells #[.int .u64 0, .int .u64 0] 26) = V := ⟨_, rfl⟩
  go_wp2
  rw [hV] at Rs_3 Rz_3 B3
  go_loopw [12, 13] (fun av iv wr => iv = .int .i64 0 ∧ av = .int .u8 0 ∧ wr = V) (fun _ _ _ => 0)
  case atStart => exact ⟨rfl, rfl, rfl⟩
  case round =>
    obtain ⟨rfl, rfl, rfl⟩ := hrel
    clear hV
    obtain ⟨gs, hgs⟩ : ∃ g, w2.heap.size = g := ⟨_, rfl⟩
    have lz := (Array.getElem?_eq_some_iff.1 Rz_3).1
    rw [hgs] at Rs_3 ⊢
    obtain ⟨w20, hw⟩ : ∃ w20, w20 = wr := ⟨_, rfl⟩
    subst hw
    have B20 := B3
    have Rz_20 := Rz_3
    have Rs_20 := Rs_3
    obtain ⟨cz_20_0, cz_20_1⟩ := cells2s Rz_20
    obtain ⟨cz_20_0, cz_20_1⟩ := cells2s Rz_20
    obtain ⟨cs_20_0, cs_20_1⟩ := cells2s Rs_20
    have q0 := fz (k := 0) Rz_20
    have q1 := fz (k := 1) Rz_20
    obtain ⟨E0, E1⟩ := set2_cells Rz_20 (.int .u64 0) (.int .u64 0)
    go_wp2
    exact bodyPost_ret (v := .tuple #[.agg #[.int .u64 0, .int .u64 0], .int .u8 0, .int .i64 0]) (by simp [results, Tryz.results20, go_sem, E0, E1]) rfl ⟨rfl, set2_below B20 (by first | exact Nat.le_refl _ | omega | (skip; omega)) _ _⟩
def nQ (p : Nat × Nat) : Nat := p.2 + 18446744073709551616 * p.1
def okQ (f : Int) (p : Nat × Nat) : Prop := p.1 < 18446744073709551616 ∧ p.2 < 18446744073709551616 ∧ okB f (nQ p) = true
def st3 (R : Nat → Nat → Nat → Nat × Int) (p q s : Nat × Nat) : (Nat × Nat) × Int := (bv7 (R (nQ p) (nQ q) (nQ s)).1, (R (nQ p) (nQ q) (nQ s)).2)
theorem st3_ok {f : Int} (hf : Is4 f) (m : Int) (p q s : Nat × Nat) (hs : okQ f s) : okQ f (st3 (fmaR f m) p q s).1 := by
  obtain ⟨o1, o2⟩ := fit_okF hf (fmaR_fit hf m (nQ p) (nQ q) (nQ s) (okB_yes (is4_ok hf).1 hs.2.2).2)
  obtain ⟨i1, i2, i3⟩ := bv_lt o2 (rfl : bv7 (fmaR f m (nQ p) (nQ q) (nQ s)).1 = ((bv7 (fmaR f m (nQ p) (nQ q) (nQ s)).1).1, (bv7 (fmaR f m (nQ p) (nQ q) (nQ s)).1).2))
  have e : nQ (st3 (fmaR f m) p q s).1 = (fmaR f m (nQ p) (nQ q) (nQ s)).1 := i3
  exact ⟨i1, i2, by rw [e]; exact o1⟩
def dtB (f m : Int) (l1 l2 : List (Nat × Nat)) : Bool := (decide (f ≤ 3 ∧ m ≤ 4) && l1.all (okP f)) && (decide (f ≤ 3 ∧ m ≤ 4) && l2.all (okP f)) && decide (l1.length = l2.length)
def dtR (f m : Int) (l1 l2 : List (Nat × Nat)) : (Nat × Nat) × Int := if dtB f m l1 l2 then fZ (st3 (fmaR f m)) (0, 0) 0 (l1.zip l2) else ((0, 0), 0)
theorem zero_okQ {f : Int} (hf : Is4 f) : okQ f (0, 0) := ⟨by decide, by decide, (fit_okF hf (show Fit f 0 by unfold Fit; have := Nat.two_pow_pos (wV f); omega)).1⟩
set_option maxHeartbeats 4000000 in
theorem rDot_is (f m : Int) (h0 : 0 ≤ f) (m0 : 0 ≤ m) (l1 l2 : List (Nat × Nat)) (L1 L2 : Nat) (hl1 : l1.length = L1) (hl2 : l2.length = L2) (q1 : L1 ≤ 1000) (q2 : L2 ≤ 1000) (hb1 : Box (∀ p ∈ l1, p.1 < 18446744073709551616 ∧ p.2 < 18446744073709551616)) (hb2 : Box (∀ p ∈ l2, p.1 < 18446744073709551616 ∧ p.2 < 18446744073709551616)) (rp : Nat × Nat) (ra : Int) (hr : dtR f m l1 l2 = (rp, ra)) (s1 s2 : Value) (w : World) (v1 : SV l1 L1 s1 w) (v2 : SV l2 L2 s2 w) :
    Calls Tryz.prog 20 #[.int .u8 f, .int .u8 m, s1, s2] w fun r w' => r = .returned (.tuple #[.agg #[.int .u64 (rp.1 : Nat), .int .u64 (rp.2 : Nat)], .int .u8 ra, .int .i64 (if dtB f m l1 l2 then 0 else 2)]) ∧ Below w.heap.size w w' := by
  have K1 : ∀ o, (decide (f ≤ 3 ∧ m ≤ 4) && l1.all (okP f)) = o → Box (∀ W, Below w.heap.size w W → Calls Tryz.prog 40 #[.int .u8 f, .int .u8 m, s1] W fun r w' => r = .returned (.bool o) ∧ Below W.heap.size W w') := fun o ho => box (fun W b => rfitS f m h0 l1 L1 s1 W hl1 q1 hb1 (sv_later v1 b) o ho)
  have K2 : ∀ o, (decide (f ≤ 3 ∧ m ≤ 4) && l2.all (okP f)) = o → Box (∀ W, Below w.heap.size w W → Calls Tryz.prog 40 #[.int .u8 f, .int .u8 m, s2] W fun r w' => r = .returned (.bool o) ∧ Below W.heap.size W w') := fun o ho => box (fun W b => rfitS f m h0 l2 L2 s2 W hl2 q2 hb2 (sv_later v2 b) o ho)
  have no : dtB f m l1 l2 = false → (rp, ra) = (((0, 0) : Nat × Nat), (0 : Int)) := fun h => by
    rw [← hr]
    unfold dtR
    rw [h]
    rfl
  cases a1 : (decide (f ≤ 3 ∧ m ≤ 4) && l1.all (okP f))
  · have d : dtB f m l1 l2 = false := by unfold dtB; rw [a1]; rfl
    injection no d with e1 e2
    subst e1 e2
    rw [d]
    exact rdt_no1 f m s1 s2 w (K1 false a1)
  cases a2 : (decide (f ≤ 3 ∧ m ≤ 4) && l2.all (okP f))
  · have d : dtB f m l1 l2 = false := by unfold dtB; rw [a1, a2]; rfl
    injection no d with e1 e2
    subst e1 e2
    rw [d]
    exact rdt_no2 f m s1 s2 w (K1 true a1) (K2 false a2)
  by_cases a3 : L1 = L2
  case neg =>
    have d : dtB f m l1 l2 = false := by unfold dtB; rw [a1, a2, hl1, hl2, decide_eq_false a3]; rfl
    injection no d with e1 e2
    subst e1 e2
    rw [d]
    obtain ⟨o1, c1, rfl⟩ := sv_slice v1
    obtain ⟨o2, c2, rfl⟩ := sv_slice v2
    exact rdt_no3 f m o1 o2 L1 c1 L2 c2 w (beq_eq_false_iff_ne.2 (by omega)) (K1 true a1) (K2 true a2)
  subst a3
  have d : dtB f m l1 l2 = true := by unfold dtB; rw [a1, a2, hl1, hl2, decide_eq_true rfl]; rfl
  unfold dtR at hr
  rw [d, if_pos rfl] at hr
  rw [d]
  have g1 := a1
  have g2 := a2
  rw [Bool.and_eq_true, decide_eq_true_iff, List.all_eq_true] at g1 g2
  obtain ⟨⟨c1, c2⟩, hall1⟩ := g1
  have hall2 := g2.2
  have hf := is4_of h0 c1
  have hm : 0 ≤ m ∧ m ≤ 4 := ⟨m0, c2⟩
  have hok1 : ∀ p ∈ l1, okQ f p := fun p hp => ⟨(hb1.out p hp).1, (hb1.out p hp).2, hall1 p hp⟩
  have hok2 : ∀ p ∈ l2, okQ f p := fun p hp => ⟨(hb2.out p hp).1, (hb2.out p hp).2, hall2 p hp⟩
  rcases v1 with ⟨o1, c1, z1, rfl⟩ | ⟨j1, z1, c1, h11, h12, rfl, h14⟩
  · subst z1
    obtain rfl : l1 = [] := List.eq_nil_of_length_eq_zero hl1
    injection hr with e1 e2
    subst e1 e2
    rcases v2 with ⟨o2, c2, z2, rfl⟩ | ⟨j2, z2, c2, h21, h22, rfl, h24⟩
    · exact rdt_zero f m o1 o2 c1 c2 w (K1 true a1) (K2 true a2)
    · exact absurd h21 (by decide)
  · rcases v2 with ⟨o2, c2, z2, rfl⟩ | ⟨j2, z2, c2, h21, h22, rfl, h24⟩
    · omega
    · exact rdt_list f m (st3 (fmaR f m)) (okQ f) (box (fun p q s hp hq hs => st3_ok hf m p q s hs)) l1 l2 L1 j1 z1 c1 j2 z2 c2 w hl1 hl2 q1 (zero_okQ hf) (box hok1) (box hok2) (box h14) (box h24) (K1 true a1) (K2 true a2)
        (box (fun p q s hp hq hs w => rFma_is f m hf hm p.1 p.2 (nQ p) q.1 q.2 (nQ q) s.1 s.2 (nQ s) hp.1 hp.2.1 hq.1 hq.2.1 hs.1 hs.2.1 rfl rfl rfl hp.2.2 hq.2.2 hs.2.2 _ _ rfl _ _ rfl w)) rp ra (box hr)
end Go.Proofs.YtapikkbifdldfaaGreatDoor
