/-
  What the functions that the statement reaches return: part 6 (Gmath, List16, List17, List18, List19).
-/
import Derived.Test.YtkblmpmkchkpjaaGreatDoorNe05
namespace Go.Proofs.YtkblmpmkchkpjaaGreatDoor.WMath
set_option maxRecDepth 100000
set_option maxHeartbeats 40000000
theorem near_num (K a b x y a0 b0 A B r N s : Int) (hs : s = 1 ∨ s = -1) (ha : a = K * x + a0) (hb : b = K * y + b0) (a1 : 0 ≤ a0) (a2 : a0 ≤ K - 1) (b1 : 0 ≤ b0) (b2 : b0 ≤ K - 1) (hA : 0 ≤ A) (hAB : A ≤ B)
  (hr : r = s * (x * A - y * B)) (hN : N = s * (a * A - b * B)) : K * r ≤ N + (K - 1) * B ∧ N ≤ K * r + (K - 1) * B := by
 have p1 : 0 ≤ a0 * A := Int.mul_nonneg a1 hA
 have p2 : a0 * A ≤ (K - 1) * B := Int.mul_le_mul a2 hAB hA (by omega)
 have p3 : 0 ≤ b0 * B := Int.mul_nonneg b1 (by omega)
 have p4 : b0 * B ≤ (K - 1) * B := Int.mul_le_mul_of_nonneg_right b2 (by omega)
 have e1 : a * A = K * (x * A) + a0 * A := by rw [ha, Int.add_mul, Int.mul_assoc]
 have e2 : b * B = K * (y * B) + b0 * B := by rw [hb, Int.add_mul, Int.mul_assoc]
 have e3 : K * (x * A - y * B) = K * (x * A) - K * (y * B) := Int.mul_sub _ _ _
 generalize (K - 1) * B = Z at *
 generalize a0 * A = u at *
 generalize b0 * B = v at *
 rcases hs with rfl | rfl
 ·
  rw [Int.one_mul] at hr hN
  rw [hr, hN, e1, e2, e3]
  omega
 ·
  rw [Int.neg_mul, Int.one_mul] at hr hN
  rw [hr, hN, e1, e2, Int.mul_neg, e3]
  omega

def TurnSt (a b x y r1 A1 B1 r2 A2 B2 F S : Nat) (s : Int) : Prop :=
  (s = 1 ∨ s = -1) ∧ ((F : Int) = s * ((a : Int) * A1 - b * B1)) ∧ ((S : Int) = s * ((b : Int) * B2 - a * A2)) ∧ ((r1 : Int) = s * ((x : Int) * A1 - y * B1)) ∧ ((r2 : Int) = s * ((y : Int) * B2 - x * A2)) ∧
  r1 * B2 + r2 * B1 = x ∧ r1 * A2 + r2 * A1 = y ∧ A2 ≤ B2 ∧ 1 ≤ B2 ∧ A1 + A2 ≤ B1 + B2 ∧ 1 ≤ A1 + A2 ∧ r2 ≤ r1 ∧ Nat.gcd F S = Nat.gcd a b ∧ S ≤ F ∧ (A2 = 0 ∨ (0 < S ∧ S < F ∧ F ≤ b)) ∧ (A2 = 0 → F = a ∧ S = b)
theorem turnSt_start (a b x y : Nat) (hab : b ≤ a) (hxy : y ≤ x) : TurnSt a b x y x 1 0 y 0 1 a b 1 :=
 ⟨Or.inl rfl, by simp, by simp, by simp, by simp, by simp, by simp, by decide, by decide, by decide, by decide, hxy, rfl, hab, Or.inl rfl, fun _ => ⟨rfl, rfl⟩⟩
theorem turnSt_count {a b x y r1 A1 B1 r2 A2 B2 F S t n : Nat} {s : Int} (h : TurnSt a b x y r1 A1 B1 r2 A2 B2 F S s) (h2 : r2 ≠ 0) (ht : r1 / r2 = t) (hn : r1 - t * r2 = n) :
  1 ≤ t ∧ r1 = t * r2 + n ∧ n < r2 ∧ r2 * (B1 + t * B2) + n * B2 = x ∧ r2 * (A1 + t * A2) + n * A2 = y ∧ A1 + t * A2 ≤ B1 + t * B2 ∧ B2 ≤ B1 + t * B2 ∧ 1 ≤ A1 + t * A2 := by
 obtain ⟨_, _, _, _, _, hx, hy, hAB, hB, hs, hA1, hr, _⟩ := h
 have t1 : 1 ≤ t := by rw [← ht]; exact (Nat.le_div_iff_mul_le (by omega)).2 (by omega)
 have d := Nat.div_add_mod r1 r2
 rw [ht, Nat.mul_comm] at d
 have m := Nat.mod_lt r1 (show r2 > 0 by omega)
 have en : n = r1 % r2 := by omega
 have e : r1 = t * r2 + n := by omega
 have x1 : r2 * (B1 + t * B2) + n * B2 = x := by
  rw [← hx, e, Nat.add_mul, Nat.mul_add, Nat.mul_left_comm r2 t B2, Nat.mul_assoc t r2 B2]
  omega
 have x2 : r2 * (A1 + t * A2) + n * A2 = y := by
  rw [← hy, e, Nat.add_mul, Nat.mul_add, Nat.mul_left_comm r2 t A2, Nat.mul_assoc t r2 A2]
  omega
 have lt : n < r2 := by omega
 clear en m d hn ht
 obtain ⟨k, rfl⟩ : ∃ k, t = k + 1 := ⟨t - 1, by omega⟩
 have q1 : k * A2 ≤ k * B2 := Nat.mul_le_mul_left _ hAB
 refine ⟨t1, e, lt, x1, x2, ?_, ?_, ?_⟩
 ·
  rw [Nat.add_mul, Nat.add_mul]; omega
 ·
  rw [Nat.add_mul]; omega
 ·
  rw [Nat.add_mul]; omega
theorem turnSt_next {a b x y r1 A1 B1 r2 A2 B2 F S t n K a0 b0 : Nat} {s : Int} (h : TurnSt a b x y r1 A1 B1 r2 A2 B2 F S s) (h2 : r2 ≠ 0) (ht : r1 / r2 = t) (hn : r1 - t * r2 = n) (ha : a = K * x + a0) (hb : b = K * y + b0) (a1 : a0 < K) (b1 : b0 < K)
  (s1 : B1 + t * B2 ≤ n) (s2 : B2 + (B1 + t * B2) ≤ r2 - n) : ∃ N, TurnSt a b x y r2 A2 B2 n (A1 + t * A2) (B1 + t * B2) S N (-s) ∧ N < S ∧ 0 < N := by
 obtain ⟨c1, c2, c3, c4, c5, c6, c7, c8⟩ := turnSt_count h h2 ht hn
 obtain ⟨hs, hF, hS, hr1, hr2, hx, hy, hAB, hB, hsum, hA1, hr, hg, hSF, hmv, h00⟩ := h
 have eN : (F : Int) - t * S = -s * ((b : Int) * ((B1 + t * B2 : Nat) : Int) - a * ((A1 + t * A2 : Nat) : Int)) := by
  have e1 : (b : Int) * ((B1 + t * B2 : Nat) : Int) = b * B1 + t * (b * B2) := by
   rw [Int.natCast_add, Int.natCast_mul, Int.mul_add, Int.mul_left_comm]
  have e2 : (a : Int) * ((A1 + t * A2 : Nat) : Int) = a * A1 + t * (a * A2) := by
   rw [Int.natCast_add, Int.natCast_mul, Int.mul_add, Int.mul_left_comm]
  rw [hF, hS, e1, e2]
  rcases hs with rfl | rfl
  ·
   rw [Int.one_mul, Int.one_mul, Int.mul_sub, Int.neg_mul, Int.one_mul]
   omega
  ·
   rw [Int.neg_mul, Int.one_mul, Int.neg_mul, Int.one_mul, Int.mul_neg, Int.mul_sub, Int.neg_neg, Int.one_mul]
   omega
 have er : (n : Int) = -s * ((y : Int) * ((B1 + t * B2 : Nat) : Int) - x * ((A1 + t * A2 : Nat) : Int)) := by
  have e1 : (y : Int) * ((B1 + t * B2 : Nat) : Int) = y * B1 + t * (y * B2) := by
   rw [Int.natCast_add, Int.natCast_mul, Int.mul_add, Int.mul_left_comm]
  have e2 : (x : Int) * ((A1 + t * A2 : Nat) : Int) = x * A1 + t * (x * A2) := by
   rw [Int.natCast_add, Int.natCast_mul, Int.mul_add, Int.mul_left_comm]
  have e3 : (n : Int) = r1 - t * r2 := by
   have : (r1 : Int) = ((t * r2 + n : Nat) : Int) := by rw [← c2]
   rw [Int.natCast_add, Int.natCast_mul] at this
   omega
  rw [e3, hr1, hr2, e1, e2]
  rcases hs with rfl | rfl
  ·
   rw [Int.one_mul, Int.one_mul, Int.mul_sub, Int.neg_mul, Int.one_mul]
   omega
  ·
   rw [Int.neg_mul, Int.one_mul, Int.neg_mul, Int.one_mul, Int.mul_neg, Int.mul_sub, Int.neg_neg, Int.one_mul]
   omega
 obtain ⟨An, hAn⟩ : ∃ An, A1 + t * A2 = An := ⟨_, rfl⟩
 obtain ⟨Bn, hBn⟩ : ∃ Bn, B1 + t * B2 = Bn := ⟨_, rfl⟩
 rw [hAn, hBn] at eN er
 rw [hBn] at s1 s2 c4 c6 c7
 rw [hAn] at c5 c6 c8
 have hs' : -s = 1 ∨ -s = -1 := by rcases hs with rfl | rfl <;> simp
 have neg : ∀ u v : Int, s * (u - v) = -s * (v - u) := by
  intro u v
  rw [Int.neg_mul, ← Int.mul_neg, Int.neg_sub]
 have n1 := near_num (K : Int) a b x y a0 b0 An Bn n ((F : Int) - t * S) s hs (by rw [ha]; simp) (by rw [hb]; simp) (by omega) (by omega) (by omega) (by omega) (by omega) (by omega)
  (by rw [er, neg]) (by rw [eN, neg])
 have n2 := near_num (K : Int) a b x y a0 b0 A2 B2 r2 S (-s) hs' (by rw [ha]; simp) (by rw [hb]; simp) (by omega) (by omega) (by omega) (by omega) (by omega) (by omega)
  (by rw [hr2, neg]) (by rw [hS, neg])
 have k0 : (0 : Int) < K := by omega
 have m1 : (K : Int) * Bn ≤ K * n := Int.mul_le_mul_of_nonneg_left (by omega) (by omega)
 have m2 : (K : Int) * (B2 + Bn) ≤ K * (r2 - n) := Int.mul_le_mul_of_nonneg_left (by omega) (by omega)
 have m3 : ((K : Int) - 1) * Bn = K * Bn - Bn := by rw [Int.sub_mul, Int.one_mul]
 have m4 : ((K : Int) - 1) * B2 = K * B2 - B2 := by rw [Int.sub_mul, Int.one_mul]
 rw [Int.mul_add, Int.mul_sub] at m2
 have N0 : (0 : Int) < (F : Int) - t * S := by omega
 have NS : (F : Int) - t * S < S := by omega
 have eT : ((t * S : Nat) : Int) = (t : Int) * S := Int.natCast_mul _ _
 have hle : t * S ≤ F := by omega
 obtain ⟨N, hN⟩ : ∃ N, F = t * S + N := ⟨F - t * S, by omega⟩
 have eNN : (N : Int) = (F : Int) - t * S := by omega
 have hgN : Nat.gcd S N = Nat.gcd a b := by
  rw [← hg, hN, Nat.gcd_mul_right_add_left, Nat.gcd_comm S N]
 refine ⟨N, ?_, by omega, by omega⟩
 refine ⟨hs', ?_, ?_, ?_, ?_, by rw [hBn]; exact c4, by rw [hAn]; exact c5, by rw [hAn, hBn]; exact c6, by omega, by omega, by omega, by omega, hgN, by omega, Or.inr ⟨by omega, by omega, ?_⟩, fun h => ?_⟩
 ·
  rw [hS, neg]
 ·
  rw [eNN, eN, hAn, hBn]
 ·
  rw [hr2, neg]
 ·
  rw [hAn, hBn]; exact er
 ·
  rcases hmv with h | ⟨_, h3, h4⟩
  ·
   have := (h00 h).2; omega
  ·
   omega
 ·
  omega
end Go.Proofs.YtkblmpmkchkpjaaGreatDoor.WMath
namespace Go.Proofs.YtkblmpmkchkpjaaGreatDoor
set_option maxRecDepth 100000
set_option maxHeartbeats 40000000
open Go.RowKit WMath
theorem l_wordDivisor (a b g : Nat) (ha : a < 18446744073709551616) (hb : b < 18446744073709551616) (hg : Nat.gcd a b = g) (w : World) :
  Calls Tryz.prog 321 #[.int .u64 a, .int .u64 b] w fun r w' => r = .returned (.int .u64 g) ∧ Below w.heap.size w w' := by
 have HG := zH hg
 clear hg
 go_enter Tryz.func321, Tryz.ntmps321
 go_wp2
 go_loopw [0, 1] (fun av bv wr => ∃ (x y : Nat), av = .int .u64 x ∧ bv = .int .u64 y ∧ x < 18446744073709551616 ∧ y < 18446744073709551616 ∧ Below w.heap.size w wr ∧ zS (Nat.gcd x y = g)) (fun _ bv _ => (intOf bv).toNat)
 case atStart => exact ⟨a, b, rfl, rfl, ha, hb, Below.refl _ _, HG⟩
 case round =>
  obtain ⟨x, y, rfl, rfl, hx, hy, hbw, HE⟩ := hrel
  by_cases h0 : y = 0
  ·
   subst h0
   have e := HE.out
   rw [Nat.gcd_zero_right] at e
   subst e
   go_wp2
   go_ret
   exact ⟨rfl, hbw⟩
  ·
   have d1 : ((y : Int) != 0) = true := by simp; omega
   have d2 : ¬ (y : Int) = 0 := by omega
   obtain ⟨z, hz⟩ : ∃ z, x % y = z := ⟨_, rfl⟩
   have hzy : z < y := by rw [← hz]; exact Nat.mod_lt _ (by omega)
   have n1 : (x : Int).tmod (y : Int) = (z : Int) := by rw [← hz]; rfl
   have n2 : (x : Int) % (y : Int) = (z : Int) := by rw [← hz]; rfl
   have n3 : IntKind.u64.wrap (z : Int) = (z : Int) := by rw [IntKind.wrap_u64]; omega
   have NE : zS (Nat.gcd y z = g) := zH (by rw [← HE.out, ← hz, Nat.gcd_comm x y, Nat.gcd_rec y x, Nat.gcd_comm])
   clear hz HE
   go_wp2
   go_region
   all_goals go_wp2
   all_goals exact ⟨⟨y, z, rfl, rfl, hy, by omega, hbw.drew, NE⟩, by simp [intOf]; omega⟩

def tn (r A B : Nat) : Value := .agg #[.int .u64 r, .int .u64 A, .int .u64 B]

theorem l_sure (r1 A1 B1 n A B : Nat) (o : Bool) (h1 : r1 < 18446744073709551616) (hn : n < r1) (hB : B < 18446744073709551616) (hw : B ≤ n → B1 + B < 18446744073709551616) (ho : (decide (B ≤ n) && decide (B1 + B ≤ r1 - n)) = o) (w : World) :
  Calls Tryz.prog 333 #[tn r1 A1 B1, tn n A B] w fun r w' => r = .returned (.bool o) ∧ Below w.heap.size w w' := by
 unfold tn
 by_cases h : B ≤ n
 ·
  have d1 : decide (B ≤ n) = true := decide_eq_true h
  have Aa := hw h
  rw [d1, Bool.true_and] at ho
  obtain ⟨z, hz⟩ : ∃ z, r1 - n = z := ⟨_, rfl⟩
  rw [hz] at ho
  have n1 : (r1 : Int) - (n : Int) = (z : Int) := by omega
  have n2 : IntKind.u64.wrap (z : Int) = (z : Int) := by rw [IntKind.wrap_u64]; omega
  have n3 : IntKind.u64.wrap ((B1 : Int) + (B : Int)) = (B1 : Int) + (B : Int) := by rw [IntKind.wrap_u64]; omega
  have ho2 : decide ((B1 : Int) + (B : Int) ≤ (z : Int)) = o := by rw [← ho, decide_eq_decide]; omega
  clear hz ho hw
  go_enter Tryz.func333, Tryz.ntmps333
  go_wp2
  go_ret
  exact ⟨rfl, zO (yK _ _) (yK _ _)⟩
 ·
  have d1 : decide (B ≤ n) = false := decide_eq_false h
  rw [d1, Bool.false_and] at ho
  subst ho
  clear hw
  go_enter Tryz.func333, Tryz.ntmps333
  go_wp2
  go_ret
  exact ⟨rfl, zO (yK _ _) (yK _ _)⟩

theorem drew_heap (W : World) : W.drew.heap = W.heap := rfl
theorem drew_cellN (W : World) (b o : Nat) : ((W.drew.cell? ⟨b, o, none⟩).elim 0 fun v => (intOf v).toNat) = ((W.cell? ⟨b, o, none⟩).elim 0 fun v => (intOf v).toNat) := rfl
def cellN (w : World) (b o : Nat) : Nat := ((w.cell? ⟨b, o, none⟩).elim 0 fun v => (intOf v).toNat)
def tc (r A B : Nat) : Array Value := #[.int .u64 r, .int .u64 A, .int .u64 B]
theorem qE {w : World} {b r A B : Nat} {T : TypeId} (h : w.heap[b]? = some (.cells (tc r A B) T)) : w.cell? ⟨b, 0, none⟩ = some (.int .u64 r) ∧ w.cell? ⟨b, 1, none⟩ = some (.int .u64 A) ∧ w.cell? ⟨b, 2, none⟩ = some (.int .u64 B) :=
 ⟨by rw [cell_of_row w b 0 _ _ _ h]; rfl, by rw [cell_of_row w b 1 _ _ _ h]; rfl, by rw [cell_of_row w b 2 _ _ _ h]; rfl⟩
theorem cellN_is {w : World} {b r A B : Nat} {T : TypeId} (h : w.heap[b]? = some (.cells (tc r A B) T)) : cellN w b 0 = r := by
 unfold cellN
 rw [(qE h).1]
 simp [intOf]

def set3 (w : World) (b r A B : Nat) : World := ((w.setCell ⟨b, 0, none⟩ (.int .u64 r)).setCell ⟨b, 1, none⟩ (.int .u64 A)).setCell ⟨b, 2, none⟩ (.int .u64 B)
theorem set3_row {w : World} {b r A B : Nat} (r' A' B' : Nat) {T : TypeId} (h : w.heap[b]? = some (.cells (tc r A B) T)) : (set3 w b r' A' B').heap[b]? = some (.cells (tc r' A' B') T) := by
 unfold set3
 rw [z6 (z6 (z6 h))]
 rfl
theorem set3_other {w : World} {b b' r A B : Nat} (h : b ≠ b') : (set3 w b r A B).heap[b']? = w.heap[b']? := by
 unfold set3
 rw [zG h, zG h, zG h]
theorem set3_below {w wr : World} {b r A B n : Nat} (h : Below n w wr) (hb : n ≤ b) : Below n w (set3 wr b r A B) := ((h.setCell hb _).setCell hb _).setCell hb _

theorem l_turns (a b x y K a0 b0 : Nat) (hx : x < 18446744073709551616) (hxy : y ≤ x) (ha : a = K * x + a0) (hb : b = K * y + b0) (a1 : a0 < K) (b1 : b0 < K) (hab : b ≤ a) (w : World) :
  Calls Tryz.prog 327 #[.int .u64 x, .int .u64 y] w fun r w' => ∃ (r1 A1 B1 r2 A2 B2 F S : Nat) (sw : Bool), r = .returned (.tuple #[tn r1 A1 B1, tn r2 A2 B2, .bool sw]) ∧ A1 < 18446744073709551616 ∧ B1 < 18446744073709551616 ∧ A2 < 18446744073709551616 ∧ B2 < 18446744073709551616 ∧ TurnSt a b x y r1 A1 B1 r2 A2 B2 F S (if sw then -1 else 1) ∧ Below w.heap.size w w' := by
 have T0 := zH (turnSt_start a b x y hab hxy)
 have HA := zH ha
 have HB := zH hb
 have y64 : y < 18446744073709551616 := by omega
 clear ha hb hab
 go_enter Tryz.func327, Tryz.ntmps327
 go_wp2
 obtain ⟨g, hg⟩ : ∃ g, w.heap.size = g := ⟨_, rfl⟩
 have r0 : ((w.alloc (.cells (tc x 1 0) 329)).alloc (.cells (tc y 0 1) 329)).heap[g]? = some (.cells (tc x 1 0) 329) := by
  rw [yZ _ _ _ (by rw [zX]; omega), ← hg]; exact heap_alloc_last _ _
 have q0 : ((w.alloc (.cells (tc x 1 0) 329)).alloc (.cells (tc y 0 1) 329)).heap[g + 1]? = some (.cells (tc y 0 1) 329) := by
  have e : g + 1 = (w.alloc (.cells (tc x 1 0) 329)).heap.size := by rw [zX, hg]
  rw [e]; exact heap_alloc_last _ _
 have b0 : Below w.heap.size w ((w.alloc (.cells (tc x 1 0) 329)).alloc (.cells (tc y 0 1) 329)) := zO (yK _ _) (yK _ _)
 rw [hg]
 go_loopw [6] (fun sv wr => ∃ (r1 A1 B1 r2 A2 B2 F S : Nat) (sw : Bool), sv = .bool sw ∧ r1 < 18446744073709551616 ∧ A1 < 18446744073709551616 ∧ B1 < 18446744073709551616 ∧ r2 < 18446744073709551616 ∧ A2 < 18446744073709551616 ∧ B2 < 18446744073709551616 ∧ wr.heap[g]? = some (.cells (tc r1 A1 B1) 329) ∧ wr.heap[g + 1]? = some (.cells (tc r2 A2 B2) 329) ∧ Below w.heap.size w wr ∧ zS (TurnSt a b x y r1 A1 B1 r2 A2 B2 F S (if sw then -1 else 1))) (fun _ wr => cellN wr (g + 1) 0)
 case atStart => exact ⟨x, 1, 0, y, 0, 1, a, b, false, rfl, hx, by decide, by decide, y64, by decide, by decide, r0, q0, b0, T0⟩
 case round =>
  clear r0 q0 b0 T0
  obtain ⟨r1, A1, B1, r2, A2, B2, F, S, sw, rfl, i1, i2, i3, i4, i5, i6, r5, q5, hbw, HT⟩ := hrel
  obtain ⟨e1, e2, e3⟩ := qE r5
  obtain ⟨e4, e5, e6⟩ := qE q5
  by_cases h0 : r2 = 0
  ·
   have d0 : ((r2 : Int) != 0) = false := by simp; omega
   clear h0
   have f1 := fz (k := 0) r5
   have f2 := fz (k := 1) r5
   have f3 := fz (k := 2) r5
   have f4 := fz (k := 0) q5
   have f5 := fz (k := 1) q5
   have f6 := fz (k := 2) q5
   have R9 : (set3 (set3 wr g r1 A1 B1) (g + 1) r2 A2 B2).heap[g]? = some (.cells (tc r1 A1 B1) 329) := by rw [set3_other (by omega)]; exact set3_row r1 A1 B1 r5
   have Q9 : (set3 (set3 wr g r1 A1 B1) (g + 1) r2 A2 B2).heap[g + 1]? = some (.cells (tc r2 A2 B2) 329) := set3_row r2 A2 B2 (by rw [set3_other (by omega)]; exact q5)
   have B9 : Below w.heap.size w (set3 (set3 wr g r1 A1 B1) (g + 1) r2 A2 B2) := set3_below (set3_below hbw (by omega)) (by omega)
   have T9 := zH (qE R9)
   have U9 := zH (qE Q9)
   have V9 := zH B9
   clear R9 Q9 B9
   go_wp2
   go_region
   go_wp2
   obtain ⟨k1, k2, k3⟩ := T9.out
   obtain ⟨k4, k5, k6⟩ := U9.out
   unfold set3 at k1 k2 k3 k4 k5 k6
   refine bodyPost_ret (v := .tuple #[tn r1 A1 B1, tn r2 A2 B2, .bool sw]) (by simp [results, Tryz.results327, go_sem, k1, k2, k3, k4, k5, k6, tn]) rfl ?_
   exact ⟨r1, A1, B1, r2, A2, B2, F, S, sw, rfl, i2, i3, i5, i6, HT.out, V9.out.drew⟩
  ·
   obtain ⟨t, ht⟩ : ∃ t, r1 / r2 = t := ⟨_, rfl⟩
   obtain ⟨n, hn⟩ : ∃ n, r1 - t * r2 = n := ⟨_, rfl⟩
   obtain ⟨c1, c2, c3, c4, c5, c6, c7, c8⟩ := turnSt_count HT.out h0 ht hn
   obtain ⟨An, hAn⟩ : ∃ An, A1 + t * A2 = An := ⟨_, rfl⟩
   obtain ⟨Bn, hBn⟩ : ∃ Bn, B1 + t * B2 = Bn := ⟨_, rfl⟩
   have hN := fun s1 s2 => turnSt_next HT.out h0 ht hn HA.out HB.out a1 b1 s1 s2
   rw [hAn, hBn] at hN
   have HN := zH hN
   clear hN
   rw [hAn] at c5 c6 c8
   rw [hBn] at c4 c6 c7
   obtain ⟨z1, hz1⟩ : ∃ z1, t * r2 = z1 := ⟨_, rfl⟩
   obtain ⟨z2, hz2⟩ : ∃ z2, t * A2 = z2 := ⟨_, rfl⟩
   obtain ⟨z3, hz3⟩ : ∃ z3, t * B2 = z3 := ⟨_, rfl⟩
   rw [hz2] at hAn
   rw [hz3] at hBn
   rw [hz1] at hn c2
   have l1 : An ≤ y := by
    have : An ≤ r2 * An := Nat.le_mul_of_pos_left An (by omega)
    omega
   have l2 : r2 * Bn ≤ x := by omega
   have l3 : Bn ≤ x := Nat.le_trans (Nat.le_mul_of_pos_left Bn (by omega)) l2
   have t64 : t ≤ r1 := by rw [← ht]; exact Nat.div_le_self _ _
   have m1 : (r1 : Int) / (r2 : Int) = (t : Int) := by rw [← ht]; rfl
   have m2 : (r1 : Int).tdiv (r2 : Int) = (t : Int) := by rw [← ht]; rfl
   have m3 : IntKind.u64.wrap (t : Int) = (t : Int) := by rw [IntKind.wrap_u64]; omega
   have m4 : (t : Int) * (r2 : Int) = (z1 : Int) := by rw [← hz1]; rfl
   have m5 : (t : Int) * (A2 : Int) = (z2 : Int) := by rw [← hz2]; rfl
   have m6 : (t : Int) * (B2 : Int) = (z3 : Int) := by rw [← hz3]; rfl
   have m7 : IntKind.u64.wrap (z1 : Int) = (z1 : Int) := by rw [IntKind.wrap_u64]; omega
   have m8 : IntKind.u64.wrap (z2 : Int) = (z2 : Int) := by rw [IntKind.wrap_u64]; omega
   have m9 : IntKind.u64.wrap (z3 : Int) = (z3 : Int) := by rw [IntKind.wrap_u64]; omega
   have p1 : (r1 : Int) - (z1 : Int) = (n : Int) := by omega
   have p2 : (A1 : Int) + (z2 : Int) = (An : Int) := by omega
   have p3 : (B1 : Int) + (z3 : Int) = (Bn : Int) := by omega
   have p4 : IntKind.u64.wrap (n : Int) = (n : Int) := by rw [IntKind.wrap_u64]; omega
   have p5 : IntKind.u64.wrap (An : Int) = (An : Int) := by rw [IntKind.wrap_u64]; omega
   have p6 : IntKind.u64.wrap (Bn : Int) = (Bn : Int) := by rw [IntKind.wrap_u64]; omega
   have d0 : ((r2 : Int) != 0) = true := by simp; omega
   have d1 : ¬ (r2 : Int) = 0 := by omega
   obtain ⟨o, ho⟩ : ∃ o, (decide (Bn ≤ n) && decide (B2 + Bn ≤ r2 - n)) = o := ⟨_, rfl⟩
   have hw : Bn ≤ n → B2 + Bn < 18446744073709551616 := by
    intro h
    have h2 : 2 * Bn ≤ r2 * Bn := Nat.mul_le_mul_right _ (by omega)
    omega
   have SU := zH (l_sure r2 A2 B2 n An Bn o i4 c3 (by omega) hw ho)
   have HOO := zH ho
   have HZ2 := zH hAn
   have HZ3 := zH hBn
   obtain ⟨h, hh⟩ : ∃ h, wr.heap.size = h := ⟨_, rfl⟩
   have gh : g + 1 < h := by rw [← hh]; exact (Array.getElem?_eq_some_iff.1 q5).1
   have r6 : (wr.alloc (.cells (tc n An Bn) 329)).heap[g]? = some (.cells (tc r1 A1 B1) 329) := by rw [yZ _ _ _ (by omega)]; exact r5
   have q6 : (wr.alloc (.cells (tc n An Bn) 329)).heap[g + 1]? = some (.cells (tc r2 A2 B2) 329) := by rw [yZ _ _ _ (by omega)]; exact q5
   have x6 : (wr.alloc (.cells (tc n An Bn) 329)).heap[h]? = some (.cells (tc n An Bn) 329) := by rw [← hh]; exact heap_alloc_last _ _
   have b6 : Below w.heap.size w (wr.alloc (.cells (tc n An Bn) 329)) := hbw.alloc hbw.size _
   have R6 := zH r6
   have Q6 := zH q6
   have X6 := zH x6
   have B6 := zH b6
   have CN := zH (cellN_is q5)
   have DA : (decide (1 ≤ An)) = true := decide_eq_true c8
   clear ht hn hz1 hz2 hz3 hAn hBn c1 c2 c4 c5 c6 c7 hw ho r6 q6 x6 b6 l2 DA
   go_wp2_with fail
   refine (SU.out _).mono ?_
   rintro e w3 ⟨rfl, b3⟩
   have r7 := zA b3 _ _ _ R6.out
   have q7 := zA b3 _ _ _ Q6.out
   have x7 := zA b3 _ _ _ X6.out
   have b7 : Below w.heap.size w w3 := B6.out.trans (b3.mono B6.out.size)
   clear e1 e2 e3 e4 e5 e6 r5 q5 hbw b3
   obtain ⟨e1, e2, e3⟩ := qE r7
   obtain ⟨e4, e5, e6⟩ := qE q7
   obtain ⟨e7, e8, e9⟩ := qE x7
   cases o
   ·
    skip
    have f1 := fz (k := 0) r7
    have f2 := fz (k := 1) r7
    have f3 := fz (k := 2) r7
    have f4 := fz (k := 0) q7
    have f5 := fz (k := 1) q7
    have f6 := fz (k := 2) q7
    have R9 : (set3 (set3 w3 g r1 A1 B1) (g + 1) r2 A2 B2).heap[g]? = some (.cells (tc r1 A1 B1) 329) := by rw [set3_other (by omega)]; exact set3_row r1 A1 B1 r7
    have Q9 : (set3 (set3 w3 g r1 A1 B1) (g + 1) r2 A2 B2).heap[g + 1]? = some (.cells (tc r2 A2 B2) 329) := set3_row r2 A2 B2 (by rw [set3_other (by omega)]; exact q7)
    have B9 : Below w.heap.size w (set3 (set3 w3 g r1 A1 B1) (g + 1) r2 A2 B2) := set3_below (set3_below b7 (by omega)) (by omega)
    have T9 := zH (qE R9)
    have U9 := zH (qE Q9)
    have V9 := zH B9
    clear R9 Q9 B9
    go_wp2
    go_region
    go_wp2
    obtain ⟨k1, k2, k3⟩ := T9.out
    obtain ⟨k4, k5, k6⟩ := U9.out
    unfold set3 at k1 k2 k3 k4 k5 k6
    refine bodyPost_ret (v := .tuple #[tn r1 A1 B1, tn r2 A2 B2, .bool sw]) (by simp [results, Tryz.results327, go_sem, k1, k2, k3, k4, k5, k6, tn]) rfl ?_
    exact ⟨r1, A1, B1, r2, A2, B2, F, S, sw, rfl, i2, i3, i5, i6, HT.out, V9.out.drew⟩
   ·
    have hoo := HOO.out
    rw [Bool.and_eq_true, decide_eq_true_iff, decide_eq_true_iff] at hoo
    obtain ⟨N, TN, _, _⟩ := HN.out hoo.1 hoo.2
    have es : -(if sw then (-1 : Int) else 1) = if !sw then (-1 : Int) else 1 := by cases sw <;> rfl
    rw [es] at TN
    have f1 := fz (k := 0) r7
    have f2 := fz (k := 1) r7
    have f3 := fz (k := 2) r7
    have f4 := fz (k := 0) q7
    have f5 := fz (k := 1) q7
    have f6 := fz (k := 2) q7
    have R9 : (set3 (set3 w3 g r2 A2 B2) (g + 1) n An Bn).heap[g]? = some (.cells (tc r2 A2 B2) 329) := by rw [set3_other (by omega)]; exact set3_row r2 A2 B2 r7
    have Q9 : (set3 (set3 w3 g r2 A2 B2) (g + 1) n An Bn).heap[g + 1]? = some (.cells (tc n An Bn) 329) := set3_row n An Bn (by rw [set3_other (by omega)]; exact q7)
    have B9 : Below w.heap.size w (set3 (set3 w3 g r2 A2 B2) (g + 1) n An Bn) := set3_below (set3_below b7 (by omega)) (by omega)
    have CM := zH (cellN_is Q9)
    unfold set3 at R9 Q9 B9 CM
    have T9 := zH R9
    have U9 := zH Q9
    have V9 := zH B9
    have TT := zH TN
    have N3 := zH c3
    have A64 : An < 18446744073709551616 := by omega
    have B64 : Bn < 18446744073709551616 := by omega
    have n64 : n < 18446744073709551616 := by omega
    clear R9 Q9 B9 TN es hoo
    go_wp2
    go_region
    go_wp2
    refine ⟨⟨r2, A2, B2, n, An, Bn, S, N, !sw, ?_, i4, i5, i6, n64, A64, B64, ?_, ?_, ?_, TT⟩, ?_⟩
    ·
     rfl
    ·
     rw [drew_heap]; exact T9.out
    ·
     rw [drew_heap]; exact U9.out
    ·
     exact V9.out.drew
    rw [CN.out]
    refine Nat.lt_of_le_of_lt (Nat.le_of_eq ?_) N3.out
    unfold cellN
    rw [drew_cellN]
    exact CM.out
theorem hib (v m n : Nat) (hv : v < 2 ^ (64 * (m + 2) - n)) (hn : n < 64) : (wd v (m + 1) * 2 ^ n % 18446744073709551616) ||| (wd v m / 2 ^ (64 - n)) = v / 2 ^ (64 * (m + 1) - n) := by
 have hlt : v / 2 ^ (64 * (m + 1) - n) < 18446744073709551616 := by
  apply Nat.div_lt_of_lt_mul
  rw [xK, ← Nat.pow_add, show 64 * (m + 1) - n + 64 = 64 * (m + 2) - n by omega]
  exact hv
 have e0 : wd (v / 2 ^ (64 * (m + 1) - n)) 0 = v / 2 ^ (64 * (m + 1) - n) := by
  unfold wd
  rw [Nat.mul_zero, Nat.pow_zero, Nat.div_one, Nat.mod_eq_of_lt hlt]
 rw [← e0]
 by_cases h0 : n = 0
 ·
  subst h0
  rw [down_wd v (64 * (m + 1) - 0) (m + 1) 0 0 (by omega) (by decide), Nat.pow_zero, Nat.mul_one, Nat.div_one, Nat.zero_add, Nat.mod_eq_of_lt (yU _ _)]
  rw [show 64 - 0 = 64 from rfl, ← xK, Nat.mul_mod_left, Nat.div_eq_of_lt (yU _ _)]
 ·
  rw [down_wd v (64 * (m + 1) - n) m (64 - n) 0 (by omega) (by omega), Nat.zero_add, show 64 - (64 - n) = n by omega, Nat.or_comm]

theorem l_highest (w : World) (p q : Option Addr) (m c a M d b B B2 x y n : Nat) (ha : SL B w p (m + 2) c a) (hb : SL B2 w q M d b) (hB : B ≤ w.heap.size) (hB2 : B2 ≤ w.heap.size) (hL : m + 2 ≤ 40000) (hM : M ≤ 40000) (la : wl a = m + 2) (hab : b ≤ a) (hn : 64 * (m + 2) - z7 a = n) (hx : a / 2 ^ (64 * (m + 1) - n) = x) (hy : b / 2 ^ (64 * (m + 1) - n) = y) :
  Calls Tryz.prog 328 #[.slice p (m + 2) c, .slice q M d] w fun r w' => r = .returned (.tuple #[.int .u64 x, .int .u64 y]) ∧ Below w.heap.size w w' := by
 obtain ⟨bp, op, rfl, _⟩ := ha.ptr (by omega)
 obtain ⟨l, hl⟩ : ∃ l, z7 a = l := ⟨_, rfl⟩
 have hl2 : l ≤ 64 * (m + 2) ∧ n < 64 := by
  rw [hl] at hn
  have : wl a = (l + 63) / 64 := by rw [← hl]; rfl
  omega
 have e1 : 64 * (m + 2) - n = l := by rw [hl] at hn; omega
 have alt : a < 2 ^ (64 * (m + 2) - n) := by rw [e1, ← hl]; exact xN a
 have hxa := hib a m n alt hl2.2
 have hyb := hib b m n (Nat.lt_of_le_of_lt hab alt) hl2.2
 obtain ⟨k, hk⟩ : ∃ k, 64 - n = k := ⟨_, rfl⟩
 rw [hx, hk] at hxa
 rw [hy, hk] at hyb
 obtain ⟨u1, hu1⟩ : ∃ u, wd a (m + 1) = u := ⟨_, rfl⟩
 obtain ⟨u2, hu2⟩ : ∃ u, wd a m = u := ⟨_, rfl⟩
 obtain ⟨v1, hv1⟩ : ∃ u, wd b (m + 1) = u := ⟨_, rfl⟩
 obtain ⟨v2, hv2⟩ : ∃ u, wd b m = u := ⟨_, rfl⟩
 rw [hu1, hu2] at hxa
 rw [hv1, hv2] at hyb
 obtain ⟨x1, hx1⟩ : ∃ u, u1 * 2 ^ n % 18446744073709551616 = u := ⟨_, rfl⟩
 obtain ⟨x2, hx2⟩ : ∃ u, u2 / 2 ^ k = u := ⟨_, rfl⟩
 obtain ⟨y1, hy1⟩ : ∃ u, v1 * 2 ^ n % 18446744073709551616 = u := ⟨_, rfl⟩
 obtain ⟨y2, hy2⟩ : ∃ u, v2 / 2 ^ k = u := ⟨_, rfl⟩
 have x164 : x1 < 18446744073709551616 := by rw [← hx1]; exact Nat.mod_lt _ (by decide)
 have y164 : y1 < 18446744073709551616 := by rw [← hy1]; exact Nat.mod_lt _ (by decide)
 have x264 : x2 < 18446744073709551616 := by rw [← hx2, ← hu2]; exact Nat.lt_of_le_of_lt (Nat.div_le_self _ _) (yU _ _)
 have y264 : y2 < 18446744073709551616 := by rw [← hy2, ← hv2]; exact Nat.lt_of_le_of_lt (Nat.div_le_self _ _) (yU _ _)
 have bx : bits .or .u64 (x1 : Nat) (x2 : Nat) = (x : Int) := by rw [← hxa, hx1, hx2]; exact bits_or_u64_nat _ _ x164 x264
 have bY : bits .or .u64 (y1 : Nat) (y2 : Nat) = (y : Int) := by rw [← hyb, hy1, hy2]; exact bits_or_u64_nat _ _ y164 y264
 have c1 := ha.cell (m + 1) u1 (by omega) hu1
 have c2 := ha.cell m u2 (by omega) hu2
 obtain ⟨m', hm'⟩ : ∃ m', m + 1 = m' := ⟨_, rfl⟩
 have A1 := zH (l_left u1 n x1 (by omega) hx1)
 have A2 := zH (l_right u2 k x2 (by omega) hx2)
 have A3 := zH (l_left v1 n y1 (by omega) hy1)
 have A4 := zH (l_right v2 k y2 (by omega) hy2)
 have T1 := zH hv1
 have T2 := zH hv2
 have HL := zH hl
 have LA := zH la
 have n1 : ((m + 2 : Nat) : Int) - 1 = (m : Int) + 1 := by omega
 have n1' : (m : Int) + 2 - 1 = (m : Int) + 1 := by omega
 have n2 : IntKind.i64.wrap ((m : Int) + 1) = (m : Int) + 1 := zK _ (by omega) (by omega)
 have n3 : IntKind.i64.wrap (((m : Int) + 2) * 64) = ((m : Int) + 2) * 64 := zK _ (by omega) (by omega)
 have n4 : ((m : Int) + 2) * 64 - (l : Int) = (n : Int) := by rw [hl] at hn; omega
 have n5 : IntKind.i64.wrap (n : Int) = (n : Int) := zK _ (by omega) (by omega)
 have n6 : (64 : Int) - (n : Int) = (k : Int) := by omega
 have n7 : IntKind.i64.wrap (k : Int) = (k : Int) := zK _ (by omega) (by omega)
 have n8 : (m : Int) + 1 - 1 = (m : Int) := by omega
 have n9 : IntKind.i64.wrap (m : Int) = (m : Int) := zK _ (by omega) (by omega)
 clear hxa hyb hu1 hu2 hv1 hv2 hx1 hx2 hy1 hy2 hk hl hn la hx hy hl2 e1 alt hm'
 go_enter Tryz.func328, Tryz.ntmps328
 go_wp2_with fail
 refine (l_bitLen w _ (m + 2) c a l B ha (by omega) LA.out HL.out).mono ?_
 rintro e w1 ⟨rfl, rfl⟩
 go_wp2
 go_quiet (first
  | (go_at_call 244; exact (A1.out _).mono (fun _ _ h => ⟨h.1, _, h.2⟩))
  | (go_at_call 245; exact (A2.out _).mono (fun _ _ h => ⟨h.1, _, h.2⟩)))
 go_wp2_with fail
 have bq : Below w1.heap.size w1 (w1.drewN nq) := below_drewN (Below.refl w1.heap.size w1) nq
 have sb := hb.below bq hB2
 have at1 := l_at (w1.drewN nq) q M d b (m + 1) v1 sb T1.out (by omega)
 rw [show ((m + 1 : Nat) : Int) = (m : Int) + 1 from rfl] at at1
 refine at1.mono ?_
 rintro e w' ⟨rfl, rfl⟩
 go_wp2_with fail
 refine (A3.out _).mono ?_
 rintro e w' ⟨rfl, rfl⟩
 go_wp2_with fail
 refine (l_at (w1.drewN nq) q M d b m v2 sb T2.out (by omega)).mono ?_
 rintro e w' ⟨rfl, rfl⟩
 go_wp2_with fail
 refine (A4.out _).mono ?_
 rintro e w' ⟨rfl, rfl⟩
 go_wp2
 go_ret2
 exact ⟨rfl, bq⟩

def BalSt (a t b u i cx cy S : Nat) (o : Bool) : Prop := S < 2 ^ (64 * i) ∧ S + (b % 2 ^ (64 * i)) * u + 2 ^ (64 * i) * cx = (a % 2 ^ (64 * i)) * t + 2 ^ (64 * i) * (cy + o.toNat)
theorem balSt0 (a t b u : Nat) : BalSt a t b u 0 0 0 0 false := ⟨by decide, by simp [Nat.mod_one]⟩
theorem balSt_next {a t b u i cx cy S : Nat} {o : Bool} (h : BalSt a t b u i cx cy S o) (x y xl yl dx dy s : Nat) (p : Bool) (hx : wd a i = x) (hy : wd b i = y) (h1 : xl + 18446744073709551616 * dx = x * t + cx) (h2 : yl + 18446744073709551616 * dy = y * u + cy) (hs : s < 18446744073709551616) (h3 : s + yl + o.toNat = xl + 18446744073709551616 * p.toNat) :
  BalSt a t b u (i + 1) dx dy (S + 2 ^ (64 * i) * s) p := by
 refine ⟨push_lt S i s h.1 hs, ?_⟩
 have e := h.2
 rw [qZ, qZ, hx, hy, pow64, Nat.add_mul, Nat.add_mul, Nat.mul_assoc (2 ^ (64 * i)) x t, Nat.mul_assoc (2 ^ (64 * i)) y u]
 generalize 2 ^ (64 * i) = P at *
 generalize a % P * t = A at *
 generalize b % P * u = C at *
 generalize x * t = xt at *
 generalize y * u = yu at *
 have h4 : s + yu + 18446744073709551616 * dx + (cy + o.toNat) = cx + xt + 18446744073709551616 * (dy + p.toNat) := by omega
 have h5 := congrArg (fun z => P * z) h4
 simp only [Nat.mul_add] at h5 e ⊢
 rw [← Nat.mul_assoc P 18446744073709551616 dx, ← Nat.mul_assoc P 18446744073709551616 dy, ← Nat.mul_assoc P 18446744073709551616 p.toNat] at h5
 omega
theorem balSt_end {a t b u N cx cy S V : Nat} {o : Bool} (h : BalSt a t b u N cx cy S o) (ha : a < 2 ^ (64 * N)) (hb : b < 2 ^ (64 * N)) (hV : V + b * u = a * t) (hVN : V < 2 ^ (64 * N)) : S = V := by
 have e := h.2
 have h1 := h.1
 rw [Nat.mod_eq_of_lt ha, Nat.mod_eq_of_lt hb, ← hV] at e
 generalize 2 ^ (64 * N) = P at *
 have e2 : S + P * cx = V + P * (cy + o.toNat) := by omega
 have e3 := congrArg (fun z => z % P) e2
 simp only [Nat.add_mul_mod_self_left, Nat.mod_eq_of_lt h1, Nat.mod_eq_of_lt hVN] at e3
 exact e3

theorem l_balance (w : World) (p q : Option Addr) (L c a t M d b u B V K : Nat) (ha : SL B w p L c a) (hb : SL B w q M d b) (hB : B ≤ w.heap.size) (hL : L ≤ 40000) (hM : M ≤ 40000) (ht : t < 18446744073709551616) (hu : u < 18446744073709551616) (hV : V + b * u = a * t) (hVN : V < 2 ^ (64 * max L M)) (hK : wl V = K) :
  Calls Tryz.prog 329 #[.slice p L c, .int .u64 t, .slice q M d, .int .u64 u] w fun r w' => ∃ y e, r = .returned (.slice y K e) ∧ SL w'.heap.size w' y K e V ∧ Below w.heap.size w w' := by
 obtain ⟨N, hN⟩ : ∃ N, max L M = N := ⟨_, rfl⟩
 have hcase : (L < M ∧ M = N) ∨ ((L < M) = False ∧ L = N) := by
  by_cases h : L < M
  ·
   left; exact ⟨h, by omega⟩
  ·
   right; exact ⟨eq_false h, by omega⟩
 rw [hN] at hVN
 have aN : a < 2 ^ (64 * N) := Nat.lt_of_lt_of_le ha.1 (yV _ _ (by omega))
 have bN : b < 2 ^ (64 * N) := Nat.lt_of_lt_of_le hb.1 (yV _ _ (by omega))
 have N2 : N ≤ 40000 := by omega
 have AN := zH aN
 have BN := zH bN
 have HV := zH hV
 have HVN := zH hVN
 have HK := zH hK
 obtain ⟨g, hg⟩ : ∃ g, w.heap.size = g := ⟨_, rfl⟩
 have hB2 := hB
 rw [hg] at hB2
 have r0 : (w.alloc (.cells (cw N 0) 23)).heap[g]? = some (.cells (cw N 0) 23) := by rw [← hg]; exact heap_alloc_last _ _
 have b0 : Below g w (w.alloc (.cells (cw N 0) 23)) := by rw [← hg]; exact (Below.refl _ _).alloc (Nat.le_refl _) _
 have R0 := zH r0
 have B0 := zH b0
 clear hN aN bN hV hVN hK r0 b0
 rcases hcase with ⟨h1, hn⟩ | ⟨h1, hn⟩
 all_goals
  first
   | (have hmk := qA N (M : Int) (by omega) (by omega))
   | (have hmk := qA N (L : Int) (by omega) (by omega))
  clear hn
  go_enter Tryz.func329, Tryz.ntmps329
  go_wp2
  clear hmk h1
  go_loopw [12, 13, 14, 24] (fun xv yv ov iv wr => ∃ (i cx cy S : Nat) (o : Bool), i ≤ N ∧ cx < 18446744073709551616 ∧ cy < 18446744073709551616 ∧ xv = .int .u64 cx ∧ yv = .int .u64 cy ∧ ov = .bool o ∧ iv = .int .i64 i ∧ wr.heap[g]? = some (.cells (cw N S) 23) ∧ Below g w wr ∧ zS (BalSt a t b u i cx cy S o)) (fun _ _ _ iv _ => N - (intOf iv).toNat)
  case atStart => exact ⟨0, 0, 0, 0, false, by omega, by decide, by decide, rfl, rfl, rfl, rfl, R0.out, B0.out, zH (balSt0 a t b u)⟩
  case round =>
   obtain ⟨i, cx, cy, S, o, hi, hcx, hcy, rfl, rfl, rfl, rfl, r1, hbw, HE⟩ := hrel
   have sa := ha.below hbw hB2
   have sb := hb.below hbw hB2
   by_cases hlt : i < N
   ·
    obtain ⟨x, hx⟩ : ∃ x, wd a i = x := ⟨_, rfl⟩
    obtain ⟨y, hy⟩ : ∃ y, wd b i = y := ⟨_, rfl⟩
    obtain ⟨xl, hxl⟩ : ∃ v, (x * t + cx) % 18446744073709551616 = v := ⟨_, rfl⟩
    obtain ⟨dx, hdx⟩ : ∃ v, (x * t + cx) / 18446744073709551616 = v := ⟨_, rfl⟩
    obtain ⟨yl, hyl⟩ : ∃ v, (y * u + cy) % 18446744073709551616 = v := ⟨_, rfl⟩
    obtain ⟨dy, hdy⟩ : ∃ v, (y * u + cy) / 18446744073709551616 = v := ⟨_, rfl⟩
    obtain ⟨s, hs⟩ : ∃ s, (xl + 18446744073709551616 - yl - o.toNat) % 18446744073709551616 = s := ⟨_, rfl⟩
    obtain ⟨o2, ho2⟩ : ∃ o2, decide (xl < yl + o.toNat) = o2 := ⟨_, rfl⟩
    have x64 : x < 18446744073709551616 := by rw [← hx]; exact yU _ _
    have y64 : y < 18446744073709551616 := by rw [← hy]; exact yU _ _
    have xl64 : xl < 18446744073709551616 := by rw [← hxl]; exact Nat.mod_lt _ (by decide)
    have yl64 : yl < 18446744073709551616 := by rw [← hyl]; exact Nat.mod_lt _ (by decide)
    have s64 : s < 18446744073709551616 := by rw [← hs]; exact Nat.mod_lt _ (by decide)
    have dx64 : dx < 18446744073709551616 := by
     have := mul_lt128 x t cx 0 x64 ht hcx (by decide)
     rwa [Nat.add_zero, hdx] at this
    have dy64 : dy < 18446744073709551616 := by
     have := mul_lt128 y u cy 0 y64 hu hcy (by decide)
     rwa [Nat.add_zero, hdy] at this
    have bn := borrow_num xl yl s o o2 xl64 yl64 hs ho2
    have NB : zS (BalSt a t b u (i + 1) dx dy (S + 2 ^ (64 * i) * s) o2) := zH (balSt_next HE.out x y xl yl dx dy s o2 hx hy (by omega) (by omega) s64 bn)
    have c1 : wr.cell? ⟨g, i, none⟩ = some (.int .u64 (wd S i : Nat)) := by rw [cell_of_row wr g i _ _ _ r1, yS N S i hlt]
    have f1 := fz (k := i) r1
    have RS : zS ((wr.setCell ⟨g, i, none⟩ (.int .u64 (s : Int))).heap[g]? = some (.cells (cw N (S + 2 ^ (64 * i) * s)) 23)) := zH (by rw [z6 r1, cw_push N S i s _ hlt HE.out.1 s64 rfl])
    have BS : zS (Below g w (wr.setCell ⟨g, i, none⟩ (.int .u64 (s : Int)))) := zH (hbw.setCell (Nat.le_refl _) _)
    have M1 := zH (l_mulAdd x t cx xl dx x64 ht hcx hxl hdx)
    have M2 := zH (l_mulAdd y u cy yl dy y64 hu hcy hyl hdy)
    have M3 := zH (sub_is xl yl o s o2 xl64 yl64 hs ho2)
    have HX := zH hx
    have HY := zH hy
    have dl : decide (i < N) = true := decide_eq_true hlt
    clear hx hy hxl hdx hyl hdy hs ho2 bn HE
    go_wp2_with fail
    refine (l_at wr p L c a i x sa HX.out (by omega)).mono ?_
    rintro e w' ⟨rfl, rfl⟩
    go_wp2_with fail
    refine (M1.out _).mono ?_
    rintro e w' ⟨rfl, rfl⟩
    go_wp2_with fail
    refine (l_at _ q M d b i y sb HY.out (by omega)).mono ?_
    rintro e w' ⟨rfl, rfl⟩
    go_wp2_with fail
    refine (M2.out _).mono ?_
    rintro e w' ⟨rfl, rfl⟩
    go_wp2_with fail
    refine (M3.out _).mono ?_
    rintro e w' ⟨rfl, rfl⟩
    go_wp2
    go_roundw
    case rel => exact ⟨i + 1, dx, dy, _, o2, by omega, dx64, dy64, rfl, rfl, rfl, by go_num, RS.out, BS.out, NB⟩
    case measure => simp [intOf] <;> omega
   ·
    obtain rfl : i = N := by omega
    have e := balSt_end HE.out AN.out BN.out HV.out HVN.out
    subst e
    have dl : decide (i < i) = false := by rw [decide_eq_false_iff_not]; omega
    have s1 : SL wr.heap.size wr (some ⟨g, 0, none⟩) i i S := SL.row r1 _ (Array.getElem?_eq_some_iff.1 r1).1 HVN.out (Nat.le_refl _)
    go_wp2_with fail
    refine (l_trim wr _ _ _ _ K _ s1 (by omega) HK.out).mono ?_
    rintro e w2 ⟨v, f, rfl, s2, rfl⟩
    go_wp2
    go_ret
    exact ⟨v, f, rfl, s2, by rw [hg]; exact hbw⟩
theorem l_shorten (w : World) (p q : Option Addr) (L c a M d b B : Nat) (ha : SL B w p L c a) (hb : SL B w q M d b) (hB : B ≤ w.heap.size) (hL : L ≤ 10000) (la : wl a = L) (lb : wl b = M) (hab : b ≤ a) (hM : 2 ≤ M) :
  Calls Tryz.prog 320 #[.slice p L c, .slice q M d] w fun r w' => ∃ (u v : Option Addr) (e f F S X Y : Nat), r = .returned (.tuple #[.slice u X e, .slice v Y f]) ∧ SL w'.heap.size w' u X e F ∧ SL w'.heap.size w' v Y f S ∧ wl F = X ∧ wl S = Y ∧ Nat.gcd F S = Nat.gcd a b ∧ S ≤ F ∧ S < b ∧ F ≤ b ∧ Below w.heap.size w w' := by
 have hML : M ≤ L := by rw [← la, ← lb]; exact wl_mono _ _ hab
 obtain ⟨m, rfl⟩ : ∃ m, L = m + 2 := ⟨L - 2, by omega⟩
 obtain ⟨n, hn⟩ : ∃ n, 64 * (m + 2) - z7 a = n := ⟨_, rfl⟩
 obtain ⟨k, hk⟩ : ∃ k, 64 * (m + 1) - n = k := ⟨_, rfl⟩
 obtain ⟨x, hx⟩ : ∃ x, a / 2 ^ k = x := ⟨_, rfl⟩
 obtain ⟨y, hy⟩ : ∃ y, b / 2 ^ k = y := ⟨_, rfl⟩
 have a0 : a ≠ 0 := fun e => by rw [e, wl_zero] at la; omega
 have b0 : b ≠ 0 := fun e => by rw [e, wl_zero] at lb; omega
 have hx64 : x < 18446744073709551616 := by
  rw [← hx]
  apply Nat.div_lt_of_lt_mul
  rw [xK, ← Nat.pow_add]
  refine Nat.lt_of_lt_of_le (xN a) (Nat.pow_le_pow_right (by decide) ?_)
  have h1 : wl a = (z7 a + 63) / 64 := rfl
  omega
 have hxy : y ≤ x := by rw [← hx, ← hy]; exact Nat.div_le_div_right hab
 have ea := Nat.div_add_mod a (2 ^ k)
 have eb := Nat.div_add_mod b (2 ^ k)
 rw [hx] at ea
 rw [hy] at eb
 have HH := zH (l_highest w p q m c a M d b B B x y n ha hb hB hB (by omega) (by omega) la hab hn (by rw [hk]; exact hx) (by rw [hk]; exact hy))
 have TT := zH (l_turns a b x y (2 ^ k) (a % 2 ^ k) (b % 2 ^ k) hx64 hxy ea.symm eb.symm (Nat.mod_lt _ (Nat.two_pow_pos _)) (Nat.mod_lt _ (Nat.two_pow_pos _)) hab)
 have LB := zH lb
 have HAB := zH hab
 have B0 := zH b0
 clear hn hk hx hy ea eb la lb a0 b0
 go_enter Tryz.func320, Tryz.ntmps320
 go_wp2_with fail
 refine HH.out.mono ?_
 rintro e w1 ⟨rfl, b1⟩
 go_wp2_with fail
 refine (TT.out _).mono ?_
 rintro e w2 ⟨r1, A1, B1, r2, A2, B2, F, S, sw, rfl, i1, i2, i3, i4, T, b2⟩
 unfold tn
 have T9 := zH T
 clear T
 have c2 := zO b1 b2
 obtain ⟨h, hh⟩ : ∃ h, w2.heap.size = h := ⟨_, rfl⟩
 obtain ⟨W3, hW3⟩ : ∃ W3, (w2.alloc (.cells #[.int .u64 r1, .int .u64 A1, .int .u64 B1] 329)).alloc (.cells #[.int .u64 r2, .int .u64 A2, .int .u64 B2] 329) = W3 := ⟨_, rfl⟩
 have c3 : Below w.heap.size w W3 := by rw [← hW3]; exact zO c2 (zO (yK _ _) (yK _ _))
 have r3 : W3.heap[h]? = some (.cells (tc r1 A1 B1) 329) := by
  rw [← hW3, yZ _ _ _ (by rw [zX]; omega), ← hh]; exact heap_alloc_last _ _
 have q3 : W3.heap[h + 1]? = some (.cells (tc r2 A2 B2) 329) := by
  have e : h + 1 = (w2.alloc (.cells #[.int .u64 r1, .int .u64 A1, .int .u64 B1] 329)).heap.size := by rw [zX, hh]
  rw [← hW3, e]; exact heap_alloc_last _ _
 have R3 := zH r3
 have Q3 := zH q3
 obtain ⟨e1, e2, e3⟩ := qE r3
 obtain ⟨e4, e5, e6⟩ := qE q3
 have sa3 : SL W3.heap.size W3 p (m + 2) c a ∧ SL W3.heap.size W3.drew p (m + 2) c a := ⟨(ha.below c3 hB).mono (by have := c3.size; omega), ((ha.below c3 hB).mono (by have := c3.size; omega)).below (Below.refl W3.heap.size W3).drew (Nat.le_refl _)⟩
 have sb3 : SL W3.heap.size W3 q M d b ∧ SL W3.heap.size W3.drew q M d b := ⟨(hb.below c3 hB).mono (by have := c3.size; omega), ((hb.below c3 hB).mono (by have := c3.size; omega)).below (Below.refl W3.heap.size W3).drew (Nat.le_refl _)⟩
 have GG : zS (Nat.gcd F S = Nat.gcd a b) := zH T9.out.2.2.2.2.2.2.2.2.2.2.2.2.1
 clear c2 r3 q3
 by_cases hA : A2 = 0
 ·
  have d0 : ((A2 : Int) == 0) = true := by simp; omega
  obtain ⟨K1, hK1⟩ : ∃ K1, wl (a / b) = K1 := ⟨_, rfl⟩
  obtain ⟨K2, hK2⟩ : ∃ K2, wl (a % b) = K2 := ⟨_, rfl⟩
  have H1 := zH hK1
  have H2 := zH hK2
  clear hA hK1 hK2
  go_wp2_with fail
  try rw [hW3]
  refine (l_divide W3 p q (m + 2) c a M d b W3.heap.size K1 K2 sa3.1 sb3.1 (Nat.le_refl _) (by omega) (by omega) LB.out B0.out H1.out H2.out).mono ?_
  rintro e w4 ⟨u, ue, v, ve, rfl, _, t4, b4⟩
  go_wp2
  go_ret2
  exact ⟨_, _, _, _, b, a % b, M, K2, rfl, (sb3.1.below b4 (Nat.le_refl _)).mono b4.size, t4, LB.out, H2.out, by rw [Nat.gcd_comm a b, Nat.gcd_rec b a, Nat.gcd_comm], Nat.le_of_lt (Nat.mod_lt _ (Nat.pos_of_ne_zero B0.out)), Nat.mod_lt _ (Nat.pos_of_ne_zero B0.out), Nat.le_refl _, zO c3 b4⟩
 ·
  have d0 : ((A2 : Int) == 0) = false := by simp; omega
  have mv : 0 < S ∧ S < F ∧ F ≤ b := by
   rcases T9.out.2.2.2.2.2.2.2.2.2.2.2.2.2.2.1 with h | h
   ·
    exact absurd h hA
   ·
    exact h
  have mF := mv.2.2
  obtain ⟨X, hX⟩ : ∃ X, wl F = X := ⟨_, rfl⟩
  obtain ⟨Y, hY⟩ : ∃ Y, wl S = Y := ⟨_, rfl⟩
  have HXX := zH hX
  have HYY := zH hY
  have NF : ∀ k, M ≤ k → F < 2 ^ (64 * k) := fun k hk => Nat.lt_of_le_of_lt mF (Nat.lt_of_lt_of_le hb.1 (yV _ _ hk))
  have NS : ∀ k, M ≤ k → S < 2 ^ (64 * k) := fun k hk => Nat.lt_of_lt_of_le (show S < b by omega) (Nat.le_of_lt (Nat.lt_of_lt_of_le hb.1 (yV _ _ hk)))
  have CE : zS (∀ W, Below W3.heap.size W3 W → W.cell? ⟨h + 1, 0, none⟩ = some (.int .u64 r2) ∧ W.cell? ⟨h + 1, 1, none⟩ = some (.int .u64 A2) ∧ W.cell? ⟨h + 1, 2, none⟩ = some (.int .u64 B2)) := zH (fun W hW => qE (zA hW _ _ _ Q3.out))
  have FIN : zS (wl F = X ∧ wl S = Y ∧ Nat.gcd F S = Nat.gcd a b ∧ S ≤ F ∧ S < b ∧ F ≤ b ∧ Below w.heap.size w W3) := zH ⟨hX, hY, GG.out, by omega, by omega, mF, c3⟩
  replace sa3 := sa3.1
  replace sb3 := sb3.1
  clear hX hY HH TT LB HAB B0 b1 b2 c3 R3 Q3 GG hA mv mF ha hb hB hx64 hxy
  cases sw
  ·
   have VF : F + b * B1 = a * A1 := by
    have := T9.out.2.1
    simp at this
    omega
   have VS : S + a * A2 = b * B2 := by
    have := T9.out.2.2.1
    simp at this
    omega
   have C1 : zS (∀ W, Below W3.heap.size W3 W → Calls Tryz.prog 329 #[.slice p (m + 2) c, .int .u64 A1, .slice q M d, .int .u64 B1] W fun r w' => ∃ y e, r = .returned (.slice y X e) ∧ (SL w'.heap.size w' y X e F ∧ Below W3.heap.size W3 w')) := zH (fun W hW => (l_balance W p q (m + 2) c a A1 M d b B1 W3.heap.size F X (sa3.below hW (Nat.le_refl _)) (sb3.below hW (Nat.le_refl _)) hW.size (by omega) (by omega) i1 i2 VF (NF _ (by omega)) HXX.out).mono (fun _ _ ⟨y, e, h1, h2, h3⟩ => ⟨y, e, h1, h2, zO hW h3⟩))
   have C2 : zS (∀ W, Below W3.heap.size W3 W → Calls Tryz.prog 329 #[.slice q M d, .int .u64 B2, .slice p (m + 2) c, .int .u64 A2] W fun r w' => ∃ y e, r = .returned (.slice y Y e) ∧ (SL w'.heap.size w' y Y e S ∧ Below W.heap.size W w')) := zH (fun W hW => (l_balance W q p M d b B2 (m + 2) c a A2 W3.heap.size S Y (sb3.below hW (Nat.le_refl _)) (sa3.below hW (Nat.le_refl _)) hW.size (by omega) (by omega) i4 i3 VS (NS _ (by omega)) HYY.out).mono (fun _ _ ⟨y, e, h1, h2, h3⟩ => ⟨y, e, h1, h2, h3⟩))
   clear VF VS NF NS sa3 sb3 T9 i1 i2 i3 i4
   go_wp2
   try rw [hW3]
   clear hW3 hh
   go_region_with (first
    | (go_at_call_of 329 (Value.int IntKind.u64 (B2 : Int)); refine (C2.out _ ?_).mono ?_; exact b4; rintro e w5 ⟨y2, f2, rfl, P5⟩)
    | (go_at_call_of 329 (Value.int IntKind.u64 (B1 : Int)); refine (C1.out _ ?_).mono ?_; exact (Below.refl W3.heap.size W3).drew; rintro e w4 ⟨y1, f1, rfl, s4, b4⟩; obtain ⟨k4, k5, k6⟩ := CE.out w4 b4))
   all_goals go_wp2
   all_goals go_ret2
   all_goals exact ⟨_, _, _, _, F, S, X, Y, rfl, (s4.below P5.2 (Nat.le_refl _)).mono P5.2.size, P5.1, FIN.out.1, FIN.out.2.1, FIN.out.2.2.1, FIN.out.2.2.2.1, FIN.out.2.2.2.2.1, FIN.out.2.2.2.2.2.1, zO FIN.out.2.2.2.2.2.2 (zO b4 P5.2)⟩
  ·
   have VF : F + a * A1 = b * B1 := by
    have := T9.out.2.1
    simp at this
    omega
   have VS : S + b * B2 = a * A2 := by
    have := T9.out.2.2.1
    simp at this
    omega
   have C1 : zS (∀ W, Below W3.heap.size W3 W → Calls Tryz.prog 329 #[.slice q M d, .int .u64 B1, .slice p (m + 2) c, .int .u64 A1] W fun r w' => ∃ y e, r = .returned (.slice y X e) ∧ (SL w'.heap.size w' y X e F ∧ Below W3.heap.size W3 w')) := zH (fun W hW => (l_balance W q p M d b B1 (m + 2) c a A1 W3.heap.size F X (sb3.below hW (Nat.le_refl _)) (sa3.below hW (Nat.le_refl _)) hW.size (by omega) (by omega) i2 i1 VF (NF _ (by omega)) HXX.out).mono (fun _ _ ⟨y, e, h1, h2, h3⟩ => ⟨y, e, h1, h2, zO hW h3⟩))
   have C2 : zS (∀ W, Below W3.heap.size W3 W → Calls Tryz.prog 329 #[.slice p (m + 2) c, .int .u64 A2, .slice q M d, .int .u64 B2] W fun r w' => ∃ y e, r = .returned (.slice y Y e) ∧ (SL w'.heap.size w' y Y e S ∧ Below W.heap.size W w')) := zH (fun W hW => (l_balance W p q (m + 2) c a A2 M d b B2 W3.heap.size S Y (sa3.below hW (Nat.le_refl _)) (sb3.below hW (Nat.le_refl _)) hW.size (by omega) (by omega) i3 i4 VS (NS _ (by omega)) HYY.out).mono (fun _ _ ⟨y, e, h1, h2, h3⟩ => ⟨y, e, h1, h2, h3⟩))
   clear VF VS NF NS sa3 sb3 T9 i1 i2 i3 i4
   go_wp2
   try rw [hW3]
   clear hW3 hh
   go_region_with (first
    | (go_at_call_of 329 (Value.int IntKind.u64 (B2 : Int)); refine (C2.out _ ?_).mono ?_; exact b4; rintro e w5 ⟨y2, f2, rfl, P5⟩)
    | (go_at_call_of 329 (Value.int IntKind.u64 (B1 : Int)); refine (C1.out _ ?_).mono ?_; exact (Below.refl W3.heap.size W3).drew; rintro e w4 ⟨y1, f1, rfl, s4, b4⟩; obtain ⟨k4, k5, k6⟩ := CE.out w4 b4))
   all_goals go_wp2
   all_goals go_ret2
   all_goals exact ⟨_, _, _, _, F, S, X, Y, rfl, (s4.below P5.2 (Nat.le_refl _)).mono P5.2.size, P5.1, FIN.out.1, FIN.out.2.1, FIN.out.2.2.1, FIN.out.2.2.2.1, FIN.out.2.2.2.2.1, FIN.out.2.2.2.2.2.1, zO FIN.out.2.2.2.2.2.2 (zO b4 P5.2)⟩
theorem wd0_small (y : Nat) (h : wl y ≤ 1) : wd y 0 = y := by
 have h1 := Nat.lt_of_lt_of_le (wl_lt y) (yV _ 1 h)
 unfold wd
 rw [Nat.mul_zero, Nat.pow_zero, Nat.div_one, Nat.mod_eq_of_lt (by rw [Nat.mul_one, ← xK] at h1; exact h1)]

theorem cw1g (x : Nat) (h : x < 18446744073709551616) : #[Value.int .u64 x] = cw 1 x := by
 have e : wd x 0 = x := by unfold wd; rw [Nat.mul_zero, Nat.pow_zero, Nat.div_one, Nat.mod_eq_of_lt h]
 show _ = #[Value.int .u64 (wd x 0)]
 rw [e]

theorem l_divisor (w : World) (p q : Option Addr) (L c a M d b B g : Nat) (ha : SL B w p L c a) (hb : SL B w q M d b) (hB : B ≤ w.heap.size) (hL : L ≤ 5000) (hM : M ≤ 5000) (la : wl a = L) (lb : wl b = M) (hg : Nat.gcd a b = g) :
  Calls Tryz.prog 298 #[.slice p L c, .slice q M d] w fun r w' => ∃ u K e, r = .returned (.slice u K e) ∧ SL w'.heap.size w' u K e g ∧ K ≤ 5000 ∧ Below w.heap.size w w' := by
 obtain ⟨k, hk⟩ : ∃ k, xY a b = k := ⟨_, rfl⟩
 obtain ⟨F, hF⟩ := num_fun
 have HF := zH hF
 have HC := zH (l_compare w p q L c a M d b B B k ha hb (by omega) (by omega) la lb hB hB hk)
 have LA := zH la
 have LB := zH lb
 have HG := zH hg
 have hcase : (decide (k < 0) = true ∧ a ≤ b) ∨ (decide (k < 0) = false ∧ b ≤ a) := by
  unfold xY at hk
  by_cases e : a = b
  ·
   rw [if_pos e] at hk; right; exact ⟨decide_eq_false (by omega), by omega⟩
  ·
   rw [if_neg e] at hk
   by_cases e2 : a < b
   ·
    rw [if_pos e2] at hk; left; exact ⟨decide_eq_true (by omega), by omega⟩
   ·
    rw [if_neg e2] at hk; right; exact ⟨decide_eq_false (by omega), by omega⟩
 clear hk hF la lb hg
 rcases hcase with ⟨d0, hab⟩ | ⟨d0, hab⟩
 all_goals
  go_enter Tryz.func298, Tryz.ntmps298
  go_wp2_with fail
  refine HC.out.mono ?_
  rintro e w1 ⟨rfl, b1⟩
  have sa := (ha.below b1 hB).mono (Nat.le_trans hB b1.size)
  have sb := (hb.below b1 hB).mono (Nat.le_trans hB b1.size)
  go_wp2
  go_loopw [0, 1] (fun av bv wr => ∃ (p' q' : Option Addr) (L' c' M' d' : Nat), av = .slice p' L' c' ∧ bv = .slice q' M' d' ∧ L' ≤ 5000 ∧ M' ≤ 5000 ∧ Below w.heap.size w wr ∧ zS (∃ x y, SL wr.heap.size wr p' L' c' x ∧ SL wr.heap.size wr q' M' d' y ∧ wl x = L' ∧ wl y = M' ∧ y ≤ x ∧ Nat.gcd x y = g)) (fun _ bv wr => F wr bv)
  case atStart => first
   | exact ⟨p, q, L, c, M, d, rfl, rfl, hL, hM, b1, zH ⟨a, b, sa, sb, LA.out, LB.out, hab, HG.out⟩⟩
   | exact ⟨q, p, M, d, L, c, rfl, rfl, hM, hL, b1, zH ⟨b, a, sb, sa, LB.out, LA.out, hab, by rw [Nat.gcd_comm]; exact HG.out⟩⟩
  case round =>
   clear sa sb
   obtain ⟨p', q', L', c', M', d', rfl, rfl, hL', hM', hbw, HE⟩ := hrel
   obtain ⟨x, y, sx, sy, lx, ly, hyx, hgg⟩ := HE.out
   clear HE
   by_cases hM2 : 1 < M'
   ·
    have d1 : decide (1 < M') = true := decide_eq_true hM2
    have FY := zH (HF.out _ _ _ _ _ _ sy)
    have SH := zH (l_shorten wr p' q' L' c' x M' d' y wr.heap.size sx sy (Nat.le_refl _) (by omega) lx ly hyx hM2)
    have LX := zH lx
    have LY := zH ly
    have GG := zH hgg
    have HYX := zH hyx
    clear lx ly hgg hyx sx sy
    go_wp2_with fail
    refine SH.out.mono ?_
    rintro e w2 ⟨u, v, f1, f2, X, S, K1, K2, rfl, sX, sS, lX, lS, hgX, hSX, hSy, hXy, b2⟩
    have FS := zH (HF.out _ _ _ _ _ _ sS)
    have NB : zS (∃ x y, SL w2.heap.size w2 u K1 f1 x ∧ SL w2.heap.size w2 v K2 f2 y ∧ wl x = K1 ∧ wl y = K2 ∧ y ≤ x ∧ Nat.gcd x y = g) := zH ⟨X, S, sX, sS, lX, lS, hSX, by rw [hgX]; exact GG.out⟩
    have k1 : K1 ≤ 5000 := by rw [← lX]; exact Nat.le_trans (wl_mono _ _ hXy) (by rw [LY.out]; exact hM')
    have k2 : K2 ≤ 5000 := by rw [← lS]; exact Nat.le_trans (wl_mono S y (by omega)) (by rw [LY.out]; exact hM')
    have c2 := zO hbw b2
    have SY := zH hSy
    clear sX sS lX lS hgX hSX hSy hXy b2
    go_wp2
    go_roundw
    case rel => exact ⟨_, _, _, _, _, _, rfl, rfl, k1, k2, c2, NB⟩
    case measure =>
     show F _ _ < F _ _
     rw [FS.out, FY.out]
     exact SY.out
   ·
    have d1 : decide (1 < M') = false := decide_eq_false hM2
    by_cases h0 : M' = 0
    ·
     subst h0
     have ey : y = 0 := wl_eq0 y ly
     subst ey
     rw [Nat.gcd_zero_right] at hgg
     subst hgg
     have SX := zH sx
     clear lx ly hyx sx sy
     go_wp2
     go_ret
     exact ⟨_, _, _, rfl, SX.out, hL', hbw⟩
    ·
     obtain rfl : M' = 1 := by omega
     obtain ⟨bq, oq, rfl, _⟩ := sy.ptr (by omega)
     have y0 : y ≠ 0 := fun e => by rw [e, wl_zero] at ly; omega
     have c1 := sy.cell 0 y (by omega) (wd0_small y (by omega))
     rw [Nat.add_zero] at c1
     have y64 : y < 18446744073709551616 := by rw [← wd0_small y (by omega)]; exact yU _ _
     by_cases h1 : y = 1
     ·
      subst h1
      rw [Nat.gcd_one_right] at hgg
      subst hgg
      have SY := zH sy
      clear lx ly hyx sx sy
      go_wp2
      go_ret
      exact ⟨_, _, _, rfl, SY.out, by omega, hbw⟩
     ·
      have d2 : ((y : Int) == 1) = false := by simp; omega
      obtain ⟨K1, hK1⟩ : ∃ K1, wl (x / y) = K1 := ⟨_, rfl⟩
      obtain ⟨K2, hK2⟩ : ∃ K2, wl (x % y) = K2 := ⟨_, rfl⟩
      have K2b : K2 ≤ 1 := by rw [← hK2, ← ly]; exact wl_mono _ _ (Nat.le_of_lt (Nat.mod_lt _ (Nat.pos_of_ne_zero y0)))
      have DV := zH (l_divide wr p' _ L' c' x 1 d' y wr.heap.size K1 K2 sx sy (Nat.le_refl _) (by omega) (by omega) ly y0 hK1 hK2)
      obtain ⟨z, hz⟩ : ∃ z, x % y = z := ⟨_, rfl⟩
      have zy : z < y := by rw [← hz]; exact Nat.mod_lt _ (Nat.pos_of_ne_zero y0)
      have hgz : Nat.gcd y z = g := by rw [← hgg, ← hz, Nat.gcd_comm x y, Nat.gcd_rec y x, Nat.gcd_comm]
      have WD := zH (fun W => l_wordDivisor y z g y64 (by omega) hgz W)
      have g64 : g < 18446744073709551616 := by
       have := Nat.gcd_le_left z (Nat.pos_of_ne_zero y0)
       rw [hgz] at this
       omega
      have HZ := zH hz
      have WY : zS (wl y ≤ 1) := zH (by omega)
      have G64 := zH g64
      have W0 : zS (wd z 0 = z) := zH (wd0_small z (by rw [← hz, hK2]; exact K2b))
      clear lx ly hyx hgg hK1 hK2 hz hgz sx
      go_wp2_with fail
      refine DV.out.mono ?_
      rintro e w2 ⟨u, f1, v, f2, rfl, _, sv, b2⟩
      rw [HZ.out] at sv
      have c2 := (sy.below b2 (Nat.le_refl _)).cell 0 y (by omega) (wd0_small y WY.out)
      rw [Nat.add_zero] at c2
      have b3 := zO hbw b2
      have AT := zH (fun W (h : Below w2.heap.size w2 W) => l_at W v K2 f2 z 0 z (sv.below h (Nat.le_refl _)) W0.out (by omega))
      clear sv b2 sy c1 DV hbw HF HC LA LB HG b1 g64 y0
      go_wp2
      go_region_with (first
       | (go_at_call 299; refine (AT.out _ ?_).mono ?_; exact (Below.refl w2.heap.size w2).drew; rintro e w' ⟨rfl, rfl⟩)
       | (go_at_call 321; refine (WD.out _).mono ?_; rintro e w5 ⟨rfl, b5⟩))
      all_goals
       have b6 : Below w.heap.size w w5 := zO b3 (((Below.refl w2.heap.size w2).drew).trans b5)
       have r6 : (w5.alloc (.cells #[.int .u64 g] 23)).heap[w5.heap.size]? = some (.cells (cw 1 g) 23) := by rw [← cw1g g G64.out]; exact heap_alloc_last _ _
       have s6 : SL (w5.alloc (.cells #[.int .u64 g] 23)).heap.size (w5.alloc (.cells #[.int .u64 g] 23)) (some ⟨w5.heap.size, 0, none⟩) 1 1 g := SL.row r6 _ (Array.getElem?_eq_some_iff.1 r6).1 (by rw [Nat.mul_one, ← xK]; exact G64.out) (Nat.le_refl _)
       have S6 := zH s6
       clear r6 s6
       go_wp2
       go_ret
       exact ⟨_, _, _, rfl, S6.out, by omega, zO b6 (yK _ _)⟩

theorem pn_gcd_ok (a b : Nat) (s t v : ByteArray) (hs : yG a = s) (ht : yG b = t) (ha : nl a ≤ 16384) (hb : nl b ≤ 16384) (hv : yG (Nat.gcd a b) = v) (w : World) :
  Calls Tryz.prog 251 #[.string s, .string t] w fun r w' => r = .returned (.tuple #[.string v, .int .i64 0]) ∧ Below w.heap.size w w' := by
 have HO := zH (ok2 hs ht ha hb)
 have HS := zH hs
 have HT := zH ht
 have HA := zH ha
 have HB := zH hb
 have HV := zH hv
 obtain ⟨K, hK⟩ : ∃ K, wl a = K := ⟨_, rfl⟩
 obtain ⟨M, hM⟩ : ∃ M, wl b = M := ⟨_, rfl⟩
 have hK2 : K ≤ 2048 := by rw [← hK]; exact xU a ha
 have hM2 : M ≤ 2048 := by rw [← hM]; exact xU b hb
 have HK := zH hK
 have HM := zH hM
 have b0 := yK w (.cells #[.string s, .string t] 39)
 clear hs ht ha hb hv hK hM
 go_enter Tryz.func251, Tryz.ntmps251
 go_wp2_with fail
 refine (n_may2 s t true HO.out _ w).mono ?_
 rintro r w0 ⟨rfl, rfl⟩
 go_wp2_with fail
 refine (y9 a K s HS.out (by have := HA.out; omega) HK.out _).mono ?_
 rintro r w1 ⟨p, c, rfl, s1, b1⟩
 go_wp2_with fail
 refine (y9 b M t HT.out (by have := HB.out; omega) HM.out _).mono ?_
 rintro r w2 ⟨q, d, rfl, s2, b2⟩
 go_wp2_with fail
 refine (l_divisor w2 p q K c a M d b w2.heap.size _ ((s1.below b2 (Nat.le_refl _)).mono b2.size) s2 (Nat.le_refl _) (by omega) (by omega) HK.out HM.out rfl).mono ?_
 rintro r w3 ⟨u, N, f, rfl, s3, N2, b3⟩
 go_wp2_with fail
 refine (l_natOf w3 u N f (Nat.gcd a b) _ v s3 (Nat.le_refl _) (by omega) HV.out).mono ?_
 rintro r w4 ⟨rfl, b4⟩
 go_wp2
 go_ret2
 exact ⟨rfl, zO b0 (zO b1 (zO b2 (zO b3 b4)))⟩
end Go.Proofs.YtkblmpmkchkpjaaGreatDoor
