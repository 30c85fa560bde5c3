/-
  What the functions that the statement reaches return: part 17 (R5, R4, R6, R7).
-/
import Derived.Test.YtkblmpmkchkpjaaGreatDoorNe16
namespace Go.Proofs.YtkblmpmkchkpjaaGreatDoor
set_option maxRecDepth 100000
set_option maxHeartbeats 40000000
open Go.RowKit WMath XMath
set_option linter.unusedSimpArgs false
set_option linter.unusedVariables false
theorem sandwich (φ : Nat → Rat) (mono : ∀ i j, i < j → φ i < φ j) {u : Rat} {m m' K : Nat} {b b' : Bool} (pk : 0 < K) (x1 : φ m ≤ u) (x2 : u < φ (m + 1)) (x3 : b = true ↔ φ m = u) (y1 : φ (m' * K) ≤ u) (y2 : u < φ ((m' + 1) * K)) (y3 : b' = true ↔ φ (m' * K) = u) :
  m' = m / K ∧ b' = (b && decide (m % K = 0)) := by
 have lt_of : ∀ i j, φ i < φ j → i < j := fun i j h => by
  rcases Nat.lt_trichotomy i j with c | c | c
  ·
   exact c
  ·
   subst c; exact absurd h Rat.lt_irrefl
  ·
   exact absurd h (Rat.not_lt.2 (Rat.le_of_lt (mono _ _ c)))
 have c1 : m' * K < m + 1 := lt_of _ _ (by grind)
 have c2 : m < (m' + 1) * K := lt_of _ _ (by grind)
 have hm : m' = m / K := by
  symm
  rw [Nat.div_eq_iff pk]
  rw [Nat.add_mul] at c2
  omega
 refine ⟨hm, ?_⟩
 have hd := Nat.div_add_mod m K
 rw [Bool.eq_iff_iff, Bool.and_eq_true, decide_eq_true_iff, y3, x3]
 rw [← hm, Nat.mul_comm] at hd
 constructor
 ·
  intro q
  have le2 : m ≤ m' * K := by
   rcases Nat.lt_or_ge (m' * K) m with c | c
   ·
    have := mono _ _ c
    exact absurd this (Rat.not_lt.2 (by rw [q]; exact x1))
   ·
    exact c
  have em : m = m' * K := by omega
  exact ⟨by rw [em]; exact q, by omega⟩
 ·
  rintro ⟨q1, q2⟩
  have em : m' * K = m := by omega
  rw [em]
  exact q1
theorem within (φ : Nat → Rat) (mono : ∀ i j, i < j → φ i < φ j) {u : Rat} {m A B : Nat} (x1 : φ m ≤ u) (x2 : u < φ (m + 1)) (y1 : φ A ≤ u) (y2 : u < φ B) : A ≤ m ∧ m < B := by
 have lt_of : ∀ i j, φ i < φ j → i < j := fun i j h => by
  rcases Nat.lt_trichotomy i j with c | c | c
  ·
   exact c
  ·
   subst c; exact absurd h Rat.lt_irrefl
  ·
   exact absurd h (Rat.not_lt.2 (Rat.le_of_lt (mono _ _ c)))
 have c1 : A < m + 1 := lt_of _ _ (by grind)
 have c2 : m < B := lt_of _ _ (by grind)
 omega
theorem mono1 (a : Int) (i j : Nat) (h : i < j) : (i : Rat) * (2 : Rat) ^ a < (j : Rat) * (2 : Rat) ^ a := (Rat.mul_lt_mul_right (p2 a)).2 (Rat.natCast_lt_natCast.2 h)
theorem up1 (a : Int) (k n : Nat) : (n : Rat) * (2 : Rat) ^ (a + (k : Int)) = ((n * 2 ^ k : Nat) : Rat) * (2 : Rat) ^ a := by
 rw [Int.add_comm, p2add, p2nat, Rat.natCast_mul]; grind
theorem fl_ok (x : XN) (a : Int) (n0 : x.n ≠ 0) (hd : nl x.d ≤ 8192) (h1 : yI x - 300 ≤ a) (h2 : -2097152 ≤ a) (h3 : a ≤ 2097152) : (flX x a).2 = 0 := by
 unfold flX
 rw [if_neg (by omega), if_neg n0]
 by_cases c : a ≤ x.e
 ·
  rw [if_pos c, if_pos]
  have bs := blen_shift x.n (x.e - a).toNat n0
  unfold yI q8 at h1
  unfold nl at hd ⊢
  split at h1 <;> omega
 ·
  rw [if_neg c]
  split <;> rfl
def xW (f : Int) (x : XN) : Nat := (flX x (yI x - fP f)).1.1
def xM (f : Int) (x : XN) : Bool := !(flX x (yI x - fP f)).1.2
theorem x_num {f : Int} (hf : xH f) (x : XN) (hx : x.can) (n0 : x.n ≠ 0) (hd : nl x.d ≤ 8192) (ht1 : -1200000 ≤ yI x) (ht2 : yI x ≤ 1200000) :
  Wok f (xW f x) ∧ ∀ k : Nat, yI x - fP f + (k : Int) ≤ 2000000 → flX x (yI x - fP f + (k : Int)) = ((xW f x / 2 ^ k, !xM f x && decide (xW f x % 2 ^ k = 0)), 0) := by
 have hp := fp8 hf
 obtain ⟨n1, n2, n3, n4, n5, n6⟩ := nm8 hf
 obtain ⟨t1, t2⟩ := top_good x n0 hx.d0
 have g0 := fl_good x (yI x - fP f) hx n0 (fl_ok x _ n0 hd (by omega) (by omega) (by omega))
 constructor
 ·
  have := within (fun n => (n : Rat) * (2 : Rat) ^ (yI x - fP f)) (mono1 _) (A := 2 ^ (pV f + 1)) (B := 2 ^ (pV f + 2)) g0.1 g0.2.1 (by
   show ((2 ^ (pV f + 1) : Nat) : Rat) * _ ≤ _
   have e := up1 (yI x - fP f) (pV f + 1) 1
   rw [Nat.one_mul, show yI x - fP f + ((pV f + 1 : Nat) : Int) = yI x by omega] at e
   rw [← e]
   have : ((1 : Nat) : Rat) = 1 := rfl
   rw [this, Rat.one_mul]
   exact t1) (by
   show _ < ((2 ^ (pV f + 2) : Nat) : Rat) * _
   have e := up1 (yI x - fP f) (pV f + 2) 1
   rw [Nat.one_mul, show yI x - fP f + ((pV f + 2 : Nat) : Int) = yI x + 1 by omega] at e
   rw [← e]
   have : ((1 : Nat) : Rat) = 1 := rfl
   rw [this, Rat.one_mul]
   exact t2)
  unfold Wok xW
  rw [Nat.pow_succ, Nat.pow_succ, Nat.pow_succ] at this
  omega
 ·
  intro k hk
  have ok := fl_ok x (yI x - fP f + (k : Int)) n0 hd (by omega) (by omega) (by omega)
  have g := fl_good x (yI x - fP f + (k : Int)) hx n0 ok
  obtain ⟨⟨⟨m, b⟩, e⟩, he⟩ : ∃ q, flX x (yI x - fP f + (k : Int)) = q := ⟨_, rfl⟩
  rw [he] at ok g ⊢
  simp only at ok g
  rw [up1, up1] at g
  have := sandwich (fun n => (n : Rat) * (2 : Rat) ^ (yI x - fP f)) (mono1 _) (b := (flX x (yI x - fP f)).1.2) (Nat.two_pow_pos k) g0.1 g0.2.1 g0.2.2 g.1 g.2.1 g.2.2
  obtain ⟨q1, q2⟩ := this
  unfold xM xW
  rw [Bool.not_not, q1, q2, ok]
end Go.Proofs.YtkblmpmkchkpjaaGreatDoor
namespace Go.Proofs.YtkblmpmkchkpjaaGreatDoor
set_option maxRecDepth 100000
set_option maxHeartbeats 40000000
open Go.RowKit WMath
set_option linter.unusedSimpArgs false
set_option linter.unusedVariables false
theorem ru_known1 (f : Int) (neg : Bool) (T St La : Int) (b : Bool) (s t : ByteArray) (e : Int) (m : ByteArray) (is mo : Bool) (w : World)
  (KS : zS (∀ w, yF w → Calls Tryz.prog 114 #[.int .u8 f, .int .i64 T] w fun r w' => r = .returned (.int .i64 St) ∧ Below w.heap.size w w'))
  (h1 : IntKind.i64.wrap (St - 1) = La) (hmo : (!is) = mo)
  (KF : zS (∀ w, zN w → Calls Tryz.prog 123 #[.agg #[.bool b, .string s, .string t, .int .i64 e], .int .i64 La] w fun r w' => r = .returned (.tuple #[.string m, .bool is]) ∧ Below w.heap.size w w'))
  (hT : yF w) (hT2 : zN w) : Calls Tryz.prog 121 #[.int .u8 f, .bool neg, .int .i64 T, .func (.func 123) #[.agg #[.bool b, .string s, .string t, .int .i64 e]] #[]] w fun r w' => r = .returned (.agg #[.bool neg, .int .i64 T, .int .i64 La, .string m, .bool mo]) ∧ Below w.heap.size w w' := by
 have FF := zH hT
 have TT := zH hT2
 clear hT hT2
 obtain ⟨Ac, B0⟩ := yO w (Obj.cells #[.bool false, .int .i64 0, .int .i64 0, .string ⟨#[]⟩, .bool false] 89)
 go_enter Tryz.func121, Tryz.ntmps121
 go_wp2_with fail
 refine (KS.out _ (zW FF.out B0)).mono ?_
 rintro r w1 ⟨rfl, b1⟩
 have B1 := zO B0 b1
 have Ab := zA b1 _ _ _ Ac
 clear b1 B0 Ac
 have Ad := zE Ab 0 _ rfl
 have Ae := zE Ab 1 _ rfl
 have Af := zE Ab 2 _ rfl
 have Ag := zE Ab 3 _ rfl
 have Ah := zE Ab 4 _ rfl
 go_wp2_with fail
 refine (KF.out _ (zV TT.out B1)).mono ?_
 rintro r w2 ⟨rfl, b2⟩
 have B2 := zO B1 b2
 have Aa := zA b2 _ _ _ Ab
 clear b2 B1 Ab Ad Ae Af Ag Ah
 have Ai := zE Aa 0 _ rfl
 have Aj := zE Aa 1 _ rfl
 have Ak := zE Aa 2 _ rfl
 have Al := zE Aa 3 _ rfl
 have Am := zE Aa 4 _ rfl
 have q0 := fz (k := 0) Aa
 have q1 := fz (k := 1) Aa
 have q2 := fz (k := 2) Aa
 have q3 := fz (k := 3) Aa
 have q4 := fz (k := 4) Aa
 obtain ⟨E0, E1, E2, E3, E4⟩ := set5_cells Aa rfl (.bool neg) (.int .i64 T) (.int .i64 La) (.string m) (.bool mo)
 go_wp2
 exact bodyPost_ret (v := .agg #[.bool neg, .int .i64 T, .int .i64 La, .string m, .bool mo]) (by simp [results, Tryz.results121, go_sem, E0, E1, E2, E3, E4]) rfl ⟨rfl, set5_below B2 (by first | exact Nat.le_refl _ | omega | (skip; omega)) _ _ _ _ _⟩
theorem ru_ofExact (f : Int) (b : Bool) (s t : ByteArray) (e T La : Int) (m : ByteArray) (mo : Bool) (w : World)
  (KT : zS (∀ w, zN w → Calls Tryz.prog 122 #[.agg #[.bool b, .string s, .string t, .int .i64 e]] w fun r w' => r = .returned (.int .i64 T) ∧ Below w.heap.size w w'))
  (KK : zS (∀ w, yF w → zN w → Calls Tryz.prog 121 #[.int .u8 f, .bool b, .int .i64 T, .func (.func 123) #[.agg #[.bool b, .string s, .string t, .int .i64 e]] #[]] w fun r w' => r = .returned (.agg #[.bool b, .int .i64 T, .int .i64 La, .string m, .bool mo]) ∧ Below w.heap.size w w'))
  (hT : yF w) (hT2 : zN w) : Calls Tryz.prog 50 #[.int .u8 f, .agg #[.bool b, .string s, .string t, .int .i64 e]] w fun r w' => r = .returned (.agg #[.bool b, .int .i64 T, .int .i64 La, .string m, .bool mo]) ∧ Below w.heap.size w w' := by
 have FF := zH hT
 have TT := zH hT2
 clear hT hT2
 have hmf : ∀ (fn : Fn) (first cap : Array Value) (w : World), (Instr.makeFunc fn first cap).run Tryz.prog w = .ok (.func fn first cap) w := fun _ _ _ _ => rfl
 obtain ⟨Ak, Al, B0⟩ := qW w (Obj.cells #[.bool b, .string s, .string t, .int .i64 e] 41) (Obj.cells #[.bool false, .int .i64 0, .int .i64 0, .string ⟨#[]⟩, .bool false] 89)
 go_enter Tryz.func50, Tryz.ntmps50
 have sS : zS (∀ W W1 : World, (Below w.heap.size w W ∧ W.heap[w.heap.size]? = some (.cells #[.bool b, .string s, .string t, .int .i64 e] 41)) → Below W.heap.size W W1 → (Below w.heap.size w W1 ∧ W1.heap[w.heap.size]? = some (.cells #[.bool b, .string s, .string t, .int .i64 e] 41))) := zH (fun W W1 h b => ⟨zO h.1 b, zA b _ _ _ h.2⟩)
 have sT : zS (∀ (W : World) (xA xB xC xD xE : Value), (Below w.heap.size w W ∧ W.heap[w.heap.size]? = some (.cells #[.bool b, .string s, .string t, .int .i64 e] 41)) → (Below w.heap.size w (((((W.setCell ⟨w.heap.size + 1, 0, none⟩ xA).setCell ⟨w.heap.size + 1, 1, none⟩ xB).setCell ⟨w.heap.size + 1, 2, none⟩ xC).setCell ⟨w.heap.size + 1, 3, none⟩ xD).setCell ⟨w.heap.size + 1, 4, none⟩ xE) ∧ (((((W.setCell ⟨w.heap.size + 1, 0, none⟩ xA).setCell ⟨w.heap.size + 1, 1, none⟩ xB).setCell ⟨w.heap.size + 1, 2, none⟩ xC).setCell ⟨w.heap.size + 1, 3, none⟩ xD).setCell ⟨w.heap.size + 1, 4, none⟩ xE).heap[w.heap.size]? = some (.cells #[.bool b, .string s, .string t, .int .i64 e] 41))) := zH (fun W xA xB xC xD xE h => ⟨set5_below h.1 (by first | exact Nat.le_refl _ | omega | (skip; omega)) xA xB xC xD xE, ((zG (by first | omega | (skip; omega))).trans ((zG (by first | omega | (skip; omega))).trans ((zG (by first | omega | (skip; omega))).trans ((zG (by first | omega | (skip; omega))).trans ((zG (by first | omega | (skip; omega))).trans h.2)))))⟩)
 have sC : zS (∀ W : World, (Below w.heap.size w W ∧ W.heap[w.heap.size]? = some (.cells #[.bool b, .string s, .string t, .int .i64 e] 41)) → (Below w.heap.size w W ∧ W.heap[w.heap.size]? = some (.cells #[.bool b, .string s, .string t, .int .i64 e] 41) ∧ W.cell? ⟨w.heap.size, 0, none⟩ = some (.bool b) ∧ W.cell? ⟨w.heap.size, 1, none⟩ = some (.string s) ∧ W.cell? ⟨w.heap.size, 2, none⟩ = some (.string t) ∧ W.cell? ⟨w.heap.size, 3, none⟩ = some (.int .i64 e))) := zH (fun W h => ⟨h.1, h.2, zL (h.2) 0 _ rfl, zL (h.2) 1 _ rfl, zL (h.2) 2 _ rfl, zL (h.2) 3 _ rfl⟩)
 have s0 : Below w.heap.size w (((w.alloc (Obj.cells #[.bool b, .string s, .string t, .int .i64 e] 41)).alloc (Obj.cells #[.bool false, .int .i64 0, .int .i64 0, .string ⟨#[]⟩, .bool false] 89))).drew ∧ (((w.alloc (Obj.cells #[.bool b, .string s, .string t, .int .i64 e] 41)).alloc (Obj.cells #[.bool false, .int .i64 0, .int .i64 0, .string ⟨#[]⟩, .bool false] 89))).drew.heap[w.heap.size]? = some (.cells #[.bool b, .string s, .string t, .int .i64 e] 41) := ⟨B0.drew, Ak⟩
 have rz : (((w.alloc (Obj.cells #[.bool b, .string s, .string t, .int .i64 e] 41)).alloc (Obj.cells #[.bool false, .int .i64 0, .int .i64 0, .string ⟨#[]⟩, .bool false] 89))).drew.heap[w.heap.size + 1]? = some (.cells #[.bool false, .int .i64 0, .int .i64 0, .string ⟨#[]⟩, .bool false] 89) := Al
 have Aa := fz (k := 0) rz
 have Ab := fz (k := 1) rz
 have Ac := fz (k := 2) rz
 have Ad := fz (k := 3) rz
 have Ae := fz (k := 4) rz
 have Af := zL rz 0 _ rfl
 have Ag := zL rz 1 _ rfl
 have Ah := zL rz 2 _ rfl
 have Ai := zL rz 3 _ rfl
 have Aj := zL rz 4 _ rfl
 go_wp2_with fail
 go_region_held3 (fun W => Below w.heap.size w W ∧ W.heap[w.heap.size]? = some (.cells #[.bool b, .string s, .string t, .int .i64 e] 41) ∧ W.cell? ⟨w.heap.size, 0, none⟩ = some (.bool b) ∧ W.cell? ⟨w.heap.size, 1, none⟩ = some (.string s) ∧ W.cell? ⟨w.heap.size, 2, none⟩ = some (.string t) ∧ W.cell? ⟨w.heap.size, 3, none⟩ = some (.int .i64 e)) (first | exact sC.out _ s1 | exact sC.out _ s0 | exact sC.out _ (sT.out _ _ _ _ _ _ s1) | exact sC.out _ (sT.out _ _ _ _ _ _ s0))
  (((first | (go_at_call 122; (first | refine (KT.out _ (zV TT.out (And.left s1))).mono ?_ | refine (KT.out _ (zV TT.out (And.left s0))).mono ?_)) | (go_at_call 121; (first | refine (KK.out _ (zW FF.out (And.left s1)) (zV TT.out (And.left s1))).mono ?_ | refine (KK.out _ (zW FF.out (And.left s0)) (zV TT.out (And.left s0))).mono ?_)) | fail); rintro r wq ⟨rfl, bq⟩; have s1 := (by first | exact sS.out _ _ s1 bq | exact sS.out _ _ s0 bq); have rz := zA bq _ _ _ rz; have Aa := fz (k := 0) rz; have Af := zL rz 0 _ rfl; have Ab := fz (k := 1) rz; have Ag := zL rz 1 _ rfl; have Ac := fz (k := 2) rz; have Ah := zL rz 2 _ rfl; have Ad := fz (k := 3) rz; have Ai := zL rz 3 _ rfl; have Ae := fz (k := 4) rz; have Aj := zL rz 4 _ rfl; clear bq))
 all_goals
  obtain ⟨E0, E1, E2, E3, E4⟩ := set5_cells rz rfl (.bool b) (.int .i64 T) (.int .i64 La) (.string m) (.bool mo)
  have BZ := (by first | exact And.left s1 | exact And.left s0 : Below w.heap.size w _)
  go_wp2
  exact bodyPost_ret (v := .agg #[.bool b, .int .i64 T, .int .i64 La, .string m, .bool mo]) (by simp [results, Tryz.results50, go_sem, E0, E1, E2, E3, E4]) rfl ⟨rfl, set5_below BZ (by first | exact Nat.le_refl _ | omega | (skip; omega)) _ _ _ _ _⟩
theorem ru_round (m st : Int) (neg : Bool) (T La : Int) (ws : ByteArray) (more : Bool) (A1 K e1 e2 e3 e4 : Int) (hs ss us ss' rs : ByteArray) (lost half odd o mo : Bool) (w : World)
  (K1 : zS (∀ w, zN w → Calls Tryz.prog 199 #[.string ws, .int .i64 K] w fun r w' => r = .returned (.tuple #[.string hs, .bool lost, .int .i64 e1]) ∧ Below w.heap.size w w'))
  (K2 : zS (∀ w, zN w → Calls Tryz.prog 199 #[.string hs, .int .i64 1] w fun r w' => r = .returned (.tuple #[.string ss, .bool half, .int .i64 e2]) ∧ Below w.heap.size w w'))
  (K3 : zS (∀ w, zN w → Calls Tryz.prog 199 #[.string ss, .int .i64 1] w fun r w' => r = .returned (.tuple #[.string us, .bool odd, .int .i64 e3]) ∧ Below w.heap.size w w'))
  (KG : zS (∀ w, Calls Tryz.prog 200 #[.int .u8 m, .bool neg, .bool odd, .agg #[.bool half, .bool mo]] w fun r w' => r = .returned (.bool o) ∧ Below w.heap.size w w'))
  (KA : zS (o = true → ∀ w, Calls Tryz.prog 201 #[.string ss, .string ⟨#[1]⟩] w fun r w' => r = .returned (.tuple #[.string ss', .int .i64 e4]) ∧ Below w.heap.size w w'))
  (h1 : IntKind.i64.wrap (st - 1) = A1) (h2 : IntKind.i64.wrap (A1 - La) = K) (hmo : (lost || more) = mo) (hrs : (if o = true then ss' else ss) = rs)
  (hT2 : zN w) : Calls Tryz.prog 113 #[.int .u8 m, .agg #[.bool neg, .int .i64 T, .int .i64 La, .string ws, .bool more], .int .i64 st] w fun r w' => r = .returned (.agg #[.string rs, .int .i64 st, .bool half, .bool mo]) ∧ Below w.heap.size w w' := by
 have TT := zH hT2
 clear hT2
 cases o
 ·
  rw [if_neg (by decide)] at hrs
  subst hrs
  clear KA
  cases lost
  ·
   obtain rfl : more = mo := hmo
   obtain ⟨Aq, Ar, B0⟩ := qW w (Obj.cells #[.bool neg, .int .i64 T, .int .i64 La, .string ws, .bool more] 89) (Obj.cells #[.string ⟨#[]⟩, .int .i64 0, .bool false, .bool false] 152)
   go_enter Tryz.func113, Tryz.ntmps113
   go_wp2_with fail
   refine (K1.out _ (zV TT.out B0)).mono ?_
   rintro r w1 ⟨rfl, b1⟩
   have B1 := zO B0 b1
   obtain ⟨Ab, Ah⟩ := yB b1 Aq Ar
   clear b1 B0 Aq Ar
   have Au := zE Ab 0 _ rfl
   have Av := zE Ab 1 _ rfl
   have Aw := zE Ab 2 _ rfl
   have Ax := zE Ab 3 _ rfl
   have Ay := zE Ab 4 _ rfl
   obtain ⟨Az, AA, AB, AC⟩ := zC Ah
   go_wp2_with fail
   refine (K2.out _ (zV TT.out B1)).mono ?_
   rintro r w2 ⟨rfl, b2⟩
   have B2 := zO B1 b2
   obtain ⟨Aa, Ag⟩ := yB b2 Ab Ah
   clear b2 B1 Ab Au Av Aw Ax Ay Ah Az AA AB AC
   have AD := zE Aa 0 _ rfl
   have AE := zE Aa 1 _ rfl
   have AF := zE Aa 2 _ rfl
   have AG := zE Aa 3 _ rfl
   have AH := zE Aa 4 _ rfl
   obtain ⟨AI, AJ, AK, AL⟩ := zC Ag
   go_wp2_with fail
   have S3 := zH B2.size
   have Am := z8 Aa
   have An := z8 Ag
   have Ai := heap_alloc_last w2 (Obj.cells #[.string ss, .int .i64 st, .bool half, .bool more] 152)
   have B3 := zO B2 (yK w2 (Obj.cells #[.string ss, .int .i64 st, .bool half, .bool more] 152))
   obtain ⟨Ac, Aj⟩ := yB (yK w2 (Obj.cells #[.string ss, .int .i64 st, .bool half, .bool more] 152)) Aa Ag
   clear B2 Aa AD AE AF AG AH Ag AI AJ AK AL
   have AM := zE Ac 0 _ rfl
   have AN := zE Ac 1 _ rfl
   have AO := zE Ac 2 _ rfl
   have AP := zE Ac 3 _ rfl
   have AQ := zE Ac 4 _ rfl
   obtain ⟨AR, AS, AT, AU⟩ := zC Aj
   obtain ⟨AV, AW, AX, AY⟩ := zC Ai
   go_wp2_with fail
   refine (K3.out _ (zV TT.out B3)).mono ?_
   rintro r w4 ⟨rfl, b4⟩
   have B4 := zO B3 b4
   obtain ⟨Ad, Ak, Al⟩ := yA b4 Ac Aj Ai
   clear b4 B3 Ac AM AN AO AP AQ Aj AR AS AT AU Ai AV AW AX AY
   have AZ := zE Ad 0 _ rfl
   have A0 := zE Ad 1 _ rfl
   have A2 := zE Ad 2 _ rfl
   have A3 := zE Ad 3 _ rfl
   have A4 := zE Ad 4 _ rfl
   obtain ⟨A5, A6, A7, A8⟩ := zC Ak
   obtain ⟨A9, Ba, Bb, Bc⟩ := zC Al
   go_wp2_with fail
   refine (KG.out _).mono ?_
   rintro r w5 ⟨rfl, b5⟩
   have B5 := zO B4 b5
   obtain ⟨Ae, Af, As⟩ := yA b5 Ad Ak Al
   clear b5 B4 Ad AZ A0 A2 A3 A4 Ak A5 A6 A7 A8 Al A9 Ba Bb Bc
   have Be := zE Ae 0 _ rfl
   have Bf := zE Ae 1 _ rfl
   have Bg := zE Ae 2 _ rfl
   have Bh := zE Ae 3 _ rfl
   have Bi := zE Ae 4 _ rfl
   obtain ⟨Bj, Bk, Bl, Bm⟩ := zC Af
   obtain ⟨Bn, Bo, Bp, Bq⟩ := zC As
   have q0 := fz (k := 0) Af
   have q1 := fz (k := 1) Af
   have q2 := fz (k := 2) Af
   have q3 := fz (k := 3) Af
   obtain ⟨E0, E1, E2, E3⟩ := yC Af rfl (.string ss) (.int .i64 st) (.bool half) (.bool more)
   go_wp2
   exact bodyPost_ret (v := .agg #[.string ss, .int .i64 st, .bool half, .bool more]) (by simp [results, Tryz.results113, go_sem, E0, E1, E2, E3]) rfl ⟨rfl, z9 B5 (by first | exact Nat.le_refl _ | omega | (have := S3.out; have := Am.out; have := An.out; omega)) _ _ _ _⟩
  ·
   obtain rfl : true = mo := hmo
   obtain ⟨Aq, Ar, B0⟩ := qW w (Obj.cells #[.bool neg, .int .i64 T, .int .i64 La, .string ws, .bool more] 89) (Obj.cells #[.string ⟨#[]⟩, .int .i64 0, .bool false, .bool false] 152)
   go_enter Tryz.func113, Tryz.ntmps113
   go_wp2_with fail
   refine (K1.out _ (zV TT.out B0)).mono ?_
   rintro r w1 ⟨rfl, b1⟩
   have B1 := zO B0 b1
   obtain ⟨Ab, Ah⟩ := yB b1 Aq Ar
   clear b1 B0 Aq Ar
   have Au := zE Ab 0 _ rfl
   have Av := zE Ab 1 _ rfl
   have Aw := zE Ab 2 _ rfl
   have Ax := zE Ab 3 _ rfl
   have Ay := zE Ab 4 _ rfl
   obtain ⟨Az, AA, AB, AC⟩ := zC Ah
   go_wp2_with fail
   refine (K2.out _ (zV TT.out B1)).mono ?_
   rintro r w2 ⟨rfl, b2⟩
   have B2 := zO B1 b2
   obtain ⟨Aa, Ag⟩ := yB b2 Ab Ah
   clear b2 B1 Ab Au Av Aw Ax Ay Ah Az AA AB AC
   have AD := zE Aa 0 _ rfl
   have AE := zE Aa 1 _ rfl
   have AF := zE Aa 2 _ rfl
   have AG := zE Aa 3 _ rfl
   have AH := zE Aa 4 _ rfl
   obtain ⟨AI, AJ, AK, AL⟩ := zC Ag
   have S3 := zH B2.size
   have Am := z8 Aa
   have An := z8 Ag
   have Ai := heap_alloc_last w2 (Obj.cells #[.string ss, .int .i64 st, .bool half, .bool true] 152)
   have B3 := zO B2 (yK w2 (Obj.cells #[.string ss, .int .i64 st, .bool half, .bool true] 152))
   obtain ⟨Ac, Aj⟩ := yB (yK w2 (Obj.cells #[.string ss, .int .i64 st, .bool half, .bool true] 152)) Aa Ag
   clear B2 Aa AD AE AF AG AH Ag AI AJ AK AL
   have AM := zE Ac 0 _ rfl
   have AN := zE Ac 1 _ rfl
   have AO := zE Ac 2 _ rfl
   have AP := zE Ac 3 _ rfl
   have AQ := zE Ac 4 _ rfl
   obtain ⟨AR, AS, AT, AU⟩ := zC Aj
   obtain ⟨AV, AW, AX, AY⟩ := zC Ai
   go_wp2_with fail
   refine (K3.out _ (zV TT.out B3)).mono ?_
   rintro r w4 ⟨rfl, b4⟩
   have B4 := zO B3 b4
   obtain ⟨Ad, Ak, Al⟩ := yA b4 Ac Aj Ai
   clear b4 B3 Ac AM AN AO AP AQ Aj AR AS AT AU Ai AV AW AX AY
   have AZ := zE Ad 0 _ rfl
   have A0 := zE Ad 1 _ rfl
   have A2 := zE Ad 2 _ rfl
   have A3 := zE Ad 3 _ rfl
   have A4 := zE Ad 4 _ rfl
   obtain ⟨A5, A6, A7, A8⟩ := zC Ak
   obtain ⟨A9, Ba, Bb, Bc⟩ := zC Al
   go_wp2_with fail
   refine (KG.out _).mono ?_
   rintro r w5 ⟨rfl, b5⟩
   have B5 := zO B4 b5
   obtain ⟨Ae, Af, As⟩ := yA b5 Ad Ak Al
   clear b5 B4 Ad AZ A0 A2 A3 A4 Ak A5 A6 A7 A8 Al A9 Ba Bb Bc
   have Be := zE Ae 0 _ rfl
   have Bf := zE Ae 1 _ rfl
   have Bg := zE Ae 2 _ rfl
   have Bh := zE Ae 3 _ rfl
   have Bi := zE Ae 4 _ rfl
   obtain ⟨Bj, Bk, Bl, Bm⟩ := zC Af
   obtain ⟨Bn, Bo, Bp, Bq⟩ := zC As
   have q0 := fz (k := 0) Af
   have q1 := fz (k := 1) Af
   have q2 := fz (k := 2) Af
   have q3 := fz (k := 3) Af
   obtain ⟨E0, E1, E2, E3⟩ := yC Af rfl (.string ss) (.int .i64 st) (.bool half) (.bool true)
   go_wp2
   exact bodyPost_ret (v := .agg #[.string ss, .int .i64 st, .bool half, .bool true]) (by simp [results, Tryz.results113, go_sem, E0, E1, E2, E3]) rfl ⟨rfl, z9 B5 (by first | exact Nat.le_refl _ | omega | (have := S3.out; have := Am.out; have := An.out; omega)) _ _ _ _⟩
 ·
  rw [if_pos rfl] at hrs
  subst hrs
  have K5 := zH (KA.out rfl)
  clear KA
  cases lost
  ·
   obtain rfl : more = mo := hmo
   obtain ⟨Aq, Ar, B0⟩ := qW w (Obj.cells #[.bool neg, .int .i64 T, .int .i64 La, .string ws, .bool more] 89) (Obj.cells #[.string ⟨#[]⟩, .int .i64 0, .bool false, .bool false] 152)
   go_enter Tryz.func113, Tryz.ntmps113
   go_wp2_with fail
   refine (K1.out _ (zV TT.out B0)).mono ?_
   rintro r w1 ⟨rfl, b1⟩
   have B1 := zO B0 b1
   obtain ⟨Ab, Ah⟩ := yB b1 Aq Ar
   clear b1 B0 Aq Ar
   have Au := zE Ab 0 _ rfl
   have Av := zE Ab 1 _ rfl
   have Aw := zE Ab 2 _ rfl
   have Ax := zE Ab 3 _ rfl
   have Ay := zE Ab 4 _ rfl
   obtain ⟨Az, AA, AB, AC⟩ := zC Ah
   go_wp2_with fail
   refine (K2.out _ (zV TT.out B1)).mono ?_
   rintro r w2 ⟨rfl, b2⟩
   have B2 := zO B1 b2
   obtain ⟨Aa, Ag⟩ := yB b2 Ab Ah
   clear b2 B1 Ab Au Av Aw Ax Ay Ah Az AA AB AC
   have AD := zE Aa 0 _ rfl
   have AE := zE Aa 1 _ rfl
   have AF := zE Aa 2 _ rfl
   have AG := zE Aa 3 _ rfl
   have AH := zE Aa 4 _ rfl
   obtain ⟨AI, AJ, AK, AL⟩ := zC Ag
   go_wp2_with fail
   have S3 := zH B2.size
   have Am := z8 Aa
   have An := z8 Ag
   have Ai := heap_alloc_last w2 (Obj.cells #[.string ss, .int .i64 st, .bool half, .bool more] 152)
   have B3 := zO B2 (yK w2 (Obj.cells #[.string ss, .int .i64 st, .bool half, .bool more] 152))
   obtain ⟨Ac, Aj⟩ := yB (yK w2 (Obj.cells #[.string ss, .int .i64 st, .bool half, .bool more] 152)) Aa Ag
   clear B2 Aa AD AE AF AG AH Ag AI AJ AK AL
   have AM := zE Ac 0 _ rfl
   have AN := zE Ac 1 _ rfl
   have AO := zE Ac 2 _ rfl
   have AP := zE Ac 3 _ rfl
   have AQ := zE Ac 4 _ rfl
   obtain ⟨AR, AS, AT, AU⟩ := zC Aj
   obtain ⟨AV, AW, AX, AY⟩ := zC Ai
   go_wp2_with fail
   refine (K3.out _ (zV TT.out B3)).mono ?_
   rintro r w4 ⟨rfl, b4⟩
   have B4 := zO B3 b4
   obtain ⟨Ad, Ak, Al⟩ := yA b4 Ac Aj Ai
   clear b4 B3 Ac AM AN AO AP AQ Aj AR AS AT AU Ai AV AW AX AY
   have AZ := zE Ad 0 _ rfl
   have A0 := zE Ad 1 _ rfl
   have A2 := zE Ad 2 _ rfl
   have A3 := zE Ad 3 _ rfl
   have A4 := zE Ad 4 _ rfl
   obtain ⟨A5, A6, A7, A8⟩ := zC Ak
   obtain ⟨A9, Ba, Bb, Bc⟩ := zC Al
   go_wp2_with fail
   refine (KG.out _).mono ?_
   rintro r w5 ⟨rfl, b5⟩
   have B5 := zO B4 b5
   obtain ⟨Ae, Af, As⟩ := yA b5 Ad Ak Al
   clear b5 B4 Ad AZ A0 A2 A3 A4 Ak A5 A6 A7 A8 Al A9 Ba Bb Bc
   have Be := zE Ae 0 _ rfl
   have Bf := zE Ae 1 _ rfl
   have Bg := zE Ae 2 _ rfl
   have Bh := zE Ae 3 _ rfl
   have Bi := zE Ae 4 _ rfl
   obtain ⟨Bj, Bk, Bl, Bm⟩ := zC Af
   obtain ⟨Bn, Bo, Bp, Bq⟩ := zC As
   go_wp2_with fail
   refine (K5.out _).mono ?_
   rintro r w6 ⟨rfl, b6⟩
   have B6 := zO B5 b6
   obtain ⟨Ao, Br, Bd⟩ := yA b6 Ae Af As
   clear b6 B5 Ae Be Bf Bg Bh Bi Af Bj Bk Bl Bm As Bn Bo Bp Bq
   have Bt := zE Ao 0 _ rfl
   have Bu := zE Ao 1 _ rfl
   have Bv := zE Ao 2 _ rfl
   have Bw := zE Ao 3 _ rfl
   have Bx := zE Ao 4 _ rfl
   obtain ⟨By, Bz, BA, BB⟩ := zC Br
   obtain ⟨BC, BD, BE, BF⟩ := zC Bd
   have qr_6 := fz (k := 0) Bd
   have B7 : Below w.heap.size w (w6.setCell ⟨w2.heap.size, 0, none⟩ (.string ss')) := B6.setCell (by first | exact Nat.le_refl _ | (have := S3.out; have := Am.out; have := An.out; show w.heap.size ≤ w2.heap.size; omega)) _
   have Bs : (w6.setCell ⟨w2.heap.size, 0, none⟩ (.string ss')).heap[w2.heap.size]? = some (.cells #[.string ss', .int .i64 st, .bool half, .bool more] 152) := by rw [z6 Bd]; rfl
   have At : (w6.setCell ⟨w2.heap.size, 0, none⟩ (.string ss')).heap[w.heap.size]? = some (.cells #[.bool neg, .int .i64 T, .int .i64 La, .string ws, .bool more] 89) := by rw [zG (by first | omega | (have := S3.out; have := Am.out; have := An.out; omega))]; exact Ao
   have Ap : (w6.setCell ⟨w2.heap.size, 0, none⟩ (.string ss')).heap[w.heap.size + 1]? = some (.cells #[.string ⟨#[]⟩, .int .i64 0, .bool false, .bool false] 152) := by rw [zG (by first | omega | (have := S3.out; have := Am.out; have := An.out; omega))]; exact Br
   have BG := zE At 0 _ rfl
   have BH := zE At 1 _ rfl
   have BI := zE At 2 _ rfl
   have BJ := zE At 3 _ rfl
   have BK := zE At 4 _ rfl
   obtain ⟨BL, BM, BN, BO⟩ := zC Ap
   obtain ⟨BP, BQ, BR, BS⟩ := zC Bs
   have q0 := fz (k := 0) Ap
   have q1 := fz (k := 1) Ap
   have q2 := fz (k := 2) Ap
   have q3 := fz (k := 3) Ap
   obtain ⟨E0, E1, E2, E3⟩ := yC Ap rfl (.string ss') (.int .i64 st) (.bool half) (.bool more)
   go_wp2
   exact bodyPost_ret (v := .agg #[.string ss', .int .i64 st, .bool half, .bool more]) (by simp [results, Tryz.results113, go_sem, E0, E1, E2, E3]) rfl ⟨rfl, z9 B7 (by first | exact Nat.le_refl _ | omega | (have := S3.out; have := Am.out; have := An.out; omega)) _ _ _ _⟩
  ·
   obtain rfl : true = mo := hmo
   obtain ⟨Aq, Ar, B0⟩ := qW w (Obj.cells #[.bool neg, .int .i64 T, .int .i64 La, .string ws, .bool more] 89) (Obj.cells #[.string ⟨#[]⟩, .int .i64 0, .bool false, .bool false] 152)
   go_enter Tryz.func113, Tryz.ntmps113
   go_wp2_with fail
   refine (K1.out _ (zV TT.out B0)).mono ?_
   rintro r w1 ⟨rfl, b1⟩
   have B1 := zO B0 b1
   obtain ⟨Ab, Ah⟩ := yB b1 Aq Ar
   clear b1 B0 Aq Ar
   have Au := zE Ab 0 _ rfl
   have Av := zE Ab 1 _ rfl
   have Aw := zE Ab 2 _ rfl
   have Ax := zE Ab 3 _ rfl
   have Ay := zE Ab 4 _ rfl
   obtain ⟨Az, AA, AB, AC⟩ := zC Ah
   go_wp2_with fail
   refine (K2.out _ (zV TT.out B1)).mono ?_
   rintro r w2 ⟨rfl, b2⟩
   have B2 := zO B1 b2
   obtain ⟨Aa, Ag⟩ := yB b2 Ab Ah
   clear b2 B1 Ab Au Av Aw Ax Ay Ah Az AA AB AC
   have AD := zE Aa 0 _ rfl
   have AE := zE Aa 1 _ rfl
   have AF := zE Aa 2 _ rfl
   have AG := zE Aa 3 _ rfl
   have AH := zE Aa 4 _ rfl
   obtain ⟨AI, AJ, AK, AL⟩ := zC Ag
   have S3 := zH B2.size
   have Am := z8 Aa
   have An := z8 Ag
   have Ai := heap_alloc_last w2 (Obj.cells #[.string ss, .int .i64 st, .bool half, .bool true] 152)
   have B3 := zO B2 (yK w2 (Obj.cells #[.string ss, .int .i64 st, .bool half, .bool true] 152))
   obtain ⟨Ac, Aj⟩ := yB (yK w2 (Obj.cells #[.string ss, .int .i64 st, .bool half, .bool true] 152)) Aa Ag
   clear B2 Aa AD AE AF AG AH Ag AI AJ AK AL
   have AM := zE Ac 0 _ rfl
   have AN := zE Ac 1 _ rfl
   have AO := zE Ac 2 _ rfl
   have AP := zE Ac 3 _ rfl
   have AQ := zE Ac 4 _ rfl
   obtain ⟨AR, AS, AT, AU⟩ := zC Aj
   obtain ⟨AV, AW, AX, AY⟩ := zC Ai
   go_wp2_with fail
   refine (K3.out _ (zV TT.out B3)).mono ?_
   rintro r w4 ⟨rfl, b4⟩
   have B4 := zO B3 b4
   obtain ⟨Ad, Ak, Al⟩ := yA b4 Ac Aj Ai
   clear b4 B3 Ac AM AN AO AP AQ Aj AR AS AT AU Ai AV AW AX AY
   have AZ := zE Ad 0 _ rfl
   have A0 := zE Ad 1 _ rfl
   have A2 := zE Ad 2 _ rfl
   have A3 := zE Ad 3 _ rfl
   have A4 := zE Ad 4 _ rfl
   obtain ⟨A5, A6, A7, A8⟩ := zC Ak
   obtain ⟨A9, Ba, Bb, Bc⟩ := zC Al
   go_wp2_with fail
   refine (KG.out _).mono ?_
   rintro r w5 ⟨rfl, b5⟩
   have B5 := zO B4 b5
   obtain ⟨Ae, Af, As⟩ := yA b5 Ad Ak Al
   clear b5 B4 Ad AZ A0 A2 A3 A4 Ak A5 A6 A7 A8 Al A9 Ba Bb Bc
   have Be := zE Ae 0 _ rfl
   have Bf := zE Ae 1 _ rfl
   have Bg := zE Ae 2 _ rfl
   have Bh := zE Ae 3 _ rfl
   have Bi := zE Ae 4 _ rfl
   obtain ⟨Bj, Bk, Bl, Bm⟩ := zC Af
   obtain ⟨Bn, Bo, Bp, Bq⟩ := zC As
   go_wp2_with fail
   refine (K5.out _).mono ?_
   rintro r w6 ⟨rfl, b6⟩
   have B6 := zO B5 b6
   obtain ⟨Ao, Br, Bd⟩ := yA b6 Ae Af As
   clear b6 B5 Ae Be Bf Bg Bh Bi Af Bj Bk Bl Bm As Bn Bo Bp Bq
   have Bt := zE Ao 0 _ rfl
   have Bu := zE Ao 1 _ rfl
   have Bv := zE Ao 2 _ rfl
   have Bw := zE Ao 3 _ rfl
   have Bx := zE Ao 4 _ rfl
   obtain ⟨By, Bz, BA, BB⟩ := zC Br
   obtain ⟨BC, BD, BE, BF⟩ := zC Bd
   have qr_6 := fz (k := 0) Bd
   have B7 : Below w.heap.size w (w6.setCell ⟨w2.heap.size, 0, none⟩ (.string ss')) := B6.setCell (by first | exact Nat.le_refl _ | (have := S3.out; have := Am.out; have := An.out; show w.heap.size ≤ w2.heap.size; omega)) _
   have Bs : (w6.setCell ⟨w2.heap.size, 0, none⟩ (.string ss')).heap[w2.heap.size]? = some (.cells #[.string ss', .int .i64 st, .bool half, .bool true] 152) := by rw [z6 Bd]; rfl
   have At : (w6.setCell ⟨w2.heap.size, 0, none⟩ (.string ss')).heap[w.heap.size]? = some (.cells #[.bool neg, .int .i64 T, .int .i64 La, .string ws, .bool more] 89) := by rw [zG (by first | omega | (have := S3.out; have := Am.out; have := An.out; omega))]; exact Ao
   have Ap : (w6.setCell ⟨w2.heap.size, 0, none⟩ (.string ss')).heap[w.heap.size + 1]? = some (.cells #[.string ⟨#[]⟩, .int .i64 0, .bool false, .bool false] 152) := by rw [zG (by first | omega | (have := S3.out; have := Am.out; have := An.out; omega))]; exact Br
   have BG := zE At 0 _ rfl
   have BH := zE At 1 _ rfl
   have BI := zE At 2 _ rfl
   have BJ := zE At 3 _ rfl
   have BK := zE At 4 _ rfl
   obtain ⟨BL, BM, BN, BO⟩ := zC Ap
   obtain ⟨BP, BQ, BR, BS⟩ := zC Bs
   have q0 := fz (k := 0) Ap
   have q1 := fz (k := 1) Ap
   have q2 := fz (k := 2) Ap
   have q3 := fz (k := 3) Ap
   obtain ⟨E0, E1, E2, E3⟩ := yC Ap rfl (.string ss') (.int .i64 st) (.bool half) (.bool true)
   go_wp2
   exact bodyPost_ret (v := .agg #[.string ss', .int .i64 st, .bool half, .bool true]) (by simp [results, Tryz.results113, go_sem, E0, E1, E2, E3]) rfl ⟨rfl, z9 B7 (by first | exact Nat.le_refl _ | omega | (have := S3.out; have := Am.out; have := An.out; omega)) _ _ _ _⟩
theorem gen_rule_delivered_8 {X : Act → World → Prop} {R : World → Nat → Prop} {t0 t1 t2 t3 t4 t5 t6 t7 t9 t10 t11 t12 t13 t14 t15 t16 t17 t18 t19 t20 t21 t22 t23 t24 t25 t26 t27 t28 t29 t30 t31 t32 t33 t34 t35 t36 t37 t38 t39 t40 t41 t42 t43 t44 t45 t46 t47 t48 t49 t50 t51 t52 t53 t54 : Value} {d : List Deferred} {W : World} {G : Nat}
  (key : ∀ w5 g, R w5 g → X ⟨#[t0, t1, t2, t3, t4, t5, t6, t7, .pointer (some ⟨g, 0, none⟩), t9, t10, t11, t12, t13, t14, t15, t16, t17, t18, t19, t20, t21, t22, t23, t24, t25, t26, t27, t28, t29, t30, t31, t32, t33, t34, t35, t36, t37, t38, t39, t40, t41, t42, t43, t44, t45, t46, t47, t48, t49, t50, t51, t52, t53, t54], d⟩ w5) (r : R W G) : X ⟨#[t0, t1, t2, t3, t4, t5, t6, t7, .pointer (some ⟨G, 0, none⟩), t9, t10, t11, t12, t13, t14, t15, t16, t17, t18, t19, t20, t21, t22, t23, t24, t25, t26, t27, t28, t29, t30, t31, t32, t33, t34, t35, t36, t37, t38, t39, t40, t41, t42, t43, t44, t45, t46, t47, t48, t49, t50, t51, t52, t53, t54], d⟩ W := key W G r

theorem ru_delivered (f m : Int) (neg : Bool) (T La : Int) (ws : ByteArray) (more : Bool) (I st rt E fl : Int) (rs : ByteArray) (half mo ov o : Bool) (u v : Nat) (w : World)
  (KI : zS (∀ w, yF w → Calls Tryz.prog 115 #[.int .u8 f] w fun r w' => r = .returned (.int .i64 I) ∧ Below w.heap.size w w'))
  (KS : zS (∀ w, yF w → Calls Tryz.prog 114 #[.int .u8 f, .int .i64 (max T I)] w fun r w' => r = .returned (.int .i64 st) ∧ Below w.heap.size w w'))
  (KR : zS (∀ w, zN w → Calls Tryz.prog 113 #[.int .u8 m, .agg #[.bool neg, .int .i64 T, .int .i64 La, .string ws, .bool more], .int .i64 st] w fun r w' => r = .returned (.agg #[.string rs, .int .i64 st, .bool half, .bool mo]) ∧ Below w.heap.size w w'))
  (KT : zS (∀ w, Calls Tryz.prog 116 #[.agg #[.string rs, .int .i64 st, .bool half, .bool mo]] w fun r w' => r = .returned (.int .i64 rt) ∧ Below w.heap.size w w'))
  (KE : zS (∀ w, yF w → Calls Tryz.prog 117 #[.int .u8 f] w fun r w' => r = .returned (.int .i64 E) ∧ Below w.heap.size w w'))
  (KB : zS (ov = true → ∀ w, yF w → Calls Tryz.prog 118 #[.int .u8 f, .int .u8 m, .bool neg] w fun r w' => r = .returned (.agg #[.int .u64 u, .int .u64 v]) ∧ Below w.heap.size w w'))
  (KD : zS (ov = false → ∀ w, yF w → zN w → Calls Tryz.prog 119 #[.int .u8 f, .bool neg, .agg #[.string rs, .int .i64 st, .bool half, .bool mo]] w fun r w' => r = .returned (.agg #[.int .u64 u, .int .u64 v]) ∧ Below w.heap.size w w'))
  (KN : zS (∀ w, yF w → zN w → Calls Tryz.prog 120 #[.int .u8 f, .int .u8 m, .agg #[.bool neg, .int .i64 T, .int .i64 La, .string ws, .bool more]] w fun r w' => r = .returned (.bool o) ∧ Below w.heap.size w w'))
  (ho : decide (E < rt) = ov) (hfl : (if ov = true then (5 : Int) else if (half || mo) = true then (if o = true then 3 else 1) else 0) = fl)
  (hT : yF w) (hT2 : zN w) : Calls Tryz.prog 49 #[.int .u8 f, .int .u8 m, .agg #[.bool neg, .int .i64 T, .int .i64 La, .string ws, .bool more]] w fun r w' => r = .returned (.tuple #[.agg #[.int .u64 u, .int .u64 v], .int .u8 fl]) ∧ Below w.heap.size w w' := by
 have FF := zH hT
 have TT := zH hT2
 have HFL := zH hfl
 clear hT hT2 hfl
 obtain ⟨AW, AX, B0⟩ := qW w (Obj.cells #[.bool neg, .int .i64 T, .int .i64 La, .string ws, .bool more] 89) (Obj.cells #[.int .u64 0, .int .u64 0] 25)
 go_enter Tryz.func49, Tryz.ntmps49
 have sS : zS (∀ W W1 : World, (Below w.heap.size w W ∧ W.heap[w.heap.size]? = some (.cells #[.bool neg, .int .i64 T, .int .i64 La, .string ws, .bool more] 89) ∧ W.heap[w.heap.size + 1]? = some (.cells #[.int .u64 0, .int .u64 0] 25)) → Below W.heap.size W W1 → (Below w.heap.size w W1 ∧ W1.heap[w.heap.size]? = some (.cells #[.bool neg, .int .i64 T, .int .i64 La, .string ws, .bool more] 89) ∧ W1.heap[w.heap.size + 1]? = some (.cells #[.int .u64 0, .int .u64 0] 25))) := zH (fun W W1 h b => ⟨zO h.1 b, zA b _ _ _ h.2.1, zA b _ _ _ h.2.2⟩)
 have sL : zS (∀ W : World, (Below w.heap.size w W ∧ W.heap[w.heap.size]? = some (.cells #[.bool neg, .int .i64 T, .int .i64 La, .string ws, .bool more] 89) ∧ W.heap[w.heap.size + 1]? = some (.cells #[.int .u64 0, .int .u64 0] 25)) → (w.heap.size < W.heap.size ∧ w.heap.size + 1 < W.heap.size)) := zH (fun W h => ⟨(Array.getElem?_eq_some_iff.1 h.2.1).1, (Array.getElem?_eq_some_iff.1 h.2.2).1⟩)
 have sT : zS (∀ (W : World) (gN : Nat) (xA xB xC xD : Value), (Below w.heap.size w W ∧ W.heap[w.heap.size]? = some (.cells #[.bool neg, .int .i64 T, .int .i64 La, .string ws, .bool more] 89) ∧ W.heap[w.heap.size + 1]? = some (.cells #[.int .u64 0, .int .u64 0] 25)) → (w.heap.size < gN ∧ w.heap.size + 1 < gN) → (Below w.heap.size w ((((W.setCell ⟨gN, 0, none⟩ xA).setCell ⟨gN, 1, none⟩ xB).setCell ⟨gN, 2, none⟩ xC).setCell ⟨gN, 3, none⟩ xD) ∧ ((((W.setCell ⟨gN, 0, none⟩ xA).setCell ⟨gN, 1, none⟩ xB).setCell ⟨gN, 2, none⟩ xC).setCell ⟨gN, 3, none⟩ xD).heap[w.heap.size]? = some (.cells #[.bool neg, .int .i64 T, .int .i64 La, .string ws, .bool more] 89) ∧ ((((W.setCell ⟨gN, 0, none⟩ xA).setCell ⟨gN, 1, none⟩ xB).setCell ⟨gN, 2, none⟩ xC).setCell ⟨gN, 3, none⟩ xD).heap[w.heap.size + 1]? = some (.cells #[.int .u64 0, .int .u64 0] 25))) := zH (fun W gN xA xB xC xD h l => ⟨z9 h.1 (show w.heap.size ≤ gN by have := l.1; omega) _ _ _ _, (zG (by have := l.1; omega)).trans ((zG (by have := l.1; omega)).trans ((zG (by have := l.1; omega)).trans ((zG (by have := l.1; omega)).trans h.2.1))), (zG (by have := l.2; omega)).trans ((zG (by have := l.2; omega)).trans ((zG (by have := l.2; omega)).trans ((zG (by have := l.2; omega)).trans h.2.2)))⟩)
 have sC : zS (∀ W : World, (Below w.heap.size w W ∧ W.heap[w.heap.size]? = some (.cells #[.bool neg, .int .i64 T, .int .i64 La, .string ws, .bool more] 89) ∧ W.heap[w.heap.size + 1]? = some (.cells #[.int .u64 0, .int .u64 0] 25)) → (Below w.heap.size w W ∧ W.heap[w.heap.size]? = some (.cells #[.bool neg, .int .i64 T, .int .i64 La, .string ws, .bool more] 89) ∧ W.heap[w.heap.size + 1]? = some (.cells #[.int .u64 0, .int .u64 0] 25) ∧ W.cell? ⟨w.heap.size, 0, none⟩ = some (.bool neg) ∧ W.cell? ⟨w.heap.size, 1, none⟩ = some (.int .i64 T) ∧ W.cell? ⟨w.heap.size, 2, none⟩ = some (.int .i64 La) ∧ W.cell? ⟨w.heap.size, 3, none⟩ = some (.string ws) ∧ W.cell? ⟨w.heap.size, 4, none⟩ = some (.bool more) ∧ W.cell? ⟨w.heap.size + 1, 0, none⟩ = some (.int .u64 0) ∧ W.cell? ⟨w.heap.size + 1, 1, none⟩ = some (.int .u64 0))) := zH (fun W h => ⟨h.1, h.2.1, h.2.2, zL (h.2.1) 0 _ rfl, zL (h.2.1) 1 _ rfl, zL (h.2.1) 2 _ rfl, zL (h.2.1) 3 _ rfl, zL (h.2.1) 4 _ rfl, zL (h.2.2) 0 _ rfl, zL (h.2.2) 1 _ rfl⟩)
 have s0 : Below w.heap.size w (((w.alloc (Obj.cells #[.bool neg, .int .i64 T, .int .i64 La, .string ws, .bool more] 89)).alloc (Obj.cells #[.int .u64 0, .int .u64 0] 25))).drew ∧ (((w.alloc (Obj.cells #[.bool neg, .int .i64 T, .int .i64 La, .string ws, .bool more] 89)).alloc (Obj.cells #[.int .u64 0, .int .u64 0] 25))).drew.heap[w.heap.size]? = some (.cells #[.bool neg, .int .i64 T, .int .i64 La, .string ws, .bool more] 89) ∧ (((w.alloc (Obj.cells #[.bool neg, .int .i64 T, .int .i64 La, .string ws, .bool more] 89)).alloc (Obj.cells #[.int .u64 0, .int .u64 0] 25))).drew.heap[w.heap.size + 1]? = some (.cells #[.int .u64 0, .int .u64 0] 25) := ⟨B0.drew, AW, AX⟩
 clear B0 AW AX
 go_wp2_with fail
 apply cut7
 ·
  intro key0
  have key := zH key0
  clear key0
  go_region_held3 (fun W => Below w.heap.size w W ∧ W.heap[w.heap.size]? = some (.cells #[.bool neg, .int .i64 T, .int .i64 La, .string ws, .bool more] 89) ∧ W.heap[w.heap.size + 1]? = some (.cells #[.int .u64 0, .int .u64 0] 25) ∧ W.cell? ⟨w.heap.size, 0, none⟩ = some (.bool neg) ∧ W.cell? ⟨w.heap.size, 1, none⟩ = some (.int .i64 T) ∧ W.cell? ⟨w.heap.size, 2, none⟩ = some (.int .i64 La) ∧ W.cell? ⟨w.heap.size, 3, none⟩ = some (.string ws) ∧ W.cell? ⟨w.heap.size, 4, none⟩ = some (.bool more) ∧ W.cell? ⟨w.heap.size + 1, 0, none⟩ = some (.int .u64 0) ∧ W.cell? ⟨w.heap.size + 1, 1, none⟩ = some (.int .u64 0)) (first | exact sC.out _ s1 | exact sC.out _ s0 | exact sC.out _ (sS.out _ _ s1 (yK _ _)) | exact sC.out _ (sS.out _ _ s0 (yK _ _)) | exact sC.out _ (sT.out _ _ _ _ _ _ s1 hl))
   (((first | (go_at_call 115; (first | refine (KI.out _ (by first | exact zW FF.out (And.left s1) | exact fat_al (zW FF.out (And.left s1)) _)).mono ?_ | refine (KI.out _ (by first | exact zW FF.out (And.left s0) | exact fat_al (zW FF.out (And.left s0)) _)).mono ?_)) | (go_at_call 114; (first | refine (KS.out _ (by first | exact zW FF.out (And.left s1) | exact fat_al (zW FF.out (And.left s1)) _)).mono ?_ | refine (KS.out _ (by first | exact zW FF.out (And.left s0) | exact fat_al (zW FF.out (And.left s0)) _)).mono ?_)) | (go_at_call 113; (first | refine (KR.out _ (by first | exact zV TT.out (And.left s1) | exact tabA (zV TT.out (And.left s1)) _)).mono ?_ | refine (KR.out _ (by first | exact zV TT.out (And.left s0) | exact tabA (zV TT.out (And.left s0)) _)).mono ?_)) | fail); rintro r wq ⟨rfl, bq⟩; (first | (have hg := zA bq _ _ _ (heap_alloc_last _ _); have hl := (by first | exact sL.out _ s1 | exact sL.out _ s0)) | have hg := zA bq _ _ _ hg | skip); (try simp only [size_dr, zX] at hg hl); (first | (have AY := fz (k := 0) hg; have AZ := fz (k := 1) hg; have A0 := fz (k := 2) hg; have A1 := fz (k := 3) hg; have A2 := zL hg 0 _ rfl; have A3 := zL hg 1 _ rfl; have A4 := zL hg 2 _ rfl; have A5 := zL hg 3 _ rfl) | skip); have s2 := (by first | exact sS.out _ _ s1 bq | exact sS.out _ _ s0 bq | exact sS.out _ _ (sS.out _ _ s1 (yK _ _)) bq | exact sS.out _ _ (sS.out _ _ s0 (yK _ _)) bq); (try clear s1); have s1 := s2; clear s2 bq))
  all_goals
   refine gen_rule_delivered_8 (R := fun W gN => (Below w.heap.size w W ∧ W.heap[w.heap.size]? = some (.cells #[.bool neg, .int .i64 T, .int .i64 La, .string ws, .bool more] 89) ∧ W.heap[w.heap.size + 1]? = some (.cells #[.int .u64 0, .int .u64 0] 25)) ∧ W.heap[gN]? = some (.cells #[.string rs, .int .i64 st, .bool half, .bool mo] 152) ∧ (w.heap.size < gN ∧ w.heap.size + 1 < gN)) key.out ?_
   first
    | exact ⟨(sT.out _ _ _ _ _ _ s1 hl), set4_row hg rfl _ _ _ _, hl⟩
    | exact ⟨sS.out _ _ s1 (yK _ _), heap_alloc_last _ _, sL.out _ s1⟩
    | exact ⟨sS.out _ _ s0 (yK _ _), heap_alloc_last _ _, sL.out _ s0⟩
 rintro w1 g1 ⟨s1, AS, l1⟩
 have B1 := And.left s1
 have AF := s1.2.1
 have AT := s1.2.2
 have H1 := zH l1
 clear s0 s1 sS sC sL sT l1
 have A6 := zE AF 0 _ rfl
 have A7 := zE AF 1 _ rfl
 have A8 := zE AF 2 _ rfl
 have A9 := zE AF 3 _ rfl
 have Ba := zE AF 4 _ rfl
 obtain ⟨Bb, Bc⟩ := zF AT
 obtain ⟨Bd, Be, Bf, Bg⟩ := zC AS
 go_wp2_with fail
 refine (KT.out _).mono ?_
 rintro r w2 ⟨rfl, b2⟩
 have B2 := zO B1 b2
 obtain ⟨AG, AU, AV⟩ := yA b2 AF AT AS
 clear b2 B1 AF A6 A7 A8 A9 Ba AT Bb Bc AS Bd Be Bf Bg
 have Bh := zE AG 0 _ rfl
 have Bi := zE AG 1 _ rfl
 have Bj := zE AG 2 _ rfl
 have Bk := zE AG 3 _ rfl
 have Bl := zE AG 4 _ rfl
 obtain ⟨Bm, Bn⟩ := zF AU
 obtain ⟨Bo, Bp, Bq, Br⟩ := zC AV
 go_wp2_with fail
 refine (KE.out _ (zW FF.out B2)).mono ?_
 rintro r w3 ⟨rfl, b3⟩
 have B3 := zO B2 b3
 obtain ⟨Af, Ag, Ah⟩ := yA b3 AG AU AV
 clear b3 B2 AG Bh Bi Bj Bk Bl AU Bm Bn AV Bo Bp Bq Br
 have Au := zE Af 0 _ rfl
 have Av := zE Af 1 _ rfl
 have Aw := zE Af 2 _ rfl
 have Ax := zE Af 3 _ rfl
 have Ay := zE Af 4 _ rfl
 obtain ⟨Az, AA⟩ := zF Ag
 obtain ⟨AB, AC, AD, AE⟩ := zC Ah
 cases ov
 ·
  have K5 := zH (KD.out rfl)
  clear KB KD
  cases half
  ·
   cases mo
   ·
    obtain rfl : (0 : Int) = fl := HFL.out
    go_wp2_with fail
    refine (K5.out _ (zW FF.out B3) (zV TT.out B3)).mono ?_
    rintro r w4 ⟨rfl, b4⟩
    have B4 := zO B3 b4
    obtain ⟨Aa, Ac, Ae⟩ := yA b4 Af Ag Ah
    clear b4 B3 Af Au Av Aw Ax Ay Ag Az AA Ah AB AC AD AE
    have Ai := zE Aa 0 _ rfl
    have Aj := zE Aa 1 _ rfl
    have Ak := zE Aa 2 _ rfl
    have Al := zE Aa 3 _ rfl
    have Am := zE Aa 4 _ rfl
    obtain ⟨An, Ao⟩ := zF Ac
    obtain ⟨Ap, Aq, Ar, As⟩ := zC Ae
    have q0 := fz (k := 0) Ac
    have q1 := fz (k := 1) Ac
    obtain ⟨E0, E1⟩ := yH Ac (.int .u64 u) (.int .u64 v)
    go_wp2
    exact bodyPost_ret (v := .tuple #[.agg #[.int .u64 u, .int .u64 v], .int .u8 0]) (by simp [results, Tryz.results49, go_sem, E0, E1]) rfl ⟨rfl, zY B4 (by first | exact Nat.le_refl _ | omega | (have := H1.out; omega)) _ _⟩
   ·
    cases o
    ·
     obtain rfl : (1 : Int) = fl := HFL.out
     go_wp2_with fail
     refine (KN.out _ (zW FF.out B3) (zV TT.out B3)).mono ?_
     rintro r w4 ⟨rfl, b4⟩
     have B4 := zO B3 b4
     obtain ⟨Aa, Ac, Ae⟩ := yA b4 Af Ag Ah
     clear b4 B3 Af Au Av Aw Ax Ay Ag Az AA Ah AB AC AD AE
     have Ai := zE Aa 0 _ rfl
     have Aj := zE Aa 1 _ rfl
     have Ak := zE Aa 2 _ rfl
     have Al := zE Aa 3 _ rfl
     have Am := zE Aa 4 _ rfl
     obtain ⟨An, Ao⟩ := zF Ac
     obtain ⟨Ap, Aq, Ar, As⟩ := zC Ae
     go_wp2_with fail
     refine (K5.out _ (zW FF.out B4) (zV TT.out B4)).mono ?_
     rintro r w5 ⟨rfl, b5⟩
     have B5 := zO B4 b5
     obtain ⟨Ab, Ad, At⟩ := yA b5 Aa Ac Ae
     clear b5 B4 Aa Ai Aj Ak Al Am Ac An Ao Ae Ap Aq Ar As
     have AH := zE Ab 0 _ rfl
     have AI := zE Ab 1 _ rfl
     have AJ := zE Ab 2 _ rfl
     have AK := zE Ab 3 _ rfl
     have AL := zE Ab 4 _ rfl
     obtain ⟨AM, AN⟩ := zF Ad
     obtain ⟨AO, AP, AQ, AR⟩ := zC At
     have q0 := fz (k := 0) Ad
     have q1 := fz (k := 1) Ad
     obtain ⟨E0, E1⟩ := yH Ad (.int .u64 u) (.int .u64 v)
     go_wp2
     exact bodyPost_ret (v := .tuple #[.agg #[.int .u64 u, .int .u64 v], .int .u8 1]) (by simp [results, Tryz.results49, go_sem, E0, E1]) rfl ⟨rfl, zY B5 (by first | exact Nat.le_refl _ | omega | (have := H1.out; omega)) _ _⟩
    ·
     obtain rfl : (3 : Int) = fl := HFL.out
     go_wp2_with fail
     refine (KN.out _ (zW FF.out B3) (zV TT.out B3)).mono ?_
     rintro r w4 ⟨rfl, b4⟩
     have B4 := zO B3 b4
     obtain ⟨Aa, Ac, Ae⟩ := yA b4 Af Ag Ah
     clear b4 B3 Af Au Av Aw Ax Ay Ag Az AA Ah AB AC AD AE
     have Ai := zE Aa 0 _ rfl
     have Aj := zE Aa 1 _ rfl
     have Ak := zE Aa 2 _ rfl
     have Al := zE Aa 3 _ rfl
     have Am := zE Aa 4 _ rfl
     obtain ⟨An, Ao⟩ := zF Ac
     obtain ⟨Ap, Aq, Ar, As⟩ := zC Ae
     go_wp2_with fail
     refine (K5.out _ (zW FF.out B4) (zV TT.out B4)).mono ?_
     rintro r w5 ⟨rfl, b5⟩
     have B5 := zO B4 b5
     obtain ⟨Ab, Ad, At⟩ := yA b5 Aa Ac Ae
     clear b5 B4 Aa Ai Aj Ak Al Am Ac An Ao Ae Ap Aq Ar As
     have AH := zE Ab 0 _ rfl
     have AI := zE Ab 1 _ rfl
     have AJ := zE Ab 2 _ rfl
     have AK := zE Ab 3 _ rfl
     have AL := zE Ab 4 _ rfl
     obtain ⟨AM, AN⟩ := zF Ad
     obtain ⟨AO, AP, AQ, AR⟩ := zC At
     have q0 := fz (k := 0) Ad
     have q1 := fz (k := 1) Ad
     obtain ⟨E0, E1⟩ := yH Ad (.int .u64 u) (.int .u64 v)
     go_wp2
     exact bodyPost_ret (v := .tuple #[.agg #[.int .u64 u, .int .u64 v], .int .u8 3]) (by simp [results, Tryz.results49, go_sem, E0, E1]) rfl ⟨rfl, zY B5 (by first | exact Nat.le_refl _ | omega | (have := H1.out; omega)) _ _⟩
  ·
   cases mo
   ·
    cases o
    ·
     obtain rfl : (1 : Int) = fl := HFL.out
     go_wp2_with fail
     refine (KN.out _ (zW FF.out B3) (zV TT.out B3)).mono ?_
     rintro r w4 ⟨rfl, b4⟩
     have B4 := zO B3 b4
     obtain ⟨Aa, Ac, Ae⟩ := yA b4 Af Ag Ah
     clear b4 B3 Af Au Av Aw Ax Ay Ag Az AA Ah AB AC AD AE
     have Ai := zE Aa 0 _ rfl
     have Aj := zE Aa 1 _ rfl
     have Ak := zE Aa 2 _ rfl
     have Al := zE Aa 3 _ rfl
     have Am := zE Aa 4 _ rfl
     obtain ⟨An, Ao⟩ := zF Ac
     obtain ⟨Ap, Aq, Ar, As⟩ := zC Ae
     go_wp2_with fail
     refine (K5.out _ (zW FF.out B4) (zV TT.out B4)).mono ?_
     rintro r w5 ⟨rfl, b5⟩
     have B5 := zO B4 b5
     obtain ⟨Ab, Ad, At⟩ := yA b5 Aa Ac Ae
     clear b5 B4 Aa Ai Aj Ak Al Am Ac An Ao Ae Ap Aq Ar As
     have AH := zE Ab 0 _ rfl
     have AI := zE Ab 1 _ rfl
     have AJ := zE Ab 2 _ rfl
     have AK := zE Ab 3 _ rfl
     have AL := zE Ab 4 _ rfl
     obtain ⟨AM, AN⟩ := zF Ad
     obtain ⟨AO, AP, AQ, AR⟩ := zC At
     have q0 := fz (k := 0) Ad
     have q1 := fz (k := 1) Ad
     obtain ⟨E0, E1⟩ := yH Ad (.int .u64 u) (.int .u64 v)
     go_wp2
     exact bodyPost_ret (v := .tuple #[.agg #[.int .u64 u, .int .u64 v], .int .u8 1]) (by simp [results, Tryz.results49, go_sem, E0, E1]) rfl ⟨rfl, zY B5 (by first | exact Nat.le_refl _ | omega | (have := H1.out; omega)) _ _⟩
    ·
     obtain rfl : (3 : Int) = fl := HFL.out
     go_wp2_with fail
     refine (KN.out _ (zW FF.out B3) (zV TT.out B3)).mono ?_
     rintro r w4 ⟨rfl, b4⟩
     have B4 := zO B3 b4
     obtain ⟨Aa, Ac, Ae⟩ := yA b4 Af Ag Ah
     clear b4 B3 Af Au Av Aw Ax Ay Ag Az AA Ah AB AC AD AE
     have Ai := zE Aa 0 _ rfl
     have Aj := zE Aa 1 _ rfl
     have Ak := zE Aa 2 _ rfl
     have Al := zE Aa 3 _ rfl
     have Am := zE Aa 4 _ rfl
     obtain ⟨An, Ao⟩ := zF Ac
     obtain ⟨Ap, Aq, Ar, As⟩ := zC Ae
     go_wp2_with fail
     refine (K5.out _ (zW FF.out B4) (zV TT.out B4)).mono ?_
     rintro r w5 ⟨rfl, b5⟩
     have B5 := zO B4 b5
     obtain ⟨Ab, Ad, At⟩ := yA b5 Aa Ac Ae
     clear b5 B4 Aa Ai Aj Ak Al Am Ac An Ao Ae Ap Aq Ar As
     have AH := zE Ab 0 _ rfl
     have AI := zE Ab 1 _ rfl
     have AJ := zE Ab 2 _ rfl
     have AK := zE Ab 3 _ rfl
     have AL := zE Ab 4 _ rfl
     obtain ⟨AM, AN⟩ := zF Ad
     obtain ⟨AO, AP, AQ, AR⟩ := zC At
     have q0 := fz (k := 0) Ad
     have q1 := fz (k := 1) Ad
     obtain ⟨E0, E1⟩ := yH Ad (.int .u64 u) (.int .u64 v)
     go_wp2
     exact bodyPost_ret (v := .tuple #[.agg #[.int .u64 u, .int .u64 v], .int .u8 3]) (by simp [results, Tryz.results49, go_sem, E0, E1]) rfl ⟨rfl, zY B5 (by first | exact Nat.le_refl _ | omega | (have := H1.out; omega)) _ _⟩
   ·
    cases o
    ·
     obtain rfl : (1 : Int) = fl := HFL.out
     go_wp2_with fail
     refine (KN.out _ (zW FF.out B3) (zV TT.out B3)).mono ?_
     rintro r w4 ⟨rfl, b4⟩
     have B4 := zO B3 b4
     obtain ⟨Aa, Ac, Ae⟩ := yA b4 Af Ag Ah
     clear b4 B3 Af Au Av Aw Ax Ay Ag Az AA Ah AB AC AD AE
     have Ai := zE Aa 0 _ rfl
     have Aj := zE Aa 1 _ rfl
     have Ak := zE Aa 2 _ rfl
     have Al := zE Aa 3 _ rfl
     have Am := zE Aa 4 _ rfl
     obtain ⟨An, Ao⟩ := zF Ac
     obtain ⟨Ap, Aq, Ar, As⟩ := zC Ae
     go_wp2_with fail
     refine (K5.out _ (zW FF.out B4) (zV TT.out B4)).mono ?_
     rintro r w5 ⟨rfl, b5⟩
     have B5 := zO B4 b5
     obtain ⟨Ab, Ad, At⟩ := yA b5 Aa Ac Ae
     clear b5 B4 Aa Ai Aj Ak Al Am Ac An Ao Ae Ap Aq Ar As
     have AH := zE Ab 0 _ rfl
     have AI := zE Ab 1 _ rfl
     have AJ := zE Ab 2 _ rfl
     have AK := zE Ab 3 _ rfl
     have AL := zE Ab 4 _ rfl
     obtain ⟨AM, AN⟩ := zF Ad
     obtain ⟨AO, AP, AQ, AR⟩ := zC At
     have q0 := fz (k := 0) Ad
     have q1 := fz (k := 1) Ad
     obtain ⟨E0, E1⟩ := yH Ad (.int .u64 u) (.int .u64 v)
     go_wp2
     exact bodyPost_ret (v := .tuple #[.agg #[.int .u64 u, .int .u64 v], .int .u8 1]) (by simp [results, Tryz.results49, go_sem, E0, E1]) rfl ⟨rfl, zY B5 (by first | exact Nat.le_refl _ | omega | (have := H1.out; omega)) _ _⟩
    ·
     obtain rfl : (3 : Int) = fl := HFL.out
     go_wp2_with fail
     refine (KN.out _ (zW FF.out B3) (zV TT.out B3)).mono ?_
     rintro r w4 ⟨rfl, b4⟩
     have B4 := zO B3 b4
     obtain ⟨Aa, Ac, Ae⟩ := yA b4 Af Ag Ah
     clear b4 B3 Af Au Av Aw Ax Ay Ag Az AA Ah AB AC AD AE
     have Ai := zE Aa 0 _ rfl
     have Aj := zE Aa 1 _ rfl
     have Ak := zE Aa 2 _ rfl
     have Al := zE Aa 3 _ rfl
     have Am := zE Aa 4 _ rfl
     obtain ⟨An, Ao⟩ := zF Ac
     obtain ⟨Ap, Aq, Ar, As⟩ := zC Ae
     go_wp2_with fail
     refine (K5.out _ (zW FF.out B4) (zV TT.out B4)).mono ?_
     rintro r w5 ⟨rfl, b5⟩
     have B5 := zO B4 b5
     obtain ⟨Ab, Ad, At⟩ := yA b5 Aa Ac Ae
     clear b5 B4 Aa Ai Aj Ak Al Am Ac An Ao Ae Ap Aq Ar As
     have AH := zE Ab 0 _ rfl
     have AI := zE Ab 1 _ rfl
     have AJ := zE Ab 2 _ rfl
     have AK := zE Ab 3 _ rfl
     have AL := zE Ab 4 _ rfl
     obtain ⟨AM, AN⟩ := zF Ad
     obtain ⟨AO, AP, AQ, AR⟩ := zC At
     have q0 := fz (k := 0) Ad
     have q1 := fz (k := 1) Ad
     obtain ⟨E0, E1⟩ := yH Ad (.int .u64 u) (.int .u64 v)
     go_wp2
     exact bodyPost_ret (v := .tuple #[.agg #[.int .u64 u, .int .u64 v], .int .u8 3]) (by simp [results, Tryz.results49, go_sem, E0, E1]) rfl ⟨rfl, zY B5 (by first | exact Nat.le_refl _ | omega | (have := H1.out; omega)) _ _⟩
 ·
  have K5 := zH (KB.out rfl)
  clear KB KD
  obtain rfl : (5 : Int) = fl := HFL.out
  go_wp2_with fail
  refine (K5.out _ (zW FF.out B3)).mono ?_
  rintro r w4 ⟨rfl, b4⟩
  have B4 := zO B3 b4
  obtain ⟨Aa, Ac, Ae⟩ := yA b4 Af Ag Ah
  clear b4 B3 Af Au Av Aw Ax Ay Ag Az AA Ah AB AC AD AE
  have Ai := zE Aa 0 _ rfl
  have Aj := zE Aa 1 _ rfl
  have Ak := zE Aa 2 _ rfl
  have Al := zE Aa 3 _ rfl
  have Am := zE Aa 4 _ rfl
  obtain ⟨An, Ao⟩ := zF Ac
  obtain ⟨Ap, Aq, Ar, As⟩ := zC Ae
  have q0 := fz (k := 0) Ac
  have q1 := fz (k := 1) Ac
  obtain ⟨E0, E1⟩ := yH Ac (.int .u64 u) (.int .u64 v)
  go_wp2
  exact bodyPost_ret (v := .tuple #[.agg #[.int .u64 u, .int .u64 v], .int .u8 5]) (by simp [results, Tryz.results49, go_sem, E0, E1]) rfl ⟨rfl, zY B4 (by first | exact Nat.le_refl _ | omega | (have := H1.out; omega)) _ _⟩
theorem ru_tiny (f m : Int) (neg : Bool) (T La : Int) (ws : ByteArray) (more : Bool) (I st rt : Int) (rs : ByteArray) (half mo o : Bool) (w : World)
  (KI : zS (∀ w, yF w → Calls Tryz.prog 115 #[.int .u8 f] w fun r w' => r = .returned (.int .i64 I) ∧ Below w.heap.size w w'))
  (KS : zS (∀ w, yF w → Calls Tryz.prog 114 #[.int .u8 f, .int .i64 T] w fun r w' => r = .returned (.int .i64 st) ∧ Below w.heap.size w w'))
  (KR : zS (∀ w, zN w → Calls Tryz.prog 113 #[.int .u8 m, .agg #[.bool neg, .int .i64 T, .int .i64 La, .string ws, .bool more], .int .i64 st] w fun r w' => r = .returned (.agg #[.string rs, .int .i64 st, .bool half, .bool mo]) ∧ Below w.heap.size w w'))
  (KT : zS (∀ w, Calls Tryz.prog 116 #[.agg #[.string rs, .int .i64 st, .bool half, .bool mo]] w fun r w' => r = .returned (.int .i64 rt) ∧ Below w.heap.size w w'))
  (ho : decide (rt < I) = o)
  (hT : yF w) (hT2 : zN w) : Calls Tryz.prog 120 #[.int .u8 f, .int .u8 m, .agg #[.bool neg, .int .i64 T, .int .i64 La, .string ws, .bool more]] w fun r w' => r = .returned (.bool o) ∧ Below w.heap.size w w' := by
 have FF := zH hT
 have TT := zH hT2
 clear hT hT2
 obtain ⟨Ab, B0⟩ := yO w (Obj.cells #[.bool neg, .int .i64 T, .int .i64 La, .string ws, .bool more] 89)
 go_enter Tryz.func120, Tryz.ntmps120
 have sS : zS (∀ W W1 : World, (Below w.heap.size w W ∧ W.heap[w.heap.size]? = some (.cells #[.bool neg, .int .i64 T, .int .i64 La, .string ws, .bool more] 89)) → Below W.heap.size W W1 → (Below w.heap.size w W1 ∧ W1.heap[w.heap.size]? = some (.cells #[.bool neg, .int .i64 T, .int .i64 La, .string ws, .bool more] 89))) := zH (fun W W1 h b => ⟨zO h.1 b, zA b _ _ _ h.2⟩)
 have sC : zS (∀ W : World, (Below w.heap.size w W ∧ W.heap[w.heap.size]? = some (.cells #[.bool neg, .int .i64 T, .int .i64 La, .string ws, .bool more] 89)) → (Below w.heap.size w W ∧ W.heap[w.heap.size]? = some (.cells #[.bool neg, .int .i64 T, .int .i64 La, .string ws, .bool more] 89) ∧ W.cell? ⟨w.heap.size, 0, none⟩ = some (.bool neg) ∧ W.cell? ⟨w.heap.size, 1, none⟩ = some (.int .i64 T) ∧ W.cell? ⟨w.heap.size, 2, none⟩ = some (.int .i64 La) ∧ W.cell? ⟨w.heap.size, 3, none⟩ = some (.string ws) ∧ W.cell? ⟨w.heap.size, 4, none⟩ = some (.bool more))) := zH (fun W h => ⟨h.1, h.2, zL (h.2) 0 _ rfl, zL (h.2) 1 _ rfl, zL (h.2) 2 _ rfl, zL (h.2) 3 _ rfl, zL (h.2) 4 _ rfl⟩)
 have s0 : Below w.heap.size w ((w.alloc (Obj.cells #[.bool neg, .int .i64 T, .int .i64 La, .string ws, .bool more] 89))).drew ∧ ((w.alloc (Obj.cells #[.bool neg, .int .i64 T, .int .i64 La, .string ws, .bool more] 89))).drew.heap[w.heap.size]? = some (.cells #[.bool neg, .int .i64 T, .int .i64 La, .string ws, .bool more] 89) := ⟨B0.drew, Ab⟩
 go_wp2_with fail
 go_region_held3 (fun W => Below w.heap.size w W ∧ W.heap[w.heap.size]? = some (.cells #[.bool neg, .int .i64 T, .int .i64 La, .string ws, .bool more] 89) ∧ W.cell? ⟨w.heap.size, 0, none⟩ = some (.bool neg) ∧ W.cell? ⟨w.heap.size, 1, none⟩ = some (.int .i64 T) ∧ W.cell? ⟨w.heap.size, 2, none⟩ = some (.int .i64 La) ∧ W.cell? ⟨w.heap.size, 3, none⟩ = some (.string ws) ∧ W.cell? ⟨w.heap.size, 4, none⟩ = some (.bool more)) (first | exact sC.out _ s1 | exact sC.out _ s0)
  (((first | (go_at_call 114; (first | refine (KS.out _ (zW FF.out (And.left s1))).mono ?_ | refine (KS.out _ (zW FF.out (And.left s0))).mono ?_)) | (go_at_call 113; (first | refine (KR.out _ (zV TT.out (And.left s1))).mono ?_ | refine (KR.out _ (zV TT.out (And.left s0))).mono ?_)) | (go_at_call 116; (first | refine (KT.out _).mono ?_ | refine (KT.out _).mono ?_)) | (go_at_call 115; (first | refine (KI.out _ (zW FF.out (And.left s1))).mono ?_ | refine (KI.out _ (zW FF.out (And.left s0))).mono ?_)) | fail); rintro r wq ⟨rfl, bq⟩; have s1 := (by first | exact sS.out _ _ s1 bq | exact sS.out _ _ s0 bq); clear bq))
 have B1 := (And.left s1)
 have Aa := s1.2
 clear s0 s1 sS sC B0 Ab
 have Ac := zE Aa 0 _ rfl
 have Ad := zE Aa 1 _ rfl
 have Ae := zE Aa 2 _ rfl
 have Af := zE Aa 3 _ rfl
 have Ag := zE Aa 4 _ rfl
 go_wp2
 go_ret
 exact ⟨rfl, B1⟩
theorem ru_check_a (f m : Int) (b : Bool) (s t : ByteArray) (e : Int) (c1 c2 c3 : Int) (w : World)
  (K1 : zS (∀ w, Calls Tryz.prog 37 #[.int .u8 f] w fun r w' => r = .returned (.int .i64 c1) ∧ Below w.heap.size w w'))
  (K2 : zS (∀ w, Calls Tryz.prog 112 #[.int .u8 m] w fun r w' => r = .returned (.int .i64 c2) ∧ Below w.heap.size w w'))
  (K3 : zS (∀ w, zN w → Calls Tryz.prog 110 #[.agg #[.bool b, .string s, .string t, .int .i64 e]] w fun r w' => r = .returned (.int .i64 c3) ∧ Below w.heap.size w w'))
  (h1 : (c1 != 0) = true)
  (hT2 : zN w) : Calls Tryz.prog 48 #[.int .u8 f, .int .u8 m, .agg #[.bool b, .string s, .string t, .int .i64 e]] w fun r w' => r = .returned (.int .i64 2) ∧ Below w.heap.size w w' := by
 have TT := zH hT2
 clear hT2
 obtain ⟨Aa, B0⟩ := yO w (Obj.cells #[.bool b, .string s, .string t, .int .i64 e] 41)
 go_enter Tryz.func48, Tryz.ntmps48
 go_wp2_with fail
 refine (K1.out _).mono ?_
 rintro r w1 ⟨rfl, b1⟩
 have B1 := zO B0 b1
 have Ab := zA b1 _ _ _ Aa
 clear b1 B0 Aa
 obtain ⟨Ac, Ad, Ae, Af⟩ := zC Ab
 go_wp2
 go_ret
 exact ⟨rfl, B1⟩
theorem ru_check_b (f m : Int) (b : Bool) (s t : ByteArray) (e : Int) (c1 c2 c3 : Int) (w : World)
  (K1 : zS (∀ w, Calls Tryz.prog 37 #[.int .u8 f] w fun r w' => r = .returned (.int .i64 c1) ∧ Below w.heap.size w w'))
  (K2 : zS (∀ w, Calls Tryz.prog 112 #[.int .u8 m] w fun r w' => r = .returned (.int .i64 c2) ∧ Below w.heap.size w w'))
  (K3 : zS (∀ w, zN w → Calls Tryz.prog 110 #[.agg #[.bool b, .string s, .string t, .int .i64 e]] w fun r w' => r = .returned (.int .i64 c3) ∧ Below w.heap.size w w'))
  (h1 : (c1 != 0) = false) (h2 : (c2 != 0) = true)
  (hT2 : zN w) : Calls Tryz.prog 48 #[.int .u8 f, .int .u8 m, .agg #[.bool b, .string s, .string t, .int .i64 e]] w fun r w' => r = .returned (.int .i64 2) ∧ Below w.heap.size w w' := by
 have TT := zH hT2
 clear hT2
 obtain ⟨Ab, B0⟩ := yO w (Obj.cells #[.bool b, .string s, .string t, .int .i64 e] 41)
 go_enter Tryz.func48, Tryz.ntmps48
 go_wp2_with fail
 refine (K1.out _).mono ?_
 rintro r w1 ⟨rfl, b1⟩
 have B1 := zO B0 b1
 have Aa := zA b1 _ _ _ Ab
 clear b1 B0 Ab
 obtain ⟨Ac, Ad, Ae, Af⟩ := zC Aa
 go_wp2_with fail
 refine (K2.out _).mono ?_
 rintro r w2 ⟨rfl, b2⟩
 have B2 := zO B1 b2
 have Ag := zA b2 _ _ _ Aa
 clear b2 B1 Aa Ac Ad Ae Af
 obtain ⟨Ah, Ai, Aj, Ak⟩ := zC Ag
 go_wp2
 go_ret
 exact ⟨rfl, B2⟩
theorem ru_check_c (f m : Int) (b : Bool) (s t : ByteArray) (e : Int) (c1 c2 c3 : Int) (w : World)
  (K1 : zS (∀ w, Calls Tryz.prog 37 #[.int .u8 f] w fun r w' => r = .returned (.int .i64 c1) ∧ Below w.heap.size w w'))
  (K2 : zS (∀ w, Calls Tryz.prog 112 #[.int .u8 m] w fun r w' => r = .returned (.int .i64 c2) ∧ Below w.heap.size w w'))
  (K3 : zS (∀ w, zN w → Calls Tryz.prog 110 #[.agg #[.bool b, .string s, .string t, .int .i64 e]] w fun r w' => r = .returned (.int .i64 c3) ∧ Below w.heap.size w w'))
  (h1 : (c1 != 0) = false) (h2 : (c2 != 0) = false) (h3 : (c3 != 0) = true)
  (hT2 : zN w) : Calls Tryz.prog 48 #[.int .u8 f, .int .u8 m, .agg #[.bool b, .string s, .string t, .int .i64 e]] w fun r w' => r = .returned (.int .i64 2) ∧ Below w.heap.size w w' := by
 have TT := zH hT2
 clear hT2
 obtain ⟨Ac, B0⟩ := yO w (Obj.cells #[.bool b, .string s, .string t, .int .i64 e] 41)
 go_enter Tryz.func48, Tryz.ntmps48
 go_wp2_with fail
 refine (K1.out _).mono ?_
 rintro r w1 ⟨rfl, b1⟩
 have B1 := zO B0 b1
 have Aa := zA b1 _ _ _ Ac
 clear b1 B0 Ac
 obtain ⟨Ad, Ae, Af, Ag⟩ := zC Aa
 go_wp2_with fail
 refine (K2.out _).mono ?_
 rintro r w2 ⟨rfl, b2⟩
 have B2 := zO B1 b2
 have Ab := zA b2 _ _ _ Aa
 clear b2 B1 Aa Ad Ae Af Ag
 obtain ⟨Ah, Ai, Aj, Ak⟩ := zC Ab
 go_wp2_with fail
 refine (K3.out _ (zV TT.out B2)).mono ?_
 rintro r w3 ⟨rfl, b3⟩
 have B3 := zO B2 b3
 have Al := zA b3 _ _ _ Ab
 clear b3 B2 Ab Ah Ai Aj Ak
 obtain ⟨Am, An, Ao, Ap⟩ := zC Al
 go_wp2
 go_ret
 exact ⟨rfl, B3⟩
theorem ru_check_d (f m : Int) (b : Bool) (s t : ByteArray) (e : Int) (c1 c2 c3 : Int) (w : World)
  (K1 : zS (∀ w, Calls Tryz.prog 37 #[.int .u8 f] w fun r w' => r = .returned (.int .i64 c1) ∧ Below w.heap.size w w'))
  (K2 : zS (∀ w, Calls Tryz.prog 112 #[.int .u8 m] w fun r w' => r = .returned (.int .i64 c2) ∧ Below w.heap.size w w'))
  (K3 : zS (∀ w, zN w → Calls Tryz.prog 110 #[.agg #[.bool b, .string s, .string t, .int .i64 e]] w fun r w' => r = .returned (.int .i64 c3) ∧ Below w.heap.size w w'))
  (h1 : (c1 != 0) = false) (h2 : (c2 != 0) = false) (h3 : (c3 != 0) = false) (h4 : decide ((8192 : Int) < (s.size : Int)) = true)
  (hT2 : zN w) : Calls Tryz.prog 48 #[.int .u8 f, .int .u8 m, .agg #[.bool b, .string s, .string t, .int .i64 e]] w fun r w' => r = .returned (.int .i64 4) ∧ Below w.heap.size w w' := by
 have TT := zH hT2
 clear hT2
 obtain ⟨Ac, B0⟩ := yO w (Obj.cells #[.bool b, .string s, .string t, .int .i64 e] 41)
 go_enter Tryz.func48, Tryz.ntmps48
 go_wp2_with fail
 refine (K1.out _).mono ?_
 rintro r w1 ⟨rfl, b1⟩
 have B1 := zO B0 b1
 have Aa := zA b1 _ _ _ Ac
 clear b1 B0 Ac
 obtain ⟨Ad, Ae, Af, Ag⟩ := zC Aa
 go_wp2_with fail
 refine (K2.out _).mono ?_
 rintro r w2 ⟨rfl, b2⟩
 have B2 := zO B1 b2
 have Ab := zA b2 _ _ _ Aa
 clear b2 B1 Aa Ad Ae Af Ag
 obtain ⟨Ah, Ai, Aj, Ak⟩ := zC Ab
 go_wp2_with fail
 refine (K3.out _ (zV TT.out B2)).mono ?_
 rintro r w3 ⟨rfl, b3⟩
 have B3 := zO B2 b3
 have Al := zA b3 _ _ _ Ab
 clear b3 B2 Ab Ah Ai Aj Ak
 obtain ⟨Am, An, Ao, Ap⟩ := zC Al
 go_wp2
 go_ret
 exact ⟨rfl, B3⟩
theorem ru_check_e (f m : Int) (b : Bool) (s t : ByteArray) (e : Int) (c1 c2 c3 : Int) (w : World)
  (K1 : zS (∀ w, Calls Tryz.prog 37 #[.int .u8 f] w fun r w' => r = .returned (.int .i64 c1) ∧ Below w.heap.size w w'))
  (K2 : zS (∀ w, Calls Tryz.prog 112 #[.int .u8 m] w fun r w' => r = .returned (.int .i64 c2) ∧ Below w.heap.size w w'))
  (K3 : zS (∀ w, zN w → Calls Tryz.prog 110 #[.agg #[.bool b, .string s, .string t, .int .i64 e]] w fun r w' => r = .returned (.int .i64 c3) ∧ Below w.heap.size w w'))
  (h1 : (c1 != 0) = false) (h2 : (c2 != 0) = false) (h3 : (c3 != 0) = false) (h4 : decide ((8192 : Int) < (s.size : Int)) = false) (h5 : decide ((8192 : Int) < (t.size : Int)) = true)
  (hT2 : zN w) : Calls Tryz.prog 48 #[.int .u8 f, .int .u8 m, .agg #[.bool b, .string s, .string t, .int .i64 e]] w fun r w' => r = .returned (.int .i64 4) ∧ Below w.heap.size w w' := by
 have TT := zH hT2
 clear hT2
 obtain ⟨Ac, B0⟩ := yO w (Obj.cells #[.bool b, .string s, .string t, .int .i64 e] 41)
 go_enter Tryz.func48, Tryz.ntmps48
 go_wp2_with fail
 refine (K1.out _).mono ?_
 rintro r w1 ⟨rfl, b1⟩
 have B1 := zO B0 b1
 have Aa := zA b1 _ _ _ Ac
 clear b1 B0 Ac
 obtain ⟨Ad, Ae, Af, Ag⟩ := zC Aa
 go_wp2_with fail
 refine (K2.out _).mono ?_
 rintro r w2 ⟨rfl, b2⟩
 have B2 := zO B1 b2
 have Ab := zA b2 _ _ _ Aa
 clear b2 B1 Aa Ad Ae Af Ag
 obtain ⟨Ah, Ai, Aj, Ak⟩ := zC Ab
 go_wp2_with fail
 refine (K3.out _ (zV TT.out B2)).mono ?_
 rintro r w3 ⟨rfl, b3⟩
 have B3 := zO B2 b3
 have Al := zA b3 _ _ _ Ab
 clear b3 B2 Ab Ah Ai Aj Ak
 obtain ⟨Am, An, Ao, Ap⟩ := zC Al
 go_wp2
 go_ret
 exact ⟨rfl, B3⟩
theorem ru_check_f (f m : Int) (b : Bool) (s t : ByteArray) (e : Int) (c1 c2 c3 : Int) (w : World)
  (K1 : zS (∀ w, Calls Tryz.prog 37 #[.int .u8 f] w fun r w' => r = .returned (.int .i64 c1) ∧ Below w.heap.size w w'))
  (K2 : zS (∀ w, Calls Tryz.prog 112 #[.int .u8 m] w fun r w' => r = .returned (.int .i64 c2) ∧ Below w.heap.size w w'))
  (K3 : zS (∀ w, zN w → Calls Tryz.prog 110 #[.agg #[.bool b, .string s, .string t, .int .i64 e]] w fun r w' => r = .returned (.int .i64 c3) ∧ Below w.heap.size w w'))
  (h1 : (c1 != 0) = false) (h2 : (c2 != 0) = false) (h3 : (c3 != 0) = false) (h4 : decide ((8192 : Int) < (s.size : Int)) = false) (h5 : decide ((8192 : Int) < (t.size : Int)) = false)
  (hT2 : zN w) : Calls Tryz.prog 48 #[.int .u8 f, .int .u8 m, .agg #[.bool b, .string s, .string t, .int .i64 e]] w fun r w' => r = .returned (.int .i64 0) ∧ Below w.heap.size w w' := by
 have TT := zH hT2
 clear hT2
 obtain ⟨Ac, B0⟩ := yO w (Obj.cells #[.bool b, .string s, .string t, .int .i64 e] 41)
 go_enter Tryz.func48, Tryz.ntmps48
 go_wp2_with fail
 refine (K1.out _).mono ?_
 rintro r w1 ⟨rfl, b1⟩
 have B1 := zO B0 b1
 have Aa := zA b1 _ _ _ Ac
 clear b1 B0 Ac
 obtain ⟨Ad, Ae, Af, Ag⟩ := zC Aa
 go_wp2_with fail
 refine (K2.out _).mono ?_
 rintro r w2 ⟨rfl, b2⟩
 have B2 := zO B1 b2
 have Ab := zA b2 _ _ _ Aa
 clear b2 B1 Aa Ad Ae Af Ag
 obtain ⟨Ah, Ai, Aj, Ak⟩ := zC Ab
 go_wp2_with fail
 refine (K3.out _ (zV TT.out B2)).mono ?_
 rintro r w3 ⟨rfl, b3⟩
 have B3 := zO B2 b3
 have Al := zA b3 _ _ _ Ab
 clear b3 B2 Ab Ah Ai Aj Ak
 obtain ⟨Am, An, Ao, Ap⟩ := zC Al
 go_wp2
 go_ret
 exact ⟨rfl, B3⟩
end Go.Proofs.YtkblmpmkchkpjaaGreatDoor
