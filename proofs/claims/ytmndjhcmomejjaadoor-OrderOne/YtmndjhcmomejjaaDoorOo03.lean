/-
  What the functions that the statement reaches return: part 3 (E2, H1, H3, H6, H8).
-/
import Derived.Laws.MakeOwn
import Derived.Test.YtmndjhcmomejjaaDoorOo02
namespace Go.Proofs.YtmndjhcmomejjaaDoor
set_option maxRecDepth 100000
set_option maxHeartbeats 40000000
set_option maxRecDepth 100000
open Go.RowKit WMath
set_option linter.unusedSimpArgs false
set_option linter.unusedVariables false
def ebb (a b c d : Int) : Bool := (a == c) && (b == d)
theorem eqb (a b c d : Int) (w : World) :
    (Op.equalIn 10000 25 (.agg #[.int .u64 a, .int .u64 b]) (.agg #[.int .u64 c, .int .u64 d])).run Tryd.prog w = .ok (ebb a b c d) w := by
  have q1 : ∀ (a b : Int), (part 23 #[.int .u64 a, .int .u64 b] 0).run Tryd.prog w = .ok (.int .u64 a) w := fun a b => by kernel_rfl
  have q2 : ∀ (a b : Int), (part 23 #[.int .u64 a, .int .u64 b] 1).run Tryd.prog w = .ok (.int .u64 b) w := fun a b => by kernel_rfl
  have i1 : (Op.equalIn 9999 23 (.int .u64 a) (.int .u64 c)).run Tryd.prog w = .ok (a == c) w := run_equalIn_int w 9998 23 .u64 .u64 a c Tryd.underlying23
  have i2 : (Op.equalIn 9999 23 (.int .u64 b) (.int .u64 d)).run Tryd.prog w = .ok (b == d) w := run_equalIn_int w 9998 23 .u64 .u64 b d Tryd.underlying23
  have n1 : ("Hi" = "_") = False := by simp
  have n2 : ("Lo" = "_") = False := by simp
  have st : Tryd.prog.stoodInHeld 25 = false := by kernel_rfl
  rw [show (10000 : Nat) = 9999 + 1 from rfl]
  unfold Op.equalIn
  simp only [Sem.run_bind, run_underlying Tryd.underlying25, Result.andThen_ok]
  rw [show (Sem.run Tryd.prog program w) = .ok Tryd.prog w from rfl]
  simp only [Result.andThen_ok, st, Bool.false_eq_true, if_false]
  have fo : ∀ (l : List Field) (b : Field → (Option Bool × Unit) → Sem (ForInStep (Option Bool × Unit))), (forIn l.toArray (none, ()) b : Sem (Option Bool × Unit)) = forIn l (none, ()) b := fun l b => by simp
  simp only [fo, List.forIn_cons, List.forIn_nil, ne_eq, n1, n2, not_false_eq_true, if_true]
  unfold ebb
  obtain ⟨b1, h1⟩ : ∃ x, (a == c) = x := ⟨_, rfl⟩
  obtain ⟨b2, h2⟩ : ∃ x, (b == d) = x := ⟨_, rfl⟩
  rw [h1] at i1
  rw [h2] at i2
  rw [h1, h2]
  cases b1
  · simp only [Sem.run_bind, Sem.run_pure, Result.andThen_ok, q1, i1, Bool.not_false, if_true, Bool.false_and]
  cases b2
  · simp only [Sem.run_bind, Sem.run_pure, Result.andThen_ok, q1, i1, q2, i2, Bool.not_false, Bool.not_true, Bool.false_eq_true, if_false, if_true, Bool.false_and, Bool.true_and]
  · simp only [Sem.run_bind, Sem.run_pure, Result.andThen_ok, q1, i1, q2, i2, Bool.not_false, Bool.not_true, Bool.false_eq_true, if_false, if_true, Bool.false_and, Bool.true_and]
theorem ebb_of {x y i j n m : Nat} (hn : y + 18446744073709551616 * x = n) (hm : j + 18446744073709551616 * i = m) (hy : y < 18446744073709551616) (hj : j < 18446744073709551616) (o : Bool) (h : decide (n = m) = o) : ebb (x : Nat) (y : Nat) (i : Nat) (j : Nat) = o := by
  rw [← h]
  unfold ebb
  rw [Bool.eq_iff_iff, Bool.and_eq_true, beq_iff_eq, beq_iff_eq, decide_eq_true_iff]
  omega
end Go.Proofs.YtmndjhcmomejjaaDoor
namespace Go.Proofs.YtmndjhcmomejjaaDoor
set_option maxRecDepth 100000
set_option maxHeartbeats 40000000
set_option maxRecDepth 100000
open Go.RowKit WMath XMath
set_option linter.unusedSimpArgs false
set_option linter.unusedVariables false
def kv (f : Int) (n : Nat) : Int := if kN f n then -(kM f n : Int) else (kM f n : Int)
def sgI (x : Int) : Int := if x < 0 then -1 else if 0 < x then 1 else 0
def relR (f : Int) (a b : Nat) : Nat := if 8 ≤ kC f a ∨ 8 ≤ kC f b then 0 else if kv f a < kv f b then 1 else if kv f a = kv f b then 2 else 3
def tk (f : Int) (n : Nat) : Int := if kN f n then -(n : Int) else (n : Int)
def totR (f : Int) (a b : Nat) : Int := sgI (tk f a - tk f b)
theorem kN_pos0 {f : Int} {n : Nat} (fit : Fit f n) : (kN f n = true → 2 ^ wV f ≤ n) ∧ (kN f n = false → n < 2 ^ wV f) := by
  unfold Fit at fit
  have p := Nat.two_pow_pos (wV f)
  have lt : n / 2 ^ wV f < 2 := by
    rw [Nat.div_lt_iff_lt_mul p]
    exact fit
  have dm := Nat.div_add_mod n (2 ^ wV f)
  have ml := Nat.mod_lt n p
  unfold kN
  obtain ⟨t, ht⟩ : ∃ t, n / 2 ^ wV f = t := ⟨_, rfl⟩
  rw [ht] at lt dm ⊢
  refine ⟨fun h => ?_, fun h => ?_⟩
  · have h := of_decide_eq_true h
    obtain rfl : t = 1 := by omega
    rw [Nat.mul_one] at dm
    omega
  · have h := of_decide_eq_false h
    obtain rfl : t = 0 := by omega
    rw [Nat.mul_zero] at dm
    omega
def loR (f : Int) (a b : Nat) : Int := if kC f a = 8 ∨ kC f b = 8 then 16 else 0
def soR (f : Int) (a b : Nat) : Int := if 8 ≤ kC f a ∨ 8 ≤ kC f b then 16 else 0
def exR (f : Int) (g : Bool) (a b : Nat) : Nat := if 8 ≤ kC f a ∧ 8 ≤ kC f b then eNaN f else if 8 ≤ kC f a then b else if 8 ≤ kC f b then a else if decide (totR f a b < 0) ≠ g then a else b
theorem kM_n {f : Int} (hf : Is4 f) {n : Nat} (fit : Fit f n) : n = kM f n + (if kN f n then 2 ^ wV f else 0) := by
  have := k_enc hf fit
  unfold enc7 at this
  unfold kM
  exact this.symm
theorem sgI_zero (x : Int) : sgI x = 0 ↔ x = 0 := by
  unfold sgI
  split
  · constructor <;> intro h <;> omega
  split
  · constructor <;> intro h <;> omega
  · constructor <;> intro h <;> omega
theorem sgI_lt (x : Int) : (sgI x < 0 ↔ x < 0) ∧ (0 < sgI x ↔ 0 < x) := by
  unfold sgI
  split
  · constructor <;> constructor <;> intro h <;> omega
  split
  · constructor <;> constructor <;> intro h <;> omega
  · constructor <;> constructor <;> intro h <;> omega
theorem tk_inj {f : Int} (hf : Is4 f) {a b : Nat} (fa : Fit f a) (fb : Fit f b) (h : tk f a = tk f b) : a = b := by
  have pa := kN_pos0 fa
  have pb := kN_pos0 fb
  have p := Nat.two_pow_pos (wV f)
  unfold tk at h
  cases s1 : kN f a <;> cases s2 : kN f b <;> rw [s1, s2] at h
  · simp only [Bool.false_eq_true, if_false] at h
    omega
  · have := pb.1 s2
    simp only [Bool.false_eq_true, if_false, if_true] at h
    omega
  · have := pa.1 s1
    simp only [Bool.false_eq_true, if_false, if_true] at h
    omega
  · simp only [if_true] at h
    omega
theorem totR_zero {f : Int} (hf : Is4 f) {a b : Nat} (fa : Fit f a) (fb : Fit f b) : totR f a b = 0 ↔ a = b := by
  unfold totR
  rw [sgI_zero]
  constructor
  · intro h
    exact tk_inj hf fa fb (by omega)
  · intro h
    rw [h]
    omega
theorem relR_tot {f : Int} (hf : Is4 f) {a b : Nat} (fa : Fit f a) (fb : Fit f b) : (relR f a b = 1 → totR f a b < 0) ∧ (relR f a b = 3 → 0 < totR f a b) := by
  have ea := kM_n hf fa
  have eb := kM_n hf fb
  have l := sgI_lt (tk f a - tk f b)
  have p := Nat.two_pow_pos (wV f)
  unfold relR
  unfold totR
  rw [l.1, l.2]
  unfold kv tk
  cases s1 : kN f a <;> cases s2 : kN f b <;> rw [s1] at ea <;> rw [s2] at eb <;> simp only [Bool.false_eq_true, if_false, if_true] at ea eb ⊢ <;> (constructor <;> intro h <;> split at h <;> (try omega) <;> split at h <;> (try omega) <;> split at h <;> omega)
end Go.Proofs.YtmndjhcmomejjaaDoor
namespace Go.Proofs.YtmndjhcmomejjaaDoor
set_option maxRecDepth 100000
set_option maxHeartbeats 40000000
set_option maxRecDepth 100000
open Go.RowKit WMath
set_option linter.unusedSimpArgs false
set_option linter.unusedVariables false
theorem ebb_self (a b : Int) : ebb a b a b = true := by
  unfold ebb
  rw [beq_self_eq_true, beq_self_eq_true]
  rfl
set_option maxRecDepth 100000 in
set_option maxHeartbeats 8000000 in
theorem oo_err (f : Int) (x1 y1 x2 y2 : Nat) (f1 f2 f3 f4 f5 : Int) (o1 o2 o3 o4 o5 : Bool) (w : World)
    (K1 : Box (∀ w, FAt w → Calls Tryd.prog 10 #[.int .u8 f, .agg #[.int .u64 (x1 : Nat), .int .u64 (y1 : Nat)], .agg #[.int .u64 (x2 : Nat), .int .u64 (y2 : Nat)]] w fun r w' => r = .returned (.tuple #[.bool o1, .int .u8 f1, .int .i64 2]) ∧ Below w.heap.size w w'))
    (K2 : Box (∀ w, FAt w → Calls Tryd.prog 10 #[.int .u8 f, .agg #[.int .u64 (x2 : Nat), .int .u64 (y2 : Nat)], .agg #[.int .u64 (x1 : Nat), .int .u64 (y1 : Nat)]] w fun r w' => r = .returned (.tuple #[.bool o2, .int .u8 f2, .int .i64 2]) ∧ Below w.heap.size w w'))
    (K3 : Box (∀ w, FAt w → Calls Tryd.prog 9 #[.int .u8 f, .agg #[.int .u64 (x1 : Nat), .int .u64 (y1 : Nat)], .agg #[.int .u64 (x2 : Nat), .int .u64 (y2 : Nat)]] w fun r w' => r = .returned (.tuple #[.bool o3, .int .u8 f3, .int .i64 2]) ∧ Below w.heap.size w w'))
    (K4 : Box (∀ w, FAt w → Calls Tryd.prog 9 #[.int .u8 f, .agg #[.int .u64 (x2 : Nat), .int .u64 (y2 : Nat)], .agg #[.int .u64 (x1 : Nat), .int .u64 (y1 : Nat)]] w fun r w' => r = .returned (.tuple #[.bool o4, .int .u8 f4, .int .i64 2]) ∧ Below w.heap.size w w'))
    (K5 : Box (∀ w, FAt w → Calls Tryd.prog 11 #[.int .u8 f, .agg #[.int .u64 (x1 : Nat), .int .u64 (y1 : Nat)], .agg #[.int .u64 (x2 : Nat), .int .u64 (y2 : Nat)]] w fun r w' => r = .returned (.tuple #[.bool o5, .int .u8 f5, .int .i64 2]) ∧ Below w.heap.size w w'))
    (KA : Box (∀ w, FAt w → Calls Tryd.prog 13 #[] w fun r w' => r = .returned (.bool true) ∧ Below w.heap.size w w'))
    (hT : FAt w) : Calls Tryd.prog 7 #[.int .u8 f, .agg #[.int .u64 (x1 : Nat), .int .u64 (y1 : Nat)], .agg #[.int .u64 (x2 : Nat), .int .u64 (y2 : Nat)]] w fun r w' => r = .returned (.bool true) ∧ Below w.heap.size w w' := by
  have FF := box hT
  clear hT
  obtain ⟨Ra_0, Rb_0, B0⟩ := opn2 w (Obj.cells #[.int .u64 (x1 : Nat), .int .u64 (y1 : Nat)] 25) (Obj.cells #[.int .u64 (x2 : Nat), .int .u64 (y2 : Nat)] 25)
  go_enter Tryd.func7, Tryd.ntmps7
  obtain ⟨ca_0_0, ca_0_1⟩ := cells2s Ra_0
  obtain ⟨cb_0_0, cb_0_1⟩ := cells2s Rb_0
  go_wp2_with fail
  refine (K1.out _ (fatB FF.out B0)).mono ?_
  rintro r w1 ⟨rfl, b1⟩
  have B1 : Below w.heap.size w w1 := btr B0 b1
  have Ra_1 := heap_of b1 _ _ _ Ra_0
  have Rb_1 := heap_of b1 _ _ _ Rb_0
  clear b1 B0 Ra_0 ca_0_0 ca_0_1 Rb_0 cb_0_0 cb_0_1
  obtain ⟨ca_1_0, ca_1_1⟩ := cells2s Ra_1
  obtain ⟨cb_1_0, cb_1_1⟩ := cells2s Rb_1
  go_wp2_with fail
  refine (K2.out _ (fatB FF.out B1)).mono ?_
  rintro r w2 ⟨rfl, b2⟩
  have B2 : Below w.heap.size w w2 := btr B1 b2
  have Ra_2 := heap_of b2 _ _ _ Ra_1
  have Rb_2 := heap_of b2 _ _ _ Rb_1
  clear b2 B1 Ra_1 ca_1_0 ca_1_1 Rb_1 cb_1_0 cb_1_1
  obtain ⟨ca_2_0, ca_2_1⟩ := cells2s Ra_2
  obtain ⟨cb_2_0, cb_2_1⟩ := cells2s Rb_2
  go_wp2_with fail
  refine (K3.out _ (fatB FF.out B2)).mono ?_
  rintro r w3 ⟨rfl, b3⟩
  have B3 : Below w.heap.size w w3 := btr B2 b3
  have Ra_3 := heap_of b3 _ _ _ Ra_2
  have Rb_3 := heap_of b3 _ _ _ Rb_2
  clear b3 B2 Ra_2 ca_2_0 ca_2_1 Rb_2 cb_2_0 cb_2_1
  obtain ⟨ca_3_0, ca_3_1⟩ := cells2s Ra_3
  obtain ⟨cb_3_0, cb_3_1⟩ := cells2s Rb_3
  go_wp2_with fail
  refine (K4.out _ (fatB FF.out B3)).mono ?_
  rintro r w4 ⟨rfl, b4⟩
  have B4 : Below w.heap.size w w4 := btr B3 b4
  have Ra_4 := heap_of b4 _ _ _ Ra_3
  have Rb_4 := heap_of b4 _ _ _ Rb_3
  clear b4 B3 Ra_3 ca_3_0 ca_3_1 Rb_3 cb_3_0 cb_3_1
  obtain ⟨ca_4_0, ca_4_1⟩ := cells2s Ra_4
  obtain ⟨cb_4_0, cb_4_1⟩ := cells2s Rb_4
  go_wp2_with fail
  refine (K5.out _ (fatB FF.out B4)).mono ?_
  rintro r w5 ⟨rfl, b5⟩
  have B5 : Below w.heap.size w w5 := btr B4 b5
  have Ra_5 := heap_of b5 _ _ _ Ra_4
  have Rb_5 := heap_of b5 _ _ _ Rb_4
  clear b5 B4 Ra_4 ca_4_0 ca_4_1 Rb_4 cb_4_0 cb_4_1
  obtain ⟨ca_5_0, ca_5_1⟩ := cells2s Ra_5
  obtain ⟨cb_5_0, cb_5_1⟩ := cells2s Rb_5
  go_wp2_with fail
  refine (KA.out _ (fatB FF.out B5)).mono ?_
  rintro r w6 ⟨rfl, b6⟩
  have B6 : Below w.heap.size w w6 := btr B5 b6
  have Ra_6 := heap_of b6 _ _ _ Ra_5
  have Rb_6 := heap_of b6 _ _ _ Rb_5
  clear b6 B5 Ra_5 ca_5_0 ca_5_1 Rb_5 cb_5_0 cb_5_1
  obtain ⟨ca_6_0, ca_6_1⟩ := cells2s Ra_6
  obtain ⟨cb_6_0, cb_6_1⟩ := cells2s Rb_6
  go_wp2
  go_ret
  exact ⟨rfl, B6⟩
set_option maxRecDepth 100000 in
set_option maxHeartbeats 8000000 in
theorem oo_nan1 (f : Int) (x1 y1 x2 y2 : Nat) (f1 f2 f3 f4 f5 : Int) (c d : Nat) (hc : decide (8 ≤ (c : Int)) = true) (w : World)
    (K1 : Box (∀ w, FAt w → Calls Tryd.prog 10 #[.int .u8 f, .agg #[.int .u64 (x1 : Nat), .int .u64 (y1 : Nat)], .agg #[.int .u64 (x2 : Nat), .int .u64 (y2 : Nat)]] w fun r w' => r = .returned (.tuple #[.bool false, .int .u8 f1, .int .i64 0]) ∧ Below w.heap.size w w'))
    (K2 : Box (∀ w, FAt w → Calls Tryd.prog 10 #[.int .u8 f, .agg #[.int .u64 (x2 : Nat), .int .u64 (y2 : Nat)], .agg #[.int .u64 (x1 : Nat), .int .u64 (y1 : Nat)]] w fun r w' => r = .returned (.tuple #[.bool false, .int .u8 f2, .int .i64 0]) ∧ Below w.heap.size w w'))
    (K3 : Box (∀ w, FAt w → Calls Tryd.prog 9 #[.int .u8 f, .agg #[.int .u64 (x1 : Nat), .int .u64 (y1 : Nat)], .agg #[.int .u64 (x2 : Nat), .int .u64 (y2 : Nat)]] w fun r w' => r = .returned (.tuple #[.bool false, .int .u8 f3, .int .i64 0]) ∧ Below w.heap.size w w'))
    (K4 : Box (∀ w, FAt w → Calls Tryd.prog 9 #[.int .u8 f, .agg #[.int .u64 (x2 : Nat), .int .u64 (y2 : Nat)], .agg #[.int .u64 (x1 : Nat), .int .u64 (y1 : Nat)]] w fun r w' => r = .returned (.tuple #[.bool false, .int .u8 f4, .int .i64 0]) ∧ Below w.heap.size w w'))
    (K5 : Box (∀ w, FAt w → Calls Tryd.prog 11 #[.int .u8 f, .agg #[.int .u64 (x1 : Nat), .int .u64 (y1 : Nat)], .agg #[.int .u64 (x2 : Nat), .int .u64 (y2 : Nat)]] w fun r w' => r = .returned (.tuple #[.bool false, .int .u8 f5, .int .i64 0]) ∧ Below w.heap.size w w'))
    (KC1 : Box (∀ w, FAt w → Calls Tryd.prog 24 #[.int .u8 f, .agg #[.int .u64 (x1 : Nat), .int .u64 (y1 : Nat)]] w fun r w' => r = .returned (.tuple #[.int .u8 (c : Nat), .int .i64 0]) ∧ Below w.heap.size w w'))
    (KC2 : Box (∀ w, FAt w → Calls Tryd.prog 24 #[.int .u8 f, .agg #[.int .u64 (x2 : Nat), .int .u64 (y2 : Nat)]] w fun r w' => r = .returned (.tuple #[.int .u8 (d : Nat), .int .i64 0]) ∧ Below w.heap.size w w'))
    (KA : Box (∀ w, FAt w → Calls Tryd.prog 13 #[] w fun r w' => r = .returned (.bool true) ∧ Below w.heap.size w w'))
    (hT : FAt w) : Calls Tryd.prog 7 #[.int .u8 f, .agg #[.int .u64 (x1 : Nat), .int .u64 (y1 : Nat)], .agg #[.int .u64 (x2 : Nat), .int .u64 (y2 : Nat)]] w fun r w' => r = .returned (.bool true) ∧ Below w.heap.size w w' := by
  have FF := box hT
  clear hT
  obtain ⟨Ra_0, Rb_0, B0⟩ := opn2 w (Obj.cells #[.int .u64 (x1 : Nat), .int .u64 (y1 : Nat)] 25) (Obj.cells #[.int .u64 (x2 : Nat), .int .u64 (y2 : Nat)] 25)
  go_enter Tryd.func7, Tryd.ntmps7
  obtain ⟨ca_0_0, ca_0_1⟩ := cells2s Ra_0
  obtain ⟨cb_0_0, cb_0_1⟩ := cells2s Rb_0
  go_wp2_with fail
  refine (K1.out _ (fatB FF.out B0)).mono ?_
  rintro r w1 ⟨rfl, b1⟩
  have B1 : Below w.heap.size w w1 := btr B0 b1
  have Ra_1 := heap_of b1 _ _ _ Ra_0
  have Rb_1 := heap_of b1 _ _ _ Rb_0
  clear b1 B0 Ra_0 ca_0_0 ca_0_1 Rb_0 cb_0_0 cb_0_1
  obtain ⟨ca_1_0, ca_1_1⟩ := cells2s Ra_1
  obtain ⟨cb_1_0, cb_1_1⟩ := cells2s Rb_1
  go_wp2_with fail
  refine (K2.out _ (fatB FF.out B1)).mono ?_
  rintro r w2 ⟨rfl, b2⟩
  have B2 : Below w.heap.size w w2 := btr B1 b2
  have Ra_2 := heap_of b2 _ _ _ Ra_1
  have Rb_2 := heap_of b2 _ _ _ Rb_1
  clear b2 B1 Ra_1 ca_1_0 ca_1_1 Rb_1 cb_1_0 cb_1_1
  obtain ⟨ca_2_0, ca_2_1⟩ := cells2s Ra_2
  obtain ⟨cb_2_0, cb_2_1⟩ := cells2s Rb_2
  go_wp2_with fail
  refine (K3.out _ (fatB FF.out B2)).mono ?_
  rintro r w3 ⟨rfl, b3⟩
  have B3 : Below w.heap.size w w3 := btr B2 b3
  have Ra_3 := heap_of b3 _ _ _ Ra_2
  have Rb_3 := heap_of b3 _ _ _ Rb_2
  clear b3 B2 Ra_2 ca_2_0 ca_2_1 Rb_2 cb_2_0 cb_2_1
  obtain ⟨ca_3_0, ca_3_1⟩ := cells2s Ra_3
  obtain ⟨cb_3_0, cb_3_1⟩ := cells2s Rb_3
  go_wp2_with fail
  refine (K4.out _ (fatB FF.out B3)).mono ?_
  rintro r w4 ⟨rfl, b4⟩
  have B4 : Below w.heap.size w w4 := btr B3 b4
  have Ra_4 := heap_of b4 _ _ _ Ra_3
  have Rb_4 := heap_of b4 _ _ _ Rb_3
  clear b4 B3 Ra_3 ca_3_0 ca_3_1 Rb_3 cb_3_0 cb_3_1
  obtain ⟨ca_4_0, ca_4_1⟩ := cells2s Ra_4
  obtain ⟨cb_4_0, cb_4_1⟩ := cells2s Rb_4
  go_wp2_with fail
  refine (K5.out _ (fatB FF.out B4)).mono ?_
  rintro r w5 ⟨rfl, b5⟩
  have B5 : Below w.heap.size w w5 := btr B4 b5
  have Ra_5 := heap_of b5 _ _ _ Ra_4
  have Rb_5 := heap_of b5 _ _ _ Rb_4
  clear b5 B4 Ra_4 ca_4_0 ca_4_1 Rb_4 cb_4_0 cb_4_1
  obtain ⟨ca_5_0, ca_5_1⟩ := cells2s Ra_5
  obtain ⟨cb_5_0, cb_5_1⟩ := cells2s Rb_5
  go_wp2_with fail
  refine (KC1.out _ (fatB FF.out B5)).mono ?_
  rintro r w6 ⟨rfl, b6⟩
  have B6 : Below w.heap.size w w6 := btr B5 b6
  have Ra_6 := heap_of b6 _ _ _ Ra_5
  have Rb_6 := heap_of b6 _ _ _ Rb_5
  clear b6 B5 Ra_5 ca_5_0 ca_5_1 Rb_5 cb_5_0 cb_5_1
  obtain ⟨ca_6_0, ca_6_1⟩ := cells2s Ra_6
  obtain ⟨cb_6_0, cb_6_1⟩ := cells2s Rb_6
  go_wp2_with fail
  refine (KC2.out _ (fatB FF.out B6)).mono ?_
  rintro r w7 ⟨rfl, b7⟩
  have B7 : Below w.heap.size w w7 := btr B6 b7
  have Ra_7 := heap_of b7 _ _ _ Ra_6
  have Rb_7 := heap_of b7 _ _ _ Rb_6
  clear b7 B6 Ra_6 ca_6_0 ca_6_1 Rb_6 cb_6_0 cb_6_1
  obtain ⟨ca_7_0, ca_7_1⟩ := cells2s Ra_7
  obtain ⟨cb_7_0, cb_7_1⟩ := cells2s Rb_7
  go_wp2_with fail
  refine (KA.out _ (fatB FF.out B7)).mono ?_
  rintro r w8 ⟨rfl, b8⟩
  have B8 : Below w.heap.size w w8 := btr B7 b8
  have Ra_8 := heap_of b8 _ _ _ Ra_7
  have Rb_8 := heap_of b8 _ _ _ Rb_7
  clear b8 B7 Ra_7 ca_7_0 ca_7_1 Rb_7 cb_7_0 cb_7_1
  obtain ⟨ca_8_0, ca_8_1⟩ := cells2s Ra_8
  obtain ⟨cb_8_0, cb_8_1⟩ := cells2s Rb_8
  go_wp2
  go_ret
  exact ⟨rfl, B8⟩
set_option maxRecDepth 100000 in
set_option maxHeartbeats 8000000 in
theorem oo_nan2 (f : Int) (x1 y1 x2 y2 : Nat) (f1 f2 f3 f4 f5 : Int) (c d : Nat) (hc : decide (8 ≤ (c : Int)) = false) (hd : decide (8 ≤ (d : Int)) = true) (w : World)
    (K1 : Box (∀ w, FAt w → Calls Tryd.prog 10 #[.int .u8 f, .agg #[.int .u64 (x1 : Nat), .int .u64 (y1 : Nat)], .agg #[.int .u64 (x2 : Nat), .int .u64 (y2 : Nat)]] w fun r w' => r = .returned (.tuple #[.bool false, .int .u8 f1, .int .i64 0]) ∧ Below w.heap.size w w'))
    (K2 : Box (∀ w, FAt w → Calls Tryd.prog 10 #[.int .u8 f, .agg #[.int .u64 (x2 : Nat), .int .u64 (y2 : Nat)], .agg #[.int .u64 (x1 : Nat), .int .u64 (y1 : Nat)]] w fun r w' => r = .returned (.tuple #[.bool false, .int .u8 f2, .int .i64 0]) ∧ Below w.heap.size w w'))
    (K3 : Box (∀ w, FAt w → Calls Tryd.prog 9 #[.int .u8 f, .agg #[.int .u64 (x1 : Nat), .int .u64 (y1 : Nat)], .agg #[.int .u64 (x2 : Nat), .int .u64 (y2 : Nat)]] w fun r w' => r = .returned (.tuple #[.bool false, .int .u8 f3, .int .i64 0]) ∧ Below w.heap.size w w'))
    (K4 : Box (∀ w, FAt w → Calls Tryd.prog 9 #[.int .u8 f, .agg #[.int .u64 (x2 : Nat), .int .u64 (y2 : Nat)], .agg #[.int .u64 (x1 : Nat), .int .u64 (y1 : Nat)]] w fun r w' => r = .returned (.tuple #[.bool false, .int .u8 f4, .int .i64 0]) ∧ Below w.heap.size w w'))
    (K5 : Box (∀ w, FAt w → Calls Tryd.prog 11 #[.int .u8 f, .agg #[.int .u64 (x1 : Nat), .int .u64 (y1 : Nat)], .agg #[.int .u64 (x2 : Nat), .int .u64 (y2 : Nat)]] w fun r w' => r = .returned (.tuple #[.bool false, .int .u8 f5, .int .i64 0]) ∧ Below w.heap.size w w'))
    (KC1 : Box (∀ w, FAt w → Calls Tryd.prog 24 #[.int .u8 f, .agg #[.int .u64 (x1 : Nat), .int .u64 (y1 : Nat)]] w fun r w' => r = .returned (.tuple #[.int .u8 (c : Nat), .int .i64 0]) ∧ Below w.heap.size w w'))
    (KC2 : Box (∀ w, FAt w → Calls Tryd.prog 24 #[.int .u8 f, .agg #[.int .u64 (x2 : Nat), .int .u64 (y2 : Nat)]] w fun r w' => r = .returned (.tuple #[.int .u8 (d : Nat), .int .i64 0]) ∧ Below w.heap.size w w'))
    (KA : Box (∀ w, FAt w → Calls Tryd.prog 13 #[] w fun r w' => r = .returned (.bool true) ∧ Below w.heap.size w w'))
    (hT : FAt w) : Calls Tryd.prog 7 #[.int .u8 f, .agg #[.int .u64 (x1 : Nat), .int .u64 (y1 : Nat)], .agg #[.int .u64 (x2 : Nat), .int .u64 (y2 : Nat)]] w fun r w' => r = .returned (.bool true) ∧ Below w.heap.size w w' := by
  have FF := box hT
  clear hT
  obtain ⟨Ra_0, Rb_0, B0⟩ := opn2 w (Obj.cells #[.int .u64 (x1 : Nat), .int .u64 (y1 : Nat)] 25) (Obj.cells #[.int .u64 (x2 : Nat), .int .u64 (y2 : Nat)] 25)
  go_enter Tryd.func7, Tryd.ntmps7
  obtain ⟨ca_0_0, ca_0_1⟩ := cells2s Ra_0
  obtain ⟨cb_0_0, cb_0_1⟩ := cells2s Rb_0
  go_wp2_with fail
  refine (K1.out _ (fatB FF.out B0)).mono ?_
  rintro r w1 ⟨rfl, b1⟩
  have B1 : Below w.heap.size w w1 := btr B0 b1
  have Ra_1 := heap_of b1 _ _ _ Ra_0
  have Rb_1 := heap_of b1 _ _ _ Rb_0
  clear b1 B0 Ra_0 ca_0_0 ca_0_1 Rb_0 cb_0_0 cb_0_1
  obtain ⟨ca_1_0, ca_1_1⟩ := cells2s Ra_1
  obtain ⟨cb_1_0, cb_1_1⟩ := cells2s Rb_1
  go_wp2_with fail
  refine (K2.out _ (fatB FF.out B1)).mono ?_
  rintro r w2 ⟨rfl, b2⟩
  have B2 : Below w.heap.size w w2 := btr B1 b2
  have Ra_2 := heap_of b2 _ _ _ Ra_1
  have Rb_2 := heap_of b2 _ _ _ Rb_1
  clear b2 B1 Ra_1 ca_1_0 ca_1_1 Rb_1 cb_1_0 cb_1_1
  obtain ⟨ca_2_0, ca_2_1⟩ := cells2s Ra_2
  obtain ⟨cb_2_0, cb_2_1⟩ := cells2s Rb_2
  go_wp2_with fail
  refine (K3.out _ (fatB FF.out B2)).mono ?_
  rintro r w3 ⟨rfl, b3⟩
  have B3 : Below w.heap.size w w3 := btr B2 b3
  have Ra_3 := heap_of b3 _ _ _ Ra_2
  have Rb_3 := heap_of b3 _ _ _ Rb_2
  clear b3 B2 Ra_2 ca_2_0 ca_2_1 Rb_2 cb_2_0 cb_2_1
  obtain ⟨ca_3_0, ca_3_1⟩ := cells2s Ra_3
  obtain ⟨cb_3_0, cb_3_1⟩ := cells2s Rb_3
  go_wp2_with fail
  refine (K4.out _ (fatB FF.out B3)).mono ?_
  rintro r w4 ⟨rfl, b4⟩
  have B4 : Below w.heap.size w w4 := btr B3 b4
  have Ra_4 := heap_of b4 _ _ _ Ra_3
  have Rb_4 := heap_of b4 _ _ _ Rb_3
  clear b4 B3 Ra_3 ca_3_0 ca_3_1 Rb_3 cb_3_0 cb_3_1
  obtain ⟨ca_4_0, ca_4_1⟩ := cells2s Ra_4
  obtain ⟨cb_4_0, cb_4_1⟩ := cells2s Rb_4
  go_wp2_with fail
  refine (K5.out _ (fatB FF.out B4)).mono ?_
  rintro r w5 ⟨rfl, b5⟩
  have B5 : Below w.heap.size w w5 := btr B4 b5
  have Ra_5 := heap_of b5 _ _ _ Ra_4
  have Rb_5 := heap_of b5 _ _ _ Rb_4
  clear b5 B4 Ra_4 ca_4_0 ca_4_1 Rb_4 cb_4_0 cb_4_1
  obtain ⟨ca_5_0, ca_5_1⟩ := cells2s Ra_5
  obtain ⟨cb_5_0, cb_5_1⟩ := cells2s Rb_5
  go_wp2_with fail
  refine (KC1.out _ (fatB FF.out B5)).mono ?_
  rintro r w6 ⟨rfl, b6⟩
  have B6 : Below w.heap.size w w6 := btr B5 b6
  have Ra_6 := heap_of b6 _ _ _ Ra_5
  have Rb_6 := heap_of b6 _ _ _ Rb_5
  clear b6 B5 Ra_5 ca_5_0 ca_5_1 Rb_5 cb_5_0 cb_5_1
  obtain ⟨ca_6_0, ca_6_1⟩ := cells2s Ra_6
  obtain ⟨cb_6_0, cb_6_1⟩ := cells2s Rb_6
  go_wp2_with fail
  refine (KC2.out _ (fatB FF.out B6)).mono ?_
  rintro r w7 ⟨rfl, b7⟩
  have B7 : Below w.heap.size w w7 := btr B6 b7
  have Ra_7 := heap_of b7 _ _ _ Ra_6
  have Rb_7 := heap_of b7 _ _ _ Rb_6
  clear b7 B6 Ra_6 ca_6_0 ca_6_1 Rb_6 cb_6_0 cb_6_1
  obtain ⟨ca_7_0, ca_7_1⟩ := cells2s Ra_7
  obtain ⟨cb_7_0, cb_7_1⟩ := cells2s Rb_7
  go_wp2_with fail
  refine (KA.out _ (fatB FF.out B7)).mono ?_
  rintro r w8 ⟨rfl, b8⟩
  have B8 : Below w.heap.size w w8 := btr B7 b8
  have Ra_8 := heap_of b8 _ _ _ Ra_7
  have Rb_8 := heap_of b8 _ _ _ Rb_7
  clear b8 B7 Ra_7 ca_7_0 ca_7_1 Rb_7 cb_7_0 cb_7_1
  obtain ⟨ca_8_0, ca_8_1⟩ := cells2s Ra_8
  obtain ⟨cb_8_0, cb_8_1⟩ := cells2s Rb_8
  go_wp2
  go_ret
  exact ⟨rfl, B8⟩
set_option maxRecDepth 100000 in
set_option maxHeartbeats 8000000 in
theorem oo_lt (f : Int) (x1 y1 x2 y2 : Nat) (f1 f2 f3 f4 f5 : Int) (f6 f7 : Int) (c d : Nat) (hc : decide (8 ≤ (c : Int)) = false) (hd : decide (8 ≤ (d : Int)) = false) (w : World)
    (K1 : Box (∀ w, FAt w → Calls Tryd.prog 10 #[.int .u8 f, .agg #[.int .u64 (x1 : Nat), .int .u64 (y1 : Nat)], .agg #[.int .u64 (x2 : Nat), .int .u64 (y2 : Nat)]] w fun r w' => r = .returned (.tuple #[.bool true, .int .u8 f1, .int .i64 0]) ∧ Below w.heap.size w w'))
    (K2 : Box (∀ w, FAt w → Calls Tryd.prog 10 #[.int .u8 f, .agg #[.int .u64 (x2 : Nat), .int .u64 (y2 : Nat)], .agg #[.int .u64 (x1 : Nat), .int .u64 (y1 : Nat)]] w fun r w' => r = .returned (.tuple #[.bool false, .int .u8 f2, .int .i64 0]) ∧ Below w.heap.size w w'))
    (K3 : Box (∀ w, FAt w → Calls Tryd.prog 9 #[.int .u8 f, .agg #[.int .u64 (x1 : Nat), .int .u64 (y1 : Nat)], .agg #[.int .u64 (x2 : Nat), .int .u64 (y2 : Nat)]] w fun r w' => r = .returned (.tuple #[.bool false, .int .u8 f3, .int .i64 0]) ∧ Below w.heap.size w w'))
    (K4 : Box (∀ w, FAt w → Calls Tryd.prog 9 #[.int .u8 f, .agg #[.int .u64 (x2 : Nat), .int .u64 (y2 : Nat)], .agg #[.int .u64 (x1 : Nat), .int .u64 (y1 : Nat)]] w fun r w' => r = .returned (.tuple #[.bool false, .int .u8 f4, .int .i64 0]) ∧ Below w.heap.size w w'))
    (K5 : Box (∀ w, FAt w → Calls Tryd.prog 11 #[.int .u8 f, .agg #[.int .u64 (x1 : Nat), .int .u64 (y1 : Nat)], .agg #[.int .u64 (x2 : Nat), .int .u64 (y2 : Nat)]] w fun r w' => r = .returned (.tuple #[.bool true, .int .u8 f5, .int .i64 0]) ∧ Below w.heap.size w w'))
    (KC1 : Box (∀ w, FAt w → Calls Tryd.prog 24 #[.int .u8 f, .agg #[.int .u64 (x1 : Nat), .int .u64 (y1 : Nat)]] w fun r w' => r = .returned (.tuple #[.int .u8 (c : Nat), .int .i64 0]) ∧ Below w.heap.size w w'))
    (KC2 : Box (∀ w, FAt w → Calls Tryd.prog 24 #[.int .u8 f, .agg #[.int .u64 (x2 : Nat), .int .u64 (y2 : Nat)]] w fun r w' => r = .returned (.tuple #[.int .u8 (d : Nat), .int .i64 0]) ∧ Below w.heap.size w w'))
    (K6 : Box (∀ w, FAt w → Calls Tryd.prog 17 #[.int .u8 f, .agg #[.int .u64 (x1 : Nat), .int .u64 (y1 : Nat)], .agg #[.int .u64 (x2 : Nat), .int .u64 (y2 : Nat)]] w fun r w' => r = .returned (.tuple #[.agg #[.int .u64 (x1 : Nat), .int .u64 (y1 : Nat)], .int .u8 f6, .int .i64 0]) ∧ Below w.heap.size w w'))
    (K7 : Box (∀ w, FAt w → Calls Tryd.prog 18 #[.int .u8 f, .agg #[.int .u64 (x1 : Nat), .int .u64 (y1 : Nat)], .agg #[.int .u64 (x2 : Nat), .int .u64 (y2 : Nat)]] w fun r w' => r = .returned (.tuple #[.agg #[.int .u64 (x2 : Nat), .int .u64 (y2 : Nat)], .int .u8 f7, .int .i64 0]) ∧ Below w.heap.size w w'))
    (KA : Box (∀ w, FAt w → Calls Tryd.prog 13 #[] w fun r w' => r = .returned (.bool true) ∧ Below w.heap.size w w'))
    (hT : FAt w) : Calls Tryd.prog 7 #[.int .u8 f, .agg #[.int .u64 (x1 : Nat), .int .u64 (y1 : Nat)], .agg #[.int .u64 (x2 : Nat), .int .u64 (y2 : Nat)]] w fun r w' => r = .returned (.bool true) ∧ Below w.heap.size w w' := by
  have FF := box hT
  clear hT
  obtain ⟨Ra_0, Rb_0, B0⟩ := opn2 w (Obj.cells #[.int .u64 (x1 : Nat), .int .u64 (y1 : Nat)] 25) (Obj.cells #[.int .u64 (x2 : Nat), .int .u64 (y2 : Nat)] 25)
  go_enter Tryd.func7, Tryd.ntmps7
  obtain ⟨ca_0_0, ca_0_1⟩ := cells2s Ra_0
  obtain ⟨cb_0_0, cb_0_1⟩ := cells2s Rb_0
  have hE := eqb
  have e1 := ebb_self (x1 : Nat) (y1 : Nat)
  have e2 := ebb_self (x2 : Nat) (y2 : Nat)
  go_wp2_with fail
  refine (K1.out _ (fatB FF.out B0)).mono ?_
  rintro r w1 ⟨rfl, b1⟩
  have B1 : Below w.heap.size w w1 := btr B0 b1
  have Ra_1 := heap_of b1 _ _ _ Ra_0
  have Rb_1 := heap_of b1 _ _ _ Rb_0
  clear b1 B0 Ra_0 ca_0_0 ca_0_1 Rb_0 cb_0_0 cb_0_1
  obtain ⟨ca_1_0, ca_1_1⟩ := cells2s Ra_1
  obtain ⟨cb_1_0, cb_1_1⟩ := cells2s Rb_1
  go_wp2_with fail
  refine (K2.out _ (fatB FF.out B1)).mono ?_
  rintro r w2 ⟨rfl, b2⟩
  have B2 : Below w.heap.size w w2 := btr B1 b2
  have Ra_2 := heap_of b2 _ _ _ Ra_1
  have Rb_2 := heap_of b2 _ _ _ Rb_1
  clear b2 B1 Ra_1 ca_1_0 ca_1_1 Rb_1 cb_1_0 cb_1_1
  obtain ⟨ca_2_0, ca_2_1⟩ := cells2s Ra_2
  obtain ⟨cb_2_0, cb_2_1⟩ := cells2s Rb_2
  go_wp2_with fail
  refine (K3.out _ (fatB FF.out B2)).mono ?_
  rintro r w3 ⟨rfl, b3⟩
  have B3 : Below w.heap.size w w3 := btr B2 b3
  have Ra_3 := heap_of b3 _ _ _ Ra_2
  have Rb_3 := heap_of b3 _ _ _ Rb_2
  clear b3 B2 Ra_2 ca_2_0 ca_2_1 Rb_2 cb_2_0 cb_2_1
  obtain ⟨ca_3_0, ca_3_1⟩ := cells2s Ra_3
  obtain ⟨cb_3_0, cb_3_1⟩ := cells2s Rb_3
  go_wp2_with fail
  refine (K4.out _ (fatB FF.out B3)).mono ?_
  rintro r w4 ⟨rfl, b4⟩
  have B4 : Below w.heap.size w w4 := btr B3 b4
  have Ra_4 := heap_of b4 _ _ _ Ra_3
  have Rb_4 := heap_of b4 _ _ _ Rb_3
  clear b4 B3 Ra_3 ca_3_0 ca_3_1 Rb_3 cb_3_0 cb_3_1
  obtain ⟨ca_4_0, ca_4_1⟩ := cells2s Ra_4
  obtain ⟨cb_4_0, cb_4_1⟩ := cells2s Rb_4
  go_wp2_with fail
  refine (K5.out _ (fatB FF.out B4)).mono ?_
  rintro r w5 ⟨rfl, b5⟩
  have B5 : Below w.heap.size w w5 := btr B4 b5
  have Ra_5 := heap_of b5 _ _ _ Ra_4
  have Rb_5 := heap_of b5 _ _ _ Rb_4
  clear b5 B4 Ra_4 ca_4_0 ca_4_1 Rb_4 cb_4_0 cb_4_1
  obtain ⟨ca_5_0, ca_5_1⟩ := cells2s Ra_5
  obtain ⟨cb_5_0, cb_5_1⟩ := cells2s Rb_5
  go_wp2_with fail
  refine (KC1.out _ (fatB FF.out B5)).mono ?_
  rintro r w6 ⟨rfl, b6⟩
  have B6 : Below w.heap.size w w6 := btr B5 b6
  have Ra_6 := heap_of b6 _ _ _ Ra_5
  have Rb_6 := heap_of b6 _ _ _ Rb_5
  clear b6 B5 Ra_5 ca_5_0 ca_5_1 Rb_5 cb_5_0 cb_5_1
  obtain ⟨ca_6_0, ca_6_1⟩ := cells2s Ra_6
  obtain ⟨cb_6_0, cb_6_1⟩ := cells2s Rb_6
  go_wp2_with fail
  refine (KC2.out _ (fatB FF.out B6)).mono ?_
  rintro r w7 ⟨rfl, b7⟩
  have B7 : Below w.heap.size w w7 := btr B6 b7
  have Ra_7 := heap_of b7 _ _ _ Ra_6
  have Rb_7 := heap_of b7 _ _ _ Rb_6
  clear b7 B6 Ra_6 ca_6_0 ca_6_1 Rb_6 cb_6_0 cb_6_1
  obtain ⟨ca_7_0, ca_7_1⟩ := cells2s Ra_7
  obtain ⟨cb_7_0, cb_7_1⟩ := cells2s Rb_7
  go_wp2_with fail
  refine (K6.out _ (fatB FF.out B7)).mono ?_
  rintro r w8 ⟨rfl, b8⟩
  have B8 : Below w.heap.size w w8 := btr B7 b8
  have Ra_8 := heap_of b8 _ _ _ Ra_7
  have Rb_8 := heap_of b8 _ _ _ Rb_7
  clear b8 B7 Ra_7 ca_7_0 ca_7_1 Rb_7 cb_7_0 cb_7_1
  obtain ⟨ca_8_0, ca_8_1⟩ := cells2s Ra_8
  obtain ⟨cb_8_0, cb_8_1⟩ := cells2s Rb_8
  have S9 := box B8.size
  have La_9 : Box (w.heap.size < w8.heap.size) := box (Array.getElem?_eq_some_iff.1 Ra_8).1
  have Lb_9 : Box (w.heap.size + 1 < w8.heap.size) := box (Array.getElem?_eq_some_iff.1 Rb_8).1
  have Rx_9 := heap_alloc_last w8 (Obj.cells #[.int .u64 (x1 : Nat), .int .u64 (y1 : Nat)] 25)
  have B9 := btr B8 (bal w8 (Obj.cells #[.int .u64 (x1 : Nat), .int .u64 (y1 : Nat)] 25))
  have Ra_9 := heap_of (bal w8 (Obj.cells #[.int .u64 (x1 : Nat), .int .u64 (y1 : Nat)] 25)) _ _ _ Ra_8
  have Rb_9 := heap_of (bal w8 (Obj.cells #[.int .u64 (x1 : Nat), .int .u64 (y1 : Nat)] 25)) _ _ _ Rb_8
  clear B8 Ra_8 ca_8_0 ca_8_1 Rb_8 cb_8_0 cb_8_1
  obtain ⟨ca_9_0, ca_9_1⟩ := cells2s Ra_9
  obtain ⟨cb_9_0, cb_9_1⟩ := cells2s Rb_9
  obtain ⟨cx_9_0, cx_9_1⟩ := cells2s Rx_9
  go_wp2_with fail
  refine (K7.out _ (fatB FF.out B9)).mono ?_
  rintro r w10 ⟨rfl, b10⟩
  have B10 : Below w.heap.size w w10 := btr B9 b10
  have Ra_10 := heap_of b10 _ _ _ Ra_9
  have Rb_10 := heap_of b10 _ _ _ Rb_9
  have Rx_10 := heap_of b10 _ _ _ Rx_9
  clear b10 B9 Ra_9 ca_9_0 ca_9_1 Rb_9 cb_9_0 cb_9_1 Rx_9 cx_9_0 cx_9_1
  obtain ⟨ca_10_0, ca_10_1⟩ := cells2s Ra_10
  obtain ⟨cb_10_0, cb_10_1⟩ := cells2s Rb_10
  obtain ⟨cx_10_0, cx_10_1⟩ := cells2s Rx_10
  have S11 := box B10.size
  have La_11 : Box (w.heap.size < w10.heap.size) := box (Array.getElem?_eq_some_iff.1 Ra_10).1
  have Lb_11 : Box (w.heap.size + 1 < w10.heap.size) := box (Array.getElem?_eq_some_iff.1 Rb_10).1
  have Lx_11 : Box (w8.heap.size < w10.heap.size) := box (Array.getElem?_eq_some_iff.1 Rx_10).1
  have Ry_11 := heap_alloc_last w10 (Obj.cells #[.int .u64 (x2 : Nat), .int .u64 (y2 : Nat)] 25)
  have B11 := btr B10 (bal w10 (Obj.cells #[.int .u64 (x2 : Nat), .int .u64 (y2 : Nat)] 25))
  have Ra_11 := heap_of (bal w10 (Obj.cells #[.int .u64 (x2 : Nat), .int .u64 (y2 : Nat)] 25)) _ _ _ Ra_10
  have Rb_11 := heap_of (bal w10 (Obj.cells #[.int .u64 (x2 : Nat), .int .u64 (y2 : Nat)] 25)) _ _ _ Rb_10
  have Rx_11 := heap_of (bal w10 (Obj.cells #[.int .u64 (x2 : Nat), .int .u64 (y2 : Nat)] 25)) _ _ _ Rx_10
  clear B10 Ra_10 ca_10_0 ca_10_1 Rb_10 cb_10_0 cb_10_1 Rx_10 cx_10_0 cx_10_1
  obtain ⟨ca_11_0, ca_11_1⟩ := cells2s Ra_11
  obtain ⟨cb_11_0, cb_11_1⟩ := cells2s Rb_11
  obtain ⟨cx_11_0, cx_11_1⟩ := cells2s Rx_11
  obtain ⟨cy_11_0, cy_11_1⟩ := cells2s Ry_11
  go_wp2_with fail
  refine (KA.out _ (fatB FF.out B11)).mono ?_
  rintro r w12 ⟨rfl, b12⟩
  have B12 : Below w.heap.size w w12 := btr B11 b12
  have Ra_12 := heap_of b12 _ _ _ Ra_11
  have Rb_12 := heap_of b12 _ _ _ Rb_11
  have Rx_12 := heap_of b12 _ _ _ Rx_11
  have Ry_12 := heap_of b12 _ _ _ Ry_11
  clear b12 B11 Ra_11 ca_11_0 ca_11_1 Rb_11 cb_11_0 cb_11_1 Rx_11 cx_11_0 cx_11_1 Ry_11 cy_11_0 cy_11_1
  obtain ⟨ca_12_0, ca_12_1⟩ := cells2s Ra_12
  obtain ⟨cb_12_0, cb_12_1⟩ := cells2s Rb_12
  obtain ⟨cx_12_0, cx_12_1⟩ := cells2s Rx_12
  obtain ⟨cy_12_0, cy_12_1⟩ := cells2s Ry_12
  go_wp2
  go_ret
  exact ⟨rfl, B12⟩
set_option maxRecDepth 100000 in
set_option maxHeartbeats 8000000 in
theorem oo_gt (f : Int) (x1 y1 x2 y2 : Nat) (f1 f2 f3 f4 f5 : Int) (f6 f7 : Int) (c d : Nat) (hc : decide (8 ≤ (c : Int)) = false) (hd : decide (8 ≤ (d : Int)) = false) (he : ebb (x2 : Nat) (y2 : Nat) (x1 : Nat) (y1 : Nat) = false) (w : World)
    (K1 : Box (∀ w, FAt w → Calls Tryd.prog 10 #[.int .u8 f, .agg #[.int .u64 (x1 : Nat), .int .u64 (y1 : Nat)], .agg #[.int .u64 (x2 : Nat), .int .u64 (y2 : Nat)]] w fun r w' => r = .returned (.tuple #[.bool false, .int .u8 f1, .int .i64 0]) ∧ Below w.heap.size w w'))
    (K2 : Box (∀ w, FAt w → Calls Tryd.prog 10 #[.int .u8 f, .agg #[.int .u64 (x2 : Nat), .int .u64 (y2 : Nat)], .agg #[.int .u64 (x1 : Nat), .int .u64 (y1 : Nat)]] w fun r w' => r = .returned (.tuple #[.bool true, .int .u8 f2, .int .i64 0]) ∧ Below w.heap.size w w'))
    (K3 : Box (∀ w, FAt w → Calls Tryd.prog 9 #[.int .u8 f, .agg #[.int .u64 (x1 : Nat), .int .u64 (y1 : Nat)], .agg #[.int .u64 (x2 : Nat), .int .u64 (y2 : Nat)]] w fun r w' => r = .returned (.tuple #[.bool false, .int .u8 f3, .int .i64 0]) ∧ Below w.heap.size w w'))
    (K4 : Box (∀ w, FAt w → Calls Tryd.prog 9 #[.int .u8 f, .agg #[.int .u64 (x2 : Nat), .int .u64 (y2 : Nat)], .agg #[.int .u64 (x1 : Nat), .int .u64 (y1 : Nat)]] w fun r w' => r = .returned (.tuple #[.bool false, .int .u8 f4, .int .i64 0]) ∧ Below w.heap.size w w'))
    (K5 : Box (∀ w, FAt w → Calls Tryd.prog 11 #[.int .u8 f, .agg #[.int .u64 (x1 : Nat), .int .u64 (y1 : Nat)], .agg #[.int .u64 (x2 : Nat), .int .u64 (y2 : Nat)]] w fun r w' => r = .returned (.tuple #[.bool false, .int .u8 f5, .int .i64 0]) ∧ Below w.heap.size w w'))
    (KC1 : Box (∀ w, FAt w → Calls Tryd.prog 24 #[.int .u8 f, .agg #[.int .u64 (x1 : Nat), .int .u64 (y1 : Nat)]] w fun r w' => r = .returned (.tuple #[.int .u8 (c : Nat), .int .i64 0]) ∧ Below w.heap.size w w'))
    (KC2 : Box (∀ w, FAt w → Calls Tryd.prog 24 #[.int .u8 f, .agg #[.int .u64 (x2 : Nat), .int .u64 (y2 : Nat)]] w fun r w' => r = .returned (.tuple #[.int .u8 (d : Nat), .int .i64 0]) ∧ Below w.heap.size w w'))
    (K6 : Box (∀ w, FAt w → Calls Tryd.prog 17 #[.int .u8 f, .agg #[.int .u64 (x1 : Nat), .int .u64 (y1 : Nat)], .agg #[.int .u64 (x2 : Nat), .int .u64 (y2 : Nat)]] w fun r w' => r = .returned (.tuple #[.agg #[.int .u64 (x2 : Nat), .int .u64 (y2 : Nat)], .int .u8 f6, .int .i64 0]) ∧ Below w.heap.size w w'))
    (K7 : Box (∀ w, FAt w → Calls Tryd.prog 18 #[.int .u8 f, .agg #[.int .u64 (x1 : Nat), .int .u64 (y1 : Nat)], .agg #[.int .u64 (x2 : Nat), .int .u64 (y2 : Nat)]] w fun r w' => r = .returned (.tuple #[.agg #[.int .u64 (x1 : Nat), .int .u64 (y1 : Nat)], .int .u8 f7, .int .i64 0]) ∧ Below w.heap.size w w'))
    (KA : Box (∀ w, FAt w → Calls Tryd.prog 13 #[] w fun r w' => r = .returned (.bool true) ∧ Below w.heap.size w w'))
    (hT : FAt w) : Calls Tryd.prog 7 #[.int .u8 f, .agg #[.int .u64 (x1 : Nat), .int .u64 (y1 : Nat)], .agg #[.int .u64 (x2 : Nat), .int .u64 (y2 : Nat)]] w fun r w' => r = .returned (.bool true) ∧ Below w.heap.size w w' := by
  have FF := box hT
  clear hT
  obtain ⟨Ra_0, Rb_0, B0⟩ := opn2 w (Obj.cells #[.int .u64 (x1 : Nat), .int .u64 (y1 : Nat)] 25) (Obj.cells #[.int .u64 (x2 : Nat), .int .u64 (y2 : Nat)] 25)
  go_enter Tryd.func7, Tryd.ntmps7
  obtain ⟨ca_0_0, ca_0_1⟩ := cells2s Ra_0
  obtain ⟨cb_0_0, cb_0_1⟩ := cells2s Rb_0
  have hE := eqb
  have e1 := ebb_self (x1 : Nat) (y1 : Nat)
  have e2 := ebb_self (x2 : Nat) (y2 : Nat)
  go_wp2_with fail
  refine (K1.out _ (fatB FF.out B0)).mono ?_
  rintro r w1 ⟨rfl, b1⟩
  have B1 : Below w.heap.size w w1 := btr B0 b1
  have Ra_1 := heap_of b1 _ _ _ Ra_0
  have Rb_1 := heap_of b1 _ _ _ Rb_0
  clear b1 B0 Ra_0 ca_0_0 ca_0_1 Rb_0 cb_0_0 cb_0_1
  obtain ⟨ca_1_0, ca_1_1⟩ := cells2s Ra_1
  obtain ⟨cb_1_0, cb_1_1⟩ := cells2s Rb_1
  go_wp2_with fail
  refine (K2.out _ (fatB FF.out B1)).mono ?_
  rintro r w2 ⟨rfl, b2⟩
  have B2 : Below w.heap.size w w2 := btr B1 b2
  have Ra_2 := heap_of b2 _ _ _ Ra_1
  have Rb_2 := heap_of b2 _ _ _ Rb_1
  clear b2 B1 Ra_1 ca_1_0 ca_1_1 Rb_1 cb_1_0 cb_1_1
  obtain ⟨ca_2_0, ca_2_1⟩ := cells2s Ra_2
  obtain ⟨cb_2_0, cb_2_1⟩ := cells2s Rb_2
  go_wp2_with fail
  refine (K3.out _ (fatB FF.out B2)).mono ?_
  rintro r w3 ⟨rfl, b3⟩
  have B3 : Below w.heap.size w w3 := btr B2 b3
  have Ra_3 := heap_of b3 _ _ _ Ra_2
  have Rb_3 := heap_of b3 _ _ _ Rb_2
  clear b3 B2 Ra_2 ca_2_0 ca_2_1 Rb_2 cb_2_0 cb_2_1
  obtain ⟨ca_3_0, ca_3_1⟩ := cells2s Ra_3
  obtain ⟨cb_3_0, cb_3_1⟩ := cells2s Rb_3
  go_wp2_with fail
  refine (K4.out _ (fatB FF.out B3)).mono ?_
  rintro r w4 ⟨rfl, b4⟩
  have B4 : Below w.heap.size w w4 := btr B3 b4
  have Ra_4 := heap_of b4 _ _ _ Ra_3
  have Rb_4 := heap_of b4 _ _ _ Rb_3
  clear b4 B3 Ra_3 ca_3_0 ca_3_1 Rb_3 cb_3_0 cb_3_1
  obtain ⟨ca_4_0, ca_4_1⟩ := cells2s Ra_4
  obtain ⟨cb_4_0, cb_4_1⟩ := cells2s Rb_4
  go_wp2_with fail
  refine (K5.out _ (fatB FF.out B4)).mono ?_
  rintro r w5 ⟨rfl, b5⟩
  have B5 : Below w.heap.size w w5 := btr B4 b5
  have Ra_5 := heap_of b5 _ _ _ Ra_4
  have Rb_5 := heap_of b5 _ _ _ Rb_4
  clear b5 B4 Ra_4 ca_4_0 ca_4_1 Rb_4 cb_4_0 cb_4_1
  obtain ⟨ca_5_0, ca_5_1⟩ := cells2s Ra_5
  obtain ⟨cb_5_0, cb_5_1⟩ := cells2s Rb_5
  go_wp2_with fail
  refine (KC1.out _ (fatB FF.out B5)).mono ?_
  rintro r w6 ⟨rfl, b6⟩
  have B6 : Below w.heap.size w w6 := btr B5 b6
  have Ra_6 := heap_of b6 _ _ _ Ra_5
  have Rb_6 := heap_of b6 _ _ _ Rb_5
  clear b6 B5 Ra_5 ca_5_0 ca_5_1 Rb_5 cb_5_0 cb_5_1
  obtain ⟨ca_6_0, ca_6_1⟩ := cells2s Ra_6
  obtain ⟨cb_6_0, cb_6_1⟩ := cells2s Rb_6
  go_wp2_with fail
  refine (KC2.out _ (fatB FF.out B6)).mono ?_
  rintro r w7 ⟨rfl, b7⟩
  have B7 : Below w.heap.size w w7 := btr B6 b7
  have Ra_7 := heap_of b7 _ _ _ Ra_6
  have Rb_7 := heap_of b7 _ _ _ Rb_6
  clear b7 B6 Ra_6 ca_6_0 ca_6_1 Rb_6 cb_6_0 cb_6_1
  obtain ⟨ca_7_0, ca_7_1⟩ := cells2s Ra_7
  obtain ⟨cb_7_0, cb_7_1⟩ := cells2s Rb_7
  go_wp2_with fail
  refine (K6.out _ (fatB FF.out B7)).mono ?_
  rintro r w8 ⟨rfl, b8⟩
  have B8 : Below w.heap.size w w8 := btr B7 b8
  have Ra_8 := heap_of b8 _ _ _ Ra_7
  have Rb_8 := heap_of b8 _ _ _ Rb_7
  clear b8 B7 Ra_7 ca_7_0 ca_7_1 Rb_7 cb_7_0 cb_7_1
  obtain ⟨ca_8_0, ca_8_1⟩ := cells2s Ra_8
  obtain ⟨cb_8_0, cb_8_1⟩ := cells2s Rb_8
  have S9 := box B8.size
  have La_9 : Box (w.heap.size < w8.heap.size) := box (Array.getElem?_eq_some_iff.1 Ra_8).1
  have Lb_9 : Box (w.heap.size + 1 < w8.heap.size) := box (Array.getElem?_eq_some_iff.1 Rb_8).1
  have Rx_9 := heap_alloc_last w8 (Obj.cells #[.int .u64 (x2 : Nat), .int .u64 (y2 : Nat)] 25)
  have B9 := btr B8 (bal w8 (Obj.cells #[.int .u64 (x2 : Nat), .int .u64 (y2 : Nat)] 25))
  have Ra_9 := heap_of (bal w8 (Obj.cells #[.int .u64 (x2 : Nat), .int .u64 (y2 : Nat)] 25)) _ _ _ Ra_8
  have Rb_9 := heap_of (bal w8 (Obj.cells #[.int .u64 (x2 : Nat), .int .u64 (y2 : Nat)] 25)) _ _ _ Rb_8
  clear B8 Ra_8 ca_8_0 ca_8_1 Rb_8 cb_8_0 cb_8_1
  obtain ⟨ca_9_0, ca_9_1⟩ := cells2s Ra_9
  obtain ⟨cb_9_0, cb_9_1⟩ := cells2s Rb_9
  obtain ⟨cx_9_0, cx_9_1⟩ := cells2s Rx_9
  go_wp2_with fail
  refine (K7.out _ (fatB FF.out B9)).mono ?_
  rintro r w10 ⟨rfl, b10⟩
  have B10 : Below w.heap.size w w10 := btr B9 b10
  have Ra_10 := heap_of b10 _ _ _ Ra_9
  have Rb_10 := heap_of b10 _ _ _ Rb_9
  have Rx_10 := heap_of b10 _ _ _ Rx_9
  clear b10 B9 Ra_9 ca_9_0 ca_9_1 Rb_9 cb_9_0 cb_9_1 Rx_9 cx_9_0 cx_9_1
  obtain ⟨ca_10_0, ca_10_1⟩ := cells2s Ra_10
  obtain ⟨cb_10_0, cb_10_1⟩ := cells2s Rb_10
  obtain ⟨cx_10_0, cx_10_1⟩ := cells2s Rx_10
  have S11 := box B10.size
  have La_11 : Box (w.heap.size < w10.heap.size) := box (Array.getElem?_eq_some_iff.1 Ra_10).1
  have Lb_11 : Box (w.heap.size + 1 < w10.heap.size) := box (Array.getElem?_eq_some_iff.1 Rb_10).1
  have Lx_11 : Box (w8.heap.size < w10.heap.size) := box (Array.getElem?_eq_some_iff.1 Rx_10).1
  have Ry_11 := heap_alloc_last w10 (Obj.cells #[.int .u64 (x1 : Nat), .int .u64 (y1 : Nat)] 25)
  have B11 := btr B10 (bal w10 (Obj.cells #[.int .u64 (x1 : Nat), .int .u64 (y1 : Nat)] 25))
  have Ra_11 := heap_of (bal w10 (Obj.cells #[.int .u64 (x1 : Nat), .int .u64 (y1 : Nat)] 25)) _ _ _ Ra_10
  have Rb_11 := heap_of (bal w10 (Obj.cells #[.int .u64 (x1 : Nat), .int .u64 (y1 : Nat)] 25)) _ _ _ Rb_10
  have Rx_11 := heap_of (bal w10 (Obj.cells #[.int .u64 (x1 : Nat), .int .u64 (y1 : Nat)] 25)) _ _ _ Rx_10
  clear B10 Ra_10 ca_10_0 ca_10_1 Rb_10 cb_10_0 cb_10_1 Rx_10 cx_10_0 cx_10_1
  obtain ⟨ca_11_0, ca_11_1⟩ := cells2s Ra_11
  obtain ⟨cb_11_0, cb_11_1⟩ := cells2s Rb_11
  obtain ⟨cx_11_0, cx_11_1⟩ := cells2s Rx_11
  obtain ⟨cy_11_0, cy_11_1⟩ := cells2s Ry_11
  go_wp2_with fail
  refine (KA.out _ (fatB FF.out B11)).mono ?_
  rintro r w12 ⟨rfl, b12⟩
  have B12 : Below w.heap.size w w12 := btr B11 b12
  have Ra_12 := heap_of b12 _ _ _ Ra_11
  have Rb_12 := heap_of b12 _ _ _ Rb_11
  have Rx_12 := heap_of b12 _ _ _ Rx_11
  have Ry_12 := heap_of b12 _ _ _ Ry_11
  clear b12 B11 Ra_11 ca_11_0 ca_11_1 Rb_11 cb_11_0 cb_11_1 Rx_11 cx_11_0 cx_11_1 Ry_11 cy_11_0 cy_11_1
  obtain ⟨ca_12_0, ca_12_1⟩ := cells2s Ra_12
  obtain ⟨cb_12_0, cb_12_1⟩ := cells2s Rb_12
  obtain ⟨cx_12_0, cx_12_1⟩ := cells2s Rx_12
  obtain ⟨cy_12_0, cy_12_1⟩ := cells2s Ry_12
  go_wp2
  go_ret
  exact ⟨rfl, B12⟩
set_option maxRecDepth 100000 in
set_option maxHeartbeats 8000000 in
theorem oo_eqa (f : Int) (x1 y1 x2 y2 : Nat) (f1 f2 f3 f4 f5 : Int) (f6 f7 : Int) (c d : Nat) (hc : decide (8 ≤ (c : Int)) = false) (hd : decide (8 ≤ (d : Int)) = false) (w : World)
    (K1 : Box (∀ w, FAt w → Calls Tryd.prog 10 #[.int .u8 f, .agg #[.int .u64 (x1 : Nat), .int .u64 (y1 : Nat)], .agg #[.int .u64 (x2 : Nat), .int .u64 (y2 : Nat)]] w fun r w' => r = .returned (.tuple #[.bool false, .int .u8 f1, .int .i64 0]) ∧ Below w.heap.size w w'))
    (K2 : Box (∀ w, FAt w → Calls Tryd.prog 10 #[.int .u8 f, .agg #[.int .u64 (x2 : Nat), .int .u64 (y2 : Nat)], .agg #[.int .u64 (x1 : Nat), .int .u64 (y1 : Nat)]] w fun r w' => r = .returned (.tuple #[.bool false, .int .u8 f2, .int .i64 0]) ∧ Below w.heap.size w w'))
    (K3 : Box (∀ w, FAt w → Calls Tryd.prog 9 #[.int .u8 f, .agg #[.int .u64 (x1 : Nat), .int .u64 (y1 : Nat)], .agg #[.int .u64 (x2 : Nat), .int .u64 (y2 : Nat)]] w fun r w' => r = .returned (.tuple #[.bool true, .int .u8 f3, .int .i64 0]) ∧ Below w.heap.size w w'))
    (K4 : Box (∀ w, FAt w → Calls Tryd.prog 9 #[.int .u8 f, .agg #[.int .u64 (x2 : Nat), .int .u64 (y2 : Nat)], .agg #[.int .u64 (x1 : Nat), .int .u64 (y1 : Nat)]] w fun r w' => r = .returned (.tuple #[.bool true, .int .u8 f4, .int .i64 0]) ∧ Below w.heap.size w w'))
    (K5 : Box (∀ w, FAt w → Calls Tryd.prog 11 #[.int .u8 f, .agg #[.int .u64 (x1 : Nat), .int .u64 (y1 : Nat)], .agg #[.int .u64 (x2 : Nat), .int .u64 (y2 : Nat)]] w fun r w' => r = .returned (.tuple #[.bool true, .int .u8 f5, .int .i64 0]) ∧ Below w.heap.size w w'))
    (KC1 : Box (∀ w, FAt w → Calls Tryd.prog 24 #[.int .u8 f, .agg #[.int .u64 (x1 : Nat), .int .u64 (y1 : Nat)]] w fun r w' => r = .returned (.tuple #[.int .u8 (c : Nat), .int .i64 0]) ∧ Below w.heap.size w w'))
    (KC2 : Box (∀ w, FAt w → Calls Tryd.prog 24 #[.int .u8 f, .agg #[.int .u64 (x2 : Nat), .int .u64 (y2 : Nat)]] w fun r w' => r = .returned (.tuple #[.int .u8 (d : Nat), .int .i64 0]) ∧ Below w.heap.size w w'))
    (K6 : Box (∀ w, FAt w → Calls Tryd.prog 17 #[.int .u8 f, .agg #[.int .u64 (x1 : Nat), .int .u64 (y1 : Nat)], .agg #[.int .u64 (x2 : Nat), .int .u64 (y2 : Nat)]] w fun r w' => r = .returned (.tuple #[.agg #[.int .u64 (x1 : Nat), .int .u64 (y1 : Nat)], .int .u8 f6, .int .i64 0]) ∧ Below w.heap.size w w'))
    (K7 : Box (∀ w, FAt w → Calls Tryd.prog 18 #[.int .u8 f, .agg #[.int .u64 (x1 : Nat), .int .u64 (y1 : Nat)], .agg #[.int .u64 (x2 : Nat), .int .u64 (y2 : Nat)]] w fun r w' => r = .returned (.tuple #[.agg #[.int .u64 (x2 : Nat), .int .u64 (y2 : Nat)], .int .u8 f7, .int .i64 0]) ∧ Below w.heap.size w w'))
    (KA : Box (∀ w, FAt w → Calls Tryd.prog 13 #[] w fun r w' => r = .returned (.bool true) ∧ Below w.heap.size w w'))
    (hT : FAt w) : Calls Tryd.prog 7 #[.int .u8 f, .agg #[.int .u64 (x1 : Nat), .int .u64 (y1 : Nat)], .agg #[.int .u64 (x2 : Nat), .int .u64 (y2 : Nat)]] w fun r w' => r = .returned (.bool true) ∧ Below w.heap.size w w' := by
  have FF := box hT
  clear hT
  obtain ⟨Ra_0, Rb_0, B0⟩ := opn2 w (Obj.cells #[.int .u64 (x1 : Nat), .int .u64 (y1 : Nat)] 25) (Obj.cells #[.int .u64 (x2 : Nat), .int .u64 (y2 : Nat)] 25)
  go_enter Tryd.func7, Tryd.ntmps7
  obtain ⟨ca_0_0, ca_0_1⟩ := cells2s Ra_0
  obtain ⟨cb_0_0, cb_0_1⟩ := cells2s Rb_0
  have hE := eqb
  have e1 := ebb_self (x1 : Nat) (y1 : Nat)
  have e2 := ebb_self (x2 : Nat) (y2 : Nat)
  go_wp2_with fail
  refine (K1.out _ (fatB FF.out B0)).mono ?_
  rintro r w1 ⟨rfl, b1⟩
  have B1 : Below w.heap.size w w1 := btr B0 b1
  have Ra_1 := heap_of b1 _ _ _ Ra_0
  have Rb_1 := heap_of b1 _ _ _ Rb_0
  clear b1 B0 Ra_0 ca_0_0 ca_0_1 Rb_0 cb_0_0 cb_0_1
  obtain ⟨ca_1_0, ca_1_1⟩ := cells2s Ra_1
  obtain ⟨cb_1_0, cb_1_1⟩ := cells2s Rb_1
  go_wp2_with fail
  refine (K2.out _ (fatB FF.out B1)).mono ?_
  rintro r w2 ⟨rfl, b2⟩
  have B2 : Below w.heap.size w w2 := btr B1 b2
  have Ra_2 := heap_of b2 _ _ _ Ra_1
  have Rb_2 := heap_of b2 _ _ _ Rb_1
  clear b2 B1 Ra_1 ca_1_0 ca_1_1 Rb_1 cb_1_0 cb_1_1
  obtain ⟨ca_2_0, ca_2_1⟩ := cells2s Ra_2
  obtain ⟨cb_2_0, cb_2_1⟩ := cells2s Rb_2
  go_wp2_with fail
  refine (K3.out _ (fatB FF.out B2)).mono ?_
  rintro r w3 ⟨rfl, b3⟩
  have B3 : Below w.heap.size w w3 := btr B2 b3
  have Ra_3 := heap_of b3 _ _ _ Ra_2
  have Rb_3 := heap_of b3 _ _ _ Rb_2
  clear b3 B2 Ra_2 ca_2_0 ca_2_1 Rb_2 cb_2_0 cb_2_1
  obtain ⟨ca_3_0, ca_3_1⟩ := cells2s Ra_3
  obtain ⟨cb_3_0, cb_3_1⟩ := cells2s Rb_3
  go_wp2_with fail
  refine (K4.out _ (fatB FF.out B3)).mono ?_
  rintro r w4 ⟨rfl, b4⟩
  have B4 : Below w.heap.size w w4 := btr B3 b4
  have Ra_4 := heap_of b4 _ _ _ Ra_3
  have Rb_4 := heap_of b4 _ _ _ Rb_3
  clear b4 B3 Ra_3 ca_3_0 ca_3_1 Rb_3 cb_3_0 cb_3_1
  obtain ⟨ca_4_0, ca_4_1⟩ := cells2s Ra_4
  obtain ⟨cb_4_0, cb_4_1⟩ := cells2s Rb_4
  go_wp2_with fail
  refine (K5.out _ (fatB FF.out B4)).mono ?_
  rintro r w5 ⟨rfl, b5⟩
  have B5 : Below w.heap.size w w5 := btr B4 b5
  have Ra_5 := heap_of b5 _ _ _ Ra_4
  have Rb_5 := heap_of b5 _ _ _ Rb_4
  clear b5 B4 Ra_4 ca_4_0 ca_4_1 Rb_4 cb_4_0 cb_4_1
  obtain ⟨ca_5_0, ca_5_1⟩ := cells2s Ra_5
  obtain ⟨cb_5_0, cb_5_1⟩ := cells2s Rb_5
  go_wp2_with fail
  refine (KC1.out _ (fatB FF.out B5)).mono ?_
  rintro r w6 ⟨rfl, b6⟩
  have B6 : Below w.heap.size w w6 := btr B5 b6
  have Ra_6 := heap_of b6 _ _ _ Ra_5
  have Rb_6 := heap_of b6 _ _ _ Rb_5
  clear b6 B5 Ra_5 ca_5_0 ca_5_1 Rb_5 cb_5_0 cb_5_1
  obtain ⟨ca_6_0, ca_6_1⟩ := cells2s Ra_6
  obtain ⟨cb_6_0, cb_6_1⟩ := cells2s Rb_6
  go_wp2_with fail
  refine (KC2.out _ (fatB FF.out B6)).mono ?_
  rintro r w7 ⟨rfl, b7⟩
  have B7 : Below w.heap.size w w7 := btr B6 b7
  have Ra_7 := heap_of b7 _ _ _ Ra_6
  have Rb_7 := heap_of b7 _ _ _ Rb_6
  clear b7 B6 Ra_6 ca_6_0 ca_6_1 Rb_6 cb_6_0 cb_6_1
  obtain ⟨ca_7_0, ca_7_1⟩ := cells2s Ra_7
  obtain ⟨cb_7_0, cb_7_1⟩ := cells2s Rb_7
  go_wp2_with fail
  refine (K6.out _ (fatB FF.out B7)).mono ?_
  rintro r w8 ⟨rfl, b8⟩
  have B8 : Below w.heap.size w w8 := btr B7 b8
  have Ra_8 := heap_of b8 _ _ _ Ra_7
  have Rb_8 := heap_of b8 _ _ _ Rb_7
  clear b8 B7 Ra_7 ca_7_0 ca_7_1 Rb_7 cb_7_0 cb_7_1
  obtain ⟨ca_8_0, ca_8_1⟩ := cells2s Ra_8
  obtain ⟨cb_8_0, cb_8_1⟩ := cells2s Rb_8
  have S9 := box B8.size
  have La_9 : Box (w.heap.size < w8.heap.size) := box (Array.getElem?_eq_some_iff.1 Ra_8).1
  have Lb_9 : Box (w.heap.size + 1 < w8.heap.size) := box (Array.getElem?_eq_some_iff.1 Rb_8).1
  have Rx_9 := heap_alloc_last w8 (Obj.cells #[.int .u64 (x1 : Nat), .int .u64 (y1 : Nat)] 25)
  have B9 := btr B8 (bal w8 (Obj.cells #[.int .u64 (x1 : Nat), .int .u64 (y1 : Nat)] 25))
  have Ra_9 := heap_of (bal w8 (Obj.cells #[.int .u64 (x1 : Nat), .int .u64 (y1 : Nat)] 25)) _ _ _ Ra_8
  have Rb_9 := heap_of (bal w8 (Obj.cells #[.int .u64 (x1 : Nat), .int .u64 (y1 : Nat)] 25)) _ _ _ Rb_8
  clear B8 Ra_8 ca_8_0 ca_8_1 Rb_8 cb_8_0 cb_8_1
  obtain ⟨ca_9_0, ca_9_1⟩ := cells2s Ra_9
  obtain ⟨cb_9_0, cb_9_1⟩ := cells2s Rb_9
  obtain ⟨cx_9_0, cx_9_1⟩ := cells2s Rx_9
  go_wp2_with fail
  refine (K7.out _ (fatB FF.out B9)).mono ?_
  rintro r w10 ⟨rfl, b10⟩
  have B10 : Below w.heap.size w w10 := btr B9 b10
  have Ra_10 := heap_of b10 _ _ _ Ra_9
  have Rb_10 := heap_of b10 _ _ _ Rb_9
  have Rx_10 := heap_of b10 _ _ _ Rx_9
  clear b10 B9 Ra_9 ca_9_0 ca_9_1 Rb_9 cb_9_0 cb_9_1 Rx_9 cx_9_0 cx_9_1
  obtain ⟨ca_10_0, ca_10_1⟩ := cells2s Ra_10
  obtain ⟨cb_10_0, cb_10_1⟩ := cells2s Rb_10
  obtain ⟨cx_10_0, cx_10_1⟩ := cells2s Rx_10
  have S11 := box B10.size
  have La_11 : Box (w.heap.size < w10.heap.size) := box (Array.getElem?_eq_some_iff.1 Ra_10).1
  have Lb_11 : Box (w.heap.size + 1 < w10.heap.size) := box (Array.getElem?_eq_some_iff.1 Rb_10).1
  have Lx_11 : Box (w8.heap.size < w10.heap.size) := box (Array.getElem?_eq_some_iff.1 Rx_10).1
  have Ry_11 := heap_alloc_last w10 (Obj.cells #[.int .u64 (x2 : Nat), .int .u64 (y2 : Nat)] 25)
  have B11 := btr B10 (bal w10 (Obj.cells #[.int .u64 (x2 : Nat), .int .u64 (y2 : Nat)] 25))
  have Ra_11 := heap_of (bal w10 (Obj.cells #[.int .u64 (x2 : Nat), .int .u64 (y2 : Nat)] 25)) _ _ _ Ra_10
  have Rb_11 := heap_of (bal w10 (Obj.cells #[.int .u64 (x2 : Nat), .int .u64 (y2 : Nat)] 25)) _ _ _ Rb_10
  have Rx_11 := heap_of (bal w10 (Obj.cells #[.int .u64 (x2 : Nat), .int .u64 (y2 : Nat)] 25)) _ _ _ Rx_10
  clear B10 Ra_10 ca_10_0 ca_10_1 Rb_10 cb_10_0 cb_10_1 Rx_10 cx_10_0 cx_10_1
  obtain ⟨ca_11_0, ca_11_1⟩ := cells2s Ra_11
  obtain ⟨cb_11_0, cb_11_1⟩ := cells2s Rb_11
  obtain ⟨cx_11_0, cx_11_1⟩ := cells2s Rx_11
  obtain ⟨cy_11_0, cy_11_1⟩ := cells2s Ry_11
  go_wp2_with fail
  refine (KA.out _ (fatB FF.out B11)).mono ?_
  rintro r w12 ⟨rfl, b12⟩
  have B12 : Below w.heap.size w w12 := btr B11 b12
  have Ra_12 := heap_of b12 _ _ _ Ra_11
  have Rb_12 := heap_of b12 _ _ _ Rb_11
  have Rx_12 := heap_of b12 _ _ _ Rx_11
  have Ry_12 := heap_of b12 _ _ _ Ry_11
  clear b12 B11 Ra_11 ca_11_0 ca_11_1 Rb_11 cb_11_0 cb_11_1 Rx_11 cx_11_0 cx_11_1 Ry_11 cy_11_0 cy_11_1
  obtain ⟨ca_12_0, ca_12_1⟩ := cells2s Ra_12
  obtain ⟨cb_12_0, cb_12_1⟩ := cells2s Rb_12
  obtain ⟨cx_12_0, cx_12_1⟩ := cells2s Rx_12
  obtain ⟨cy_12_0, cy_12_1⟩ := cells2s Ry_12
  go_wp2
  go_ret
  exact ⟨rfl, B12⟩
set_option maxRecDepth 100000 in
set_option maxHeartbeats 8000000 in
theorem oo_eqb (f : Int) (x1 y1 x2 y2 : Nat) (f1 f2 f3 f4 f5 : Int) (f6 f7 : Int) (c d : Nat) (hc : decide (8 ≤ (c : Int)) = false) (hd : decide (8 ≤ (d : Int)) = false) (he : ebb (x2 : Nat) (y2 : Nat) (x1 : Nat) (y1 : Nat) = false) (w : World)
    (K1 : Box (∀ w, FAt w → Calls Tryd.prog 10 #[.int .u8 f, .agg #[.int .u64 (x1 : Nat), .int .u64 (y1 : Nat)], .agg #[.int .u64 (x2 : Nat), .int .u64 (y2 : Nat)]] w fun r w' => r = .returned (.tuple #[.bool false, .int .u8 f1, .int .i64 0]) ∧ Below w.heap.size w w'))
    (K2 : Box (∀ w, FAt w → Calls Tryd.prog 10 #[.int .u8 f, .agg #[.int .u64 (x2 : Nat), .int .u64 (y2 : Nat)], .agg #[.int .u64 (x1 : Nat), .int .u64 (y1 : Nat)]] w fun r w' => r = .returned (.tuple #[.bool false, .int .u8 f2, .int .i64 0]) ∧ Below w.heap.size w w'))
    (K3 : Box (∀ w, FAt w → Calls Tryd.prog 9 #[.int .u8 f, .agg #[.int .u64 (x1 : Nat), .int .u64 (y1 : Nat)], .agg #[.int .u64 (x2 : Nat), .int .u64 (y2 : Nat)]] w fun r w' => r = .returned (.tuple #[.bool true, .int .u8 f3, .int .i64 0]) ∧ Below w.heap.size w w'))
    (K4 : Box (∀ w, FAt w → Calls Tryd.prog 9 #[.int .u8 f, .agg #[.int .u64 (x2 : Nat), .int .u64 (y2 : Nat)], .agg #[.int .u64 (x1 : Nat), .int .u64 (y1 : Nat)]] w fun r w' => r = .returned (.tuple #[.bool true, .int .u8 f4, .int .i64 0]) ∧ Below w.heap.size w w'))
    (K5 : Box (∀ w, FAt w → Calls Tryd.prog 11 #[.int .u8 f, .agg #[.int .u64 (x1 : Nat), .int .u64 (y1 : Nat)], .agg #[.int .u64 (x2 : Nat), .int .u64 (y2 : Nat)]] w fun r w' => r = .returned (.tuple #[.bool true, .int .u8 f5, .int .i64 0]) ∧ Below w.heap.size w w'))
    (KC1 : Box (∀ w, FAt w → Calls Tryd.prog 24 #[.int .u8 f, .agg #[.int .u64 (x1 : Nat), .int .u64 (y1 : Nat)]] w fun r w' => r = .returned (.tuple #[.int .u8 (c : Nat), .int .i64 0]) ∧ Below w.heap.size w w'))
    (KC2 : Box (∀ w, FAt w → Calls Tryd.prog 24 #[.int .u8 f, .agg #[.int .u64 (x2 : Nat), .int .u64 (y2 : Nat)]] w fun r w' => r = .returned (.tuple #[.int .u8 (d : Nat), .int .i64 0]) ∧ Below w.heap.size w w'))
    (K6 : Box (∀ w, FAt w → Calls Tryd.prog 17 #[.int .u8 f, .agg #[.int .u64 (x1 : Nat), .int .u64 (y1 : Nat)], .agg #[.int .u64 (x2 : Nat), .int .u64 (y2 : Nat)]] w fun r w' => r = .returned (.tuple #[.agg #[.int .u64 (x2 : Nat), .int .u64 (y2 : Nat)], .int .u8 f6, .int .i64 0]) ∧ Below w.heap.size w w'))
    (K7 : Box (∀ w, FAt w → Calls Tryd.prog 18 #[.int .u8 f, .agg #[.int .u64 (x1 : Nat), .int .u64 (y1 : Nat)], .agg #[.int .u64 (x2 : Nat), .int .u64 (y2 : Nat)]] w fun r w' => r = .returned (.tuple #[.agg #[.int .u64 (x1 : Nat), .int .u64 (y1 : Nat)], .int .u8 f7, .int .i64 0]) ∧ Below w.heap.size w w'))
    (KA : Box (∀ w, FAt w → Calls Tryd.prog 13 #[] w fun r w' => r = .returned (.bool true) ∧ Below w.heap.size w w'))
    (hT : FAt w) : Calls Tryd.prog 7 #[.int .u8 f, .agg #[.int .u64 (x1 : Nat), .int .u64 (y1 : Nat)], .agg #[.int .u64 (x2 : Nat), .int .u64 (y2 : Nat)]] w fun r w' => r = .returned (.bool true) ∧ Below w.heap.size w w' := by
  have FF := box hT
  clear hT
  obtain ⟨Ra_0, Rb_0, B0⟩ := opn2 w (Obj.cells #[.int .u64 (x1 : Nat), .int .u64 (y1 : Nat)] 25) (Obj.cells #[.int .u64 (x2 : Nat), .int .u64 (y2 : Nat)] 25)
  go_enter Tryd.func7, Tryd.ntmps7
  obtain ⟨ca_0_0, ca_0_1⟩ := cells2s Ra_0
  obtain ⟨cb_0_0, cb_0_1⟩ := cells2s Rb_0
  have hE := eqb
  have e1 := ebb_self (x1 : Nat) (y1 : Nat)
  have e2 := ebb_self (x2 : Nat) (y2 : Nat)
  go_wp2_with fail
  refine (K1.out _ (fatB FF.out B0)).mono ?_
  rintro r w1 ⟨rfl, b1⟩
  have B1 : Below w.heap.size w w1 := btr B0 b1
  have Ra_1 := heap_of b1 _ _ _ Ra_0
  have Rb_1 := heap_of b1 _ _ _ Rb_0
  clear b1 B0 Ra_0 ca_0_0 ca_0_1 Rb_0 cb_0_0 cb_0_1
  obtain ⟨ca_1_0, ca_1_1⟩ := cells2s Ra_1
  obtain ⟨cb_1_0, cb_1_1⟩ := cells2s Rb_1
  go_wp2_with fail
  refine (K2.out _ (fatB FF.out B1)).mono ?_
  rintro r w2 ⟨rfl, b2⟩
  have B2 : Below w.heap.size w w2 := btr B1 b2
  have Ra_2 := heap_of b2 _ _ _ Ra_1
  have Rb_2 := heap_of b2 _ _ _ Rb_1
  clear b2 B1 Ra_1 ca_1_0 ca_1_1 Rb_1 cb_1_0 cb_1_1
  obtain ⟨ca_2_0, ca_2_1⟩ := cells2s Ra_2
  obtain ⟨cb_2_0, cb_2_1⟩ := cells2s Rb_2
  go_wp2_with fail
  refine (K3.out _ (fatB FF.out B2)).mono ?_
  rintro r w3 ⟨rfl, b3⟩
  have B3 : Below w.heap.size w w3 := btr B2 b3
  have Ra_3 := heap_of b3 _ _ _ Ra_2
  have Rb_3 := heap_of b3 _ _ _ Rb_2
  clear b3 B2 Ra_2 ca_2_0 ca_2_1 Rb_2 cb_2_0 cb_2_1
  obtain ⟨ca_3_0, ca_3_1⟩ := cells2s Ra_3
  obtain ⟨cb_3_0, cb_3_1⟩ := cells2s Rb_3
  go_wp2_with fail
  refine (K4.out _ (fatB FF.out B3)).mono ?_
  rintro r w4 ⟨rfl, b4⟩
  have B4 : Below w.heap.size w w4 := btr B3 b4
  have Ra_4 := heap_of b4 _ _ _ Ra_3
  have Rb_4 := heap_of b4 _ _ _ Rb_3
  clear b4 B3 Ra_3 ca_3_0 ca_3_1 Rb_3 cb_3_0 cb_3_1
  obtain ⟨ca_4_0, ca_4_1⟩ := cells2s Ra_4
  obtain ⟨cb_4_0, cb_4_1⟩ := cells2s Rb_4
  go_wp2_with fail
  refine (K5.out _ (fatB FF.out B4)).mono ?_
  rintro r w5 ⟨rfl, b5⟩
  have B5 : Below w.heap.size w w5 := btr B4 b5
  have Ra_5 := heap_of b5 _ _ _ Ra_4
  have Rb_5 := heap_of b5 _ _ _ Rb_4
  clear b5 B4 Ra_4 ca_4_0 ca_4_1 Rb_4 cb_4_0 cb_4_1
  obtain ⟨ca_5_0, ca_5_1⟩ := cells2s Ra_5
  obtain ⟨cb_5_0, cb_5_1⟩ := cells2s Rb_5
  go_wp2_with fail
  refine (KC1.out _ (fatB FF.out B5)).mono ?_
  rintro r w6 ⟨rfl, b6⟩
  have B6 : Below w.heap.size w w6 := btr B5 b6
  have Ra_6 := heap_of b6 _ _ _ Ra_5
  have Rb_6 := heap_of b6 _ _ _ Rb_5
  clear b6 B5 Ra_5 ca_5_0 ca_5_1 Rb_5 cb_5_0 cb_5_1
  obtain ⟨ca_6_0, ca_6_1⟩ := cells2s Ra_6
  obtain ⟨cb_6_0, cb_6_1⟩ := cells2s Rb_6
  go_wp2_with fail
  refine (KC2.out _ (fatB FF.out B6)).mono ?_
  rintro r w7 ⟨rfl, b7⟩
  have B7 : Below w.heap.size w w7 := btr B6 b7
  have Ra_7 := heap_of b7 _ _ _ Ra_6
  have Rb_7 := heap_of b7 _ _ _ Rb_6
  clear b7 B6 Ra_6 ca_6_0 ca_6_1 Rb_6 cb_6_0 cb_6_1
  obtain ⟨ca_7_0, ca_7_1⟩ := cells2s Ra_7
  obtain ⟨cb_7_0, cb_7_1⟩ := cells2s Rb_7
  go_wp2_with fail
  refine (K6.out _ (fatB FF.out B7)).mono ?_
  rintro r w8 ⟨rfl, b8⟩
  have B8 : Below w.heap.size w w8 := btr B7 b8
  have Ra_8 := heap_of b8 _ _ _ Ra_7
  have Rb_8 := heap_of b8 _ _ _ Rb_7
  clear b8 B7 Ra_7 ca_7_0 ca_7_1 Rb_7 cb_7_0 cb_7_1
  obtain ⟨ca_8_0, ca_8_1⟩ := cells2s Ra_8
  obtain ⟨cb_8_0, cb_8_1⟩ := cells2s Rb_8
  have S9 := box B8.size
  have La_9 : Box (w.heap.size < w8.heap.size) := box (Array.getElem?_eq_some_iff.1 Ra_8).1
  have Lb_9 : Box (w.heap.size + 1 < w8.heap.size) := box (Array.getElem?_eq_some_iff.1 Rb_8).1
  have Rx_9 := heap_alloc_last w8 (Obj.cells #[.int .u64 (x2 : Nat), .int .u64 (y2 : Nat)] 25)
  have B9 := btr B8 (bal w8 (Obj.cells #[.int .u64 (x2 : Nat), .int .u64 (y2 : Nat)] 25))
  have Ra_9 := heap_of (bal w8 (Obj.cells #[.int .u64 (x2 : Nat), .int .u64 (y2 : Nat)] 25)) _ _ _ Ra_8
  have Rb_9 := heap_of (bal w8 (Obj.cells #[.int .u64 (x2 : Nat), .int .u64 (y2 : Nat)] 25)) _ _ _ Rb_8
  clear B8 Ra_8 ca_8_0 ca_8_1 Rb_8 cb_8_0 cb_8_1
  obtain ⟨ca_9_0, ca_9_1⟩ := cells2s Ra_9
  obtain ⟨cb_9_0, cb_9_1⟩ := cells2s Rb_9
  obtain ⟨cx_9_0, cx_9_1⟩ := cells2s Rx_9
  go_wp2_with fail
  refine (K7.out _ (fatB FF.out B9)).mono ?_
  rintro r w10 ⟨rfl, b10⟩
  have B10 : Below w.heap.size w w10 := btr B9 b10
  have Ra_10 := heap_of b10 _ _ _ Ra_9
  have Rb_10 := heap_of b10 _ _ _ Rb_9
  have Rx_10 := heap_of b10 _ _ _ Rx_9
  clear b10 B9 Ra_9 ca_9_0 ca_9_1 Rb_9 cb_9_0 cb_9_1 Rx_9 cx_9_0 cx_9_1
  obtain ⟨ca_10_0, ca_10_1⟩ := cells2s Ra_10
  obtain ⟨cb_10_0, cb_10_1⟩ := cells2s Rb_10
  obtain ⟨cx_10_0, cx_10_1⟩ := cells2s Rx_10
  have S11 := box B10.size
  have La_11 : Box (w.heap.size < w10.heap.size) := box (Array.getElem?_eq_some_iff.1 Ra_10).1
  have Lb_11 : Box (w.heap.size + 1 < w10.heap.size) := box (Array.getElem?_eq_some_iff.1 Rb_10).1
  have Lx_11 : Box (w8.heap.size < w10.heap.size) := box (Array.getElem?_eq_some_iff.1 Rx_10).1
  have Ry_11 := heap_alloc_last w10 (Obj.cells #[.int .u64 (x1 : Nat), .int .u64 (y1 : Nat)] 25)
  have B11 := btr B10 (bal w10 (Obj.cells #[.int .u64 (x1 : Nat), .int .u64 (y1 : Nat)] 25))
  have Ra_11 := heap_of (bal w10 (Obj.cells #[.int .u64 (x1 : Nat), .int .u64 (y1 : Nat)] 25)) _ _ _ Ra_10
  have Rb_11 := heap_of (bal w10 (Obj.cells #[.int .u64 (x1 : Nat), .int .u64 (y1 : Nat)] 25)) _ _ _ Rb_10
  have Rx_11 := heap_of (bal w10 (Obj.cells #[.int .u64 (x1 : Nat), .int .u64 (y1 : Nat)] 25)) _ _ _ Rx_10
  clear B10 Ra_10 ca_10_0 ca_10_1 Rb_10 cb_10_0 cb_10_1 Rx_10 cx_10_0 cx_10_1
  obtain ⟨ca_11_0, ca_11_1⟩ := cells2s Ra_11
  obtain ⟨cb_11_0, cb_11_1⟩ := cells2s Rb_11
  obtain ⟨cx_11_0, cx_11_1⟩ := cells2s Rx_11
  obtain ⟨cy_11_0, cy_11_1⟩ := cells2s Ry_11
  go_wp2_with fail
  refine (KA.out _ (fatB FF.out B11)).mono ?_
  rintro r w12 ⟨rfl, b12⟩
  have B12 : Below w.heap.size w w12 := btr B11 b12
  have Ra_12 := heap_of b12 _ _ _ Ra_11
  have Rb_12 := heap_of b12 _ _ _ Rb_11
  have Rx_12 := heap_of b12 _ _ _ Rx_11
  have Ry_12 := heap_of b12 _ _ _ Ry_11
  clear b12 B11 Ra_11 ca_11_0 ca_11_1 Rb_11 cb_11_0 cb_11_1 Rx_11 cx_11_0 cx_11_1 Ry_11 cy_11_0 cy_11_1
  obtain ⟨ca_12_0, ca_12_1⟩ := cells2s Ra_12
  obtain ⟨cb_12_0, cb_12_1⟩ := cells2s Rb_12
  obtain ⟨cx_12_0, cx_12_1⟩ := cells2s Rx_12
  obtain ⟨cy_12_0, cy_12_1⟩ := cells2s Ry_12
  go_wp2
  go_ret
  exact ⟨rfl, B12⟩
end Go.Proofs.YtmndjhcmomejjaaDoor
