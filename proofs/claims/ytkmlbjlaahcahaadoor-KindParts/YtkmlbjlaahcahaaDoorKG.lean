/-
  Package kind: parts compared; Pack.
-/
import Derived.Test.YtkmlbjlaahcahaaDoorKF
namespace Go.Proofs.YtkmlbjlaahcahaaDoor
open Go.RowKit WMath
set_option linter.unusedSimpArgs false
set_option linter.unusedVariables false

theorem eq6d (d x y : Nat) (hx : x < Q) (hy : y < Q) (w : World) : (Op.equalIn (d + 2) 28 (.agg (cw 6 x)) (.agg (cw 6 y))).run Tryd.prog w = .ok (decide (x = y)) w := by
  obtain ⟨i, hi⟩ : ∃ i, Tryd.prog.info? 23 = some i := by
    have : (Tryd.prog.info? 23).isSome = true := by kernel_rfl
    exact Option.isSome_iff_exists.1 this
  have hc : Tryd.prog.cellsOf 23 = 1 := by kernel_rfl
  rw [run_equalIn_array w (d + 1) (cw 6 x) (cw 6 y) Tryd.underlying28 hi, hc, eqItems6 d x y w (List.range 6) (fun i h => by simpa using h)]
  congr 1
  rw [Bool.eq_iff_iff, List.all_eq_true, decide_eq_true_iff]
  constructor
  · intro h
    obtain ⟨L, hL, hQ⟩ := Q_of
    rw [hQ] at hx hy
    exact wd_ext hx hy (fun k hk => by simpa using h k (by rw [hL] at hk; simpa using hk))
  · rintro rfl i _
    simp
set_option maxRecDepth 100000 in
theorem eqpd (d c s : Nat) (x : Int) (rr c' s' : Nat) (x' : Int) (rr' : Nat) (hs : s < Q) (hs' : s' < Q) (hr : rr < Q) (hr' : rr' < Q) (w : World) :
    (Op.equalIn (d + 3) 30 (.agg (pt c s x rr)) (.agg (pt c' s' x' rr'))).run Tryd.prog w = .ok (decide (c = c') && (decide (s = s') && (decide (x = x') && decide (rr = rr')))) w := by
  have e1 := eq6d d s s' hs hs' w
  have e2 := eq6d d rr rr' hr hr' w
  have q1 : ∀ (c s : Nat) (x : Int) (r : Nat), (part 28 (pt c s x r) 1).run Tryd.prog w = .ok (.agg (cw 6 s)) w := fun c s x r => by kernel_rfl
  have q2 : ∀ (c s : Nat) (x : Int) (r : Nat), (part 28 (pt c s x r) 8).run Tryd.prog w = .ok (.agg (cw 6 r)) w := fun c s x r => by kernel_rfl
  have q3 : ∀ (c s : Nat) (x : Int) (r : Nat), (part 26 (pt c s x r) 0).run Tryd.prog w = .ok (.int .u8 (c : Nat)) w := fun c s x r => by kernel_rfl
  have q4 : ∀ (c s : Nat) (x : Int) (r : Nat), (part 3 (pt c s x r) 7).run Tryd.prog w = .ok (.int .i64 x) w := fun c s x r => by kernel_rfl
  have i1 : (Op.equalIn (d + 2) 26 (.int .u8 (c : Int)) (.int .u8 (c' : Int))).run Tryd.prog w = .ok ((c : Int) == (c' : Int)) w := run_equalIn_int w (d + 1) 26 .u8 .u8 (c : Int) (c' : Int) Tryd.underlying26
  have i2 : (Op.equalIn (d + 2) 3 (.int .i64 x) (.int .i64 x')).run Tryd.prog w = .ok (x == x') w := run_equalIn_int w (d + 1) 3 .i64 .i64 x x' Tryd.underlying3
  have n1 : ("Class" = "_") = False := by simp
  have n2 : ("Sig" = "_") = False := by simp
  have n3 : ("Exp" = "_") = False := by simp
  have n4 : ("Fraction" = "_") = False := by simp
  have st : Tryd.prog.stoodInHeld 30 = false := by kernel_rfl
  have c1 : ((c : Int) == (c' : Int)) = decide (c = c') := by rw [Bool.eq_iff_iff]; simp only [beq_iff_eq, decide_eq_true_eq]; omega
  have c2 : (x == x') = decide (x = x') := by rw [Bool.eq_iff_iff]; simp only [beq_iff_eq, decide_eq_true_eq]
  rw [c1] at i1
  rw [c2] at i2
  unfold Op.equalIn
  simp only [Sem.run_bind, run_underlying Tryd.underlying30, Result.andThen_ok]
  rw [show (Sem.run Tryd.prog program w) = .ok Tryd.prog w from rfl]
  simp only [Result.andThen_ok, st, Bool.false_eq_true, if_false]
  have fo : ∀ (l : List Field) (b : Field → (Option Bool × Unit) → Sem (ForInStep (Option Bool × Unit))), (forIn l.toArray (none, ()) b : Sem (Option Bool × Unit)) = forIn l (none, ()) b := fun l b => by simp
  simp only [fo, List.forIn_cons, List.forIn_nil, ne_eq, n1, n2, n3, n4, not_false_eq_true, if_true]
  obtain ⟨b1, h1⟩ : ∃ b, decide (c = c') = b := ⟨_, rfl⟩
  obtain ⟨b2, h2⟩ : ∃ b, decide (s = s') = b := ⟨_, rfl⟩
  obtain ⟨b3, h3⟩ : ∃ b, decide (x = x') = b := ⟨_, rfl⟩
  obtain ⟨b4, h4⟩ : ∃ b, decide (rr = rr') = b := ⟨_, rfl⟩
  rw [h1] at i1
  rw [h2] at e1
  rw [h3] at i2
  rw [h4] at e2
  rw [h1, h2, h3, h4]
  cases b1
  · simp only [Sem.run_bind, Sem.run_pure, Result.andThen_ok, q3, i1, Bool.not_false, if_true, Bool.false_and]
  cases b2
  · simp only [Sem.run_bind, Sem.run_pure, Result.andThen_ok, q3, i1, q1, e1, Bool.not_false, Bool.not_true, Bool.false_eq_true, if_false, if_true, Bool.false_and, Bool.true_and]
  cases b3
  · simp only [Sem.run_bind, Sem.run_pure, Result.andThen_ok, q3, i1, q1, e1, q4, i2, Bool.not_false, Bool.not_true, Bool.false_eq_true, if_false, if_true, Bool.false_and, Bool.true_and]
  cases b4
  · simp only [Sem.run_bind, Sem.run_pure, Result.andThen_ok, q3, i1, q1, e1, q4, i2, q2, e2, Bool.not_false, Bool.not_true, Bool.false_eq_true, if_false, if_true, Bool.false_and, Bool.true_and]
  · simp only [Sem.run_bind, Sem.run_pure, Result.andThen_ok, q3, i1, q1, e1, q4, i2, q2, e2, Bool.not_false, Bool.not_true, Bool.false_eq_true, if_false, if_true, Bool.false_and, Bool.true_and]
theorem eqp (c s : Nat) (x : Int) (rr c' s' : Nat) (x' : Int) (rr' : Nat) (hs : s < Q) (hs' : s' < Q) (hr : rr < Q) (hr' : rr' < Q) (w : World) :
    (Op.equalIn 10000 30 (.agg (pt c s x rr)) (.agg (pt c' s' x' rr'))).run Tryd.prog w = .ok (decide (c = c') && (decide (s = s') && (decide (x = x') && decide (rr = rr')))) w := eqpd 9997 c s x rr c' s' x' rr' hs hs' hr hr' w
theorem eqgp : Tryd.prog.eqGuardType Tryd.prog.depth 30 = false := by kernel_rfl
end Go.Proofs.YtkmlbjlaahcahaaDoor
